import PyProof.Rows.All
import Wide.All
import OpenK.AllK
import Wide.FinOn
import Lean
import PyProof.EqAt
import PyProof.EqKinds
import PyProof.TupleCall
import PyProof.Rows.StrJoin2
import PyProof.TupleOfGen
import PyProof.ListRange
import PyProof.Draws
import PyProof.Rows.StrClose3
import KE.KSortedM
import PyProof.Rows.SortWalk
import PyProof.WalkInts
import PyProof.Rows.Range3
import PyProof.ZipIter
import PyProof.ConsumeWalk
import PyProof.Rows.SeqMore
import KE.KRevIter
import KE.KRevSl
import KE.KUnpack
import KE.KDictSum
import KE.KTupSum
import KE.KSortTup
import KE.KDictOf
import OpenK.KRaise
import KE.KTryMore
import PyProof.ExcArgs
import PyProof.ExcBaseAll.ValueError
import PyProof.NsDelKeeps
import PyProof.AttrMissSeq
import PyProof.FString4
import PyProof.StrLawsRepr
import PyProof.Rows.StrSplitAre
import PyProof.Rows.StrNews2
import PyProof.StrLawsChain
import PyProof.StrLawsTight
import PyProof.Rows.StrJoinRep
import PyProof.Rows.StrMul
import PyProof.StrReplace2
import PyProof.StrLawsReplace
import PyProof.StrLawsNeg
import PySem.Challenge.RW_bearfaults_k03_rows_of_no_form
noncomputable section
abbrev QcR:=PySem.Shared
abbrev QcQ:=PySem.W.Frag
abbrev QcN{α:Sort _}{a:α}{b:Prop}:a=a\/b:=Or.inl rfl
abbrev Qaa:=@List.length_map
abbrev Qab:=@List.mem_cons_of_mem
abbrev Qac:=@decide_eq_true
abbrev Qad:=@List.getElem?_map
abbrev Qae:=@of_decide_eq_true
abbrev Qaf:=@decide_eq_false
abbrev Qag:=@List.getElem?_eq_getElem
abbrev Qah:=@List.getElem?_eq_some_iff
abbrev Qai:=@List.mem_cons_self
abbrev Qaj:=@if_neg
abbrev Qak:=@Nat.le_refl
abbrev Qal:=@List.getElem?_append_right
abbrev Qam:=@List.getElem?_set_self
abbrev Qan:=@List.mem_of_getElem?
abbrev Qao:=@List.getElem?_set_ne
abbrev Qap:=@if_pos
abbrev Qaq:=@List.mem_append
abbrev Qar:=@List.length_append
abbrev Qas:=@Nat.lt_of_lt_of_le
abbrev Qat:=@List.getElem?_append_left
abbrev Qau:=@PySem.Heap.get?_push_of_some
abbrev Qav:=@PySem.sizeLine_eq
abbrev Qaw:=@PySem.wpAny_bind
abbrev Qax:=@PySem.Str.length_append
abbrev Qay:=@List.map_cons
abbrev Qaz:=@List.getD_eq_getElem?_getD
abbrev QaA:=@PySem.Heap.lt_size
abbrev QaB:=@List.lookup_cons
abbrev QaC:=@List.mem_singleton
abbrev QaD:=@List.size_toArray
abbrev QaE:=@List.append_assoc
abbrev QaF:=@List.mem_cons
abbrev QaG:=@Bool.false_ne_true
abbrev QaH:=@List.contains_iff_mem
abbrev QaI:=@List.length_cons
abbrev QaJ:=@List.all_eq_true
abbrev QaK:=@Nat.le_trans
abbrev QaL:=@Bool.and_eq_true
abbrev QaM:=@List.length_set
abbrev QaN:=@List.map_append
abbrev QaO:=@List.length_take
abbrev QaP:=@List.take_of_length_le
abbrev QaQ:=@beq_eq_false_iff_ne
abbrev QaR:=@Nat.ne_of_lt
abbrev QaS:=@List.getElem?_replicate
abbrev QaT:=@List.mem_map
abbrev QaU:=@List.mem_append_right
abbrev QaV:=@List.length_replicate
abbrev QaW:=@Option.some.inj
abbrev QaX:=@PySem.wpAny_pure
abbrev QaY:=@PySem.Heap.get?_push_size
abbrev QaZ:=@PySem.W.mg_of
abbrev Qa0:=@PySem.boot_len
abbrev Qa1:=@List.take_add_one
abbrev Qa2:=@List.getElem?_take
abbrev Qa3:=@beq_iff_eq
abbrev Qa4:=@Array.length_toList
abbrev Qa5:=@List.map_map
abbrev Qa6:=@decide_eq_true_eq
abbrev Qa7:=@List.mem_append_left
abbrev Qa8:=@Bool.and_eq_true_iff
abbrev Qa9:=@Nat.zero_le
abbrev Qba:=@List.take_length
abbrev Qbb:=@List.length_range
abbrev Qbc:=@List.cons.inj
abbrev Qbd:=@List.length_drop
abbrev Qbe:=@List.cons_append
abbrev Qbf:=@List.getElem?_of_mem
abbrev Qbg:=@Option.map_eq_some_iff
abbrev Qbh:=@PySem.mem_of_lookup
abbrev Qbi:=@List.mem_filter
abbrev Qbj:=@List.append_nil
abbrev Qbk:=@Option.isSome_iff_exists
abbrev Qbl:=@Bool.false_eq_true
abbrev Qbm:=@List.mem_range
abbrev Qbn:=@Bool.or_eq_false_iff
abbrev Qbo:=@List.mem_of_mem_take
abbrev Qbp:=@Bool.eq_iff_iff
abbrev Qbq:=@List.find?_cons
abbrev Qbr:=@Nat.lt_irrefl
abbrev Qbs:=@congrArg
abbrev Qbt:=@PySem.Calls.spliced_cons
abbrev Qbu:=@List.drop_eq_getElem_cons
abbrev Qbv:=@List.getElem?_zip_eq_some
abbrev Qbw:=@List.getElem?_take_of_lt
abbrev Qbx:=@PySem.wpAny_truthy_bool
abbrev Qby:=@List.any_cons
abbrev Qbz:=@Ne.symm
abbrev QbA:=@Nat.sub_self
abbrev QbB:=@List.nodup_cons
abbrev QbC:=@List.nil_append
abbrev QbD:=@List.nodup_iff_pairwise_ne
abbrev QbE:=@List.nodup_append
abbrev QbF:=@List.mem_of_mem_drop
abbrev QbG:=@Nat.mod_lt
abbrev QbH:=@PySem.Heap.size_push
abbrev QbI:=@List.map_nil
abbrev QbJ:=@PySem.F.slot_list_append
abbrev QbK:=@PySem.F.type_list_append
abbrev QbL:=@List.getElem_mem
abbrev QbM:=@PySem.F.plainAttrs_list
abbrev QbN:=@PySem.wpAny_getItem_str_slice
abbrev QbO:=@List.map_drop
abbrev QbP:=@PySem.wpAny_mono
abbrev QbQ:=@PySem.tupleKind_room_in1
abbrev QbR:=@Nat.min_eq_left
abbrev QbS:=@List.take_append_of_le_length
abbrev QbT:=@Option.isSome_map
abbrev QbU:=@if_true
abbrev QbV:=@List.getElem?_eq_none
abbrev QbW:=@PyProof.Rows.callWith_type1
abbrev QbX:=@PySem.W.looks_findIn
abbrev QbY:=@PySem.Calls.evalArgs_plain
abbrev QbZ:=@PySem.typeIs_str
abbrev Qb0:=@if_false
abbrev Qb1:=@List.drop_length
abbrev Qb2:=@PySem.F.plainAttrs_str
abbrev Qb3:=@List.getElem?_zipIdx
abbrev Qb4:=@PySem.F.slot_str_split
abbrev Qb5:=@Bool.not_eq_true
abbrev Qb6:=@PySem.wpAny_holding
abbrev Qb7:=@List.sum_cons
abbrev Qb8:=@List.map_take
abbrev Qb9:=@List.filterMap_cons
abbrev Qca:=@List.mem_map_of_mem
abbrev Qcb:=@PySem.wpAny_passesOwn
abbrev Qcc:=@PySem.Calls.Constant_str
abbrev Qcd:=@List.mem_filterMap
abbrev Qce:=@PySem.wpAny_Call_Name_kw
abbrev Qcf:=@PySem.Txt.slice_le
abbrev Qcg:=@of_decide_eq_false
abbrev Qch:=@Nat.add_sub_cancel_left
abbrev Qci:=@PySem.Calls.spliced_nil
abbrev Qcj:=@Bool.not_eq_true'
abbrev Qck:=@PySem.Calls.callWith_builtin
abbrev Qcl:=@beq_self_eq_true
abbrev Qcm:=@PySem.F.slot_dict_get
abbrev Qcn:=@List.length_singleton
abbrev Qco:=@List.mem_iff_getElem?
abbrev Qcp:=@PyProof.Rows.boot_int
abbrev Qcq:=@PySem.wpAny_Name
abbrev Qcr:=@PySem.wpAny_execs_nil
abbrev Qcs:=@PySem.post_val_or_str
abbrev Qct:=@List.lookup_nil
abbrev Qcu:=@PySem.W.hideAll_get
abbrev Qcv:=@PySem.W.plainGet_of
abbrev Qcw:=@ne_true_of_eq_false
abbrev Qcx:=@Int.toNat_of_nonneg
abbrev Qcy:=@List.nodup_nil
abbrev Qcz:=@Bool.false_bne
abbrev QcA:=@List.getElem_range
abbrev QcB:=@List.contains_cons
abbrev QcC:=@PySem.F.args_str_split_2
abbrev QcD:=@Option.isSome_none
abbrev QcE:=@Int.emod_lt_of_pos
abbrev QcG:=@Int.fdiv_eq_ediv_of_nonneg
abbrev QcH:=@PySem.F.excAttr_ValueError
abbrev QcI:=@PySem.F.excBase_ValueError
abbrev QcJ:=@List.take_sublist
abbrev QcK:=@PySem.F.entry_str_split
abbrev QcL:=@PySem.F.slot_dict_getitem
set_option bootstrap.genMatcherCode false
section
open PySem
abbrev Aaa:=List$ Addr×Obj
abbrev Aab:=Value->QcR->Prop
abbrev Aac:=List$ Str×Nat
abbrev Aad:=List$ Str×List Nat
abbrev Aae:=List$ List Nat
abbrev Aaf:=Str->Option Value
abbrev Aag:=Nat->Addr
end
namespace PySem.W.Fast
def tw12520782420101287663:=0
def tw9286001250595028977:=0
def tw1474977581860420202:=0
def tw5794717343193011586:=0
def tw3059759893262262451:=0
def tw17734509596620275357:=0
def tw17022876747977532758:=0
def tw13606561973819744168:=0
def tw15304689823457277975:=0
def tw1808772426254747670:=0
def tw4298566101516712794:=0
def tw4347202348097804820:=0
def tw10255657548648840400:=0
def tw4808218354775977133:=0
def tw17933149104178864095:=0
def tw14330294305891771253:=0
def tw16662080410493729104:=0
def tw10603725930374912012:=0
def tw8943187412660069189:=0
def tw7061070786804799635:=0
def tw5137255278571632569:=0
def tw2950199330528977789:=0
def tw9811412377901258809:=0
def tw6896066500846552636:=0
def tw14015224096333022702:=0
def tw17894718920307585513:=0
def tw8907848102319906972:=0
def tw9488666549906300181:=0
def tw12328347988008282546:=0
def tw6659947381280273205:=0
def tw4722044583751325760:=0
def tw9446494266295798289:=0
def tw5960644588571241802:=0
def tw8222999878653394299:=0
def tw10770125765822354653:=0
def tw12205718345041637585:=0
def tw4599292784595470411:=0
def tw3699067185110242183:=0
def tw2567334661272125625:=0
def tw6749884715420251899:=0
def tw15597131309203099161:=0
def tw11617090902927357965:=0
def tw18334900331610807192:=0
def tw3438100802630734953:=0
def tw12797709136545309144:=0
def tw15731029038349485423:=0
def tw15891265799804511943:=0
def tw3788413790833673507:=0
def tw13385238124010703690:=0
def tw15910517701509882382:=0
def tw12063100157776347720:=0
def tw2833693434060078405:=0
def tw1004591522289187779:=0
def tw8078423351578872081:=0
def tw11486131972437575245:=0
def tw3592828470721403571:=0
def tw9888917935385501279:=0
def tw828965989690825492:=0
def tw16717508214637261210:=0
def tw8310411526016607908:=0
def tw17258461470111744943:=0
def tw12676623278655700151:=0
def tw2146828144465203983:=0
def tw5665284435854313518:=0
def tw14900827086567884296:=0
def tw17366047812169943232:=0
def tw1286760794091319103:=0
def tw2730282796813836762:=0
def tw2281802639109338157:=0
def tw5150274472062990964:=0
def tw17242050824406413453:=0
def tw5117896432560876565:=0
def tw18411281086062485199:=0
def tw2416906803724121803:=0
def tw17791152116529226162:=0
def tw5104395400399742554:=0
def tw12510255537036748424:=0
def tw15465856150529538267:=0
def tw13683231279157363822:=0
def tw15265044290982734722:=0
def tw6751992356205567480:=0
def tw18028038355910627963:=0
def tw14061444217972573236:=0
def tw14352868180436450292:=0
def tw14481983565380423796:=0
def tw16908798926686999496:=0
def tw13192897786778826612:=0
def tw13614652637274986877:=0
def tw4607013211171893168:=0
def tw4186946445548178463:=0
def tw850304022137941363:=0
def tw8311872482078086402:=0
def tw14505946723868086595:=0
def tw12046093489968210704:=0
def tw10112372607063850060:=0
def tw1285886065318341508:=0
def tw2499617442091962347:=0
def tw8262096158701526488:=0
def tw16496516164706465751:=0
def tw18186975973830473584:=0
end PySem.W.Fast
set_option Elab.async false
set_option linter.all false
set_option maxRecDepth 100000
set_option maxHeartbeats 4000000
section
namespace L2
open PySem PySem.Spec PyProof.Rows
abbrev Key:=Sum Int Str
def yh:Key->Value->Bool
 | .inl k,v=>Value.isInt k v
 | .inr x,v=>Value.isStrOf x v
def VS(w:World):Key->Int
 | .inl k=>hashInt k
 | .inr x=>hashStr w x
theorem df:∀{k:Key} {v:Value},yh k v=true->(∃i t,k=Sum.inl i/\v=Value.int i t)\/(∃x t,k=Sum.inr x/\v=Value.str x t)
 | .inl i,v,h=>by
   obtain⟨t,e⟩:=Value.isInt_shape (k:=i) (v:=v) h;exact .inl ⟨i,t,rfl,e⟩
 | .inr x,v,h=>by
   obtain⟨t,e⟩:=Value.isStrOf_shape (x:=x) (v:=v) h;exact .inr ⟨x,t,rfl,e⟩
def F5(i:Int)(t:Tok):yh (.inl i) (.int i t)=true:=by simp [yh,Value.isInt]
def FV(x:Str)(t:Tok):yh (.inr x) (.str x t)=true:=by simp [yh,Value.isStrOf]
def OZ(a b:Int):decide ((Sum.inl a:Key)=Sum.inl b)=(a==b):=by
 by_cases e:a=b
 .subst e;simp
 .have h:¬(Sum.inl a:Key)=Sum.inl b:=λq=>e (Sum.inl.inj q)
  rw[Qaf h];exact(QaQ.mpr e).symm
def N_(a b:Str):decide ((Sum.inr a:Key)=Sum.inr b)=decide (a=b):=by
 by_cases e:a=b
 .subst e;simp
 .have h:¬(Sum.inr a:Key)=Sum.inr b:=λq=>e (Sum.inr.inj q)
  rw[Qaf h,Qaf e]
def NV(a:Int)(b:Str):decide ((Sum.inl a:Key)=Sum.inr b)=false:=Qaf$ λq=>nomatch q
def OW(a:Str)(b:Int):decide ((Sum.inr a:Key)=Sum.inl b)=false:=Qaf$ λq=>nomatch q
def cU(prog:Program)(w:World):PySem.KeyKind prog w Key where
 is:=yh
 hash:=VS w
 inj:=λv a b ha hb=>by
  rcases df ha with⟨i,t,rfl,rfl⟩ | ⟨x,t,rfl,rfl⟩
  .rcases df hb with⟨j,u,rfl,e⟩ | ⟨y,u,rfl,e⟩
   .injection e with e1 _;rw [e1]
   .exact nomatch e
  .rcases df hb with⟨j,u,rfl,e⟩ | ⟨y,u,rfl,e⟩
   .exact nomatch e
   .injection e with e1 _;rw [e1]
 byValue:=λk v h=>by
  rcases df h with⟨i,t,rfl,rfl⟩ | ⟨x,t,rfl,rfl⟩ <;> rfl
 pyHash:=λhv h=>by
  rcases df hv with⟨i,t,rfl,rfl⟩ | ⟨x,t,rfl,rfl⟩
  .exact wpAny_pyHash_int h
  .exact wpAny_pyHash_str h
 eqBool:=λhu hv h=>by
  rcases df hu with⟨i,t,rfl,rfl⟩ | ⟨x,t,rfl,rfl⟩
  .rcases df hv with⟨j,u,rfl,rfl⟩ | ⟨y,u,rfl,rfl⟩
   .rw [OZ] at h;exact wpAny_eqBool_int h
   .rw [NV] at h;exact SeqAt.EqAt.int_str i t y u _ _ _ _ h
  .rcases df hv with⟨j,u,rfl,rfl⟩ | ⟨y,u,rfl,rfl⟩
   .rw [OW] at h;exact SeqAt.EqAt.str_int x t j u _ _ _ _ h
   .rw [N_] at h;exact wpAny_eqBool_str h
 «strs»:=λk x t v h=>by
  rcases df h with⟨i,u,rfl,e⟩ | ⟨y,u,rfl,e⟩
  .exact nomatch e
  .injection e with e1 _
   subst e1;cases v <;> rfl
def Bq(prog:Program)(w:World)(i:Int)(t:Tok):(cU prog w).is (.inl i) (.int i t)=true:=F5 i t
def pQ(prog:Program)(w:World)(x:Str)(t:Tok):(cU prog w).is (.inr x) (.str x t)=true:=FV x t
inductive V where
 | cM | bl (b:Bool) | int (i:Int) | str (x:Str) | byt (b:Array UInt8) | flt (b:UInt64) | ref (a:Addr) | ty (n:String)
 deriving DecidableEq
def RelV:V->Value->Prop
 | .cM,u=>u=Value.none
 | .bl b,u=>u=Value.bool b
 | .int i,u=>∃t,u=Value.int i t
 | .str x,u=>∃t,u=Value.str x t
 | .byt b,u=>∃t,u=Value.bytes b t
 | .flt b,u=>∃t,u=Value.float b t
 | .ref a,u=>u=Value.ref a
 | .ty n,u=>u=Value.type n
abbrev Vals:List V->List Value->Prop:=Paired RelV
def Vals.length{xs:List V}{us:List Value}(r:Vals xs us):xs.length=us.length:=Paired.length r
theorem Vals.get:∀{xs:List V} {us:List Value} {i:Nat} {x:V},Vals xs us->xs[i]? =some x->∃u,us[i]? =some u/\RelV x u
 | _,_,_,_, .nil,e=>by simp at e
 | _,_,0,_, .cons r _,e=>by simp at e;subst e;exact⟨_,rfl,r⟩
 | _,_,i+1,x, .cons _ t,e=>by
   obtain⟨u,h1,h2⟩:=Vals.get (i:=i) (x:=x) t (by simpa using e)
   exact⟨u,by simpa using h1,h2⟩
theorem Vals.set{x:V}{u:Value}(r:RelV x u):∀{xs:List V} {us:List Value} (i:Nat),Vals xs us->Vals (xs.set i x) (us.set i u)
 | _,_,_, .nil=> .nil
 | _,_,0, .cons _ t=> .cons r t
 | _,_,i+1, .cons q t=> .cons q$ Vals.set r i t
theorem Vals.append:∀{xs ys:List V} {us ws:List Value},Vals xs us->Vals ys ws->Vals (xs++ys) (us++ws)
 | _,_,_,_, .nil,s=>s
 | _,_,_,_, .cons r t,s=> .cons r$ Vals.append t s
theorem Vals.take:∀{xs:List V} {us:List Value} (n:Nat),Vals xs us->Vals (xs.take n) (us.take n)
 | _,_,0,_=> .nil
 | _,_,_+1, .nil=> .nil
 | _,_,n+1, .cons r t=> .cons r$ Vals.take n t
theorem Vals.drop:∀{xs:List V} {us:List Value} (n:Nat),Vals xs us->Vals (xs.drop n) (us.drop n)
 | _,_,0,r=>r
 | _,_,_+1, .nil=> .nil
 | _,_,n+1, .cons _ t=>Vals.drop n t
def nV:Option V->Option Value->Prop
 | some v,some u=>RelV v u
 | none,none=>True
 | _,_=>False
def KV{κ:Type}:List (κ × V)->List (κ × Value)->Prop:=Paired λ(p:κ × V) (q:κ × Value)=>p.1=q.1/\RelV p.2 q.2
def kV:Key->V
 | .inl i=> .int i
 | .inr x=> .str x
inductive HO where
 | lst (xs:List V)
 | tup (xs:List V)
 | dK (aD:List (Key × V)) | dT (aD:List (List Key × V))
 | set (S:Int->Bool) (n:Nat)
 | ins (C dx:Addr) (fs:List (Str × V))
 | own (x:Addr)
 | xd (fs:List (Str × V))
 | met (f x:Addr)
 | rng (lo hi:Int)
 | mq (o:Obj) (u:HO)
 | tbl (ps:Array Value)
 | ext (φ:Heap->Prop)
abbrev Hp:=Addr->Option HO
def upd(H:Hp)(a:Addr)(o:HO):Hp:=λb=>if b=a then some o else H b
def aZ{a:Addr}{o:HO}:upd H a o a=some o:=by unfold upd;rw [Qap rfl]
def bb{H:Hp}{a b:Addr}{o:HO}(h:b≠a):upd H a o b=H b:=by unfold upd;rw [Qaj h]
def LP{a:Addr}{o u:HO}:upd (upd H a o) a u=upd H a u:=by
 funext b;unfold upd;split <;> rfl
def Rz{H:Hp}{a b:Addr}{o u:HO}(h:H a=some o)(h':H b=some u)(d:o≠u):a≠b:=by
 intro e;subst e;rw [h] at h';exact d$ QaW h'
def bC{H:Hp}{a b:Addr}{o:HO}(h:H a=some o)(h':H b=none):a≠b:=by
 intro e;subst e;rw [h] at h';cases h'
section
variable (P:Program)(w:World)
def eu(H:Hp)(h:Heap)(a:Addr):HO->Prop
 | .lst xs=>xs.length<=sizeLine/\∃(its:List Value) (n:Nat),Vals xs its/\h.get? a=some {cls:= .type "list",data:= .seq its.toArray n}
 | .tup xs=>xs.length<=sizeLine/\∃its:List Value,Vals xs its/\IsTup h a its.toArray
 | .dK aD=>aD.length<=sizeLine/\(a==sysModules)=false/\∃vs,KV aD vs/\h.DictOf (cU P w) a vs
 | .dT aD=>aD.length<=sizeLine/\(a==sysModules)=false/\∃xs:List (List Key × Addr × Value),
    Paired (λ(p:List Key × V) (q:List Key × Addr × Value)=>p.1=q.1/\H q.2.1=some (.tup$ p.1.map kV)/\RelV p.2 q.2.2) aD xs/\
    ∃o es ep,h.get? a=some o/\o.ExactDict/\o.data= .dict es ep/\es.toList=xs.map (entryOfKey$ tupleKind$ cU P w)/\(xs.map (·.1)).Nodup
 | .set S n=>h.SetOf (intKind P w) a S n
 | .ins C dx fs=>H dx=some (.own a)/\fs.length<=1000/\dx≠a/\h.get? a=some (PySem.W.instObj C dx)/\
    ∃mA,h.Ns1 dx mA/\(∀f,nV (fs.lookup f)$ mA f)/\PySem.Within mA (fs.map (·.1))
 | .own _=>∃o,h.get? a=some o
 | .xd fs=>∃mA,h.Ns1 a mA/\∀f,nV (fs.lookup f)$ mA f
 | .rng lo hi=>∃t u v,h.get? a=some {cls:= .type "range",data:= .fields #[.int lo t, .int hi u, .int 1 v]}
 | .mq o u=>h.get? a=some o/\eu H h a u
 | .tbl ps=>h.get? a=some {cls:= .none,data:= .fields ps}
 | .met f x=>h.get? a=some (PySem.W.methodObj (.ref f)$ .ref x)
 | .ext φ=>φ h/\(∃o,h.get? a=some o)/\∀h1 h2:Heap,φ h1->(∀o,h1.get? a=some o->h2.get? a=some o)->φ h2
def oU(H:Hp)(h:Heap):Prop:=∀a o,H a=some o->eu P w H h a o
end
section
variable {P:Program}{w:World}{H H':Hp}{h h':Heap}{a:Addr}{o:HO}
def eu.lt(x:eu P w H h a o):a<h.objs.size:=by
 cases o with
 | lst xs=>obtain⟨_,_,_,_,e⟩:=x;exact QaA e
 | tup xs=>obtain⟨_,_,_,p⟩:=x;exact p.lt
 | dK aD=>obtain⟨_,_,_,_,o,_,_,e,_⟩:=x;exact QaA e
 | dT aD=>obtain⟨_,_,_,_,o,_,_,e,_⟩:=x;exact QaA e
 | set S n=>obtain⟨o,_,_,_,e,_⟩:=x;exact QaA e
 | ins C dx fs=>obtain⟨_,_,_,e,_⟩:=x;exact QaA e
 | own y=>obtain⟨_,e⟩:=x;exact QaA e
 | xd fs=>obtain⟨_,⟨_,_,_,e,_⟩,_⟩:=x;exact QaA e
 | rng lo hi=>obtain⟨_,_,_,e⟩:=x;exact QaA e
 | mq ob u=>obtain⟨e,_⟩:=x;exact QaA e
 | tbl ps=>exact QaA$ show h.get? a=some _ from x
 | met f y=>exact QaA$ show h.get? a=some _ from x
 | ext φ=>obtain⟨_,⟨_,e⟩,_⟩:=x;exact QaA e
theorem Paired.OA{α β:Type}{F G:α->β->Prop}:∀{Ut:List α} {UE:List β},Paired F Ut UE->(∀a b,F a b->G a b)->Paired G Ut UE
 | _,_, .nil,_=> .nil
 | _,_, .cons r t,f=> .cons (f _ _ r)$ Paired.OA t f
def eu.yZ(x:eu P w H h a o)(k:∀b u,(b=a\/H b=some (.own a))->h.get? b=some u->h'.get? b=some u)
 (ho:∀b,H b=some (.own a)->H' b=some (.own a)) (ht:∀b xs,H b=some (.tup xs)->H' b=some (.tup xs)):eu P w H' h' a o:=by
 induction o with
 | lst xs=>obtain⟨z,its,n,r,e⟩:=x;exact⟨z,its,n,r,k _ _ (.inl rfl) e⟩
 | tup xs=>obtain⟨z,its,r,ob,e,c⟩:=x;exact⟨z,its,r,ob,k _ _ (.inl rfl) e,c⟩
 | dK aD=>obtain⟨z,y,vs,r,ob,es,ep,e,c⟩:=x;exact⟨z,y,vs,r,ob,es,ep,k _ _ (.inl rfl) e,c⟩
 | dT aD=>
   obtain⟨z,y,xs,r,ob,es,ep,e,c⟩:=x;exact⟨z,y,xs,Paired.OA r λp q z=>⟨z.1,ht _ _ z.2.1,z.2.2⟩,ob,es,ep,k _ _ (.inl rfl) e,c⟩
 | set S n=>obtain⟨ob,es,ep,t,e,c⟩:=x;exact⟨ob,es,ep,t,k _ _ (.inl rfl) e,c⟩
 | ins C dx fs=>
   obtain⟨d,z,ne,e,mA,⟨od,es,ep,e2,c⟩,r⟩:=x;exact⟨ho _ d,z,ne,k _ _ (.inl rfl) e,mA,⟨od,es,ep,k _ _ (.inr d) e2,c⟩,r⟩
 | own y=>obtain⟨ob,e⟩:=x;exact⟨ob,k _ _ (.inl rfl) e⟩
 | xd fs=>obtain⟨mA,⟨od,es,ep,e,c⟩,r⟩:=x;exact⟨mA,⟨od,es,ep,k _ _ (.inl rfl) e,c⟩,r⟩
 | rng lo hi=>obtain⟨t,u,v,e⟩:=x;exact⟨t,u,v,k _ _ (.inl rfl) e⟩
 | mq ob u ih=>obtain⟨e,q⟩:=x;exact⟨k _ _ (.inl rfl) e,ih q⟩
 | tbl ps=>
   have e:h.get? a=some {cls:= .none,data:= .fields ps}:=x;show h'.get? a=some {cls:= .none,data:= .fields ps};exact k a _ (.inl rfl) e
 | met f y=>
   have e:h.get? a=some (PySem.W.methodObj (.ref f)$ .ref y):=x;show h'.get? a=some (PySem.W.methodObj (.ref f)$ .ref y);exact k a _ (.inl rfl) e
 | ext φ=>obtain⟨p,⟨o,e⟩,st⟩:=x;exact⟨st _ _ p λo q=>k _ _ (.inl rfl) q,⟨o,k _ _ (.inl rfl) e⟩,st⟩
def oU.lt(x:oU P w H h)(e:H a=some o):a<h.objs.size:=(x a o e).lt
def oU.fresh(x:oU P w H h)(e:h.objs.size<=a):H a=none:=by
 cases q:H a with
 | none=>rfl
 | some u=>exact absurd (Qas (x.lt q) e)$ Qbr _
def oU.kept(x:oU P w H h)(k:∀b u,h.get? b=some u->h'.get? b=some u):oU P w H h':=λa o e=>
 (x a o e).yZ (λb u _ q=>k b u q) (λ_ q=>q) λ_ _ q=>q
def oU.laid(x:oU P w H h)(k:∀b u,h.get? b=some u->h'.get? b=some u)(hp:h.objs.size<=a)(new:eu P w (upd H a o) h' a o):oU P w (upd H a o) h':=λb u e=>by
 have hn:=x.fresh hp;by_cases hb:b=a
 .subst hb;rw [aZ] at e;cases e;exact new
 .rw [bb hb] at e;exact(x b u e).yZ (λc v _ q=>k c v q) (λc q=>by rw[bb$ bC q hn];exact q) λc xs q=>by rw[bb$ bC q hn];exact q
end
def Rd(H:Hp)(a:Addr)(u:HO):Prop:=H a=some u\/∃o,H a=some (.mq o u)
def Rd.ok{a:Addr}{u:HO}(r:Rd H a u)(x:oU P w H h):eu P w H h a u:=by
 rcases r with r | ⟨o,r⟩
 .exact x a u r
 .obtain⟨_,q⟩:=x a _ r;exact q
def T7:Option HO->Prop
 | some (.lst _)=>True
 | some (.dK _)=>True
 | some (.dT _)=>True
 | some (.set _ _)=>True
 | some (.ins _ _ _)=>True
 | some (.ext _)=>True
 | _=>False
section
variable {P:Program}{w:World}{H:Hp}{h h':Heap}{x e:Addr}{o':HO}
def oU.write(ok:oU P w H h)(mu:T7 (H x))(he:e=x\/H e=some (.own x))(k:∀b u,b≠e->h.get? b=some u->h'.get? b=some u)(Nn:∃u,h'.get? e=some u)
 (new:eu P w (upd H x o') h' x o'):oU P w (upd H x o') h':=λb u q=>by
 have nown:∀c y,H c=some (.own y)->c≠x:=λc y r z=>by subst z;rw [r] at mu;exact mu
 have ntup:∀c xs,H c=some (.tup xs)->c≠x:=λc xs r z=>by subst z;rw [r] at mu;exact mu
 by_cases hb:b=x
 .subst hb;rw [aZ] at q;cases q;exact new
 .rw [bb hb] at q;by_cases hbe:b=e
  .have q':H b=some (.own x):=by
    rcases he with z | z
    .exact absurd (hbe.trans z) hb
    .rw [hbe];exact z
   rw[q] at q';cases q';obtain⟨v,hv⟩:=Nn;exact⟨v,by rw[hbe];exact hv⟩
  .refine(ok b u q).yZ (λc v hc r=>k c v ?_ r) (λc r=>by rw[bb$ nown c b r];exact r) λc xs r=>by rw[bb$ ntup c xs r];exact r
   rcases hc with rfl | hc
   .exact hbe
   .rintro rfl;rcases he with z | z
    .exact nown c b hc z
    .rw [hc] at z;cases z;exact hb rfl
end
structure Un (fs ex:List Addr) (H H':Hp) (h h':Heap):Prop where
 keep:∀b o,h.get? b=some o->H b=none->b ∉ fs->b ∉ ex->h'.get? b=some o
 slot:∀b o,h.get? b=some o->H b=none->b∈fs->b ∉ ex->∃sl,h'.get? b=some {o with slots:=sl}
 free:∀b o,h.get? b=some o->H b=none->b ∉ ex->H' b=none
 there:∀b o,h.get? b=some o->b ∉ ex->∃o',h'.get? b=some o'
 tups:∀b xs,H b=some (.tup xs)->H' b=some (.tup xs)
 frzs:∀b o u,H b=some (.mq o u)->H' b=some (.mq o u)
 tbls:∀b ps,H b=some (.tbl ps)->∃more,H' b=some (.tbl (ps++more))
section
variable {fs ex:List Addr}{H H1:Hp}{h h1 h':Heap}{a x e:Addr}{o:HO}
def Un.any(u:Un fs ex H H1 h h1){b:Addr}{ob:Obj}(q:h.get? b=some ob)(n:H b=none)(hx:b ∉ ex):∃sl,h1.get? b=some {ob with slots:=sl}:=by
 by_cases hb:b∈fs
 .exact u.slot b ob q n hb hx
 .exact⟨ob.slots,u.keep b ob q n hb hx⟩
def Un.kept(k:∀b u,h.get? b=some u->h'.get? b=some u):Un fs ex H H h h':=
 ⟨λb ob q _ _ _=>k b ob q,λb ob q _ _ _=>⟨ob.slots,k b ob q⟩,λ_ _ _ n _=>n,λb ob q _=>⟨ob,k b ob q⟩,λ_ _ q=>q,λ_ _ _ q=>q,λ_ ps q=>⟨#[],by rw[q];simp⟩⟩
def Un.refl:Un fs ex H H h h:=Un.kept λ_ _ q=>q
def Un.laid(k:∀b u,h.get? b=some u->h'.get? b=some u)(hp:h.objs.size<=a)(hn:H a=none):Un fs ex H (upd H a o) h h' where
 keep:=λb u q _ _ _=>k b u q
 slot:=λb u q _ _ _=>⟨u.slots,k b u q⟩
 free:=λb u q n _=>by rw[bb$ QaR$ Qas (QaA q) hp];exact n
 there:=λb u q _=>⟨u,k b u q⟩
 tups:=λb xs q=>by rw[bb$ bC q hn];exact q
 frzs:=λb u xs q=>by rw[bb$ bC q hn];exact q
 tbls:=λb ps q=>⟨#[],by rw[bb$ bC q hn,q];simp⟩
def Un.write(mu:T7 (H x))(he:e=x\/H e=some (.own x))(k:∀b u,b≠e->h.get? b=some u->h'.get? b=some u)(Nn:∃u,h'.get? e=some u):Un fs ex H (upd H x o) h h':=by
 have hx:∀b,H b=none->b≠x:=λb n z=>by subst z;rw [n] at mu;exact mu
 have hb:∀b,H b=none->b≠e:=λb n z=>by
  subst z;rcases he with r | r
  .exact hx b n r
  .rw [n] at r;cases r
 have hm:∀b u,H b=some u->¬T7 (some u)->b≠x:=λb u q nm z=>by subst z;rw [q] at mu;exact nm mu
 refine⟨λb u q n _ _=>k b u (hb b n) q,λb u q n _ _=>⟨u.slots,k b u (hb b n) q⟩,λb u q n _=>by rw[bb$ hx b n];exact n,λb u q _=>?_,
  λb xs q=>by rw[bb$ hm b _ q λz=>z];exact q,λb u xs q=>by rw[bb$ hm b _ q λz=>z];exact q,λb ps q=>⟨#[],by rw[bb (hm b _ q λz=>z),q];simp⟩⟩
 by_cases hbe:b=e
 .subst hbe;exact Nn
 .exact⟨u,k b u hbe q⟩
end
def J0(h:Heap)(H:Hp):List Addr:=(List.range h.objs.size).filter λa=>(H a).isSome
def yR(h:Heap)(H:Hp):Heap:=PySem.W.hideAll h$ J0 h H
def Ge(h:Heap)(H:Hp):(yR h H).objs.size=h.objs.size:=PySem.W.hideAll_size _ _
def GR{h:Heap}{H:Hp}{b:Addr}{o:Obj}(e:h.get? b=some o)(n:H b=none):(yR h H).get? b=some o:=
 Qcu _ e λhm=>by
  have q:(H b).isSome=true:=(Qbi.mp hm).2;rw[n] at q;simp at q
def LY{h:Heap}{H:Hp}{b:Addr}{o:Obj}(e:(yR h H).get? b=some o):h.get? b=some o/\H b=none:=by
 have e':h.get? b=some o:=PySem.W.of_hideAll (J0 h H) e;refine⟨e',?_⟩;cases q:H b with
 | none=>rfl
 | some x=>
   have hm:b∈J0 h H:=Qbi.mpr ⟨Qbm.mpr$ QaA e',by simp [q]⟩
   have z:(yR h H).get? b=none:=PySem.W.hideAll_none (J0 h H) hm;rw[z] at e;cases e
def L7(g h:Heap)(L:Addr):Aaa:=(List.range h.objs.size).filterMap λa=>if a=L\/(g.get? a).isSome=true then none else(h.get? a).map λo=>(a,o)
def rest(g h:Heap)(L d:Addr):Aaa:=(L7 g h L).filter λp=>decide$ p.1≠d
structure Mod (K:QcQ) (mg:Aaf) (base:Heap):Prop where
 kin:K.In base
 glob:base.Ns mainGlobals mg
 blt:∃mb,base.Ns builtinsNs mb/\∀x:Str,x≠"__name__"->mb x=bootBuiltins x
 nolimit:base.NoLimit
structure Cx where
 prog:Program
 w:World
 K:QcQ
 mg:Aaf
 base:Heap
 A:Around
 N:List Str
 s₀:QcR
 H₀:Hp
 env:Env
 outer:List Env
 stack:List Env
 ex:List Addr
 fn:Str->Bool
 calm:Bool
 pn:Aaa
 xe:Aab
def qZ(l:List Env):List Addr:=l.filterMap (·.frame)
abbrev Cx.fs(X:Cx):List Addr:=qZ X.outer
def HM(sc:Scope)(x:Str):Prop:=sc.names.lookup x=some .local\/sc.names.lookup x=some .cell\/sc.names.lookup x=some .free
def Loc(sc:Scope)(x:Str):Prop:=sc.names.lookup x=some .local\/sc.names.lookup x=some .cell
def Look(env:Env)(h:Heap)(m:Aaf)(x:Str)(u:Value):Prop:=
 (env.kindOf x=some .local/\m x=some u)\/((env.kindOf x=some .cell\/env.kindOf x=some .free)/\∃c,env.cells.lookup x=some c/\h.IsCell c (some u))
structure Cx.Ok (X:Cx):Prop where
 mod:Mod X.K X.mg X.base
 kind:X.env.scope.kind= .function
 glob:X.env.globals=mainGlobals
 blt:X.env.builtins=builtinsNs
 above:X.s₀.heap.objs.size<=X.env.locals
 inj:∀x y c,X.env.cells.lookup x=some c->X.env.cells.lookup y=some c->x=y
 has:∀x,(X.env.kindOf x=some .cell\/X.env.kindOf x=some .free)->∃c,X.env.cells.lookup x=some c
 cab:∀x c,X.fn x=true->X.env.cells.lookup x=some c->X.s₀.heap.objs.size<=c
 hd:X.calm=true->X.A.handled=none
 frames:X.A.frames=some X.stack
 stk:X.stack=X.outer\/(X.stack=X.env ::X.outer/\X.env.frame=some X.env.locals)
 exf:∀b∈X.ex,b≠X.env.locals/\∀x c,X.env.cells.lookup x=some c->c≠b
 bs:∀b o,X.base.get? b=some o->X.s₀.heap.get? b=some o/\X.H₀ b=none
 bsz:X.base.objs.size<=X.s₀.heap.objs.size
 noex:∀b o,X.base.get? b=some o->b ∉ X.ex
 exfs:∀b∈X.ex,b ∉ X.fs
 r9:X.s₀.heap.FunFrames X.base X.outer
 frf:∀b∈X.fs,X.H₀ b=none
structure Inv (X:Cx) (pins:Aaa) (σ:List (Option V)) (H:Hp) (s:QcR):Prop where
 ok:X.Ok
 os:s.os=X.s₀.os
 bare:AllBare s.gens
 base:Un X.fs X.ex X.H₀ H X.s₀.heap s.heap
 loc:∃m,s.heap.Ns X.env.locals m/\∀(i:Nat) (x:Str) (v:V),X.N[i]? =some x->σ[i]? =some (some v)->HM X.env.scope x->∃u,RelV v u/\Look X.env s.heap m x u
 cell:∀x c,X.env.cells.lookup x=some c->∃v,s.heap.IsCell c v
 free:H X.env.locals=none
 freeC:∀x c,X.env.cells.lookup x=some c->H c=none
 pin:∀p∈X.pn++pins,s.heap.get? p.1=some p.2/\H p.1=none/\p.1≠X.env.locals/\p.1 ∉ X.fs/\∀v,p.2.data≠ .cell v
 hok:oU X.prog X.w H s.heap
 len:σ.length=X.N.length
section
variable {X:Cx}{pins:Aaa}{σ:List (Option V)}{H H':Hp}{s:QcR}{h':Heap}
def Cx.Ok.VN(ok:X.Ok){b:Addr}{o:Obj}(e:X.base.get? b=some o):b ∉ X.fs:=λhb=>by
 have:=(ok.r9.mem hb).1;rw[e] at this;cases this
def Inv.bs(I:Inv X pins σ H s):∀b o,X.base.get? b=some o->s.heap.get? b=some o/\H b=none:=λb o e=>
 ⟨I.base.keep b o (I.ok.bs b o e).1 (I.ok.bs b o e).2 (I.ok.VN e)$ I.ok.noex b o e,I.base.free b o (I.ok.bs b o e).1 (I.ok.bs b o e).2$ I.ok.noex b o e⟩
def Inv.bk(I:Inv X pins σ H s):∀b o,X.base.get? b=some o->s.heap.get? b=some o:=λb o e=>(I.bs b o e).1
def Inv.mod(I:Inv X pins σ H s):Mod X.K X.mg X.base:=I.ok.mod
def Inv.yd(I:Inv X pins σ H s):X.K.In s.heap:=I.ok.mod.kin.keeps I.bk
def Inv.lt(I:Inv X pins σ H s):X.env.locals<s.heap.objs.size:=let⟨_,hn,_⟩:=I.loc;hn.lt
def Inv.sz(I:Inv X pins σ H s):X.s₀.heap.objs.size<=s.heap.objs.size:=QaK I.ok.above$ Nat.le_of_lt I.lt
def Inv.Xf(I:Inv X pins σ H s){a:Addr}(h:s.heap.objs.size<=a):a ∉ X.fs:=λhb=>by
 obtain⟨_,o,ho,_⟩:=I.ok.r9.mem hb;exact absurd (Qas (QaA ho)$ QaK I.sz h)$ Qbr _
def Inv.Jv(I:Inv X pins σ H s):∀x c,X.env.cells.lookup x=some c->c≠X.env.locals:=λx c e z=>by
 obtain⟨v,o,ho,hd⟩:=I.cell x c e;obtain⟨m,⟨o',es,ep,xu,Mz,_⟩,_⟩:=I.loc;rw[z,xu] at ho;cases ho;rw [Mz] at hd;cases hd
def Inv.r9(I:Inv X pins σ H s):s.heap.FunFrames X.base X.outer:=by
 have all:∀(l:List Env),(∀b∈qZ l,b∈X.fs)->X.s₀.heap.FunFrames X.base l->s.heap.FunFrames X.base l:=by
  intro l
  induction l with
  | nil=>intro _ _;trivial
  | cons env r ih=>
    intro hs hl;obtain⟨hk,⟨L,o,hf,hn,ho,hd⟩,hr⟩:=hl;have hL:L∈X.fs:=hs L (by unfold qZ;rw [Qb9,hf];exact Qai)
    obtain⟨sl,e⟩:=I.base.slot L o ho (I.ok.frf L hL) hL λz=>I.ok.exfs L z hL
    exact⟨hk,⟨L,_,hf,hn,e,hd⟩,ih (λb hb=>hs b$ by unfold qZ;rw [Qb9,hf];exact Qab _ hb) hr⟩
 exact all X.outer (λ_ hb=>hb) I.ok.r9
def Inv.stack(I:Inv X pins σ H s):s.heap.FunFrames X.base X.stack:=by
 rcases I.ok.stk with e | ⟨e,hf⟩
 .rw [e];exact I.r9
 .rw [e];obtain⟨m,hn,_⟩:=I.loc;refine .cons (by rw[I.ok.kind];decide) hf hn ?_ I.r9
  exact Heap.get?_none_of_le$ QaK I.ok.bsz I.ok.above
def Inv.CL(I:Inv X pins σ H s):∀b∈qZ X.stack,b∈X.env.locals ::X.fs:=λb hb=>by
 rcases I.ok.stk with e | ⟨e,hf⟩
 .rw [e] at hb;exact Qab _ hb
 .rw [e] at hb;unfold qZ at hb;rw[Qb9,hf] at hb;exact hb
def Inv.p9(I:Inv X pins σ H s):∀b∈qZ X.stack,H b=none:=λb hb=>by
 rcases QaF.mp (I.CL b hb) with e | hb
 .rw [e];exact I.free
 .obtain⟨_,o,ho,_⟩:=I.ok.r9.mem hb;exact I.base.free b o ho (I.ok.frf b hb) λz=>I.ok.exfs b z hb
def Inv.step{g':Array GenState}{t':Nat}{d':Drawn}{ch:List Addr}(I:Inv X pins σ H s)
 (J3:∀b∈ch,(b∈X.ex\/X.s₀.heap.objs.size<=b)/\b≠X.env.locals/\(∀x c,X.env.cells.lookup x=some c->c≠b)/\∀p∈X.pn++pins,p.1≠b)
 (keep:∀b o,b≠X.env.locals->b ∉ X.fs->b ∉ ch->s.heap.get? b=some o->H b=none->h'.get? b=some o)
 (slot:∀b o,b≠X.env.locals->b∈X.fs->b ∉ ch->s.heap.get? b=some o->H b=none->∃sl,h'.get? b=some {o with slots:=sl}) (free:∀b o,b ∉ ch->s.heap.get? b=some o->H b=none->H' b=none)
 (there:∀b o,b ∉ ch->s.heap.get? b=some o->∃o',h'.get? b=some o')
 (tups:∀b xs,H b=some (.tup xs)->H' b=some (.tup xs)) (frzs:∀b o u,H b=some (.mq o u)->H' b=some (.mq o u)) (tbls:∀b ps,H b=some (.tbl ps)->∃more,H' b=some (.tbl$ ps++more))
 (ns:∀m,s.heap.Ns X.env.locals m->h'.Ns X.env.locals m) (hok:oU X.prog X.w H' h') (hg:AllBare g') :
 Inv X pins σ H' {s with heap:=h',gens:=g',drawn:=d',toks:=t'}:=by
 have neL:∀b o,X.s₀.heap.get? b=some o->b≠X.env.locals:=λb o e=>QaR$ Qas (QaA e) I.ok.above
 have neC:∀b o,X.s₀.heap.get? b=some o->b ∉ X.ex->b ∉ ch:=λb o e hx hb=>by
  rcases(J3 b hb).1 with z | z
  .exact hx z
  .exact absurd (Qas (QaA e) z) (Qbr _)
 have cellK:∀x c,X.env.cells.lookup x=some c->∀v,s.heap.IsCell c v->h'.IsCell c v:=λx c e v ⟨o,ho,hd⟩=>by
  have nch:c ∉ ch:=λz=>(J3 c z).2.2.1 x c e rfl
  by_cases hc:c∈X.fs
  .obtain⟨sl,q⟩:=slot c o (I.Jv x c e) hc nch ho$ I.freeC x c e;exact⟨_,q,hd⟩
  .exact⟨o,keep c o (I.Jv x c e) hc nch ho$ I.freeC x c e,hd⟩
 refine⟨I.ok,I.os,hg,⟨λb o e n hb hx=>?_,λb o e n hb hx=>?_,λb o e n hx=>?_,λb o e hx=>?_,λb xs e=>tups b xs$ I.base.tups b xs e,λb o xs e=>frzs b o xs$ I.base.frzs b o xs e,λb ps e=>?_⟩,?_,λx c e=>?_,?_,λx c e=>?_,λp hp=>?_,hok,I.len⟩
 .exact keep b o (neL b o e) hb (neC b o e hx) (I.base.keep b o e n hb hx) (I.base.free b o e n hx)
 .obtain⟨sl,e1⟩:=I.base.slot b o e n hb hx;obtain⟨sl',e2⟩:=slot b _ (neL b o e) hb (neC b o e hx) e1$ I.base.free b o e n hx;exact⟨sl',e2⟩
 .obtain⟨o',e1⟩:=I.base.there b o e hx;exact free b o' (neC b o e hx) e1$ I.base.free b o e n hx
 .obtain⟨o',e1⟩:=I.base.there b o e hx;exact there b o' (neC b o e hx) e1
 .obtain⟨m1,e1⟩:=I.base.tbls b ps e;obtain⟨m2,e2⟩:=tbls b _ e1;exact⟨m1++m2,by rw[e2,Array.append_assoc]⟩
 .obtain⟨m,hn,hl⟩:=I.loc;refine⟨m,ns m hn,λi x v e1 e2 e3=>?_⟩
  obtain⟨u,r,l⟩:=hl i x v e1 e2 e3;refine⟨u,r,?_⟩;rcases l with l | ⟨k,c,e,z⟩
  .exact .inl l
  .exact .inr ⟨k,c,e,cellK x c e _ z⟩
 .obtain⟨v,z⟩:=I.cell x c e;exact⟨v,cellK x c e v z⟩
 .obtain⟨m,⟨o,_,_,ho,_⟩,_⟩:=I.loc;exact free _ o (λz=>(J3 _ z).2.1 rfl) ho I.free
 .obtain⟨v,o,ho,hd⟩:=I.cell x c e;exact free c o (λz=>(J3 c z).2.2.1 x c e rfl) ho$ I.freeC x c e
 .obtain⟨e,n,ne,nf,d⟩:=I.pin p hp;have nch:p.1 ∉ ch:=λz=>(J3 p.1 z).2.2.2 p hp rfl
  exact⟨keep p.1 p.2 ne nf nch e n,free p.1 p.2 nch e n,ne,nf,d⟩
def Inv.un{t':Nat}(I:Inv X pins σ H s)(u:Un X.fs [] H H' s.heap h')(hok:oU X.prog X.w H' h'):Inv X pins σ H' {s with heap:=h',toks:=t'}:=by
 obtain⟨m,⟨o,es,ep,ho,r⟩,_⟩:=id I.loc;obtain⟨sl,hL⟩:=u.any ho I.free (by simp)
 exact I.step (g':=s.gens) (d':=s.drawn) (ch:=[]) (λ_ z=>nomatch z) (λb o _ hb _ e n=>u.keep b o e n hb$ by simp) (λb o _ hb _ e n=>u.slot b o e n hb$ by simp) (λb o _ e n=>u.free b o e n$ by simp) (λb o _ e=>u.there b o e$ by simp) u.tups u.frzs u.tbls (λm' hm=>by
  obtain⟨o',XZ,X_,xu,r'⟩:=hm;rw[ho] at xu;cases xu;exact⟨_,XZ,X_,hL,r'⟩) hok I.bare
def Inv.call{g':Array GenState}{t':Nat}{d':Drawn}{ch:List Addr}(I:Inv X pins σ H s)(u:Un (qZ X.stack) ch H H' s.heap h')(hok:oU X.prog X.w H' h')(hg:AllBare g')
 (J3:∀b∈ch,(b∈X.ex\/X.s₀.heap.objs.size<=b)/\b≠X.env.locals/\(∀x c,X.env.cells.lookup x=some c->c≠b)/\∀p∈X.pn++pins,p.1≠b) :
 Inv X pins σ H' {s with heap:=h',gens:=g',drawn:=d',toks:=t'}:=by
 obtain⟨m,⟨o,es,ep,ho,r⟩,_⟩:=id I.loc;obtain⟨sl,hL⟩:=u.any ho I.free λz=>(J3 _ z).2.1 rfl
 exact I.step (ch:=ch) J3 (λb o hL hb hc e n=>u.keep b o e n (λz=>(QaF.mp$ I.CL b z).elim hL hb) hc) (λb o _ _ hc e n=>u.any e n hc) (λb o hc e n=>u.free b o e n hc) (λb o hc e=>u.there b o e hc) u.tups u.frzs u.tbls (λm' hm=>by
  obtain⟨o',XZ,X_,xu,r'⟩:=hm;rw[ho] at xu;cases xu;exact⟨_,XZ,X_,hL,r'⟩) hok hg
def Inv.turned{t':Nat}{it:Addr}(I:Inv X pins σ H s)(k:∀b o,b≠it->s.heap.get? b=some o->h'.get? b=some o)(hn:H it=none)(hL:it≠X.env.locals)
 (h1:it∈X.ex\/X.s₀.heap.objs.size<=it) (h2:∀x c,X.env.cells.lookup x=some c->c≠it) (h3:∀p∈X.pn++pins,p.1≠it):Inv X pins σ H {s with heap:=h',toks:=t'}:=by
 have nit:∀b u,H b=some u->b≠it:=λb u e z=>by rw[z,hn] at e;cases e
 refine I.step (g':=s.gens) (d':=s.drawn) (ch:=[it]) (λb hb=>?_) (λb o _ _ hc e _=>k b o (λz=>hc$ by simp [z]) e) (λb o _ _ hc e _=>⟨o.slots,k b o (λz=>hc$ by simp [z]) e⟩) (λ_ _ _ _ n=>n)
  (λb o hc e=>⟨o,k b o (λz=>hc$ by simp [z]) e⟩) (λ_ _ e=>e) (λ_ _ _ e=>e) (λb ps e=>⟨#[],by rw[e];simp⟩) (λm hm=>?_) (λb u e=>?_) I.bare
 .have e:b=it:=by simpa using hb
  subst e;exact⟨h1,hL,h2,h3⟩
 .obtain⟨o,es,ep,ho,r⟩:=hm;exact⟨o,es,ep,k _ o (Qbz hL) ho,r⟩
 .refine(I.hok b u e).yZ (λc v hc q=>k c v ?_ q) (λ_ q=>q) λ_ _ q=>q
  rcases hc with z | z
  .rw [z];exact nit b u e
  .exact nit c _ z
def Inv.tok(I:Inv X pins σ H s)(t:Nat):Inv X pins σ H {s with toks:=t}:=I.un (h':=s.heap) (t':=t) Un.refl I.hok
def Inv.kept{t':Nat}(I:Inv X pins σ H s)(k:∀b u,s.heap.get? b=some u->h'.get? b=some u):Inv X pins σ H {s with heap:=h',toks:=t'}:=I.un (Un.kept k)$ I.hok.kept k
def Inv.laid{a:Addr}{o:HO}{t':Nat}(I:Inv X pins σ H s)(k:∀b u,s.heap.get? b=some u->h'.get? b=some u)(hp:s.heap.objs.size<=a)(new:eu X.prog X.w (upd H a o) h' a o) :
 Inv X pins σ (upd H a o) {s with heap:=h',toks:=t'}:=I.un (Un.laid k hp$ I.hok.fresh hp)$ I.hok.laid k hp new
def Inv.write{x e:Addr}{o:HO}{t':Nat}(I:Inv X pins σ H s)(mu:T7 (H x))(he:e=x\/H e=some (.own x))(k:∀b u,b≠e->s.heap.get? b=some u->h'.get? b=some u)(Nn:∃u,h'.get? e=some u)
 (new:eu X.prog X.w (upd H x o) h' x o):Inv X pins σ (upd H x o) {s with heap:=h',toks:=t'}:=I.un (Un.write mu he k Nn)$ I.hok.write mu he k Nn new
def Inv.DI{nK:Aaa}(I:Inv X pins σ H s)(h:∀p∈nK,s.heap.get? p.1=some p.2/\H p.1=none/\p.1≠X.env.locals/\p.1 ∉ X.fs/\∀v,p.2.data≠ .cell v):Inv X nK σ H s:=
 ⟨I.ok,I.os,I.bare,I.base,I.loc,I.cell,I.free,I.freeC,λp hp=>(Qaq.mp hp).elim (λz=>I.pin p$ Qa7 _ z)$ h p,I.hok,I.len⟩
def jB{N:List Str}(hN:N.Nodup){i j:Nat}(a:N[i]? =some x)(b:N[j]? =some x):i=j:=by
 obtain⟨h1,e1⟩:=Qah.mp a;obtain⟨h2,e2⟩:=Qah.mp b;exact(List.getElem_inj hN).mp (e1.trans e2.symm)
def yf{M:Model}{A:Around}{E:Aab}{i:Nat}{x:Str}{v:V}{u:Value}{Q:Unit->QcR->Prop}(I:Inv X pins σ H s)(hN:X.N.Nodup)(hi:X.N[i]? =some x)(hx:Loc X.env.scope x)(r:RelV v u)
 (h:∀s',Inv X pins (σ.set i$ some v) H s'->(∃a,Heap.SameBut a s.heap s'.heap/\(a=X.env.locals\/X.env.cells.lookup x=some a))->Q () s') (hf:X.fn x=true\/X.env.scope.names.lookup x=some .local:=by first | exact .inl rfl | exact .inr rfl | assumption):wpAny M A (storeName X.env x u) Q E s:=by
 obtain⟨m,hn,hl⟩:=id I.loc;have hcls:(X.env.scope.kind== .class || (X.env.scope.kind== .module && X.env.locals !=X.env.globals))=false:=by rw[I.ok.kind];rfl
 have hiσ:i<σ.length:=by rw[I.len];exact(Qah.mp hi).1
 have Jv:=I.Jv;have tracked:∀{a:Addr} {h':Heap},(∃o,s.heap.get? a=some o/\H a=none)->Heap.SameBut a s.heap h'->oU X.prog X.w H h':=fun {a h'} ha hs b ob e=>by
  obtain⟨_,_,hfree⟩:=ha;refine(I.hok b ob e).yZ (λc w' hc q=>(hs.2 c ?_).trans q) (λ_ q=>q) λ_ _ q=>q
  rintro rfl;rcases hc with rfl | hc
  .rw [hfree] at e;cases e
  .rw [hfree] at hc;cases hc
 rcases hx with hk | hk
 .refine wpAny_storeName_local hk hn (λh' Yx hs=>?_) hcls
  obtain⟨oL,_,_,hoL,_⟩:=id hn;refine h _ ⟨I.ok,I.os,I.bare,⟨λb o e n hb hx=>?_,λb o e n hb hx=>?_,I.base.free,λb o e hx=>?_,I.base.tups,I.base.frzs,I.base.tbls⟩,⟨_,Yx,λj y v' e1 e2 e3=>?_⟩,λy c e=>?_,I.free,I.freeC,λp hp=>?_,tracked ⟨oL,hoL,I.free⟩ hs,by simpa using I.len⟩ ⟨_,hs, .inl rfl⟩
  .exact(hs.2 b$ QaR$ Qas (QaA e) I.ok.above).trans (I.base.keep b o e n hb hx)
  .obtain⟨sl,e1⟩:=I.base.slot b o e n hb hx;exact⟨sl,(hs.2 b$ QaR$ Qas (QaA e) I.ok.above).trans e1⟩
  .obtain⟨o',e1⟩:=I.base.there b o e hx;exact⟨o',(hs.2 b$ QaR$ Qas (QaA e) I.ok.above).trans e1⟩
  .by_cases hj:j=i
   .subst hj;rw[hi] at e1;cases e1;rw[Qam hiσ] at e2;cases e2;exact⟨u,r, .inl ⟨hk,by simp⟩⟩
   .rw [Qao$ Qbz hj] at e2;obtain⟨u',r',q⟩:=hl j y v' e1 e2 e3;refine⟨u',r',?_⟩;rcases q with⟨k,e⟩ | ⟨k,c,e,z⟩
    .refine .inl ⟨k,?_⟩;have:y≠x:=λe=>hj (jB hN e1$ e▸hi)
     simp [this,e]
    .exact .inr ⟨k,c,e,z.sameBut hs$ Jv y c e⟩
  .obtain⟨w',z⟩:=I.cell y c e;exact⟨w',z.sameBut hs$ Jv y c e⟩
  .obtain⟨e,n,ne,nf,d⟩:=I.pin p hp;exact⟨(hs.2 p.1 ne).trans e,n,ne,nf,d⟩
 .have hfn:X.fn x=true:=by
   rcases hf with z | z
   .exact z
   .rw [z] at hk;cases hk
  obtain⟨c,hc⟩:=I.ok.has x$ .inl hk;obtain⟨w',z⟩:=I.cell x c hc;refine wpAny_storeName_cell I.ok.kind hk hc z$ λh' GQ hs=>?_
  obtain⟨oc,hoc,hocd⟩:=id z;refine h {s with heap:=h'} ⟨I.ok,I.os,I.bare,⟨λb o e n hb hx=>?_,λb o e n hb hx=>?_,I.base.free,λb o e hx=>?_,I.base.tups,I.base.frzs,I.base.tbls⟩,⟨m,hn.sameBut hs$ Qbz$ Jv x c hc,λj y v' e1 e2 e3=>?_⟩,λy c' e=>?_,I.free,I.freeC,λp hp=>?_,tracked ⟨oc,hoc,I.freeC x c hc⟩ hs,by simpa using I.len⟩ ⟨c,hs, .inr hc⟩
  .exact(hs.2 b$ QaR$ Qas (QaA e)$ I.ok.cab x c hfn hc).trans (I.base.keep b o e n hb hx)
  .obtain⟨sl,e1⟩:=I.base.slot b o e n hb hx;exact⟨sl,(hs.2 b$ QaR$ Qas (QaA e)$ I.ok.cab x c hfn hc).trans e1⟩
  .obtain⟨o',e1⟩:=I.base.there b o e hx;exact⟨o',(hs.2 b$ QaR$ Qas (QaA e)$ I.ok.cab x c hfn hc).trans e1⟩
  .by_cases hj:j=i
   .subst hj;rw[hi] at e1;cases e1;rw[Qam hiσ] at e2;cases e2;exact⟨u,r, .inr ⟨.inl hk,c,hc,GQ⟩⟩
   .rw [Qao$ Qbz hj] at e2;obtain⟨u',r',q⟩:=hl j y v' e1 e2 e3;refine⟨u',r',?_⟩;rcases q with q | ⟨k,c',e,z'⟩
    .exact .inl q
    .refine .inr ⟨k,c',e,z'.sameBut hs ?_⟩;rintro rfl;exact hj$ jB hN e1$ I.ok.inj _ _ _ e hc▸hi
  .by_cases hcc:c'=c
   .subst hcc;exact⟨_,GQ⟩
   .obtain⟨w2,z2⟩:=I.cell y c' e;exact⟨w2,z2.sameBut hs hcc⟩
  .obtain⟨e,n,ne,nf,d⟩:=I.pin p hp;refine⟨(hs.2 p.1 ?_).trans e,n,ne,nf,d⟩;intro q;rw[q,hoc] at e;have q':oc=p.2:=QaW e;exact d w' (by rw[<-q'];exact hocd)
def vF{M:Model}{A:Around}{E:Aab}{i:Nat}{x:Str}{v:V}{u:Value}{Q:Unit->QcR->Prop}(I:Inv X pins σ H s)(hN:X.N.Nodup)(hi:X.N[i]? =some x)(hx:Loc X.env.scope x)(r:RelV v u)
 (h:∀s',Inv X pins (σ.set i$ some v) H s'->Q () s') (hf:X.fn x=true\/X.env.scope.names.lookup x=some .local:=by first | exact .inl rfl | exact .inr rfl | assumption):wpAny M A (storeName X.env x u) Q E s:=
 yf I hN hi hx r (λs' I' _=>h s' I') hf
def Inv.Nb{s':QcR}{ch:List Addr}(I:Inv X pins σ H s)(ho:s'.os=s.os)(u:Un (qZ X.stack) ch H H' s.heap s'.heap)(hok:oU X.prog X.w H' s'.heap)(hg:AllBare s'.gens)
 (J3:∀b∈ch,(b∈X.ex\/X.s₀.heap.objs.size<=b)/\b≠X.env.locals/\(∀x c,X.env.cells.lookup x=some c->c≠b)/\∀p∈X.pn++pins,p.1≠b):Inv X pins σ H' s':=by
 obtain⟨h',g',d',t',o'⟩:=s';have e:o'=s.os:=ho;subst e;exact I.call (g':=g') (t':=t') (d':=d') u hok hg J3
end
abbrev XK:=Value->Option Addr->Hp->Prop
abbrev St:=List$ Option V
abbrev VK:=V->Hp->Prop
abbrev TE:=St->Hp->VK->Prop
abbrev TT:=St->Hp->(Bool->Hp->Prop)->Prop
abbrev TA:=St->Hp->(List V->Hp->Prop)->Prop
structure Ends where
 nx:St->Hp->Prop
 rt:VK
 bk:St->Hp->Prop:=fun _ _=>False
 ct:St->Hp->Prop:=fun _ _=>False
abbrev TS:=Ends->St->Hp->Prop
def EP(X:Cx)(pins:Aaa)(σ:St)(Q:VK)(u:Value)(s':QcR):Prop:=∃v H',Inv X pins σ H' s'/\RelV v u/\Q v H'
def TP(X:Cx)(pins:Aaa)(σ:St)(Q:Bool->Hp->Prop)(b:Bool)(s':QcR):Prop:=∃H',Inv X pins σ H' s'/\Q b H'
def AP(X:Cx)(pins:Aaa)(σ:St)(Q:List V->Hp->Prop)(us:List Value)(s':QcR):Prop:=∃vs H',Inv X pins σ H' s'/\Vals vs us/\Q vs H'
def SP(X:Cx)(pins:Aaa)(D:Ends)(f:Flow)(s':QcR):Prop:=
 match f with
 | .next=>∃cu H',Inv X pins cu H' s'/\D.nx cu H'
 | .brk=>∃cu H',Inv X pins cu H' s'/\D.bk cu H'
 | .cont=>∃cu H',Inv X pins cu H' s'/\D.ct cu H'
 | .ret u=>∃v cu H',Inv X pins cu H' s'/\RelV v u/\D.rt v H'
def PE(X:Cx)(e:Expr)(t:TE):Prop:=
 ∀(pins:Aaa) (s:QcR) (σ:St) (H:Hp) (Q:VK),Inv X pins σ H s->t σ H Q->wpAny (model X.prog X.w) X.A (eval e X.env) (EP X pins σ Q) X.xe s
def PT(X:Cx)(e:Expr)(t:TT):Prop:=
 ∀(pins:Aaa) (s:QcR) (σ:St) (H:Hp) (Q:Bool->Hp->Prop),Inv X pins σ H s->t σ H Q->wpAny (model X.prog X.w) X.A (isTrue e X.env$ eval e X.env) (TP X pins σ Q) X.xe s
def PW(X:Cx)(e:Expr)(t:TT):Prop:=
 ∀(whole:Sem Value) (pins:Aaa) (s:QcR) (σ:St) (H:Hp) (Q:Bool->Hp->Prop),Inv X pins σ H s->t σ H Q->wpAny (model X.prog X.w) X.A (isTrue e X.env whole) (TP X pins σ Q) X.xe s
def PW.pt{X:Cx}{t:TT}(h:PW X e t):PT X e t:=h _
def PA(X:Cx)(es:List Expr)(t:TA):Prop:=
 ∀(pos:Pos) (pins:Aaa) (s:QcR) (σ:St) (H:Hp) (Q:List V->Hp->Prop),Inv X pins σ H s->t σ H Q->wpAny (model X.prog X.w) X.A (spliced$ backTo pos$ starEach es X.env) (AP X pins σ Q) X.xe s
def PS(X:Cx)(st:Stmt)(t:TS):Prop:=
 ∀(pins:Aaa) (s:QcR) (σ:St) (H:Hp) (D:Ends),Inv X pins σ H s->t D σ H->wpAny (model X.prog X.w) X.A (exec st X.env) (SP X pins D) X.xe s
def yI(X:Cx)(st:List Stmt)(t:TS):Prop:=
 ∀(pins:Aaa) (s:QcR) (σ:St) (H:Hp) (D:Ends),Inv X pins σ H s->t D σ H->wpAny (model X.prog X.w) X.A (execs st X.env) (SP X pins D) X.xe s
def cH{α:Type}{t:Sem α}{Q Q':α->QcR->Prop}{M:Model}{E:Aab}{s:QcR}(h:wpAny M A t Q E s)(hQ:∀a s,Q a s->Q' a s):wpAny M A t Q' E s:=QbP h hQ λ_ _ x=>x
section
variable {X:Cx}
def WN(i:Nat):TE:=λσ H Q=>∃v,σ[i]? =some (some v)/\Q v H
def tC(v:V):TE:=λ_ H Q=>Q v H
def yN{i:Nat}{pos:Pos}(hN:X.N[i]? =some x)(hv:HM X.env.scope x)(hd:(x==("__debug__":Str))=false:=by decide)(rJ:(x==("__classdict__":Str))=false:=by decide):PE X (.Name x pos) (WN i):=by
 intro pins s σ H Q I h;obtain⟨v,e,h⟩:=h;obtain⟨m,hn,hl⟩:=I.loc;obtain⟨u,r,l⟩:=hl i x v hN e hv;have fin:EP X pins σ Q u s:=⟨v,H,I,r,h⟩;rcases l with⟨hk,hm⟩ | ⟨hk,c,hc,hcell⟩
 .exact Qcq (wpAny_loadName_local I.ok.kind hk hn hm fin) hd
 .rcases hk with hk | hk
  .exact Qcq (wpAny_loadName_cell I.ok.kind hk hc hcell fin) hd
  .exact Qcq (wpAny_loadName_free I.ok.kind hk hc hcell fin rJ) hd
def vG{i j pos}:PE X (.Constant (.int i) j pos) (tC$ .int i):=λ_ _ _ H _ I h=>wpAny_Constant_int ⟨.int i,H,I.tok _,⟨_,rfl⟩,h⟩
def S_{b j pos}:PE X (.Constant (.bool b) j pos) (tC$ .bl b):=λ_ _ _ H _ I h=>Constant_bool ⟨.bl b,H,I,rfl,h⟩
def v7{x j pos}:PE X (.Constant (.str x) j pos) (tC$ .str x):=λ_ _ _ H _ I h=>Qcc ⟨.str x,H,I.tok _,⟨_,rfl⟩,h⟩
def Gl(X:Cx)(x:Str):Prop:=X.env.kindOf x=some .globalImplicit
def rR{E:Aab}{pins:Aaa}{s:QcR}{σ:St}{H:Hp}{x:Str}{u:Value}{pos:Pos}{Q:Aab}(I:Inv X pins σ H s)(hg:Gl X x)(hm:X.mg x=some u)(h:Q u s)
 (hd:(x==("__debug__":Str))=false:=by decide):wpAny (model X.prog X.w) X.A (eval (.Name x pos) X.env) Q E s:=
 Calls.Name_function_global I.ok.kind hg (Calls.loadGlobal_global (by rw[I.ok.glob];exact I.mod.glob.keeps I.bk) hm h) hd
def uY{E:Aab}{pins:Aaa}{s:QcR}{σ:St}{H:Hp}{x:Str}{u:Value}{pos:Pos}{Q:Aab}(I:Inv X pins σ H s)(hg:Gl X x)(hm:X.mg x=none)(hv:bootBuiltins x=some u)(h:Q u s)
 (hn:x≠"__name__":=by decide) (hd:(x==("__debug__":Str))=false:=by decide):wpAny (model X.prog X.w) X.A (eval (.Name x pos) X.env) Q E s:=by
 obtain⟨mb,h1,h2⟩:=I.mod.blt;exact Calls.Name_function_global I.ok.kind hg (Calls.loadGlobal_builtin (by rw[I.ok.glob];exact I.mod.glob.keeps I.bk) hm (by rw[I.ok.blt];exact h1.keeps I.bk) ((h2 x hn).trans hv) h) hd
def dS{v:V}{u:Value}{pos:Pos}(hg:Gl X x)(hm:X.mg x=some u)(r:RelV v u)(hd:(x==("__debug__":Str))=false:=by decide):PE X (.Name x pos) (tC v):=
 λ_ _ _ H _ I h=>rR I hg hm ⟨v,H,I,r,h⟩ hd
def Ki{v:V}{u:Value}{pos:Pos}(hg:Gl X x)(hm:X.mg x=none)(hv:bootBuiltins x=some u)(r:RelV v u)(hn:x≠"__name__":=by decide)(hd:(x==("__debug__":Str))=false:=by decide):PE X (.Name x pos) (tC v):=
 λ_ _ _ H _ I h=>uY I hg hm hv ⟨v,H,I,r,h⟩ hn hd
def UL(ta tb:TE)(k:Int->Int->Hp->Prop):St->Hp->Prop:=λσ H=>ta σ H λx H1=>tb σ H1 λy H2=>∃i j,x= .int i/\y= .int j/\k i j H2
def acD(ta tb:TE):TE:=λσ H Q=>UL ta tb (λi j H2=>Q (.int$ i+j) H2) σ H
def abP(ta tb:TE):TE:=λσ H Q=>UL ta tb (λi j H2=>Q (.int$ i - j) H2) σ H
def abH(ta tb:TE):TE:=λσ H Q=>UL ta tb (λi j H2=>(-(2 ^ 64)<i/\i<2 ^ 64)/\Q (.int$ i*j) H2) σ H
variable {a b:Expr}{ta tb:TE}{pos:Pos}
def PC(X:Cx)(op:CmpOp)(a b:Expr)(t:TE):Prop:=
 ∀(pins:Aaa) (s:QcR) (σ:St) (H:Hp) (Q:VK),Inv X pins σ H s->t σ H Q->
  wpAny (model X.prog X.w) X.A (eval a X.env) (λv s₁=>wpAny (model X.prog X.w) X.A (eval b X.env) (λu xx=>wpAny (model X.prog X.w) X.A (compareOp op v u) (EP X pins σ Q) X.xe xx) X.xe s₁) X.xe s
def Fg(p:Int->Int->Bool)(ta tb:TE):TE:=λσ H Q=>UL ta tb (λi j H2=>Q (.bl$ p i j) H2) σ H
abbrev tLt:TE->TE->TE:=Fg fun i j=>decide$ i<j
abbrev tLe:TE->TE->TE:=Fg fun i j=>decide$ i<=j
abbrev tGt:TE->TE->TE:=Fg fun i j=>decide$ j<i
abbrev tGe:TE->TE->TE:=Fg fun i j=>decide$ j<=i
abbrev ab9:TE->TE->TE:=Fg fun i j=>decide$ i=j
abbrev ab4:TE->TE->TE:=Fg fun i j=>!decide (i=j)
def aa9(ta:TE):TE:=λσ H Q=>ta σ H λx H1=>Q (.bl$ decide$ x= .cM) H1
def Y5(ta:TE):TE:=λσ H Q=>ta σ H λx H1=>Q (.bl$ !decide (x= .cM)) H1
def tB(t:TE):TT:=λσ H Q=>t σ H λx H1=>∃c,x= .bl c/\Q c H1
def Qx{op:CmpOp}{t:TE}(h:PC X op a b t)(h1:behindInMarks op b=false:=by first | exact nobehind _ (by decide) (by decide) | rfl):PE X (.Compare a [op] [b] pos) t:=λpins s σ H Q I hw=>wpAny_Compare1 (h pins s σ H Q I hw) h1
def BP{op:CmpOp}{t:TE}(h:PC X op a b t)(h1:behindInMarks op b=false:=by first | exact nobehind _ (by decide) (by decide) | rfl):PT X (.Compare a [op] [b] pos) (tB t):=by
 intro pins s σ H Q I hw;refine wpAny_isTrue_Compare1 (cH (h pins s σ H _ I hw) λv s1 h1=>cH h1 λu s2 h2=>cH h2 λc s3 ⟨x,H1,I1,r1,q1⟩=>?_) h1
 obtain⟨d,rfl,q⟩:=q1;cases r1;exact Qbx ⟨H1,I1,q⟩
variable {tA U8:TT}{rest:List Expr}
def Wd(t u:TT):TT:=λσ H Q=>t σ H λc H1=>if c=true then u σ H1 Q else Q false H1
def tOr(t u:TT):TT:=λσ H Q=>t σ H λc H1=>if c=true then Q true H1 else u σ H1 Q
def Wl(t:TT):TT:=λσ H Q=>t σ H λc H1=>Q (!c) H1
def LQ(ha:PT X a tA):PW X (.BoolOp .And [a] pos) tA:=by
 intro wh pins s σ H Q I h;refine isTrue_and$ cH (ha pins s σ H Q I h) λc s1 e=>?_
 cases c with
 | true=>exact isTrue_and_nil e
 | false=>exact e
def G7(ha:PT X a tA):PW X (.BoolOp .Or [a] pos) tA:=by
 intro wh pins s σ H Q I h;refine isTrue_or$ cH (ha pins s σ H Q I h) λc s1 e=>?_
 cases c with
 | false=>exact isTrue_or_nil e
 | true=>exact e
def Qk(ha:PT X a tA)(hb:PW X (.BoolOp .And (b ::rest) pos) U8):PW X (.BoolOp .And (a ::b ::rest) pos) (Wd tA U8):=by
 intro wh pins s σ H Q I h;refine isTrue_and$ cH (ha pins s σ H _ I h) λc s1 ⟨H1,I1,q1⟩=>?_
 cases c with
 | true=>exact hb wh pins s1 σ H1 Q I1 q1
 | false=>exact⟨H1,I1,q1⟩
def MV(ha:PT X a tA)(hb:PW X (.BoolOp .Or (b ::rest) pos) U8):PW X (.BoolOp .Or (a ::b ::rest) pos) (tOr tA U8):=by
 intro wh pins s σ H Q I h;refine isTrue_or$ cH (ha pins s σ H _ I h) λc s1 ⟨H1,I1,q1⟩=>?_
 cases c with
 | true=>exact⟨H1,I1,q1⟩
 | false=>exact hb wh pins s1 σ H1 Q I1 q1
def Hz(ha:PT X a tA):PT X (.UnaryOp .Not a pos) (Wl tA):=by
 intro pins s σ H Q I h;exact isTrue_not$ ha pins s σ H (λc H1=>Q (!c) H1) I h
def Tc(ta tb:TE):TE:=λσ H Q=>ta σ H λx H1=>∃c,x= .bl c/\if c=true then tb σ H1 Q else Q (.bl false) H1
def VB(ta tb:TE):TE:=λσ H Q=>ta σ H λx H1=>∃c,x= .bl c/\if c=true then Q (.bl true) H1 else tb σ H1 Q
def RT(ta:TE):TE:=λσ H Q=>ta σ H λx H1=>∃c,x= .bl c/\Q (.bl$ !c) H1
def OQ{op}{t:TE}(h:PE X a t):PE X (.BoolOp op [a] pos) t:=λpins s σ H Q I hw=>BoolOp_one$ h pins s σ H Q I hw
def Oy(ha:PE X a ta)(hb:PE X (.BoolOp .And (b ::rest) pos) tb):PE X (.BoolOp .And (a ::b ::rest) pos) (Tc ta tb):=by
 intro pins s σ H Q I h;refine BoolOp_and$ cH (ha pins s σ H _ I h) λv s1 ⟨x,H1,I1,r1,q1⟩=>?_
 obtain⟨c,rfl,q1⟩:=q1;cases r1;refine Qbx ?_;cases c with
 | true=>exact hb pins s1 σ H1 Q I1 q1
 | false=>exact⟨.bl false,H1,I1,rfl,q1⟩
def RN(ha:PE X a ta)(hb:PE X (.BoolOp .Or (b ::rest) pos) tb):PE X (.BoolOp .Or (a ::b ::rest) pos) (VB ta tb):=by
 intro pins s σ H Q I h;refine BoolOp_or$ cH (ha pins s σ H _ I h) λv s1 ⟨x,H1,I1,r1,q1⟩=>?_
 obtain⟨c,rfl,q1⟩:=q1;cases r1;refine Qbx ?_;cases c with
 | false=>exact hb pins s1 σ H1 Q I1 q1
 | true=>exact⟨.bl true,H1,I1,rfl,q1⟩
def OO(ha:PE X a ta):PE X (.UnaryOp .Not a pos) (RT ta):=by
 intro pins s σ H Q I h;refine UnaryOp_$ cH (ha pins s σ H _ I h) λv s1 ⟨x,H1,I1,r1,q1⟩=>?_
 obtain⟨c,rfl,q1⟩:=q1;cases r1;exact not_of$ Qbx ⟨.bl$ !c,H1,I1,rfl,q1⟩
def tIf(t:TT)(ta tb:TE):TE:=λσ H Q=>t σ H λc H1=>if c=true then ta σ H1 Q else tb σ H1 Q
end
def oZ(K:QcQ)(H:Hp)(a:Addr)(xs:List V):Prop:=
 Rd H a (.lst xs)\/
  ∃(o:Obj) (its:Array Value) (n:Nat),K.lookup a=some o/\o.cls= .type "list"/\o.dict=none/\o.data= .seq its n/\its.size<=sizeLine/\Vals xs its.toList
def sR(K:QcQ)(H:Hp)(a:Addr)(xs:List V):Prop:=
 Rd H a (.tup xs)\/
  ∃(o:Obj) (its:Array Value) (n:Nat),K.lookup a=some o/\o.cls= .type "tuple"/\o.data= .seq its n/\its.size<=sizeLine/\Vals xs its.toList
def Wt:Value->Option V
 | .none=>some .cM
 | .bool b=>some$ .bl b
 | .int i _=>some$ .int i
 | .str x _=>some$ .str x
 | .bytes b _=>some$ .byt b
 | .float b _=>some$ .flt b
 | .ref a=>some$ .ref a
 | .type n=>some$ .ty n
 | _=>none
def RelV.abs{x:V}{u:Value}(r:RelV x u):Wt u=some x:=by
 cases x with
 | cM=>cases r;rfl
 | bl _=>cases r;rfl
 | int _=>obtain⟨t,rfl⟩:=r;rfl
 | str _=>obtain⟨t,rfl⟩:=r;rfl
 | byt _=>obtain⟨t,rfl⟩:=r;rfl
 | flt _=>obtain⟨t,rfl⟩:=r;rfl
 | ref _=>cases r;rfl
 | ty _=>cases r;rfl
def RelV.inj{x y:V}{u:Value}(r:RelV x u)(q:RelV y u):x=y:=QaW$ r.abs.symm.trans q.abs
theorem Vals.inj:∀{xs ys:List V} {us:List Value},Vals xs us->Vals ys us->xs=ys
 | _,_,_, .nil, .nil=>rfl
 | _,_,_, .cons r t, .cons r' t'=>by rw[r.inj r',Vals.inj t t']
section
variable {X:Cx}{pins:Aaa}{σ:St}{H:Hp}{s:QcR}{a:Addr}{xs ys:List V}
def oZ.of{K:QcQ}(h:H a=some (.lst xs)):oZ K H a xs:= .inl$ .inl h
def Inv.list(I:Inv X pins σ H s)(h:oZ X.K H a xs):∃its:List Value,Vals xs its/\PlainL s.heap a its.toArray/\xs.length<=sizeLine:=by
 rcases h with h | ⟨o,its,n,hk,hc,hd,hs,hz,r⟩
 .obtain⟨z,its,n,r,e⟩:=h.ok I.hok;exact⟨its,r,⟨_,n,e,rfl,rfl,rfl⟩,z⟩
 .refine⟨its.toList,r,⟨o,n,I.yd a o hk,hc,hd,by simpa using hs⟩,?_⟩
  have e:=r.length;simp only[Qa4] at e;omega
def Inv.tuple(I:Inv X pins σ H s)(h:sR X.K H a xs):∃its:List Value,Vals xs its/\IsTup s.heap a its.toArray/\xs.length<=sizeLine:=by
 rcases h with h | ⟨o,its,n,hk,hc,hs,hz,r⟩
 .obtain⟨z,its,r,p⟩:=h.ok I.hok;exact⟨its,r,p,z⟩
 .refine⟨its.toList,r,⟨o,I.yd a o hk,hc,n,by simpa using hs⟩,?_⟩
  have e:=r.length;simp only[Qa4] at e;omega
def Inv.zW(I:Inv X pins σ H s)(h:oZ X.K H a xs)(h':oZ X.K H a ys):xs=ys:=by
 obtain⟨its,r,⟨o,n,e,_,_,d⟩,_⟩:=I.list h;obtain⟨its',r',⟨o',n',e',_,_,d'⟩,_⟩:=I.list h';rw[e] at e';cases e';rw[d] at d';injection d' with d1 _
 have:its=its':=by simpa using Qbs Array.toList d1
 subst this;exact r.inj r'
def Inv.ET(I:Inv X pins σ H s)(h:sR X.K H a xs)(h':sR X.K H a ys):xs=ys:=by
 obtain⟨its,r,⟨o,e,_,n,d⟩,_⟩:=I.tuple h;obtain⟨its',r',⟨o',e',_,n',d'⟩,_⟩:=I.tuple h';rw[e] at e';cases e';rw[d] at d';injection d' with d1 _
 have:its=its':=by simpa using Qbs Array.toList d1
 subst this;exact r.inj r'
end
abbrev Cx.xf(X:Cx)(E:Aab):Cx:={X with xe:=E}
abbrev Cx.HQ(X:Cx):Cx:=X.xf fun _ _=>False
def Cx.Ok.xf{X:Cx}(ok:X.Ok)(E:Aab):(X.xf E).Ok:=
 ⟨ok.mod,ok.kind,ok.glob,ok.blt,ok.above,ok.inj,ok.has,ok.cab,ok.hd,ok.frames,ok.stk,ok.exf,ok.bs,ok.bsz,ok.noex,ok.exfs,ok.r9,ok.frf⟩
def Cx.Ok.o8{X:Cx}{E:Aab}(ok:(X.xf E).Ok):X.Ok:=
 ⟨ok.mod,ok.kind,ok.glob,ok.blt,ok.above,ok.inj,ok.has,ok.cab,ok.hd,ok.frames,ok.stk,ok.exf,ok.bs,ok.bsz,ok.noex,ok.exfs,ok.r9,ok.frf⟩
section
variable {X:Cx}{pins:Aaa}{σ:St}{H:Hp}{s:QcR}{E:Aab}
def Inv.xf(I:Inv X pins σ H s)(E:Aab):Inv (X.xf E) pins σ H s:=⟨I.ok.xf E,I.os,I.bare,I.base,I.loc,I.cell,I.free,I.freeC,I.pin,I.hok,I.len⟩
def Inv.o8(I:Inv (X.xf E) pins σ H s):Inv X pins σ H s:=⟨I.ok.o8,I.os,I.bare,I.base,I.loc,I.cell,I.free,I.freeC,I.pin,I.hok,I.len⟩
def SP.o8{D:Ends}{f:Flow}{s':QcR}(h:SP (X.xf E) pins D f s'):SP X pins D f s':=by
 cases f with
 | next=>obtain⟨cu,H',I,q⟩:=h;exact⟨cu,H',I.o8,q⟩
 | brk=>obtain⟨cu,H',I,q⟩:=h;exact⟨cu,H',I.o8,q⟩
 | cont=>obtain⟨cu,H',I,q⟩:=h;exact⟨cu,H',I.o8,q⟩
 | ret u=>obtain⟨v,cu,H',I,r,q⟩:=h;exact⟨v,cu,H',I.o8,r,q⟩
def yI.HQ{st:List Stmt}{t:TS}(h:yI X.HQ st t):yI X st t:=λpins s σ H D I hw=>
 QbP (h pins s σ H D (I.xf _) hw) (λ_ _ q=>q.o8) λ_ _ z=>False.elim z
end
section
variable {X:Cx}{st:Stmt}{rest:List Stmt}{t u:TS}{e:Expr}{te:TE}{pos:Pos}
def SK:TS:=λD σ H=>D.nx σ H
def SR(t u:TS):TS:=λD σ H=>t {D with nx:=u D} σ H
def zg:yI X [] SK:=λ_ _ σ H _ I h=>Qcr ⟨σ,H,I,h⟩
def v_(h1:PS X st t)(h2:yI X rest u):yI X (st ::rest) (SR t u):=by
 intro pins s σ H D I h;refine wpAny_execs_cons$ cH (h1 pins s σ H {D with nx:=u D} I h) λf s1 q=>?_
 cases f with
 | next=>
   obtain⟨cu,H',I',q⟩:=q;exact h2 pins s1 cu H' D I' q
 | ret v=>exact q
 | brk=>exact q
 | cont=>exact q
def yF(h1:PS X st t):yI X [st] t:=by
 intro pins s σ H D I h;refine wpAny_execs_cons$ cH (h1 pins s σ H D I h) λf s1 q=>?_
 cases f with
 | next=>exact Qcr q
 | ret v=>exact q
 | brk=>exact q
 | cont=>exact q
def WW:TS:=λD σ H=>D.bk σ H
def ZQ:TS:=λD σ H=>D.ct σ H
def Inv.quiet{pins:Aaa}{s:QcR}(I:Inv X pins σ H s):interactive X.env=false:=by simp [interactive,I.ok.kind]
def Tq(te:TE):TS:=λD σ H=>te σ H λ_ H1=>D.nx σ H1
def rK(he:PE X e te)(hs:swapsWith e none pos.line X.env=pure false:=by rfl):PS X (.Expr e pos) (Tq te):=by
 intro pins s σ H D I h;exact wpAny_Expr_any (cH (he pins s σ H _ I h) λv s1 ⟨x,H1,I1,r1,q1⟩=>⟨σ,H1,I1,q1⟩) I.quiet hs
def WT(te:TE):TS:=λD σ H=>te σ H D.rt
def Jz(he:PE X e te):PS X (.Return (some e) pos) (WT te):=by
 intro pins s σ H D I h;exact wpAny_Return_some$ cH (he pins s σ H _ I h) λv s1 ⟨x,H1,I1,r1,q1⟩=>⟨x,σ,H1,I1,r1,q1⟩
def ZT:TS:=λD _ H=>D.rt .cM H
def TQ(c:TT)(t u:TS):TS:=λD σ H=>c σ H λb H1=>if b=true then t D σ H1 else u D σ H1
def IM{tc:TT}(hc:PT X c tc)(ha:yI X a t)(hb:yI X b u):PS X (.If c a b pos) (TQ tc t u):=by
 intro pins s σ H D I h;refine wpAny_If$ cH (hc pins s σ H _ I h) λd s1 ⟨H1,I1,q1⟩=>?_
 cases d with
 | true=>exact ha pins s1 σ H1 D I1 q1
 | false=>exact hb pins s1 σ H1 D I1 q1
def Wh:TS:=λ_ _ _=>False
end
abbrev TG:=V->St->Hp->(St->Hp->Prop)->Prop
abbrev Jr:=List V->St->Hp->(St->Hp->Prop)->Prop
def PG(X:Cx)(target:Expr)(t:TG):Prop:=
 ∀(pins:Aaa) (s:QcR) (σ:St) (H:Hp) (v:V) (u:Value) (Q:St->Hp->Prop),Inv X pins σ H s->RelV v u->t v σ H Q->
  wpAny (model X.prog X.w) X.A (assign target X.env u) (λ_ s'=>∃cu H',Inv X pins cu H' s'/\Q cu H') X.xe s
def Mf(X:Cx)(ts:List Expr)(t:Jr):Prop:=
 ∀(pins:Aaa) (s:QcR) (σ:St) (H:Hp) (vs:List V) (us:List Value) (Q:St->Hp->Prop),Inv X pins σ H s->Vals vs us->t vs σ H Q->
  wpAny (model X.prog X.w) X.A (assignInOrder ((assignEach ts X.env).map (·.2)) us) (λ_ s'=>∃cu H',Inv X pins cu H' s'/\Q cu H') X.xe s
abbrev Le:=V->V->V->Hp->(Hp->Prop)->Prop
def R_(X:Cx)(t:Le):Prop:=
 ∀(pins:Aaa) (s:QcR) (σ:St) (H:Hp) (o i v:V) (ov iv u:Value) (Q:Hp->Prop),Inv X pins σ H s->RelV o ov->RelV i iv->RelV v u->t o i v H Q->
  wpAny (model X.prog X.w) X.A (setItem ov iv u) (λ_ s'=>∃H',Inv X pins σ H' s'/\Q H') X.xe s
abbrev UI:=V->V->Hp->VK->Prop
def PIp(X:Cx)(op:Operator)(t:UI):Prop:=
 ∀(pins:Aaa) (s:QcR) (σ:St) (H:Hp) (x y:V) (v u:Value) (Q:VK),Inv X pins σ H s->RelV x v->RelV y u->t x y H Q->
  wpAny (model X.prog X.w) X.A (inplaceOp op v u) (EP X pins σ Q) X.xe s
section
variable {X:Cx}{pos:Pos}
def wb(i:Nat):TG:=λv σ H Q=>Q (σ.set i$ some v) H
def DB{i:Nat}(hN:X.N.Nodup)(hi:X.N[i]? =some x)(hx:Loc X.env.scope x)(hf:X.fn x=true\/X.env.scope.names.lookup x=some .local:=by first | exact .inl rfl | exact .inr rfl | assumption):PG X (.Name x pos) (wb i):=by
 intro pins s σ H v u Q I r h;exact wpAny_assign_Name$ vF I hN hi hx r (λs' I'=>⟨_,H,I',h⟩) hf
def VL:Jr:=λvs σ H Q=>vs=[]/\Q σ H
def R6(t:TG)(u:Jr):Jr:=λvs σ H Q=>∃v r,vs=v ::r/\t v σ H λcu H'=>u r cu H' Q
def Eb:Mf X [] VL:=by
 intro pins s σ H vs us Q I r h;obtain⟨e,h⟩:=h;subst e;cases r;exact assignInOrder_nil ⟨σ,H,I,h⟩
def Ax{e:Expr}{es:List Expr}{t:TG}{u:Jr}(h1:PG X e t)(h2:Mf X es u)
 (hs:(assignEach (e ::es) X.env).map (·.2)=assign e X.env ::(assignEach es X.env).map (·.2):=by rfl):Mf X (e ::es) (R6 t u):=by
 intro pins s σ H vs us Q I r h;obtain⟨v,vr,e1,h⟩:=h;subst e1;cases r with
 | cons r rr=>
   rw[hs];refine assignInOrder_cons$ cH (h1 pins s σ H _ _ _ I r h) λ_ s1 ⟨QQ,H1,I1,q1⟩=>?_
   exact h2 pins s1 QQ H1 _ _ Q I1 rr q1
def Wk(K:QcQ)(n:Nat)(t:Jr):TG:=λv σ H Q=>∃a xs,v= .ref a/\sR K H a xs/\xs.length=n/\t xs σ H Q
def JE{es:List Expr}{k:Nat}{t:Jr}{n:Nat}(hc:X.calm=true)(h:Mf X es t)
 (hn:(assignEach es X.env).length=n:=by rfl) (xA:(assignEach es X.env).findIdx? (·.1)=none:=by rfl):PG X (.Tuple es k pos) (Wk X.K n t):=by
 intro pins s σ H v u Q I r hw;obtain⟨a,xs,e1,hq,hl,hw⟩:=hw;subst e1;cases r;obtain⟨its,rv,ht,hz⟩:=I.tuple hq;refine assign_Tuple_tuple (I.ok.hd hc) ht (by simp [hn,<-hl,rv.length]) xA λh' hx=>?_
 have I1:Inv X pins σ H {s with heap:=h'}:=I.kept (t':=s.toks) λb o e=>hx b o (QaR$ QaA e) e
 exact h pins _ σ H xs _ Q I1 (by simpa using rv) hw
def Uc(to ti:TE)(t:Le):TG:=λv σ H Q=>to σ H λo H1=>ti σ H1 λi H2=>t o i v H2 λH3=>Q σ H3
def yz{o i:Expr}{to ti:TE}{t:Le}(ho:PE X o to)(hi:PE X i ti)(hs:R_ X t)
 (ha:∀v,assign (.Subscript o i pos) X.env v=(do
   let ov <-holding [v] (eval o X.env)
   let iv <-holding [v,ov] (eval i X.env)
   standAt pos
   holding [v,ov,iv] (setItem ov iv v)
   release [v,ov,iv] []):=by intro _;rfl):PG X (.Subscript o i pos) (Uc to ti t):=by
 intro pins s σ H v u Q I r h;rw[ha];refine Qaw$ Qb6$ cH (ho pins s σ H _ I h) λov s1 ⟨x,H1,I1,r1,q1⟩=>?_
 refine Qaw$ Qb6$ cH (hi pins s1 σ H1 _ I1 q1) λiv s2 ⟨y,H2,I2,r2,q2⟩=>?_
 refine Qaw$ wpAny_standAt$ Qaw$ Qb6$ cH (hs pins s2 σ H2 x y v ov iv u _ I2 r1 r2 r q2) λ_ s3 ⟨H3,I3,q3⟩=>?_
 exact wpAny_release ⟨σ,H3,I3,q3⟩
def F1(te:TE)(g:TG):TS:=λD σ H=>te σ H λx H1=>g x σ H1 D.nx
def Hu{tg e:Expr}{te:TE}{g:TG}(he:PE X e te)(hg:PG X tg g)(hs:swapsWithSole [tg] e pos.line X.env=pure false:=by rfl)(hw:swappedStores [tg] e X.env=pure none:=by rfl)
 (h1:(assignEach [tg] X.env).map (·.2)=[assign tg X.env]:=by rfl):PS X (.Assign [tg] e pos) (F1 te g):=by
 intro pins s σ H D I h;refine wpAny_Assign_stores (cH (he pins s σ H _ I h) λv s1 ⟨x,H1,I1,r1,q1⟩=>?_) hs hw
 rw[h1];exact cH (hg pins s1 σ H1 x v _ I1 r1 q1) λ_ s2 q=>q
def Co{i:Nat}{te:TE}(hN:X.N.Nodup)(hi:X.N[i]? =some x)(hx:Loc X.env.scope x)(he:PE X e te)(hs:swapsWith e (some$ .Name x pos') pos.line X.env=pure false:=by rfl)(hf:X.fn x=true\/X.env.scope.names.lookup x=some .local:=by first | exact .inl rfl | exact .inr rfl | assumption) :
 PS X (.Assign [.Name x pos'] e pos) (F1 te$ wb i):=by
 intro pins s σ H D I h;refine wpAny_Assign_Name (cH (he pins s σ H _ I h) λv s1 ⟨y,H1,I1,r1,q1⟩=>?_) hs
 exact vF I1 hN hi hx r1 (λs2 I2=>⟨_,H1,I2,q1⟩) hf
def acs(i j:Nat)(ta:TA):TS:=λD σ H=>ta σ H λvs H1=>∃v w,vs=[v,w]/\D.nx ((σ.set i$ some v).set j$ some w) H1
def aaT(i:Nat)(te:TE)(ti:UI):TS:=λD σ H=>∃x,σ[i]? =some (some x)/\te σ H λy H1=>ti x y H1 λz H2=>D.nx (σ.set i$ some z) H2
def Y_(to ti te:TE)(XR:V->V->Hp->VK->Prop)(tip:UI)(YV:Le):TS:=λD σ H=>to σ H λo H1=>ti σ H1 λi H2=>XR o i H2 λx H3=>te σ H3 λy H4=>tip x y H4 λz H5=>YV o i z H5 λH6=>D.nx σ H6
def acb(X:Cx)(t:V->V->Hp->VK->Prop):Prop:=
 ∀(pins:Aaa) (s:QcR) (σ:St) (H:Hp) (o i:V) (ov iv:Value) (Q:VK),Inv X pins σ H s->RelV o ov->RelV i iv->t o i H Q->
  wpAny (model X.prog X.w) X.A (getItem ov iv) (EP X pins σ Q) X.xe s
def ipI(f:Int->Int->Int):UI:=λx y H Q=>∃i j,x= .int i/\y= .int j/\Q (.int$ f i j) H
end
section
def V4(c:TT)(tb:TS):TS:=λD σ H=>∃W:Nat->St->Hp->Prop,(∃m,W m σ H)/\∀m σ H,W m σ H->
 c σ H λb H1=>if b=true then ∃N:St->Hp->Prop,(∀cu H',N cu H'->∃m',m'<m/\W m' cu H')/\tb {D with nx:=N,ct:=N,bk:=D.nx} σ H1 else D.nx σ H1
end
structure It where
 go:Nat->Hp->Prop
 yld:Nat->Hp->V->Hp->Prop
 stop:Nat->Hp->Prop
def uH(X:Cx)(pins:Aaa)(H:Hp)(b:Addr):Prop:=
 H b=none/\b≠X.env.locals/\b ∉ X.fs/\(b∈X.ex\/X.s₀.heap.objs.size<=b)/\(∀x c,X.env.cells.lookup x=some c->c≠b)/\∀p∈X.pn++pins,p.1≠b
def Inv.BV{X:Cx}{pins:Aaa}{H H':Hp}{s:QcR}{b:Addr}(I:Inv X pins σ H s)(hb:s.heap.objs.size<=b)(hn:H' b=none):uH X pins H' b:=by
 refine⟨hn,Nat.ne_of_gt$ Qas I.lt hb,I.Xf hb, .inr$ QaK I.sz hb,λx c e z=>?_,λp hp z=>?_⟩
 .obtain⟨v,q⟩:=I.cell x c e;exact absurd (Qas q.lt$ by rw[z];exact hb)$ Qbr _
 .exact absurd (Qas (QaA (I.pin p hp).1)$ by rw[z];exact hb) (Qbr _)
structure Turn (P:Program) (w:World) (K:QcQ) (tg:Expr) (J:It) (fp:List Addr) (it:Addr) (tn:Nat->Heap->Prop):Prop where
 mem:it∈fp
 obj:∀i h,tn i h->∀b∈fp,∃o,h.get? b=some o/\∀v,o.data≠ .cell v
 keep:∀i h h',tn i h->(∀b∈fp,∀o,h.get? b=some o->h'.get? b=some o)->tn i h'
 item:∀(X:Cx),X.prog=P->X.w=w->X.K=K->X.calm=true->∀(i:Nat) (pins:Aaa) (s:QcR) (σ:St) (H:Hp) (E:Aab),Inv X pins σ H s->(∀b∈fp,uH X pins H b)->tn i s.heap->J.go i H->
  wpAny (model P w) X.A (pyNext (.ref it)) (fun r s1=>∃u,r=some u/\
   wpAny (model P w) X.A (letOwnedTupleGo tg (.ref it) u) (fun _ s2=>∃x H',Inv X pins σ H' s2/\RelV x u/\J.yld i H x H'/\tn (i+1) s2.heap/\∀b∈fp,H' b=none) E s1) E s
 done:∀(X:Cx),X.prog=P->X.w=w->X.K=K->X.calm=true->∀(i:Nat) (pins:Aaa) (s:QcR) (σ:St) (H:Hp) (E:Aab),Inv X pins σ H s->(∀b∈fp,uH X pins H b)->tn i s.heap->J.stop i H->
  wpAny (model P w) X.A (pyNext (.ref it)) (fun r s1=>r=none/\Inv X pins σ H s1) E s
 self:∀(A:Around) (i:Nat) (s:QcR) (Q:Aab) (E:Aab),tn i s.heap->Q (.ref it) s->wpAny (model P w) A (pyIter (.ref it)) Q E s
abbrev TI:=St->Hp->(It->Hp->Prop)->Prop
def ZM(X:Cx)(pins:Aaa)(σ:St)(tg:Expr)(R:It->Hp->Prop)(U6:Value)(s2:QcR):Prop:=
 ∃(it:Addr) (fp:List Addr) (tn:Nat->Heap->Prop) (J:It) (H':Hp),U6= .ref it/\Inv X pins σ H' s2/\Turn X.prog X.w X.K tg J fp it tn/\tn 0 s2.heap/\(∀b∈fp,uH X pins H' b)/\R J H'
def PI(X:Cx)(tg iter:Expr)(wi:TI):Prop:=
 ∀(pins:Aaa) (s:QcR) (σ:St) (H:Hp) (R:It->Hp->Prop),Inv X pins σ H s->wi σ H R->
  wpAny (model X.prog X.w) X.A (eval iter X.env) (λv s1=>wpAny (model X.prog X.w) X.A (pyIter v) (ZM X pins σ tg R) X.xe s1) X.xe s
def Ei{M:Model}{A:Around}{E:Aab}{s:QcR}{tg:Expr}{it:Addr}{u:Value}{o:Obj}{n:String}{vs:Array Value}{Q:Unit->QcR->Prop}(ho:s.heap.get? it=some o)(hc:o.cls= .type n)(hd:o.data= .fields vs)
 (hn:["enumerate","zip","dict_itemiterator","dict_reverseitemiterator","odict_iterator","itertools.zip_longest","itertools.pairwise"].contains n=false) (hQ:Q () s):wpAny M A (letOwnedTupleGo tg (.ref it) u) Q E s:=by
 unfold letOwnedTupleGo;cases tg <;> first
  | exact QaX hQ
  | (cases u <;> first
      | exact QaX hQ
      | (refine Qaw (wpAny_load ho ?_)
         rw[hc,hd];show wpAny M A (if(["enumerate","zip","dict_itemiterator","dict_reverseitemiterator","odict_iterator","itertools.zip_longest","itertools.pairwise"].contains n && vs[0]? ==some (rawInt _))=true then _ else _) Q E s
         rw[Qaj$ by intro h;rw [hn,Bool.false_and] at h;cases h]
         exact QaX hQ))
def ZE(K:QcQ)(a:Addr):It:=
 ⟨λi H=>∃xs x,oZ K H a xs/\xs[i]? =some x,λi H x H'=>H'=H/\∀xs,oZ K H a xs->xs[i]? =some x,λi H=>∃xs,oZ K H a xs/\xs.length<=i⟩
def ZD(K:QcQ)(a:Addr):It:=
 ⟨λi H=>∃xs x,sR K H a xs/\xs[i]? =some x,λi H x H'=>H'=H/\∀xs,sR K H a xs->xs[i]? =some x,λi H=>∃xs,sR K H a xs/\xs.length<=i⟩
def Ua(lo:Int)(n:Nat):It:=⟨λi _=>i<n,λi H x H'=>H'=H/\x= .int (lo+i),λi _=>n<=i⟩
def Gj{K:QcQ}(a it:Addr):Turn P w K tg (ZE K a) [it] it (λi h=>h.IsListIter it a i) where
 mem:=by simp
 obj:=λi h st b hb=>by
  have e:b=it:=by simpa using hb
  subst e;obtain⟨o,e,c,d⟩:=st;exact⟨o,e,λv z=>by rw[d] at z;cases z⟩
 keep:=λi h h' st k=>st.at λo e=>k it (by simp) o e
 item:=by
  intro X hP hw hK hc i pins s σ H E I hf st hg;subst hP hw hK;obtain⟨xs,x,hq,hx⟩:=hg;obtain⟨its,rv,p,hz⟩:=I.list hq;obtain⟨u,hu,ru⟩:=rv.get hx;obtain⟨f0,f1,f2,f3,f4,f5⟩:=hf it (by simp)
  refine wpAny_pyNext_list_item st p.isList (x:=u) (by simpa using hu) λh' JP sb=>?_
  have I1:Inv X pins σ H {s with heap:=h'}:=I.turned (t':=s.toks) (λb o hb e=>(sb.2 b hb).trans e) f0 f1 f3 f4 f5
  obtain⟨o,e,c,d⟩:=id JP;exact⟨u,rfl,Ei (s:={s with heap:=h'}) e c d (by decide) ⟨x,H,I1,ru,⟨rfl,λys hy=>by rw[I.zW hy hq];exact hx⟩,JP,λb hb=>(hf b hb).1⟩⟩
 done:=by
  intro X hP hw hK hc i pins s σ H E I hf st hg;subst hP hw hK;obtain⟨xs,hq,hx⟩:=hg;obtain⟨its,rv,p,hz⟩:=I.list hq;obtain⟨f0,f1,f2,f3,f4,f5⟩:=hf it (by simp)
  have hl:=rv.length;exact wpAny_pyNext_list_end (I.ok.hd hc) st p.isList (by simp;omega) λh' eb=>⟨rfl,I.turned (t':=s.toks) (λb o hb e=>eb b o hb e) f0 f1 f3 f4 f5⟩
 self:=λ_ _ _ _ _ st h=>wpAny_pyIter_listiter st h
def B7{K:QcQ}(a it:Addr):Turn P w K tg (ZD K a) [it] it (λi h=>h.IsTupleIter it a i) where
 mem:=by simp
 obj:=λi h st b hb=>by
  have e:b=it:=by simpa using hb
  subst e;obtain⟨o,e,c,d⟩:=st;exact⟨o,e,λv z=>by rw[d] at z;cases z⟩
 keep:=λi h h' st k=>st.at λo e=>k it (by simp) o e
 item:=by
  intro X hP hw hK hc i pins s σ H E I hf st hg;subst hP hw hK;obtain⟨xs,x,hq,hx⟩:=hg;obtain⟨its,rv,p,hz⟩:=I.tuple hq;obtain⟨u,hu,ru⟩:=rv.get hx;obtain⟨f0,f1,f2,f3,f4,f5⟩:=hf it (by simp)
  refine wpAny_pyNext_tuple_item st (show s.heap.IsTuple a its.toArray from p) (x:=u) (by simpa using hu) λh' JP sb=>?_
  have I1:Inv X pins σ H {s with heap:=h'}:=I.turned (t':=s.toks) (λb o hb e=>(sb.2 b hb).trans e) f0 f1 f3 f4 f5
  obtain⟨o,e,c,d⟩:=id JP;exact⟨u,rfl,Ei (s:={s with heap:=h'}) e c d (by decide) ⟨x,H,I1,ru,⟨rfl,λys hy=>by rw[I.ET hy hq];exact hx⟩,JP,λb hb=>(hf b hb).1⟩⟩
 done:=by
  intro X hP hw hK hc i pins s σ H E I hf st hg;subst hP hw hK;obtain⟨xs,hq,hx⟩:=hg;obtain⟨its,rv,p,hz⟩:=I.tuple hq;obtain⟨f0,f1,f2,f3,f4,f5⟩:=hf it (by simp)
  have hl:=rv.length;exact wpAny_pyNext_tuple_end (I.ok.hd hc) st (show s.heap.IsTuple a its.toArray from p) (by simp;omega) λh' eb=>⟨rfl,I.turned (t':=s.toks) (λb o hb e=>eb b o hb e) f0 f1 f3 f4 f5⟩
 self:=λ_ _ _ _ _ st h=>wpAny_pyIter_tupleiter st h
def BF{K:QcQ}(it:Addr)(lo:Int)(n:Nat):Turn P w K tg (Ua lo n) [it] it (λi h=>IsRangeIter h it (lo+(i:Nat)*1) ((n:Int) - (i:Nat)) 1) where
 mem:=by simp
 obj:=λi h st b hb=>by
  have e:b=it:=by simpa using hb
  subst e;exact⟨_,st,λv z=>by
   have z':Data.fields _=Data.cell v:=z;cases z'⟩
 keep:=λi h h' st k=>k it (by simp) _ st
 item:=by
  intro X hP hw hK hc i pins s σ H E I hf st hg;subst hP hw hK;obtain⟨f0,f1,f2,f3,f4,f5⟩:=hf it (by simp)
  have W:=Walks.range (prog:=X.prog) (w:=X.w) (I.ok.hd hc) it lo 1 n;refine W.item i s _ _ hg st λv h' tk hv JP kk=>?_
  obtain⟨t,rfl⟩:=hv;have I1:Inv X pins σ H {s with heap:=h',toks:=tk}:=I.turned (λb o hb e=>kk b o (by simpa using hb) e) f0 f1 f3 f4 f5
  refine⟨_,rfl,Ei (s:={s with heap:=h',toks:=tk}) (n:="range_iterator") JP rfl rfl (by decide) ⟨.int$ lo+i,H,I1,⟨t,?_⟩,⟨rfl,rfl⟩,JP,λb hb=>(hf b hb).1⟩⟩
  rw[Int.mul_one]
 done:=by
  intro X hP hw hK hc i pins s σ H E I hf st hg;subst hP hw hK;obtain⟨f0,f1,f2,f3,f4,f5⟩:=hf it (by simp)
  exact wpAny_pyNext_range_end (I.ok.hd hc) st (by have:n<=i:=hg;omega) λh' eb=>⟨rfl,I.turned (t':=s.toks) (λb o hb e=>eb b o hb e) f0 f1 f3 f4 f5⟩
 self:=λ_ _ _ _ _ st h=>wpAny_pyIter_rangeiter st h
section
variable {X:Cx}{tg:Expr}
def Y9(K:QcQ)(tl:TE):TI:=λσ H R=>tl σ H λx H1=>∃a,x= .ref a/\(∃xs,oZ K H1 a xs)/\R (ZE K a) H1
def Wb(K:QcQ)(tl:TE):TI:=λσ H R=>tl σ H λx H1=>∃a,x= .ref a/\(∃xs,sR K H1 a xs)/\R (ZD K a) H1
def Ig{pins:Aaa}{σ:St}{H:Hp}{s:QcR}{R:It->Hp->Prop}{E:Aab}{lo hi:Int}{t u v:Tok}{tk:Nat}(I:Inv X pins σ H s)(h1: -(2 ^ 62)<=lo)(h2:lo<2 ^ 62)(h3: -(2 ^ 62)<=hi)(h4:hi<2 ^ 62)
 (q:R (Ua lo (hi - lo).toNat) H):wpAny (model X.prog X.w) X.A (pyIter$ .ref s.heap.objs.size) (ZM X pins σ tg R) E {s with heap:=s.heap.push {cls:= .type "range",data:= .fields #[.int lo t, .int hi u, .int 1 v]},toks:=tk}:=by
 refine wpAny_pyIter_range (IsRange.new ..) (small_one h1 h2 h3 h4) ?_;have I1:Inv X pins σ H {s with heap:=s.heap.push {cls:= .type "range",data:= .fields #[.int lo t, .int hi u, .int 1 v]},toks:=tk}:=I.kept λb o e=>Qau _ e
 refine⟨(s.heap.push {cls:= .type "range",data:= .fields #[.int lo t, .int hi u, .int 1 v]}).objs.size,[(s.heap.push {cls:= .type "range",data:= .fields #[.int lo t, .int hi u, .int 1 v]}).objs.size],_,_,H,rfl,
  I1.kept (t':=tk) λb o e=>Qau _ e,BF _ lo (hi - lo).toNat,?_,λb hb=>?_,q⟩
 .have e1:lo+((0:Nat):Int)*1=lo:=by simp
  have e2:(((hi - lo).toNat:Nat):Int) - ((0:Nat):Int)=Builtin.Range.rangeSize lo hi 1:=by rw[rangeSize_one];split <;> omega
  show IsRangeIter _ _ (lo+((0:Nat):Int)*1) ((((hi - lo).toNat:Nat):Int) - ((0:Nat):Int)) 1;rw[e1,e2];exact QaY _ rfl
 .have e:b=(s.heap.push {cls:= .type "range",data:= .fields #[.int lo t, .int hi u, .int 1 v]}).objs.size:=by simpa using hb
  subst e;exact I1.BV (Qak _)$ I1.hok.fresh$ Qak _
def Ni(ta:TA):TI:=λσ H R=>ta σ H λvs H1=>∃j:Int,vs=[.int j]/\ -(2 ^ 62)<=j/\j<2 ^ 62/\R (Ua 0 j.toNat) H1
def Zj(ta:TA):TI:=λσ H R=>ta σ H λvs H1=>∃i j:Int,vs=[.int i, .int j]/\(-(2 ^ 62)<=i/\i<2 ^ 62/\ -(2 ^ 62)<=j/\j<2 ^ 62)/\R (Ua i (j - i).toNat) H1
def Fb{ta:TA}{p pos:Pos}(hg:Gl X "range")(hm:X.mg "range"=none)(ha:PA X [a] ta)(hs:starEach [a] X.env=[(false,eval a X.env)]:=by rfl):PI X tg (.Call (.Name "range" p) [a] [] pos) (Ni ta):=by
 intro pins s σ H R I h;refine Call_$ uY I hg hm boot_range$ QbW (cH (ha pos pins s σ H _ I h) λus s1 ⟨vs,H1,I1,r1,q1⟩=>?_) hs rfl
 obtain⟨j,e,q1,q2,q⟩:=q1;subst e;cases r1 with
 | cons r rr=>
   cases rr;obtain⟨t,rfl⟩:=r;exact call_range_1 (Ig I1 (by omega) (by omega) q1 q2$ by simpa using q)
def Ww(wi:TI)(g:TG)(tb:TS):TS:=λD σ H=>wi σ H λJ H1=>∃W:Nat->Nat->St->Hp->Prop,(∃m,W 0 m σ H1)/\∀i m σ H,W i m σ H->
 (J.stop i H/\D.nx σ H)\/(J.go i H/\∃N:St->Hp->Prop,(∀cu H',N cu H'->∃m',m'<m/\W (i+1) m' cu H')/\∀x H',J.yld i H x H'->g x σ H' λwK H2=>tb {D with nx:=N,ct:=N,bk:=D.nx} wK H2)
def rg(fp:List Addr)(h:Heap):Aaa:=fp.filterMap λb=>(h.get? b).map λo=>(b,o)
def oh{fp:List Addr}{h:Heap}{b:Addr}{o:Obj}(hb:b∈fp)(e:h.get? b=some o):(b,o)∈rg fp h:=Qcd.mpr ⟨b,hb,by rw[e];rfl⟩
def E7{fp:List Addr}{h:Heap}{p:Addr × Obj}(hp:p∈rg fp h):p.1∈fp/\h.get? p.1=some p.2:=by
 obtain⟨b,hb,e⟩:=Qcd.mp hp;cases q:h.get? b with
 | none=>rw [q] at e;cases e
 | some o=>
   rw[q] at e;have e':(b,o)=p:=QaW e;subst e';exact⟨hb,q⟩
def Inv.pinned{pins:Aaa}{s:QcR}{fp:List Addr}(I:Inv X pins σ H s)(hf:∀b∈fp,uH X pins H b)(ho:∀b∈fp,∃o,s.heap.get? b=some o/\∀v,o.data≠ .cell v):Inv X (pins++rg fp s.heap) σ H s:=
 I.DI λp hp=>(Qaq.mp hp).elim (λz=>I.pin p$ QaU _ z) λz=>by
  obtain⟨hb,e⟩:=E7 z;obtain⟨f0,f1,f2,_⟩:=hf p.1 hb;obtain⟨o,e',d⟩:=ho p.1 hb;rw[e] at e';cases e';exact⟨e,f0,f1,f2,d⟩
def Inv.r_{pins pl:Aaa}{s:QcR}(I:Inv X (pins++pl) σ H s):Inv X pins σ H s:=I.DI λp hp=>I.pin p$ QaU _$ Qa7 _ hp
def BK{iter:Expr}{body:List Stmt}{wi:TI}{g:TG}{tb:TS}{pos:Pos}(hp:PassesOwn (model X.prog X.w) X.A X.env X.xe)(hc:X.calm=true)(hi:PI X tg iter wi)(hg:PG X tg g)(hb:yI X body tb)
 (hs:∀x,foldedSetIterable iter X.env x=pure x:=by intro _;rfl):PS X (.For tg iter body [] pos) (Ww wi g tb):=by
 intro pins s σ H D I h;refine wpAny_For (cH (hi pins s σ H _ I h) λv s1 h1=>cH h1 λU6 s2 h2=>?_) hs
 obtain⟨it,fp,tn,J,H2,e,I2,T,Qy,f2,W,⟨m0,w0⟩,turn⟩:=h2;subst e;have stat:∀{H':Hp},(∀b∈fp,H' b=none)->∀b∈fp,uH X pins H' b:=λhn b hb=>⟨hn b hb,(f2 b hb).2⟩
 refine codeAny_forLoop_any (λn s'=>∃i cu H',Inv X pins cu H' s'/\tn i s'.heap/\(∀b∈fp,H' b=none)/\W i n cu H') ?_ m0 ⟨0,σ,H2,I2,Qy,λb hb=>(f2 b hb).1,w0⟩
 rintro n s3 ⟨i,J_,H3,I3,Mt,Us,w3⟩;rcases turn i n J_ H3 w3 with⟨stop,qn⟩ | ⟨go,N,hN,step⟩
 .refine Qcb hp (cH (T.done X rfl rfl rfl hc i pins s3 J_ H3 X.xe I3 (stat Us) Mt stop) λr s4 ⟨hr,I4⟩=>?_)
  subst hr;exact Qcr ⟨J_,H3,I4,qn⟩
 .refine Qcb hp (cH (T.item X rfl rfl rfl hc i pins s3 J_ H3 X.xe I3 (stat Us) Mt go) λr s4 ⟨u,hr,h4⟩=>?_)
  subst hr;refine Qcb hp$ cH h4 λ_ s5 ⟨x,H5,I5,r5,y5,QR,Xm⟩=>?_
  have I5':=I5.pinned (stat Xm)$ T.obj _ _ QR;refine Qcb hp$ cH (hg _ s5 J_ H5 x u _ I5' r5$ step x H5 y5) λ_ s6 ⟨Ux,H6,I6,q6⟩=>?_
  refine Qcb hp$ cH (hb _ s6 Ux H6 _ I6 q6) λf s7 q7=>?_
  have again:∀{Br:St} {H7:Hp},Inv X (pins++rg fp s5.heap) Br H7 s7->N Br H7->∃m,m<n/\∃i cu H',Inv X pins cu H' s7/\tn i s7.heap/\(∀b∈fp,H' b=none)/\W i m cu H':=fun {Br H7} I7 n7=>by
   obtain⟨m',hm,w7⟩:=hN Br H7 n7;refine⟨m',hm,i+1,Br,H7,I7.r_,T.keep _ _ _ QR λb hb o e=>(I7.pin (b,o)$ QaU _$ QaU _$ oh hb e).1,λb hb=>?_,w7⟩
   obtain⟨o,e,d⟩:=T.obj _ _ QR b hb;exact(I7.pin (b,o)$ QaU _$ QaU _$ oh hb e).2.1
  cases f with
  | next=>obtain⟨Br,H7,I7,n7⟩:=q7;exact again I7 n7
  | cont=>obtain⟨Br,H7,I7,n7⟩:=q7;exact again I7 n7
  | brk=>obtain⟨Br,H7,I7,q7⟩:=q7;exact⟨Br,H7,I7.r_,q7⟩
  | ret v=>obtain⟨x7,Br,H7,I7,r7,q7⟩:=q7;exact⟨x7,Br,H7,I7.r_,r7,q7⟩
end
abbrev R2:=V->V->Hp->VK->Prop
def qq(X:Cx)(f:Value->Value->Sem Value)(r:R2):Prop:=
 ∀(pins:Aaa) (s:QcR) (σ:St) (H:Hp) (x y:V) (v u:Value) (Q:VK),Inv X pins σ H s->RelV x v->RelV y u->r x y H Q->
  wpAny (model X.prog X.w) X.A (f v u) (EP X pins σ Q) X.xe s
def Wc(X:Cx)(f:Value->Sem Value)(r:V->Hp->VK->Prop):Prop:=
 ∀(pins:Aaa) (s:QcR) (σ:St) (H:Hp) (x:V) (v:Value) (Q:VK),Inv X pins σ H s->RelV x v->r x H Q->
  wpAny (model X.prog X.w) X.A (f v) (EP X pins σ Q) X.xe s
def kL(X:Cx)(f:Value)(r:List V->Hp->VK->Prop):Prop:=
 ∀(pins:Aaa) (s:QcR) (σ:St) (H:Hp) (xs:List V) (us:List Value) (Q:VK),Inv X pins σ H s->Vals xs us->r xs H Q->
  wpAny (model X.prog X.w) X.A (call f us) (EP X pins σ Q) X.xe s
def VA(X:Cx)(r:V->Hp->(Bool->Hp->Prop)->Prop):Prop:=
 ∀(pins:Aaa) (s:QcR) (σ:St) (H:Hp) (x:V) (v:Value) (Q:Bool->Hp->Prop),Inv X pins σ H s->RelV x v->r x H Q->
  wpAny (model X.prog X.w) X.A (truthy v) (TP X pins σ Q) X.xe s
def Rj(r:R2)(ta tb:TE):TE:=λσ H Q=>ta σ H λx H1=>tb σ H1 λy H2=>r x y H2 Q
def tUn(r:V->Hp->VK->Prop)(ta:TE):TE:=λσ H Q=>ta σ H λx H1=>r x H1 Q
def rI(C:Int->Int->Prop)(g:Int->Int->V):R2:=λx y H Q=>∃i j,x= .int i/\y= .int j/\C i j/\Q (g i j) H
def JW(g:Int->Int->V):R2:=λx y H Q=>∃i j,x= .int i/\y= .int j/\Q (g i j) H
def rU(g:Int->V):V->Hp->VK->Prop:=λx H Q=>∃i,x= .int i/\Q (g i) H
section
variable {X:Cx}{a b:Expr}{ta tb:TE}{pos:Pos}
def Nx(ha:PE X a ta)(hb:PE X b tb){pins:Aaa}{s:QcR}{σ:St}{H:Hp}{R:V->V->Hp->Prop}(I:Inv X pins σ H s)
 (h:ta σ H λx H1=>tb σ H1 λy H2=>R x y H2) {Q:Aab} {f:Value->Value->Sem Value}
 (hf:∀v u s2 x y H2,Inv X pins σ H2 s2->RelV x v->RelV y u->R x y H2->wpAny (model X.prog X.w) X.A (f v u) Q X.xe s2) :
 wpAny (model X.prog X.w) X.A (eval a X.env) (λv s₁=>wpAny (model X.prog X.w) X.A (eval b X.env) (λu xx=>wpAny (model X.prog X.w) X.A (f v u) Q X.xe xx) X.xe s₁) X.xe s:=by
 refine cH (ha pins s σ H _ I h) λv s1 ⟨x,H1,I1,r1,q1⟩=>?_
 refine cH (hb pins s1 σ H1 _ I1 q1) λu s2 ⟨y,H2,I2,r2,q2⟩=>?_
 exact hf v u s2 x y H2 I2 r1 r2 q2
def IW{op:Operator}{r:R2}(ho:qq X (binaryOp op) r)(ha:PE X a ta)(hb:PE X b tb):PE X (.BinOp a op b pos) (Rj r ta tb):=by
 intro pins s σ H Q I h;exact wpAny_BinOp$ Nx ha hb I h λv u s2 x y H2 I2 rx ry q=>ho pins s2 σ H2 x y v u Q I2 rx ry q
def RP{op:UnaryOp}{r:V->Hp->VK->Prop}(ho:Wc X (unaryOp op) r)(ha:PE X a ta):PE X (.UnaryOp op a pos) (tUn r ta):=by
 intro pins s σ H Q I h;exact UnaryOp_$ cH (ha pins s σ H _ I h) λv s1 ⟨x,H1,I1,r1,q1⟩=>ho pins s1 σ H1 x v Q I1 r1 q1
def Ti{f:Value->Value->Sem Value}{C:Int->Int->Prop}{g:Int->Int->Int}
 (rule:∀(i j:Int) (t u:Tok) (s:QcR) (Q:Aab) (E:Aab),C i j->Q (.int (g i j) s.toks) {s with toks:=s.toks+1}->wpAny (model X.prog X.w) X.A (f (.int i t)$ .int j u) Q E s) :
 qq X f (rI C λi j=> .int$ g i j):=by
 intro pins s σ H x y v u Q I rx ry h;obtain⟨i,j,rfl,rfl,hc,q⟩:=h;obtain⟨t,rfl⟩:=rx;obtain⟨t',rfl⟩:=ry;exact rule i j t t' s _ _ hc ⟨.int$ g i j,H,I.tok _,⟨_,rfl⟩,q⟩
def Sf{f:Value->Value->Sem Value}{g:Int->Int->Int}
 (rule:∀(i j:Int) (t u:Tok) (s:QcR) (Q:Aab) (E:Aab),Q (.int (g i j) s.toks) {s with toks:=s.toks+1}->wpAny (model X.prog X.w) X.A (f (.int i t)$ .int j u) Q E s) :
 qq X f (JW λi j=> .int$ g i j):=by
 intro pins s σ H x y v u Q I rx ry h;obtain⟨i,j,rfl,rfl,q⟩:=h;obtain⟨t,rfl⟩:=rx;obtain⟨t',rfl⟩:=ry;exact rule i j t t' s _ _ ⟨.int$ g i j,H,I.tok _,⟨_,rfl⟩,q⟩
def Mo{f:Value->Value->Sem Value}{g:Int->Int->Bool}
 (rule:∀(i j:Int) (t u:Tok) (s:QcR) (Q:Aab) (E:Aab),Q (.bool$ g i j) s->wpAny (model X.prog X.w) X.A (f (.int i t)$ .int j u) Q E s) :
 qq X f (JW λi j=> .bl$ g i j):=by
 intro pins s σ H x y v u Q I rx ry h;obtain⟨i,j,rfl,rfl,q⟩:=h;obtain⟨t,rfl⟩:=rx;obtain⟨t',rfl⟩:=ry;exact rule i j t t' s _ _ ⟨.bl$ g i j,H,I,rfl,q⟩
def Vr(i j:Int):Prop:=0<j/\j<1073741824
def Zl(i j:Int):Prop:=j≠0/\j.natAbs<1073741824
def Vp(i j:Int):Prop:=0<=j/\j<=1000000/\i.natAbs<2 ^ 64
def Qw(i j:Int):Prop:=(-(2 ^ 64)<i/\i<2 ^ 64)\/(-(2 ^ 64)<j/\j<2 ^ 64)
def Qw.ok{i j:Int}(h:Qw i j):IntMulOk i j:=by
 rcases h with⟨h1,h2⟩ | ⟨h1,h2⟩
 .exact .of_left (intBits_le_64 h1 h2)
 .exact .of_right (intBits_le_64 h1 h2)
def Ct(k:Nat):(0:Int)<=2 ^ k:=by
 rw[two_pow_cast];exact Int.natCast_nonneg _
def N7:qq X (binaryOp .Add) (JW λi j=> .int$ i+j):=Sf λ_ _ _ _ _ _ _ q=>add_int q
def Ph:qq X (binaryOp .Sub) (JW λi j=> .int$ i - j):=Sf λ_ _ _ _ _ _ _ q=>sub_int q
def O4:qq X (binaryOp .Mult) (rI Qw λi j=> .int$ i*j):=Ti λ_ _ _ _ _ _ _ hc q=>mul_int q hc.ok
def Kj:qq X (binaryOp .FloorDiv) (rI Vr λi j=> .int$ i / j):=Ti λi j _ _ _ _ _ hc q=>by
 have h1:(0:Int)<j:=hc.1;have h2:j<1073741824:=hc.2;exact floordiv_int (by omega) (by rw[QcG i$ by omega];exact q) (.inl$ PyProof.noPylong_small$ by omega)
def Qj:qq X (binaryOp .Mod) (rI (λ_ j=>0<j) λi j=> .int$ i % j):=Ti λi j _ _ _ _ _ hc q=>by
 have h1:(0:Int)<j:=hc;exact mod_int' (by omega) (by rw[Int.fmod_eq_emod_of_nonneg i$ by omega];exact q)
def Pt:qq X (binaryOp .Pow) (rI Vp λi j=> .int$ i ^ j.toNat):=Ti λ_ _ _ _ _ _ _ hc q=>pow_int_small hc.1 hc.2.1 hc.2.2 q
def Qi:qq X (binaryOp .RShift) (rI (λ_ j=>0<=j) λi j=> .int$ i / 2 ^ j.toNat):=Ti λi j _ _ _ _ _ hc q=>
 rshift_int hc (by rw[QcG i$ Ct _];exact q)
def unI{f:Value->Sem Value}{g:Int->Int}
 (rule:∀(i:Int) (t:Tok) (s:QcR) (Q:Aab) (E:Aab),Q (.int (g i) s.toks) {s with toks:=s.toks+1}->wpAny (model X.prog X.w) X.A (f$ .int i t) Q E s) :
 Wc X f (rU λi=> .int$ g i):=by
 intro pins s σ H x v Q I rx h;obtain⟨i,rfl,q⟩:=h;obtain⟨t,rfl⟩:=rx;exact rule i t s _ _ ⟨.int$ g i,H,I.tok _,⟨_,rfl⟩,q⟩
def Pa:Wc X (unaryOp .USub) (rU λi=> .int (-i)):=unI λ_ _ _ _ _ q=>neg_int q
end
def S9:V->V->Bool
 | .cM, .cM=>true | .cM, .int _=>true | .int _, .cM=>true | .cM, .bl _=>true | .bl _, .cM=>true | .cM, .str _=>true | .str _, .cM=>true
 | .int _, .int _=>true | .bl _, .bl _=>true | .str _, .str _=>true | .byt _, .byt _=>true
 | .int _, .str _=>true | .str _, .int _=>true | .bl _, .str _=>true | .str _, .bl _=>true
 | _,_=>false
def rEq:R2:=λx y H Q=>S9 x y=true/\Q (.bl$ decide$ x=y) H
def rNe:R2:=λx y H Q=>S9 x y=true/\Q (.bl$ !decide (x=y)) H
def D3{i j:Int}:decide (V.int i=V.int j)=(i==j):=by
 rw[Qbp];simp
def Hy{i j:Bool}:decide (V.bl i=V.bl j)=(i==j):=by
 rw[Qbp];simp
def EJ:decide (V.str i=V.str j)=(i==j):=by
 rw[Qbp];simp
def DO{i j:Array UInt8}:decide (V.byt i=V.byt j)=(i.toList==j.toList):=by
 rw[Qbp];cases i;cases j;simp
section
variable {X:Cx}{a b c:Expr}{ta tb tc:TE}{pos:Pos}
def bY{pins:Aaa}{s:QcR}{Q:VK}{k k':Bool}(I:Inv X pins σ H s)(q:Q (.bl k) H)(e:k=k'):EP X pins σ Q (.bool k') s:=by
 subst e;exact⟨.bl k,H,I,rfl,q⟩
def Ik:qq X (compareOp .Eq) rEq:=by
 intro pins s σ H x y v u Q I rx ry h;obtain⟨hs,q⟩:=h;cases x with
 | cM=>
   cases rx;cases y with
   | cM=>cases ry;exact PySem.EqNone.eq_none_none (bY I q$ by simp)
   | bl j=>cases ry;exact PySem.EqNone.eq_none_bool (bY I q$ by simp)
   | int j=>obtain⟨t',rfl⟩:=ry;exact PySem.EqNone.eq_none_int (bY I q$ by simp)
   | str j=>obtain⟨t',rfl⟩:=ry;exact PySem.EqNone.eq_none_str (bY I q$ by simp)
   | _=>exact absurd (show false=true from hs) QaG
 | bl i=>
   cases rx;cases y with
   | cM=>cases ry;exact PySem.EqNone.eq_bool_none (bY I q$ by simp)
   | bl j=>cases ry;exact eq_bool$ bY I q Hy
   | str j=>obtain⟨t',rfl⟩:=ry;exact PySem.EqMixed.eq_bool_str (bY I q$ by simp)
   | _=>exact absurd (show false=true from hs) QaG
 | int i=>
   obtain⟨t,rfl⟩:=rx;cases y with
   | cM=>cases ry;exact PySem.EqNone.eq_int_none (bY I q$ by simp)
   | int j=>obtain⟨t',rfl⟩:=ry;exact eq_int$ bY I q D3
   | str j=>obtain⟨t',rfl⟩:=ry;exact PySem.EqMixed.eq_int_str (bY I q$ by simp)
   | _=>exact absurd (show false=true from hs) QaG
 | str i=>
   obtain⟨t,rfl⟩:=rx;cases y with
   | cM=>cases ry;exact PySem.EqNone.eq_str_none (bY I q$ by simp)
   | bl j=>cases ry;exact PySem.EqMixed.eq_str_bool (bY I q$ by simp)
   | int j=>obtain⟨t',rfl⟩:=ry;exact PySem.EqMixed.eq_str_int (bY I q$ by simp)
   | str j=>obtain⟨t',rfl⟩:=ry;exact eq_str$ bY I q EJ
   | _=>exact absurd (show false=true from hs) QaG
 | byt i=>
   obtain⟨t,rfl⟩:=rx;cases y with
   | byt j=>obtain⟨t',rfl⟩:=ry;exact PySem.W.eq_bytes$ bY I q DO
   | _=>exact absurd (show false=true from hs) QaG
 | _=>cases y <;> exact absurd (show false=true from hs) QaG
def HK:qq X (compareOp .NotEq) rNe:=by
 intro pins s σ H x y v u Q I rx ry h;obtain⟨hs,q⟩:=h;cases x with
 | cM=>
   cases rx;cases y with
   | cM=>cases ry;exact PySem.EqNone.ne_none_none (bY I q (by simp))
   | bl j=>cases ry;exact PySem.EqNone.ne_none_bool (bY I q (by simp))
   | int j=>obtain⟨t',rfl⟩:=ry;exact PySem.EqNone.ne_none_int (bY I q (by simp))
   | str j=>obtain⟨t',rfl⟩:=ry;exact PySem.EqNone.ne_none_str (bY I q (by simp))
   | _=>exact absurd (show false=true from hs) QaG
 | bl i=>
   cases rx;cases y with
   | cM=>cases ry;exact PySem.EqNone.ne_bool_none (bY I q (by simp))
   | bl j=>cases ry;exact ne_bool (bY I q (Qbs not Hy))
   | str j=>obtain⟨t',rfl⟩:=ry;exact PySem.EqMixed.ne_bool_str (bY I q (by simp))
   | _=>exact absurd (show false=true from hs) QaG
 | int i=>
   obtain⟨t,rfl⟩:=rx;cases y with
   | cM=>cases ry;exact PySem.EqNone.ne_int_none (bY I q (by simp))
   | int j=>obtain⟨t',rfl⟩:=ry;exact ne_int (bY I q (Qbs not D3))
   | str j=>obtain⟨t',rfl⟩:=ry;exact PySem.EqMixed.ne_int_str (bY I q (by simp))
   | _=>exact absurd (show false=true from hs) QaG
 | str i=>
   obtain⟨t,rfl⟩:=rx;cases y with
   | cM=>cases ry;exact PySem.EqNone.ne_str_none (bY I q (by simp))
   | bl j=>cases ry;exact PySem.EqMixed.ne_str_bool (bY I q (by simp))
   | int j=>obtain⟨t',rfl⟩:=ry;exact PySem.EqMixed.ne_str_int (bY I q (by simp))
   | str j=>obtain⟨t',rfl⟩:=ry;exact ne_str (bY I q (Qbs not EJ))
   | _=>exact absurd (show false=true from hs) QaG
 | byt i=>
   obtain⟨t,rfl⟩:=rx;cases y with
   | byt j=>obtain⟨t',rfl⟩:=ry;exact PySem.W.ne_bytes (bY I q (Qbs not DO))
   | _=>exact absurd (show false=true from hs) QaG
 | _=>cases y <;> exact absurd (show false=true from hs) QaG
def S6:qq X (compareOp .Lt) (JW λi j=> .bl$ decide$ i<j):=Mo λ_ _ _ _ _ _ _ q=>lt_int q
def S8:qq X (compareOp .LtE) (JW λi j=> .bl$ decide$ i<=j):=Mo λ_ _ _ _ _ _ _ q=>le_int q
def RE:qq X (compareOp .Gt) (JW λi j=> .bl$ decide$ j<i):=Mo λ_ _ _ _ _ _ _ q=>gt_int q
def SA:qq X (compareOp .GtE) (JW λi j=> .bl$ decide$ j<=i):=Mo λ_ _ _ _ _ _ _ q=>ge_int q
def FI:qq X (compareOp .In) (λx y H Q=>∃i j,x= .str i/\y= .str j/\Q (.bl$ !(Builtin.Str.occurrences j i 0 j.length 1).isEmpty) H):=by
 intro pins s σ H x y v u Q I rx ry h;obtain⟨i,j,rfl,rfl,q⟩:=h;obtain⟨t,rfl⟩:=rx;obtain⟨t',rfl⟩:=ry;exact in_str$ bY I q rfl
def zE:qq X (compareOp .NotIn) (λx y H Q=>∃i j,x= .str i/\y= .str j/\Q (.bl$ !(!(Builtin.Str.occurrences j i 0 j.length 1).isEmpty)) H):=by
 intro pins s σ H x y v u Q I rx ry h;obtain⟨i,j,rfl,rfl,q⟩:=h;obtain⟨t,rfl⟩:=rx;obtain⟨t',rfl⟩:=ry;exact notIn_str$ bY I q rfl
def isObj:HO->Bool
 | .lst _=>true
 | .ins _ _ _=>true
 | _=>false
def tj(b:Expr){op:CmpOp}(h:op≠ .In:=by decide)(h2:op≠ .NotIn:=by decide):behindInMarks op b=false:=by
 have e1:(op==CmpOp.In)=false:=by cases op <;> first | rfl | exact absurd rfl h
 have e2:(op==CmpOp.NotIn)=false:=by cases op <;> first | rfl | exact absurd rfl h2
 cases b <;> simp [behindInMarks,e1,e2]
def EI{op:CmpOp}{r:R2}(ho:qq X (compareOp op) r)(ha:PE X a ta)(hb:PE X b tb)(hm:behindInMarks op b=false):PE X (.Compare a [op] [b] pos) (Rj r ta tb):=by
 intro pins s σ H Q I h;exact wpAny_Compare1 (Nx ha hb I h λv u s2 x y H2 I2 rx ry q=>ho pins s2 σ H2 x y v u Q I2 rx ry q) hm
def Te(t:TE):TT:=λσ H Q=>t σ H λx H'=>∃k,x= .bl k/\Q k H'
def DF{op:CmpOp}{r:R2}(ho:qq X (compareOp op) r)(ha:PE X a ta)(hb:PE X b tb)(hm:behindInMarks op b=false):PT X (.Compare a [op] [b] pos) (Te$ Rj r ta tb):=by
 intro pins s σ H Q I h;refine wpAny_isTrue_Compare1 (cH (ha pins s σ H _ I h) λv s1 ⟨x,H1,I1,r1,q1⟩=>cH (hb pins s1 σ H1 _ I1 q1) λu s2 ⟨y,H2,I2,r2,q2⟩=>
  cH (ho pins s2 σ H2 x y v u _ I2 r1 r2 q2) λc s3 ⟨z,H3,I3,r3,k,e,q3⟩=>?_) hm
 subst e;cases r3;exact Qbx ⟨H3,I3,q3⟩
def WZ(r r':R2)(ta tb tc:TE):TE:=λσ H Q=>ta σ H λx H1=>tb σ H1 λy H2=>r x y H2 λz H3=>∃k,z= .bl k/\
 (if k=true then tc σ H3 λw' H4=>r' y w' H4 Q else Q (.bl false) H3)
def NB(K:QcQ)(x:V)(H:Hp)(k:Bool):Prop:=
 match x with
 | .cM=>k=false
 | .bl b=>k=b
 | .int i=>k=(i !=0)
 | .str y=>y.length<=sizeLine/\k=((y.length:Int) !=0)
 | .byt y=>y.size<=sizeLine/\k=((y.size:Int) !=0)
 | .ref p=>(∃xs,oZ K H p xs/\k=!xs.isEmpty)\/(∃xs,sR K H p xs/\k=!xs.isEmpty)\/∃aD,H p=some (.dK aD)/\k=!aD.isEmpty
 | _=>False
def Cm{κ:Type}{aD:List (κ × V)}{vs:List (κ × Value)}(r:KV aD vs):(!vs.isEmpty)=!aD.isEmpty:=by
 cases r <;> rfl
def vy{xs:List V}{its:List Value}(r:Vals xs its):(!its.toArray.isEmpty)=!xs.isEmpty:=by
 cases r <;> simp
def q0:(sizeLine:Nat)<2 ^ 63:=by rw[Qav];decide
def Qe:VA X (λx H Q=>∃k,NB X.K x H k/\Q k H):=by
 intro pins s σ H x v Q I rx h;obtain⟨k,e,q⟩:=h;have hl:=q0;have hs:sizeLine=16777216:=Qav;cases x with
 | cM=>
   cases rx;have e':k=false:=e;subst e';exact truthy_none ⟨H,I,q⟩
 | bl b=>
   cases rx;have e':k=b:=e;subst e';exact Qbx ⟨H,I,q⟩
 | int i=>
   obtain⟨t,rfl⟩:=rx;have e':k=(i !=0):=e;subst e';exact PySem.P.truthy_int ⟨H,I,q⟩
 | str y=>
   obtain⟨t,rfl⟩:=rx;obtain⟨hy,e'⟩:y.length<=sizeLine/\k=((y.length:Int) !=0):=e;subst e';exact PySem.P.truthy_str (by omega) ⟨H,I.tok _,q⟩
 | byt y=>
   obtain⟨t,rfl⟩:=rx;obtain⟨hy,e'⟩:y.size<=sizeLine/\k=((y.size:Int) !=0):=e;subst e';exact PySem.W.truthy_bytes (by omega) ⟨H,I.tok _,q⟩
 | ref p=>
   cases rx;have e':(∃xs,oZ X.K H p xs/\k=!xs.isEmpty)\/(∃xs,sR X.K H p xs/\k=!xs.isEmpty)\/∃aD,H p=some (.dK aD)/\k=!aD.isEmpty:=e;rcases e' with⟨xs,hx,e'⟩ | ⟨xs,hx,e'⟩ | ⟨aD,hx,e'⟩
   .subst e';obtain⟨its,r,pl,hz⟩:=I.list hx;have hlen:=r.length;exact wpAny_truthy_list pl.isList (by simp only[QaD];omega) ⟨H,I.tok _,by rw[vy r];exact q⟩
   .subst e';obtain⟨its,r,pl,hz⟩:=I.tuple hx;have hlen:=r.length;exact truthy_tuple pl (by simp only[QaD];omega) ⟨H,I.tok _,by rw[vy r];exact q⟩
   .subst e';obtain⟨hz,hS,vs,r,m⟩:aD.length<=sizeLine/\(p==sysModules)=false/\∃vs,KV aD vs/\s.heap.DictOf (cU X.prog X.w) p vs:=I.hok p _ hx;have hlen:aD.length=vs.length:=Paired.length r;exact wpAny_truthy_dict hS m (by omega) ⟨H,I.tok _,by rw[Cm r];exact q⟩
 | _=>exact(show False from e).elim
def AM(ha:PE X a ta)(he:∀whole,isTrue a X.env whole=(do let v <-whole;standAt a.pos;holding [v] (truthy v))) :
 PT X a (λσ H Q=>ta σ H λx H'=>∃k,NB X.K x H' k/\Q k H'):=by
 intro pins s σ H Q I h;exact isTrue_plain (cH (ha pins s σ H _ I h) λv s1 ⟨x,H1,I1,r1,q1⟩=>Qe pins s1 σ H1 x v Q I1 r1 q1) (he _)
def BW:qq X (binaryOp .Add) (λx y H Q=>∃i j,x= .str i/\y= .str j/\i.length+j.length<=sizeLine/\Q (.str$ i++j) H):=by
 intro pins s σ H x y v u Q I rx ry h;obtain⟨i,j,rfl,rfl,hz,q⟩:=h;obtain⟨t,rfl⟩:=rx;obtain⟨t',rfl⟩:=ry;exact add_str (λt' tk=>⟨.str$ i++j,H,I.tok _,⟨_,rfl⟩,q⟩) hz
def RU(b:Expr):Prop:=∀o i,subscripted b false o i=operate [o,i] (getItem o i)
def vals1{x:V}{us:List Value}(r:Vals [x] us):∃u,us=[u]/\RelV x u:=by
 cases r with
 | cons r1 r2=>cases r2;exact⟨_,rfl,r1⟩
def vals2{x y:V}{us:List Value}(r:Vals [x,y] us):∃u w',us=[u,w']/\RelV x u/\RelV y w':=by
 cases r with
 | cons r1 r2=>
   cases r2 with
   | cons r3 r4=>cases r4;exact⟨_,_,rfl,r1,r3⟩
def Fs(hc:X.calm=true):kL X (.builtin "min") (λxs H Q=>∃i j,xs=[.int i, .int j]/\Q (.int$ if j<i then j else i) H):=by
 intro pins s σ H xs us Q I r h;obtain⟨i,j,rfl,q⟩:=h;obtain⟨u,w',rfl,⟨t,rfl⟩,⟨t',rfl⟩⟩:=vals2 r;refine min_two_ints (I.ok.hd hc) λh' tk k=>⟨_,H,I.kept k,?_,q⟩
 by_cases hj:j<i
 .rw [Qap hj,Qap hj];exact⟨_,rfl⟩
 .rw [Qaj hj,Qaj hj];exact⟨_,rfl⟩
def EO:kL X (.type "int") (λxs H Q=>(∃i,xs=[.int i]/\Q (.int i) H)\/∃k,xs=[.bl k]/\Q (.int$ if k then 1 else 0) H):=by
 intro pins s σ H xs us Q I r h;rcases h with⟨i,rfl,q⟩ | ⟨k,rfl,q⟩
 .obtain⟨u,rfl,t,rfl⟩:=vals1 r;exact call_int_int ⟨.int i,H,I,⟨_,rfl⟩,q⟩
 .obtain⟨u,rfl,r1⟩:=vals1 r;cases r1;exact call_int_bool ⟨.int$ if k then 1 else 0,H,I.tok _,⟨_,rfl⟩,q⟩
def zA:kL X (.type "str") (λxs H Q=>∃i,xs=[.int i]/\i.natAbs.log2<1920/\Q (.str$ toString i) H):=by
 intro pins s σ H xs us Q I r h;obtain⟨i,rfl,hz,q⟩:=h;obtain⟨u,rfl,t,rfl⟩:=vals1 r;exact PySem.P.str_of_int hz ⟨.str _,H,I.tok _,⟨_,rfl⟩,q⟩
def WH(K:QcQ)(x:V)(H:Hp)(n:Nat):Prop:=
 match x with
 | .str y=>y.length<=sizeLine/\n=y.length
 | .byt y=>y.size<=sizeLine/\n=y.size
 | .ref p=>(∃xs,oZ K H p xs/\n=xs.length)\/∃xs,sR K H p xs/\n=xs.length
 | _=>False
def I0:kL X (.builtin "len") (λxs H Q=>∃x n,xs=[x]/\WH X.K x H n/\Q (.int n) H):=by
 intro pins s σ H xs us Q I r h;obtain⟨x,n,rfl,e,q⟩:=h;obtain⟨u,rfl,rx⟩:=vals1 r;have hl:=q0;have hs:sizeLine=16777216:=Qav;cases x with
 | str y=>
   obtain⟨t,rfl⟩:=rx;obtain⟨hy,e'⟩:y.length<=sizeLine/\n=y.length:=e;subst e';exact len_str (by omega) ⟨.int _,H,I.tok _,⟨_,rfl⟩,q⟩
 | byt y=>
   obtain⟨t,rfl⟩:=rx;obtain⟨hy,e'⟩:y.size<=sizeLine/\n=y.size:=e;subst e';exact PySem.W.len_bytes (by omega) ⟨.int _,H,I.tok _,⟨_,rfl⟩,q⟩
 | ref p=>
   cases rx;have e':(∃xs,oZ X.K H p xs/\n=xs.length)\/∃xs,sR X.K H p xs/\n=xs.length:=e;rcases e' with⟨xs,hx,e'⟩ | ⟨xs,hx,e'⟩
   .subst e';obtain⟨its,r',pl,hz⟩:=I.list hx;have hlen:=r'.length;exact Calls.call_len_list pl.isList (by simp only[QaD];omega) ⟨.int xs.length,H,I.tok _,⟨_,by simp only[QaD];rw [hlen]⟩,q⟩
   .subst e';obtain⟨its,r',pl,hz⟩:=I.tuple hx;have hlen:=r'.length;exact len_tuple pl (by simp only[QaD];omega) ⟨.int xs.length,H,I.tok _,⟨_,by simp only[QaD];rw [hlen]⟩,q⟩
 | _=>exact(show False from e).elim
end
structure B5 (h:Heap) (x dx C:Addr) (mA:Aaf):Prop where
 obj:h.get? x=some (PySem.W.instObj C dx)
 ns:h.Ns1 dx mA
 ne:dx≠x
def FQ{h:Heap}{dx:Addr}{mA:Aaf}(n:h.Ns1 dx mA):∃od,h.get? dx=some od/\∀name,PySem.W.lookIn name od=some (mA name):=by
 obtain⟨o,es,ep,ho,hd,hk,_,hm⟩:=n;refine⟨o,ho,λname=>?_⟩
 have e:=hm name;unfold nsFind findBy at e;rw[<-Array.find?_toList] at e;unfold PySem.W.lookIn;rw[hd];dsimp only;split
 .rename_i y q;rw[q] at e;exact Qbs some e
 .rename_i q;rw[q] at e;have a:es.toList.any (·.refKey)=false:=by
   rw[List.any_eq_false];intro y hy;obtain⟨z,t,hkey⟩:=hk y$ Array.mem_toList_iff.mp hy;simp [DictEntry.refKey,hkey]
  have a':¬es.toList.any (·.refKey)=true:=by rw[a];exact QaG
  rw[Qaj a'];exact Qbs some e
def B5.look{x dx C:Addr}{mA:Aaf}(I:B5 h x dx C mA):∃od,PySem.W.InstAt h x (PySem.W.instObj C dx) C (some od)/\∀name,PySem.W.lookIn name od=some (mA name):=
 let⟨od,ho,hl⟩:=FQ I.ns
 ⟨od,⟨I.obj,rfl,rfl,ho⟩,hl⟩
section
variable {prog:Program}{w:World}{A:Around}{E:Aab}{s:QcR}{K:QcQ}{x dx C f:Addr}{mA:Aaf}{name:Str}{v:Value}
def get_map{expr:Bool}{Q:Aab}(X:K.In s.heap)(I:B5 s.heap x dx C mA)(hg:PySem.W.plainGet K C name=true)(hh:PySem.W.hasDictIn K C=true)
 (ha:PySem.W.findIn K (.ref C) name=some none) (hv:mA name=some v) (hv':PySem.W.handedIn v=true) (h:Q v {s with toks:=s.toks+1}) :
 wpAny (model prog w) A (getAttr (.ref x) name expr) Q E s:=by
 obtain⟨od,J,hl⟩:=I.look;exact PySem.W.get_value X J (Qcv hg).1 (PySem.W.findObj_own hh ha rfl$ by rw[hl,hv]) hv' h
def I_{pl:Sem Bool}{Q:Value × List Value->QcR->Prop}(X:K.In s.heap)(I:B5 s.heap x dx C mA)(hg:PySem.W.plainGet K C name=true)
 (hf:PySem.W.findIn K (.ref C) name=some (some$ .ref f)) (ht:PySem.W.isFn K (.ref f)=true) (hv:mA name=none) (h:Q (.ref f,[.ref x]) s) :
 wpAny (model prog w) A (getMethod (.ref x) name pl) Q E s:=by
 obtain⟨od,J,hl⟩:=I.look;exact PySem.W.method_fn X J (Qcv hg).1 (Qcv hg).2 hf (Qa3.mp ht) (by show(PySem.W.lookIn name od).map (·.isSome)=some false;rw [hl,hv];rfl) h
def LR{ns:List Str}{Q:Unit->QcR->Prop}(X:K.In s.heap)(I:B5 s.heap x dx C mA)
 (hs:PySem.W.findIn K (.ref C) "__setattr__"=some (some$ .builtin "object.__setattr__")) (hp:PySem.W.plainOver K C=true) (ht:PySem.W.takerIn K C name=some none) (hh:PySem.W.hasDictIn K C=true)
 (hw:PySem.Within mA ns) (hsz:ns.length<=sizeLine)
 (h:∀h',B5 h' x dx C (λy=>if y=name then some v else mA y)->Heap.SameBut dx s.heap h'->Q () {s with heap:=h',toks:=s.toks+2}) :
 wpAny (model prog w) A (setAttr (.ref x) name v) Q E s:=by
 obtain⟨od,J,hl⟩:=I.look;refine PySem.W.set_plain X J hs$ PySem.W.osa_open (s:={s with toks:=s.toks+1}) (r:=none) X J hp ht λb=>?_
 obtain⟨cd,hc,Mz⟩:=PySem.W.any_some hh;have hx:s.heap.get? x=some ⟨.ref C,some dx, .plain,#[]⟩:=I.obj;refine Qaw$ QaX$ Qaw$ Qaw$ wpAny_loadPart hx$ Qaw$ PySem.W.Looks.here (s:={s with toks:=s.toks+1}) (PySem.W.looks_clsIn X hc) ?_
 rw[Mz];refine QaX (a:=some dx)$ Qaw$ QaX$ Qaw ?_;refine wpAny_nsSet1 (s:={s with toks:=s.toks+1}) I.ns λh' U1 hs2=>?_
 obtain⟨oD,esD,epD,hoD,hdD,hcD⟩:=U1.count$ PySem.Within.cons name v hw;refine Qaw (wpAny_lookBehind hoD (by rw[hdD];exact pastItsLine_dict$ QaK hcD$ by rw[QaI];omega) ?_)
 exact QaX$ h _ ⟨(hs2.2 _$ Qbz I.ne).trans I.obj,U1,I.ne⟩ hs2
def IC{R:Result->QcR->Prop}{vs:List Value}{kw:List (Str × Value)}(X:K.In s.heap)(hm:PySem.W.makesIn K C=true)
 (hi:PySem.W.findIn K (.ref C) "__init__"=some (some$ .ref f)) (hf:PySem.W.typeIn K (.ref f)=some (.type "function"))
 (h:codeAny (model prog w) (A.under$ .builtin "type.__call__" ⟨.ref C ::vs,kw⟩) (.call (.ref f) ⟨.ref (s.heap.objs.size+1) ::vs,kw⟩) (PySem.W.InitBack (s.heap.objs.size+1) R)
   {s with heap:=(s.heap.push PySem.W.emptyDict).push$ PySem.W.instObj C s.heap.objs.size}) :
 codeAny (model prog w) A (.call (.ref C) ⟨vs,kw⟩) R s:=by
 obtain⟨hh,g,d,t,os⟩:=s;exact PySem.W.make_core (PySem.W.makes_of X hm) (QbX X hi) (λself=>PySem.W.bind_fn X self hf) (.inl rfl) h
end
def mK(f:Str)(v:V):List (Str × V)->List (Str × V)
 | []=>[(f,v)]
 | (g,x) ::r=>if g=f then(g,v) ::r else(g,x) ::mK f v r
theorem tY(f g:Str)(v:V):∀fs:List (Str × V),(mK f v fs).lookup g=if g=f then some v else fs.lookup g
 | []=>by
   show List.lookup g [(f,v)]=_;by_cases h:g=f
   .have hb:(g==f)=true:=Qa3.mpr h;simp only[List.lookup,hb,Qap h]
   .have hb:(g==f)=false:=QaQ.mpr h;simp only[List.lookup,hb,Qaj h]
 | (k,x) ::r=>by
   have ih:=tY f g v r;rw[show mK f v ((k,x) ::r)=(if k=f then(k,v) ::r else(k,x) ::mK f v r) from rfl]
   by_cases hk:k=f
   .rw [Qap hk];by_cases h:g=k
    .have hb:(g==k)=true:=Qa3.mpr h;simp only[List.lookup,hb,Qap$ h.trans hk]
    .have hb:(g==k)=false:=QaQ.mpr h;simp only[List.lookup,hb,Qaj (λe:g=f=>h$ e.trans hk.symm)]
   .rw [Qaj hk];by_cases h:g=k
    .have hb:(g==k)=true:=Qa3.mpr h;simp only[List.lookup,hb,Qaj (λe:g=f=>hk$ h.symm.trans e)]
    .have hb:(g==k)=false:=QaQ.mpr h;simp only[List.lookup,hb];exact ih
theorem sU(f:Str)(v:V):∀fs:List (Str × V),f∈(mK f v fs).map (·.1)/\∀g,g∈fs.map (·.1)->g∈(mK f v fs).map (·.1)
 | []=>⟨by simp [mK],λg h=>by simp at h⟩
 | (k,x) ::r=>by
   obtain⟨i1,i2⟩:=sU f v r;rw[show mK f v ((k,x) ::r)=(if k=f then(k,v) ::r else(k,x) ::mK f v r) from rfl]
   by_cases hk:k=f
   .rw [Qap hk];subst hk;exact⟨by simp,λg h=>by simpa using h⟩
   .rw [Qaj hk];refine⟨?_,λg h=>?_⟩
    .rw [Qay];exact Qab _ i1
    .rw [Qay] at h ⊢;rcases QaF.mp h with e | e
     .exact QaF.mpr (.inl e)
     .exact Qab _ (i2 g e)
theorem ua(f:Str)(v:V):∀fs:List (Str × V),(mK f v fs).length<=fs.length+1
 | []=>by simp [mK]
 | (k,x) ::r=>by
   have ih:=ua f v r;rw[show mK f v ((k,x) ::r)=(if k=f then(k,v) ::r else(k,x) ::mK f v r) from rfl]
   by_cases hk:k=f
   .rw [Qap hk,QaI,QaI];omega
   .rw [Qaj hk,QaI,QaI];omega
def nV.some_of{v:V}{o:Option Value}(r:nV (some v) o):∃u,o=some u/\RelV v u:=by
 cases o with
 | none=>exact(show False from r).elim
 | some u=>exact⟨u,rfl,r⟩
def nV.none_of{o:Option Value}(r:nV none o):o=none:=by
 cases o with
 | none=>rfl
 | some u=>exact(show False from r).elim
def E_{v:V}{u:Value}(r:RelV v u):PySem.W.handedIn u=true:=by
 cases v with
 | cM=>cases(show u=Value.none from r);rfl
 | bl b=>cases(show u=Value.bool b from r);rfl
 | int i=>obtain⟨t,e⟩:=(show ∃t,u=Value.int i t from r);cases e;rfl
 | str x=>obtain⟨t,e⟩:=(show ∃t,u=Value.str x t from r);cases e;rfl
 | byt b=>obtain⟨t,e⟩:=(show ∃t,u=Value.bytes b t from r);cases e;rfl
 | flt b=>obtain⟨t,e⟩:=(show ∃t,u=Value.float b t from r);cases e;rfl
 | ref a=>cases(show u=Value.ref a from r);rfl
 | ty n=>cases(show u=Value.type n from r);rfl
section
variable {P:Program}{w:World}{H:Hp}{h:Heap}{a C dx:Addr}{fs:List (Str × V)}
def zy(hok:oU P w H h)(e:H a=some (.ins C dx fs)):∃mA,B5 h a dx C mA/\(∀f,nV (fs.lookup f)$ mA f)/\PySem.Within mA (fs.map (·.1))/\fs.length<=1000/\H dx=some (.own a):=by
 obtain⟨d,z,ne,ob,mA,n,r,q⟩:=(show eu P w H h a (.ins C dx fs) from hok a _ e)
 exact⟨mA,⟨ob,n,ne⟩,r,q,z,d⟩
end
structure Am (K:QcQ) (C:Addr):Prop where
 pg:PySem.W.plainGet K C Str.empty=true
 hd:PySem.W.hasDictIn K C=true
 po:PySem.W.plainOver K C=true
 sa:PySem.W.findIn K (.ref C) "__setattr__"=some (some (.builtin "object.__setattr__"))
def Am.get{K:QcQ}{C:Addr}(c:Am K C)(f:Str):PySem.W.plainGet K C f=true:=c.pg
def di(K:QcQ)(C:Addr)(f:Str):Prop:=PySem.W.findIn K (.ref C) f=some none
def di.RD{K:QcQ}{C:Addr}(n:di K C f):PySem.W.takerIn K C f=some none:=by
 unfold PySem.W.takerIn;rw[show PySem.W.findIn K (.ref C) f=some none from n]
 rfl
structure Con (K:QcQ) (C:Addr) (f:Str) (v:V) (u:Value):Prop where
 at_:PySem.W.findIn K (.ref C) f=some (some u)
 rel:RelV v u
 get:PySem.W.specialIn K u "__get__"=some none
 cp:PySem.W.copiedNames.contains f=false
structure Meth (K:QcQ) (C:Addr) (m:Str) (f:Addr):Prop where
 at_:PySem.W.findIn K (.ref C) m=some (some (.ref f))
 fn:PySem.W.isFn K (.ref f)=true
 kp:PySem.W.keepIn K (.ref f)=true
section
variable {X:Cx}{pins:Aaa}{σ:St}{H:Hp}{s:QcR}{a C dx:Addr}{fs:List (Str × V)}{f:Str}{v:V}{A:Around}{E:Aab}
def CZ{b:Bool}{Q:Aab}(I:Inv X pins σ H s)(e:H a=some (.ins C dx fs))(c:Am X.K C)(n:di X.K C f)(l:fs.lookup f=some v)
 (h:∀u s',Inv X pins σ H s'->RelV v u->Q u s'):wpAny (model X.prog X.w) A (getAttr (.ref a) f b) Q E s:=by
 obtain⟨mA,O,r,_,_,_⟩:=zy I.hok e;obtain⟨u,hu,ru⟩:=nV.some_of (v:=v) (o:=mA f) (by rw[<-l];exact r f)
 exact get_map I.yd O (c.get f) c.hd n hu (E_ ru)$ h u _ (I.tok _) ru
def CK{m:Str}{g:Addr}{pl:Sem Bool}{Q:Value × List Value->QcR->Prop}(I:Inv X pins σ H s)(e:H a=some (.ins C dx fs))(c:Am X.K C)(k:Meth X.K C m g)(l:fs.lookup m=none)
 (h:Q (.ref g,[.ref a]) s):wpAny (model X.prog X.w) A (getMethod (.ref a) m pl) Q E s:=by
 obtain⟨mA,O,r,_,_,_⟩:=zy I.hok e;have hn:mA m=none:=nV.none_of (by rw[<-l];exact r m)
 exact I_ I.yd O (c.get m) k.at_ k.fn hn h
def CH{y:V}{u:Value}{Q:Unit->QcR->Prop}(I:Inv X pins σ H s)(e:H a=some (.ins C dx fs))(c:Am X.K C)(n:di X.K C f)(hl:fs.length<1000)(ry:RelV y u)
 (h:∀s',Inv X pins σ (upd H a$ .ins C dx$ mK f y fs) s'->Q () s'):wpAny (model X.prog X.w) A (setAttr (.ref a) f u) Q E s:=by
 obtain⟨mA,O,r,wi,_,ho⟩:=zy I.hok e;have hz:(fs.map (·.1)).length<=sizeLine:=by rw[Qaa,Qav];omega
 refine LR I.yd O c.sa c.po n.RD c.hd wi hz λh' O' sb=>h _ ?_
 have hd:∃o,h'.get? dx=some o:=let⟨o,_,_,e',_⟩:=O'.ns;⟨o,e'⟩
 refine I.write (x:=a) (e:=dx) (by rw[e];exact True.intro) (.inr ho) (λb q hb z=>(sb.2 b hb).trans z) hd ?_
 refine⟨by rw[bb O.ne];exact ho,?_,O.ne,O'.obj,_,O'.ns,λg=>?_,λg hg=>?_⟩
 .have:=ua f y fs;omega
 .show nV ((mK f y fs).lookup g) (if g=f then some u else mA g)
  rw[tY];by_cases q:g=f
  .rw [Qap q,Qap q];exact ry
  .rw [Qaj q,Qaj q];exact r g
 .by_cases q:g=f
  .rw [q];exact(sU f y fs).1
  .refine(sU f y fs).2 g (wi g λz=>hg ?_)
   show(if g=f then some u else mA g)=none
   rw[Qaj q];exact z
def Inv.made(I:Inv X pins σ H s):Inv X pins σ (upd (upd H s.heap.objs.size$ .own$ s.heap.objs.size+1) (s.heap.objs.size+1)$ .ins C s.heap.objs.size [])
 {s with heap:=(s.heap.push PySem.W.emptyDict).push$ PySem.W.instObj C s.heap.objs.size}:=by
 have e1:(s.heap.push PySem.W.emptyDict).get? s.heap.objs.size=some PySem.W.emptyDict:=QaY s.heap rfl;have e2:((s.heap.push PySem.W.emptyDict).push$ PySem.W.instObj C s.heap.objs.size).get? (s.heap.objs.size+1)=some (PySem.W.instObj C s.heap.objs.size):=by
  have:=QaY (s.heap.push PySem.W.emptyDict) (o:=PySem.W.instObj C s.heap.objs.size) rfl
  rwa [QbH] at this
 have e3:(s.heap.push PySem.W.emptyDict).Ns s.heap.objs.size (λ_=>none):=⟨PySem.W.emptyDict,#[],_,e1,rfl,(λe he=>absurd he$ by simp),λ_=>rfl⟩
 have I1:=I.laid (a:=s.heap.objs.size) (o:= .own$ s.heap.objs.size+1) (h':=s.heap.push PySem.W.emptyDict) (t':=s.toks) (λb u q=>Qau _ q) (Qak _) ⟨_,e1⟩
 refine I1.laid (a:=s.heap.objs.size+1) (o:= .ins C s.heap.objs.size []) (t':=s.toks) (λb u q=>Qau _ q) (Nat.le_of_eq$ QbH _ _) ?_
 have ne:s.heap.objs.size≠s.heap.objs.size+1:=QaR$ Nat.lt_succ_self _;refine⟨by rw[bb ne,aZ],Qa9 _,ne,e2,λ_=>none,(Heap.Ns1.of_empty e3).at λo q=>Qau _ q,λ_=>True.intro,λy hy=>absurd rfl hy⟩
def LZ{prog:Program}{w:World}{env:Env}{e:Expr}{f:Str}{pos:Pos}{s:QcR}{Q:Aab}(hb:attributeBase e f env (eval e env)=eval e env)
 (h:wpAny (model prog w) A (eval e env) (λo s₁=>wpAny (model prog w) A (getAttr o f true) Q E s₁) E s):wpAny (model prog w) A (eval (.Attribute e f pos) env) Q E s:=
 Attribute_any_ h (by rw[arm_eval_Attribute,hb])
end
def W8(K:QcQ)(ta:TE)(f:Str):TE:=λσ H Q=>ta σ H λx H1=>∃a C dx fs v,x= .ref a/\H1 a=some (.ins C dx fs)/\Am K C/\di K C f/\fs.lookup f=some v/\Q v H1
def acB(K:QcQ)(ta:TE)(f:Str):TE:=λσ H Q=>ta σ H λx H1=>∃a C dx fs v u,x= .ref a/\H1 a=some (.ins C dx fs)/\Am K C/\Con K C f v u/\fs.lookup f=none/\Q v H1
def Vv(K:QcQ)(ta tv:TE)(f:Str):TS:=λD σ H=>tv σ H λy H1=>ta σ H1 λx H2=>∃a C dx fs,x= .ref a/\H2 a=some (.ins C dx fs)/\Am K C/\di K C f/\fs.length<1000/\
 D.nx σ (upd H2 a$ .ins C dx$ mK f y fs)
def aa0(X:Cx)(op:Operator)(rd:V->V->Hp->VK->Prop):Prop:=
 ∀(pins:Aaa) (s:QcR) (σ:St) (H:Hp) (x y:V) (u v:Value) (Q:VK),Inv X pins σ H s->RelV x u->RelV y v->rd x y H Q->wpAny (model X.prog X.w) X.A (inplaceOp op u v) (EP X pins σ Q) X.xe s
def UX(K:QcQ)(ta tv:TE)(rd:V->V->Hp->VK->Prop)(f:Str):TS:=λD σ H=>ta σ H λx H1=>∃a C dx fs v,x= .ref a/\H1 a=some (.ins C dx fs)/\Am K C/\di K C f/\fs.lookup f=some v/\
 tv σ H1 λy H2=>rd v y H2 λz H3=>∃dx' Ru,H3 a=some (.ins C dx' Ru)/\Ru.length<1000/\D.nx σ (upd H3 a$ .ins C dx'$ mK f z Ru)
section
variable {X:Cx}{o e value:Expr}{f:Str}{pos pos':Pos}{ta tv:TE}
def NW(he:PE X e ta)(hb:attributeBase e f X.env (eval e X.env)=eval e X.env):PE X (.Attribute e f pos) (W8 X.K ta f):=by
 intro pins s σ H Q I h;refine LZ hb$ cH (he pins s σ H _ I h) λu s1 ⟨x,H1,I1,rx,a,C,dx,fs,v,ex,ea,c,n,l,q⟩=>?_
 subst ex;obtain rfl:u=Value.ref a:=rx;exact CZ I1 ea c n l λu' s2 I2 ru=>⟨v,H1,I2,ru,q⟩
def OI(ha:PE X o ta)(hv:PE X value tv)(hs:swapsWith value (some$ .Attribute o f pos') pos.line X.env=pure false):PS X (.Assign [.Attribute o f pos'] value pos) (Vv X.K ta tv f):=by
 intro pins s σ H D I h;refine plainObj_wpAny_Assign_Attribute (cH (hv pins s σ H _ I h) λu s1 ⟨y,H1,I1,ry,q⟩=>cH (ha pins s1 σ H1 _ I1 q) λov s2 ⟨x,H2,I2,rx,a,C,dx,fs,ex,ea,c,n,l,q2⟩=>?_) hs
 subst ex;obtain rfl:ov=Value.ref a:=rx;exact CH I2 ea c n l ry λs3 I3=>⟨σ,_,I3,q2⟩
def abB:V->V->Hp->VK->Prop:=λx y H Q=>∃i j,x= .int i/\y= .int j/\Q (.int$ i+j) H
def aa5:V->V->Hp->VK->Prop:=λx y H Q=>∃i j,x= .int i/\y= .int j/\Q (.int$ i - j) H
end
section
variable {H:Hp}
inductive vZ (K:QcQ) (H:Hp):V->Value->Prop where
 | cM:vZ K H .cM (.type "NoneType")
 | bl (x:Bool):vZ K H (.bl x) (.type "bool")
 | int (i:Int):vZ K H (.int i) (.type "int")
 | str (x:Str):vZ K H (.str x) (.type "str")
 | flt (x:UInt64):vZ K H (.flt x) (.type "float")
 | lst {a:Addr} {xs:List V} (e:H a=some (.lst xs)):vZ K H (.ref a) (.type "list")
 | mq {a:Addr} {o:Obj} {xs:List V} (e:H a=some (.mq o (.lst xs))):vZ K H (.ref a) (.type "list")
 | tup {a:Addr} {xs:List V} (e:H a=some (.tup xs)):vZ K H (.ref a) (.type "tuple")
 | dK {a:Addr} {aD:List (Key × V)} (e:H a=some (.dK aD)):vZ K H (.ref a) (.type "dict")
 | dT {a:Addr} {aD:List (List Key × V)} (e:H a=some (.dT aD)):vZ K H (.ref a) (.type "dict")
 | ins {a C dx:Addr} {fs:List (Str × V)} (e:H a=some (.ins C dx fs)) (cl:Am K C) (ha:PySem.W.findIn K (.ref C) "__class__"=some (some (.builtin "object.__class__")))
    (hn:PySem.W.specialIn K (.builtin "object.__class__") "__get__"=some (some (.builtin "getset_descriptor.__get__"))) (Rv:PySem.W.takesIn K (.builtin "object.__class__")=some true)
    (hm:PySem.W.mroIn K C (.type "object")=some true):vZ K H (.ref a) (.ref C)
end
structure dW (k:Nat) (A:Around):Prop where
 hd:A.handled=none
 dp:A.depth+3*k+5<recursionLimit
 un:A.units+16*k+200<cLine
def dW.mono{j k:Nat}(r:dW k A)(h:j<=k):dW j A:=⟨r.hd,by have:=r.dp;omega,by have:=r.un;omega⟩
def dW.deeper{k:Nat}{A:Around}(r:dW (k+1) A)(env:Env):dW k (A.deeper env):=
 ⟨r.hd,by have:=r.dp;show A.depth+1+3*k+5<_;omega,by have:=r.un;show A.units+3+16*k+200<_;omega⟩
def Ci{A:Around}{C:Addr}{us:List Value}{kw:List (Str × Value)}:(A.under$ .builtin "type.__call__" ⟨.ref C ::us,kw⟩).depth=A.depth+1:=by
 first | rfl | simp [Around.under,Code.weight,Code.isCreation,Code.isGuard,Code.isCaller,Code.frames,Code.isFrame,guardIds]
def BH{A:Around}{C:Addr}{us:List Value}{kw:List (Str × Value)}:(A.under$ .builtin "type.__call__" ⟨.ref C ::us,kw⟩).units=A.units+1:=by
 first | rfl | simp [Around.under,Code.cUnits,Code.frames,Code.isFrame]
def dW.make{k:Nat}{A:Around}(r:dW (k+1) A)(C:Addr)(us:List Value)(kw:List (Str × Value)):dW k (A.under$ .builtin "type.__call__" ⟨.ref C ::us,kw⟩):=
 ⟨r.hd,by have:=r.dp;rw [Ci];omega,by have:=r.un;rw [BH];omega⟩
def dW.depth{k:Nat}{A:Around}(r:dW k A):A.depth<recursionLimit:=by have:=r.dp;omega
def dW.units{k:Nat}{A:Around}(r:dW k A):A.units+64<cLine:=by have:=r.un;omega
def Ts:TA:=λ_ H Q=>Q [] H
def TH(ta:TE)(tr:TA):TA:=λσ H Q=>ta σ H λx H1=>tr σ H1 λxs H2=>Q (x ::xs) H2
section
variable {X:Cx}{e:Expr}{es:List Expr}{te:TE}{t:TA}{pos:Pos}
def lA:PA X [] Ts:=λ_ _ _ _ H Q I h=>Qci ⟨[],H,I, .nil,h⟩
def fS(ha:PE X e te)(hr:PA X es t)(hs:starEach (e ::es) X.env=(false,eval e X.env) ::starEach es X.env:=by rfl):PA X (e ::es) (TH te t):=by
 intro pos pins s σ H Q I h;rw[hs];show wpAny _ _ (spliced ((false,eval e X.env) ::backTo pos (starEach es X.env))) _ _ s;refine Qbt$ cH (ha pins s σ H _ I h) λu s1 ⟨x,H1,I1,r1,q1⟩=>?_
 exact cH (hr pos pins s1 σ H1 _ I1 q1) λus s2 ⟨xs,H2,I2,r2,q2⟩=>⟨x ::xs,H2,I2, .cons r1 r2,q2⟩
def WL(t:TA):TE:=λσ H Q=>t σ H λxs H1=>xs.length<=sizeLine/\∀p,H1 p=none->Q (.ref p) (upd H1 p$ .tup xs)
def V8(t:TA):TE:=λσ H Q=>t σ H λxs H1=>xs.length<=sizeLine/\∀p,H1 p=none->Q (.ref p) (upd H1 p$ .lst xs)
def Cc{x1}(h:PA X es t):PE X (.Tuple es x1 pos) (WL t):=by
 intro pins s σ H Q I hq;refine wpAny_Tuple_spliced (cH (h pos pins s σ H _ I hq) λus s1 ⟨xs,H1,I1,r,z,q⟩=>⟨by rw[<-r.length];exact z,?_⟩)
 have hf:H1 s1.heap.objs.size=none:=I1.hok.fresh$ Qak _;refine⟨.ref s1.heap.objs.size,upd H1 s1.heap.objs.size$ .tup xs,I1.laid (t':=s1.toks) (λb u e=>Qau _ e) (Qak _) ?_,rfl,q _ hf⟩
 exact⟨z,us,r,⟨_,QaY _ rfl,rfl,_,rfl⟩⟩
def HS(h:PA X es t):PE X (.List es pos) (V8 t):=by
 intro pins s σ H Q I hq;refine wpAny_List_spliced (cH (h pos pins s σ H _ I hq) λus s1 ⟨xs,H1,I1,r,z,q⟩=>⟨by rw[<-r.length];exact z,?_⟩)
 have hf:H1 s1.heap.objs.size=none:=I1.hok.fresh$ Qak _;refine⟨.ref s1.heap.objs.size,upd H1 s1.heap.objs.size$ .lst xs,I1.laid (t':=s1.toks) (λb u e=>Qau _ e) (Qak _) ?_,rfl,q _ hf⟩
 exact⟨z,us,0,r,QaY _ rfl⟩
end
abbrev Sp:=List V->Hp->VK->XK->Prop
abbrev GH:=List Env->Hp->QcR->XK->Value->QcR->Prop
structure Dg (P:Program) (w:World) (K:QcQ) (mg:Aaf) (base:Heap) (A:Around) (outer:List Env) (s:QcR) (H:Hp):Prop where
 frames:A.frames=some outer
 mod:Mod K mg base
 bs:∀b o,base.get? b=some o->s.heap.get? b=some o/\H b=none
 bsz:base.objs.size<=s.heap.objs.size
 r9:s.heap.FunFrames base outer
 frf:∀b∈qZ outer,H b=none
 hok:oU P w H s.heap
 bare:AllBare s.gens
def CE(outer:List Env)(P:Program)(w:World)(H:Hp)(s:QcR)(Q:VK)(u:Value)(s':QcR):Prop:=
 ∃v H',s'.os=s.os/\AllBare s'.gens/\Un (qZ outer) [] H H' s.heap s'.heap/\oU P w H' s'.heap/\RelV v u/\Q v H'
def CR(CX:GH)(outer:List Env)(P:Program)(w:World)(H:Hp)(s:QcR)(Q:VK)(E:XK)(r:Result)(s':QcR):Prop:=
 match r with
 | .ok (.ret u)=>CE outer P w H s Q u s'
 | .ok _=>False
 | .error e=>CX outer H s E e s'
structure jH (P:Program) (w:World) (K:QcQ) (mg:Aaf) (base:Heap) (CX:GH) (k:Nat) (f:Addr) (fd:FuncData) (ps:List Str) (sp:Sp):Prop where
 len:∀vs H Q E,sp vs H Q E->vs.length=ps.length
 run:∀(A:Around) (outer:List Env) (s:QcR) (H:Hp) (args:Args) (us:List Value) (vs:List V) (Q:VK) (E:XK),dW k A->Dg P w K mg base A outer s H->BindsTo s fd args (ps.zip us)->Vals vs us->sp vs H Q E->
  codeAny (model P w) A (.call (.ref f) args) (CR CX outer P w H s Q E) s
def jH.imp{P:Program}{w:World}{K:QcQ}{mg:Aaf}{base:Heap}{CX:GH}{k:Nat}{f:Addr}{fd:FuncData}{ps:List Str}{sp sp':Sp}(F:jH P w K mg base CX k f fd ps sp)
 (h:∀vs H Q E,sp' vs H Q E->sp vs H Q E):jH P w K mg base CX k f fd ps sp':=
 ⟨λvs H Q E q=>F.len vs H Q E$ h _ _ _ _ q,λA outer s H args us vs Q E hr he hb hv hs=>F.run A outer s H args us vs Q E hr he hb hv$ h _ _ _ _ hs⟩
def Dg.make{K:QcQ}{mg:Aaf}{outer:List Env}{s:QcR}(e:Dg P w K mg base A outer s H)(C:Addr)(us:List Value)(kw:List (Str × Value)) :
 Dg P w K mg base (A.under$ .builtin "type.__call__" ⟨.ref C ::us,kw⟩) outer s H:=⟨by first | exact e.frames | (simpa [Around.under,Code.envs,Code.isFrame,pushEnvs] using e.frames),e.mod,e.bs,e.bsz,e.r9,e.frf,e.hok,e.bare⟩
section
variable {X:Cx}{pins:Aaa}{σ:St}{H:Hp}{s s':QcR}
def Inv.Th(I:Inv X pins σ H s):Dg X.prog X.w X.K X.mg X.base X.A X.stack s H:=
 ⟨I.ok.frames,I.ok.mod,I.bs,QaK I.ok.bsz I.sz,I.stack,I.p9,I.hok,I.bare⟩
def Inv.after{Q:VK}{u:Value}(I:Inv X pins σ H s)(h:CE X.stack X.prog X.w H s Q u s'):EP X pins σ Q u s':=by
 obtain⟨v,H',os,bare,un,hok,r,q⟩:=h;obtain⟨hh,g,d,t,os'⟩:=s';obtain rfl:os'=s.os:=os;exact⟨v,H',I.call (h':=hh) (g':=g) (d':=d) (t':=t) (ch:=[]) un hok bare (λb z=>absurd z$ by simp),r,q⟩
end
def So(sp:Sp)(zG:List V)(E:XK)(t:TA):TE:=λσ H Q=>t σ H λvs H1=>sp (vs++zG) H1 Q E
def Tt(C:Addr)(m:Str)(sp:Sp)(zG:List V)(E:XK)(ta:TE)(t:TA):TE:=λσ H Q=>ta σ H λx H1=>∃a dx fs,x= .ref a/\H1 a=some (.ins C dx fs)/\fs.lookup m=none/\
 t σ H1 λvs H2=>sp (x ::(vs++zG)) H2 Q E
def RS(C:Addr)(sp:Sp)(zG:List V)(E:XK)(t:TA):TE:=λσ H Q=>t σ H λvs H1=>∀x dx,H1 x=none->H1 dx=none->dx≠x->
 sp (.ref x ::(vs++zG)) (upd (upd H1 dx$ .own x) x$ .ins C dx []) (λv H2=>v= .cM/\Q (.ref x) H2) E
def Binds(K:QcQ)(fd:FuncData)(ps:List Str)(ds:List Value):Prop:=
 ∀(s:QcR) (us:List Value),K.In s.heap->(us++ds).length=ps.length->BindsTo s fd ⟨us,[]⟩ (ps.zip$ us++ds)
def Binds.all{K:QcQ}{fd:FuncData}{ps:List Str}(h:∀us:List Value,us.length=ps.length->bindArgs fd ⟨us,[]⟩=pure (ps.zip us)):Binds K fd ps []:=λs us _ hl=>by
 rw[Qbj] at hl ⊢;exact .of_eq$ h us hl
def Passes(CX:GH)(X:Cx)(E:XK):Prop:=∀(pins:Aaa) (σ:St) (H:Hp) (s:QcR) (e:Value) (s':QcR),Inv X pins σ H s->CX X.stack H s E e s'->X.xe e s'
section
variable {X:Cx}{CX:GH}{k:Nat}{f C:Addr}{fd:FuncData}{ps:List Str}{sp:Sp}{zG:List V}{ds:List Value}{E:XK}{x m:Str}{p pos apos:Pos}{e o:Expr}{es:List Expr}{ta:TE}{t:TA}
def HJ{pins:Aaa}{σ:St}{H:Hp}{s:QcR}{Q:VK}{us:List Value}{vs:List V}(F:jH X.prog X.w X.K X.mg X.base CX k f fd ps sp)(hr:dW k X.A)(hb:Binds X.K fd ps ds)(hd:Vals zG ds)(hx:Passes CX X E)
 (I:Inv X pins σ H s) (r:Vals vs us) (h:sp (vs++zG) H Q E):wpAny (model X.prog X.w) X.A (call (.ref f) us) (EP X pins σ Q) X.xe s:=by
 have r2:Vals (vs++zG) (us++ds):=r.append hd;have hl:(us++ds).length=ps.length:=by rw[<-r2.length];exact F.len _ _ _ _ h
 refine wpAny_call$ codeAny_mono (F.run X.A X.stack s H ⟨us,[]⟩ (us++ds) (vs++zG) Q E hr I.Th (hb s us I.yd hl) r2 h) λr s' hq=>?_
 cases r with
 | error e=>exact hx pins σ H s e s' I hq
 | ok fl=>
   cases fl with
   | ret u=>exact I.after hq
   | next=>exact False.elim hq
   | brk=>exact False.elim hq
   | cont=>exact False.elim hq
def yn(F:jH X.prog X.w X.K X.mg X.base CX k f fd ps sp)(hr:dW k X.A)(hg:Gl X x)(hm:X.mg x=some (.ref f))(hk:PySem.W.keepIn X.K (.ref f)=true)(hb:Binds X.K fd ps ds)(hd:Vals zG ds)(hx:Passes CX X E)
 (ha:PA X (e ::es) t) (me:(x==("__debug__":Str))=false:=by decide) (he:starEach (e ::es) X.env=(false,eval e X.env) ::starEach es X.env:=by rfl) (oB:(backTo pos$ starEach es X.env).any (·.1)=false:=by rfl) :
 PE X (.Call (.Name x p) (e ::es) [] pos) (So sp zG E t):=by
 intro pins s σ H Q I h;refine Qce$ rR I hg hm ?_ me;refine PySem.W.callWith_K (h₀:=X.base) I.ok.mod.kin hk (cH (ha pos pins s σ H _ I h) λus s1 ⟨vs,H1,I1,r,q⟩=>⟨I1.yd,?_⟩) he oB
 exact HJ F hr hb hd hx I1 r q
def KC{pl:Sem Bool}(he:PE X o ta)(c:Am X.K C)(hm:Meth X.K C m f)(F:jH X.prog X.w X.K X.mg X.base CX k f fd ps sp)(hr:dW k X.A)(hb:Binds X.K fd ps ds)(hd:Vals zG ds)(hx:Passes CX X E)(ha:PA X (e ::es) t)
 (xA:starEach (e ::es) X.env=(false,eval e X.env) ::starEach es X.env:=by rfl) (oB:(backTo pos$ starEach es X.env).any (·.1)=false:=by rfl)
 (ht:eval (.Call (.Attribute o m apos) (e ::es) [] pos) X.env=(do
   let ov <-eval o X.env
   standAt apos.atName
   let(f,first) <-holding [ov] (getMethod ov m pl)
   callWith pos f first (backTo pos$ starEach (e ::es) X.env) (backToKw pos$ keywordEach [] X.env)):=by rfl) :
 PE X (.Call (.Attribute o m apos) (e ::es) [] pos) (Tt C m sp zG E ta t):=by
 intro pins s σ H Q I h;refine PySem.W.methodCall_KW (pl:=pl) (cH (he pins s σ H _ I h) λu s1 ⟨x,H1,I1,rx,a,dx,fs,ex,ea,l,q⟩=>?_) ht
 subst ex;obtain rfl:u=Value.ref a:=rx;refine CK I1 ea c hm l ?_;refine PySem.W.callWith_K (first:=[.ref a]) (h₀:=X.base) I.ok.mod.kin hm.kp (cH (ha pos pins s1 σ H1 _ I1 q) λus s2 ⟨vs,H2,I2,r,q2⟩=>⟨I2.yd,?_⟩) xA oB
 exact HJ (us:= .ref a ::us) (vs:= .ref a ::vs) F hr hb hd hx I2 (.cons rfl r) q2
structure Mk (K:QcQ) (C f:Addr):Prop where
 makes:PySem.W.makesIn K C=true
 init:PySem.W.findIn K (.ref C) "__init__"=some (some (.ref f))
 fn:PySem.W.isFn K (.ref f)=true
 kp:PySem.W.keepIn K (.ref C)=true
def Iq{pins:Aaa}{σ:St}{H:Hp}{s:QcR}{Q:VK}{us:List Value}{vs:List V}(M:Mk X.K C f)(F:jH X.prog X.w X.K X.mg X.base CX k f fd ps sp)(hr:dW (k+1) X.A)(hb:Binds X.K fd ps ds)(hd:Vals zG ds)
 (hx:Passes CX X E) (I:Inv X pins σ H s) (r:Vals vs us)
 (h:∀x dx,H x=none->H dx=none->dx≠x->sp (.ref x ::(vs++zG)) (upd (upd H dx$ .own x) x$ .ins C dx []) (λv H2=>v= .cM/\Q (.ref x) H2) E) :
 wpAny (model X.prog X.w) X.A (call (.ref C) us) (EP X pins σ Q) X.xe s:=by
 have hq:=h (s.heap.objs.size+1) s.heap.objs.size (I.hok.fresh$ Nat.le_succ _) (I.hok.fresh$ Qak _)$ QaR$ Nat.lt_succ_self _;have I2:=Inv.made (C:=C) I;have r2:Vals (V.ref (s.heap.objs.size+1) ::(vs++zG)) (Value.ref (s.heap.objs.size+1) ::(us++ds)):= .cons rfl$ r.append hd;have hl:(Value.ref (s.heap.objs.size+1) ::us++ds).length=ps.length:=by
  have e:=r2.length;rw[F.len _ _ _ _ hq] at e;exact e.symm
 refine wpAny_call (IC (f:=f) I.yd M.makes M.init (Qa3.mp M.fn) (codeAny_mono (F.run _ X.stack _ _ ⟨Value.ref (s.heap.objs.size+1) ::us,[]⟩ (Value.ref (s.heap.objs.size+1) ::(us++ds)) _ _ E (hr.make C us [])
  (I2.Th.make C us []) (hb _ (Value.ref (s.heap.objs.size+1) ::us) I2.yd hl) r2 hq) λr s' Ui=>?_))
 cases r with
 | error e=>exact hx pins σ _ _ e s' I2 Ui
 | ok fl=>
   cases fl with
   | ret u=>
     obtain⟨v,H',I3,rv,ev,q3⟩:=I2.after Ui;subst ev;exact⟨rv,⟨V.ref$ s.heap.objs.size+1,H',I3,rfl,q3⟩⟩
   | next=>exact False.elim Ui
   | brk=>exact False.elim Ui
   | cont=>exact False.elim Ui
def Jh(M:Mk X.K C f)(F:jH X.prog X.w X.K X.mg X.base CX k f fd ps sp)(hr:dW (k+1) X.A)(hg:Gl X x)(hm:X.mg x=some (.ref C))(hb:Binds X.K fd ps ds)(hd:Vals zG ds)(hx:Passes CX X E)
 (me:(x==("__debug__":Str))=false:=by decide):PE X (.Call (.Name x p) [] [] pos) (RS C sp zG E Ts):=by
 intro pins s σ H Q I h;refine Qce$ rR I hg hm ?_ me;exact PySem.W.callWith_K0 I.yd M.kp$ Iq (us:=[]) M F hr hb hd hx I .nil h
end
def PK(X:Cx)(Z9:List Keyword)(t:TA):Prop:=
 ∀(pos:Pos) (pins:Aaa) (s:QcR) (σ:St) (H:Hp) (Q:List V->Hp->Prop),Inv X pins σ H s->t σ H Q->wpAny (model X.prog X.w) X.A (evalAll$ (backToKw pos$ keywordEach Z9 X.env).map (·.2)) (AP X pins σ Q) X.xe s
section
variable {fd:FuncData}{ps ks:List Str}{sp:Sp}{E:XK}{t tk:TA}
structure V7 (K:QcQ) (fd:FuncData) (ps ks:List Str) (g:List Value->List Value->List Value) (gV:List V->List V->List V):Prop where
 to:∀(s:QcR) (us ws:List Value),K.In s.heap->(g us ws).length=ps.length->BindsTo s fd ⟨us,ks.zip ws⟩ (ps.zip (g us ws))
 rel:∀{vs:List V} {us:List Value} {zs:List V} {ws:List Value},Vals vs us->Vals zs ws->Vals (gV vs zs) (g us ws)
def Vl(sp:Sp)(gV:List V->List V->List V)(E:XK)(t tk:TA):TE:=λσ H Q=>t σ H λvs H1=>tk σ H1 λzs H2=>sp (gV vs zs) H2 Q E
end
structure bp (N P:List Str) (sc:Scope):Prop where
 kind:sc.kind= .function:=by rfl
 co:sc.isCoroutine=false:=by rfl
 gen:sc.isGenerator=false:=by rfl
 nd:N.Nodup:=by decide+kernel
 pre:N.take P.length=P:=by rfl
 par:∀x∈P,sc.names.lookup x=some .local\/sc.names.lookup x=some .cell:=by decide+kernel
 nofree:∀y∈sc.names,y.2≠ .free:=by decide+kernel
theorem xK{kindOf:Str->Option NameKind}:∀{binds:List (Str × Value)} {m:Aaf},(∀v,(x,v) ∉ binds)->bindL kindOf binds m x=m x
 | [],_,_=>rfl
 | (n,v) ::r,m,h=>by
   unfold bindL;rw[xK λw hw=>h w$ Qab _ hw]
   split
   .have:x≠n:=by rintro rfl;exact h v Qai
    simp [this]
   .rfl
theorem yj{kindOf:Str->Option NameKind}:∀{binds:List (Str × Value)} {m:Aaf},(∀v,(x,v) ∉ binds)->bindC kindOf binds m x=m x
 | [],_,_=>rfl
 | (n,v) ::r,m,h=>by
   unfold bindC;rw[yj λw hw=>h w$ Qab _ hw]
   split
   .rfl
   .have:x≠n:=by rintro rfl;exact h v Qai
    simp [this]
def xU{kindOf:Str->Option NameKind}{v:Value}:∀{P:List Str} {vs:List Value} {i:Nat} {m:Aaf},P.Nodup->P[i]? =some x->vs[i]? =some v->kindOf x=some .local->
 bindL kindOf (P.zip vs) m x=some v
 | [],_,_,_,_,h,_,_=>by simp at h
 | _ ::_,[],_,_,_,_,h,_=>by simp at h
 | p ::P,w ::vs,0,m,nd,h1,h2,hk=>by
   simp at h1 h2;subst h1;subst h2;show bindL kindOf ((p,w) ::P.zip vs) m p=_;unfold bindL;rw[xK λv hv=>(QbB.mp nd).1 (List.of_mem_zip hv).1,Qap hk]
   simp
 | p ::P,w ::vs,i+1,m,nd,h1,h2,hk=>by
   show bindL kindOf ((p,w) ::P.zip vs) m x=_;unfold bindL;exact xU (i:=i) (QbB.mp nd).2 (by simpa using h1) (by simpa using h2) hk
def xJ{kindOf:Str->Option NameKind}{v:Value}:∀{P:List Str} {vs:List Value} {i:Nat} {m:Aaf},P.Nodup->P[i]? =some x->vs[i]? =some v->kindOf x≠some .local->
 bindC kindOf (P.zip vs) m x=some v
 | [],_,_,_,_,h,_,_=>by simp at h
 | _ ::_,[],_,_,_,_,h,_=>by simp at h
 | p ::P,w ::vs,0,m,nd,h1,h2,hk=>by
   simp at h1 h2;subst h1;subst h2;show bindC kindOf ((p,w) ::P.zip vs) m p=_;unfold bindC;rw[yj λv hv=>(QbB.mp nd).1 (List.of_mem_zip hv).1,Qaj hk]
   simp
 | p ::P,w ::vs,i+1,m,nd,h1,h2,hk=>by
   show bindC kindOf ((p,w) ::P.zip vs) m x=_;unfold bindC;exact xJ (i:=i) (QbB.mp nd).2 (by simpa using h1) (by simpa using h2) hk
def start(N:List Str)(vs:List V):St:=vs.map some++List.replicate (N.length - vs.length) none
def mn(CX:GH)(P:Program)(w:World)(K:QcQ)(mg:Aaf)(base:Heap)(N:List Str)(qual:Str)(scope:Scope)(f:Addr)(cd:Value)(A:Around)(outer:List Env)(s:QcR)(H:Hp)(E:XK):Cx where
 prog:=P
 w:=w
 K:=K
 mg:=mg
 base:=base
 A:=A.deeper$ envOfC qual scope s.heap.objs.size f cd
 N:=N
 s₀:=s
 H₀:=H
 env:=envOfC qual scope s.heap.objs.size f cd
 outer:=outer
 stack:=envOfC qual scope s.heap.objs.size f cd ::outer
 ex:=[]
 calm:=true
 fn:=λ_=>true
 pn:=[]
 xe:=λe s'=>wpAny (model P w) (A.deeper$ envOfC qual scope s.heap.objs.size f cd) (leaving (envOfC qual scope s.heap.objs.size f cd) e) (λ_ Xt=>CX outer H s E e Xt) (λe' Xt=>CX outer H s E e' Xt) s'
def vh{sc:Scope}{n:Nat}(h:sc.names.lookup x=some .cell):∃c,(cellsFrom n sc.names []).lookup x=some c:=by
 have q:=PySem.W.cellsFrom_some sc.names n []$ .inl h;exact Qbk.mp q
def Fm{CX:GH}{P:Program}{w:World}{K:QcQ}{mg:Aaf}{base:Heap}{N ps:List Str}{qual:Str}{scope:Scope}{f:Addr}{cd:Value}{A:Around}{outer:List Env}{s s1:QcR}{H:Hp}{E:XK}{us:List Value}{vs:List V}
 (S:bp N ps scope) (hd:A.handled=none) (e0:Dg P w K mg base A outer s H) (hl:vs.length=ps.length) (r:Vals vs us)
 (x:InCallC s s.heap.objs.size (bindL (envOfC qual scope s.heap.objs.size f cd).kindOf (ps.zip us) λ_=>none) (cellsFrom (s.heap.objs.size+1) scope.names []) (bindC (envOfC qual scope s.heap.objs.size f cd).kindOf (ps.zip us) λ_=>none) s1) :
 Inv (mn CX P w K mg base N qual scope f cd A outer s H E) [] (start N vs) H s1:=by
 have oB:ps.length<=N.length:=by have:=Qbs List.length S.pre;rw [QaO] at this;omega
 obtain⟨h1,tk,rfl,hk⟩:=x.done;have noA:∀b:Addr,b ∉ (mn CX P w K mg base N qual scope f cd A outer s H E).ex:=λb z=>absurd (show b∈([]:List Addr) from z) (by simp)
 refine⟨⟨e0.mod,S.kind,rfl,rfl,Qak _,λy z c h1 h2=>?_,λy hy=>?_,λy c _ h=>?_,λ_=>hd,Around.frames_deeper e0.frames, .inr ⟨rfl,rfl⟩,λb z=>absurd z$ noA b,e0.bs,e0.bsz,λb _ _=>noA b,λb z=>absurd z$ noA b,e0.r9,e0.frf⟩,
  rfl,e0.bare,Un.kept hk,⟨_,x.toInCall.ns,λi y v h1 h2 h3=>?_⟩,λy c h=>⟨_,x.cell y c h⟩,e0.hok.fresh$ Qak _,λy c h=>?_,λp hp=>absurd (show p∈([]:Aaa) from hp) (by simp),e0.hok.kept hk,?_⟩
 .exact name_of_addr x.apart (Qbh h1) (Qbh h2)
 .have hy:scope.names.lookup y=some .cell\/scope.names.lookup y=some .free:=hy;rcases hy with hy | hy
  .exact vh hy
  .exact absurd rfl (S.nofree _$ Qbh hy)
 .exact Nat.le_of_lt (x.above y c$ Qbh h)
 .have hi:i<vs.length:=by
   unfold start at h2;by_cases hi:i<vs.length
   .exact hi
   .rw [Qal$ by simpa using hi] at h2
    rw[QaS] at h2;split at h2 <;> cases h2
  have ha:vs[i]? =some v:=by
   unfold start at h2;rw[Qat (by simpa using hi),Qad] at h2
   cases e:vs[i]? with
   | none=>rw [e] at h2;cases h2
   | some a=>rw [e] at h2;cases h2;rfl
  obtain⟨u,hu,rv⟩:=r.get ha;have hp:ps[i]? =some y:=by
   rw[<-S.pre,Qbw$ by omega];exact h1
  have ndP:ps.Nodup:=by rw[<-S.pre];exact S.nd.sublist$ QcJ _ _
  refine⟨u,rv,?_⟩;rcases S.par y (Qan hp) with k | k
  .exact .inl ⟨k,xU ndP hp hu k⟩
  .obtain⟨c,e⟩:=vh (n:=s.heap.objs.size+1) k;refine .inr ⟨.inl k,c,e,?_⟩;have q:=x.cell y c e;rw[xJ ndP hp hu$ by show scope.names.lookup y≠_;rw [k];decide] at q
   exact q
 .exact e0.hok.fresh (Nat.le_of_lt$ x.above y c$ Qbh h)
 .unfold start;show _=N.length;rw[Qar,Qaa,QaV];omega
def M_{CX:GH}{P:Program}{w:World}{K:QcQ}{mg:Aaf}{base:Heap}{k:Nat}{f:Addr}{name qual:Str}{params:Arguments}{body:List Stmt}{scope:Scope}{dV kV doc pm fu ct oc:Value}{an od:Option Addr}
 {JJ:Array (Option Value)} {N ps:List Str} {sp:Sp} (lk:K.lookup f=some ⟨oc,od, .func$ PySem.W.fnOf name qual params body scope dV kV doc pm an fu ct,JJ⟩) (rJ:PySem.W.codeIn K fu qual=true) (S:bp N ps scope)
 (len:∀vs H Q E,sp vs H Q E->vs.length=ps.length)
 (fj:∀(A:Around) (outer:List Env) (s:QcR) (H:Hp) (vs:List V) (Q:VK) (E:XK),dW k (A.deeper$ envOfC qual scope s.heap.objs.size f fu)->sp vs H Q E->
   ∃t,yI (mn CX P w K mg base N qual scope f fu A outer s H E) body t/\t {nx:=λ_ H'=>Q .cM H',rt:=Q} (start N vs) H) :
 jH P w K mg base CX (k+1) f (PySem.W.fnOf name qual params body scope dV kV doc pm an fu ct) ps sp:=by
 refine⟨len,λA outer s H args us vs Q E hr e0 hb r GC=>?_⟩
 have hl:=len _ _ _ _ GC;have KX:K.In s.heap:=e0.mod.kin.keeps λb o e=>(e0.bs b o e).1
 have lim:s.heap.NoLimit:=e0.mod.nolimit.keeps λb o e=>(e0.bs b o e).1
 have hkind:∀y∈ps.zip us,scope.names.lookup y.1=some .local\/(scope.names.lookup y.1=some .cell/\((cellsFrom (s.heap.objs.size+1) scope.names []).lookup y.1).isSome=true):=λ⟨n,v⟩ hy=>by
  rcases S.par n (List.of_mem_zip hy).1 with q | q
  .exact .inl q
  .exact .inr ⟨q,PySem.W.cellsFrom_some _ _ _$ .inl q⟩
 refine codeAny_call_function hr.depth (KX _ _ lk) rfl S.co S.gen rfl (PySem.W.codeRec_of KX rJ)$ hb _ _ _ _ ?_;refine wpAny_newFunctionEnv_cells S.kind hkind λenv he s1 x=>?_
 subst he;refine⟨lim.keeps x.toInCall.keep,codeAny_func ?_⟩;obtain⟨t,ht,hq⟩:=fj A outer s H vs Q E (hr.deeper _) GC;have I:Inv (mn CX P w K mg base N qual scope f fu A outer s H E) [] (start N vs) H s1:=Fm S hr.hd e0 hl r x;refine QbP (ht [] s1 (start N vs) H _ I hq) (λfl s' hs=>?_) λe s' hs=>hs
 have fin:∀{cu:St} {H':Hp} {v:V} {u:Value},Inv (mn CX P w K mg base N qual scope f fu A outer s H E) [] cu H' s'->RelV v u->Q v H'->CE outer P w H s Q u s':=
  fun {cu H' v u} J rv q=>⟨v,H',J.os,J.bare,J.base,J.hok,rv,q⟩
 cases fl with
 | ret u=>
   obtain⟨v,cu,H',J,rv,q⟩:=hs;exact fin J rv q
 | next=>
   obtain⟨cu,H',J,q⟩:=hs;exact fin (v:=V.cM) (u:=Value.none) J rfl q
 | brk=>
   obtain⟨_,_,_,q⟩:=hs;exact False.elim q
 | cont=>
   obtain⟨_,_,_,q⟩:=hs;exact False.elim q
section
variable {X:Cx}{x:Str}{p pos:Pos}{e:Expr}{es:List Expr}{t:TA}{id T:String}{r:List V->Hp->VK->Prop}
def Zc(r:List V->Hp->VK->Prop)(t:TA):TE:=λσ H Q=>t σ H λvs H1=>r vs H1 Q
def vM(hc:kL X (.builtin id) r)(hg:Gl X x)(hm:X.mg x=none)(hv:bootBuiltins x=some (.builtin id))(ha:PA X (e ::es) t)(hn:x≠"__name__":=by decide)(me:(x==("__debug__":Str))=false:=by decide)
 (he:starEach (e ::es) X.env=(false,eval e X.env) ::starEach es X.env:=by rfl) (oB:(backTo pos$ starEach es X.env).any (·.1)=false:=by rfl):PE X (.Call (.Name x p) (e ::es) [] pos) (Zc r t):=by
 intro pins s σ H Q I h;refine Qce$ uY I hg hm hv ?_ hn me;exact PyProof.Rows.callWith_builtin1 (cH (ha pos pins s σ H _ I h) λus s1 ⟨vs,H1,I1,r1,q1⟩=>hc pins s1 σ H1 vs us Q I1 r1 q1) he oB
def x5(hc:kL X (.type T) r)(hg:Gl X x)(hm:X.mg x=none)(hv:bootBuiltins x=some (.type T))(ha:PA X (e ::es) t)(hn:x≠"__name__":=by decide)(me:(x==("__debug__":Str))=false:=by decide)
 (he:starEach (e ::es) X.env=(false,eval e X.env) ::starEach es X.env:=by rfl) (oB:(backTo pos$ starEach es X.env).any (·.1)=false:=by rfl):PE X (.Call (.Name x p) (e ::es) [] pos) (Zc r t):=by
 intro pins s σ H Q I h;refine Qce$ uY I hg hm hv ?_ hn me;exact QbW (cH (ha pos pins s σ H _ I h) λus s1 ⟨vs,H1,I1,r1,q1⟩=>hc pins s1 σ H1 vs us Q I1 r1 q1) he oB
end
section
variable {κ:Type}[DecidableEq κ]
def lK(aD:List (κ × V))(k:κ):Option V:=(aD.find? λkv=>decide$ kv.1=k).map (·.2)
def putK(aD:List (κ × V))(k:κ)(v:V):List (κ × V):=
 if(aD.any λkv=>decide$ kv.1=k)=true then aD.map (λkv=>if kv.1=k then(kv.1,v) else kv) else aD++[(k,v)]
def Iy(aD:List (κ × V))(k:κ):List (κ × V):=aD.filter λkv=>decide$ kv.1≠k
def vD{p:κ × V}{r:List (κ × V)}{k:κ}(e:p.1=k):lK (p ::r) k=some p.2:=by simp [lK,Qbq,e]
def vP{p:κ × V}{r:List (κ × V)}{k:κ}(e:¬p.1=k):lK (p ::r) k=lK r k:=by simp [lK,Qbq,e]
theorem Bn(k:κ):∀aD:List (κ × V),(aD.any λkv=>decide$ kv.1=k)=(lK aD k).isSome
 | []=>rfl
 | p ::r=>by
   rw[Qby];by_cases e:p.1=k
   .simp only[vD e,Qac e,Bool.true_or,Option.isSome_some]
   .rw [vP e,Qaf e,Bool.false_or];exact Bn k r
def pF(aD:List (κ × V))(k:κ)(v:V):(putK aD k v).length<=aD.length+1:=by
 unfold putK;split
 .rw [Qaa];omega
 .rw [Qar,QaI,List.length_nil];omega
def nV.iU{o:Option V}{u:Option Value}(r:nV o u):o.isSome=u.isSome:=by
 cases o with
 | none=>cases u with
   | none=>rfl
   | some _=>exact(show False from r).elim
 | some _=>cases u with
   | none=>exact(show False from r).elim
   | some _=>rfl
def nV.getD{o:Option V}{u:Option Value}{d:V}{d':Value}(r:nV o u)(rd:RelV d d'):RelV (o.getD d) (u.getD d'):=by
 cases o with
 | none=>cases u with
   | none=>exact rd
   | some _=>exact(show False from r).elim
 | some _=>cases u with
   | none=>exact(show False from r).elim
   | some _=>exact r
def KV.val{aD:List (κ × V)}{vs:List (κ × Value)}(r:KV aD vs)(k:κ):nV (lK aD k) (valueAt vs k):=by
 unfold KV at r
 induction r with
 | nil=>exact True.intro
 | @cons p q ps qs h t ih=>
   obtain⟨h1,h2⟩:=h;by_cases e:p.1=k
   .have e':q.1=k:=h1.symm.trans e;have b:valueAt (q ::qs) k=some q.2:=by simp [valueAt,Qbq,e']
    rw[vD e,b];exact h2
   .have e':¬q.1=k:=λz=>e (h1.trans z)
    have b:valueAt (q ::qs) k=valueAt qs k:=by simp [valueAt,Qbq,e']
    rw[vP e,b];exact ih
def KV.any{aD:List (κ × V)}{vs:List (κ × Value)}(r:KV aD vs)(k:κ):(aD.any λkv=>decide$ kv.1=k)=vs.any λkv=>decide (kv.1=k):=by
 unfold KV at r
 induction r with
 | nil=>rfl
 | cons h t ih=>rw [Qby,Qby,ih,h.1]
def KV.P5{aD:List (κ × V)}{vs:List (κ × Value)}(r:KV aD vs)(k:κ){y:V}{u:Value}(ry:RelV y u) :
 KV (aD.map λkv=>if kv.1=k then(kv.1,y) else kv) (vs.map λkv=>if kv.1=k then(kv.1,u) else kv):=by
 unfold KV at r ⊢
 induction r with
 | nil=>exact .nil
 | @cons p q ps qs h t ih=>
   rw[Qay,Qay];refine .cons ?_ ih;obtain⟨h1,h2⟩:=h;by_cases e:p.1=k
   .rw [Qap e,Qap$ h1.symm.trans e];exact⟨h1,ry⟩
   .rw [Qaj e,Qaj$ λz=>e$ h1.trans z];exact⟨h1,h2⟩
def KV.put{aD:List (κ × V)}{vs:List (κ × Value)}(r:KV aD vs)(k:κ){y:V}{u:Value}(ry:RelV y u):KV (putK aD k y) (stored vs k u):=by
 unfold putK stored;rw[r.any k];by_cases e:(vs.any λkv=>decide$ kv.1=k)=true
 .rw [Qap e,Qap e];exact r.P5 k ry
 .rw [Qaj e,Qaj e];exact Paired.snoc r ⟨rfl,ry⟩
def KV.length{aD:List (κ × V)}{vs:List (κ × Value)}(r:KV aD vs):aD.length=vs.length:=Paired.length r
end
def qH{k:Key}{u:Value}(r:RelV (kV k) u):(cU P w).is k u=true:=by
 cases k with
 | inl i=>obtain⟨t,e⟩:=(show ∃t,u=Value.int i t from r);subst e;exact Bq P w i t
 | inr x=>obtain⟨t,e⟩:=(show ∃t,u=Value.str x t from r);subst e;exact pQ P w x t
theorem x9:∀{ks:List Key} {us:List Value},Vals (ks.map kV) us->ItemsAre (cU P w) ks us
 | [],_,r=>by rw[QbI] at r;cases r;exact .nil
 | k ::ks,_,r=>by
   rw[Qay] at r;cases r with
   | cons h t=>exact .cons (qH h)$ x9 t
abbrev KT(H:Hp):List (List Key × V)->List (List Key × Addr × Value)->Prop:=Paired fun p q=>p.1=q.1/\H q.2.1=some (.tup$ p.1.map kV)/\RelV p.2 q.2.2
def KT.val{aD:List (List Key × V)}{xs:List (List Key × Addr × Value)}(r:KT H aD xs)(k:List Key):nV (lK aD k) ((atKey xs k).map (·.2)):=by
 induction r with
 | nil=>exact True.intro
 | @cons p q ps qs h t ih=>
   obtain⟨h1,_,h2⟩:=h;by_cases e:p.1=k
   .have e':q.1=k:=h1.symm.trans e;have b:atKey (q ::qs) k=some q.2:=by simp [atKey,Qbq,e']
    rw[vD e,b];exact h2
   .have e':¬q.1=k:=λz=>e (h1.trans z)
    have b:atKey (q ::qs) k=atKey qs k:=by simp [atKey,Qbq,e']
    rw[vP e,b];exact ih
def KT.P5{aD:List (List Key × V)}{xs:List (List Key × Addr × Value)}(r:KT H aD xs)(k:List Key){y:V}{u:Value}(ry:RelV y u) :
 KT H (aD.map λkv=>if kv.1=k then(kv.1,y) else kv) (xs.map$ putAt k u):=by
 induction r with
 | nil=>exact .nil
 | @cons p q ps qs h t ih=>
   rw[Qay,Qay];refine .cons ?_ ih;obtain⟨h1,h2,h3⟩:=h;unfold putAt;by_cases e:p.1=k
   .rw [Qap e,Qap$ h1.symm.trans e];exact⟨h1,h2,ry⟩
   .rw [Qaj e,Qaj$ λz=>e$ h1.trans z];exact⟨h1,h2,h3⟩
def KT.put{H:Hp}{aD:List (List Key × V)}{xs:List (List Key × Addr × Value)}(r:KT H aD xs)(k:List Key){b:Addr}{y:V}{u:Value}(hb:H b=some (.tup$ k.map kV))(ry:RelV y u) :
 KT H (putK aD k y) (storedH xs k b u):=by
 have e:(aD.any λkv=>decide$ kv.1=k)=(atKey xs k).isSome:=by
  rw[Bn,(r.val k).iU,QbT]
 unfold putK storedH;rw[e];by_cases q:(atKey xs k).isSome=true
 .rw [Qap q,Qap q];exact r.P5 k ry
 .rw [Qaj q,Qaj q];exact Paired.snoc r ⟨rfl,hb,ry⟩
def KT.keeps{H H':Hp}{aD:List (List Key × V)}{xs:List (List Key × Addr × Value)}(r:KT H aD xs)(ht:∀b ys,H b=some (.tup ys)->H' b=some (.tup ys)):KT H' aD xs:=
 Paired.OA r λ_ _ z=>⟨z.1,ht _ _ z.2.1,z.2.2⟩
section
variable {P:Program}{w:World}{H:Hp}{h:Heap}{a:Addr}
def MG{u:HO}(ok:oU P w H h)(e:Rd H a u):eu P w H h a u:=e.ok ok
def tZ{aD:List (Key × V)}(ok:oU P w H h)(e:Rd H a (.dK aD)):aD.length<=sizeLine/\(a==sysModules)=false/\∃vs,KV aD vs/\h.DictOf (cU P w) a vs:=
 show eu P w H h a (.dK aD) from MG ok e
def MI{aD:List (Key × V)}(ok:oU P w H h)(e:H a=some (.dK aD)):aD.length<=sizeLine/\(a==sysModules)=false/\∃vs,KV aD vs/\h.DictOf (cU P w) a vs:=tZ ok$ .inl e
def sZ{ks:List Key}(ok:oU P w H h)(e:H a=some (.tup$ ks.map kV)):(tupleKind$ cU P w).is h ks a:=by
 obtain⟨_,its,r,o,h1,h2,n,h3⟩:=(show eu P w H h a (.tup$ ks.map kV) from ok a _ e)
 exact⟨o,its.toArray,n,h1,h2,h3,by simpa using x9 r⟩
def vf{aD:List (List Key × V)}(ok:oU P w H h)(e:Rd H a (.dT aD)):aD.length<=sizeLine/\(a==sysModules)=false/\
 ∃xs,KT H aD xs/\h.DictOfH (tupleKind$ cU P w) a xs:=by
 obtain⟨z,y,xs,r,o,es,ep,h1,h2,h3,h4,h5⟩:=(show eu P w H h a (.dT aD) from MG ok e)
 refine⟨z,y,xs,r,o,es,ep,h1,h2,h3,h4,λx hx=>?_,h5⟩
 have all:∀{l:List (List Key × V)} {m:List (List Key × Addr × Value)},KT H l m->∀x∈m,(tupleKind$ cU P w).is h x.1 x.2.1:=by
  intro l m q
  induction q with
  | nil=>intro x hx;exact nomatch hx
  | @cons p q ps qs hq t ih=>
    intro x hx;rcases QaF.mp hx with e | hx
    .subst e;exact sZ ok (by rw[<-hq.1];exact hq.2.1)
    .exact ih x hx
 exact all r x hx
def T_{aD:List (List Key × V)}(ok:oU P w H h)(e:H a=some (.dT aD)):aD.length<=sizeLine/\(a==sysModules)=false/\
 ∃xs,KT H aD xs/\h.DictOfH (tupleKind$ cU P w) a xs:=vf ok$ .inl e
end
def qx(H:Hp)(a:Addr)(y:V)(r:Option V):Prop:=
 (∃aD k,Rd H a (.dK aD)/\y=kV k/\r=lK aD k)\/∃aD k b,Rd H a (.dT aD)/\y= .ref b/\H b=some (.tup$ k.map kV)/\r=lK aD k
def Gh(H:Hp)(a:Addr)(y v:V)(H':Hp):Prop:=
 (∃aD k,H a=some (.dK aD)/\y=kV k/\aD.length<sizeLine/\H'=upd H a (.dK$ putK aD k v))\/
 ∃aD k b,H a=some (.dT aD)/\y= .ref b/\H b=some (.tup$ k.map kV)/\aD.length<sizeLine/\H'=upd H a (.dT$ putK aD k v)
def qx.k{H:Hp}{a:Addr}{aD:List (Key × V)}{k:Key}(e:H a=some (.dK aD)):qx H a (kV k) (lK aD k):= .inl ⟨aD,k, .inl e,rfl,rfl⟩
def Gh.k{H:Hp}{a:Addr}{aD:List (Key × V)}{k:Key}{v:V}(e:H a=some (.dK aD))(hl:aD.length<sizeLine):Gh H a (kV k) v (upd H a$ .dK$ putK aD k v):= .inl ⟨aD,k,e,rfl,hl,rfl⟩
section
variable {X:Cx}{pins:Aaa}{σ:St}{H:Hp}{s:QcR}{a:Addr}{y v:V}{u r:Value}{o:Option V}{A:Around}{E:Aab}
def Inv.big(I:Inv X pins σ H s):sysModules<s.heap.objs.size:=by
 have h:mainGlobals<s.heap.objs.size:=(I.mod.glob.keeps I.bk).lt;exact Nat.lt_trans (by decide) h
def F4{Q:Aab}(hu:A.units+1<cLine)(I:Inv X pins σ H s)(g:qx H a y (some v))(ry:RelV y u)(h:∀w' s',Inv X pins σ H s'->RelV v w'->Q w' s') :
 wpAny (model X.prog X.w) A (getItem (.ref a) u) Q E s:=by
 rcases g with⟨aD,k,e,ey,l⟩ | ⟨aD,k,b,e,ey,eb,l⟩
 .subst ey;obtain⟨z,hd,vs,rel,dd⟩:=tZ I.hok e;obtain⟨w',hw,Bv⟩:=nV.some_of (v:=v) (o:=valueAt vs k) (by rw[l];exact rel.val k)
  exact wpAny_getItem_of (qH ry) dd.mapOf hw$ h w' _ (I.tok _) Bv
 .subst ey;cases(show u=Value.ref b from ry)
  obtain⟨z,hd,xs,rel,dd⟩:=vf I.hok e;obtain⟨w',hw,Bv⟩:=nV.some_of (v:=v) (o:=(atKey xs k).map (·.2)) (by rw[l];exact rel.val k)
  obtain⟨p,hp,hp2⟩:=Qbg.mp hw;refine wpAny_getItem_heap (QbQ hu) (sZ I.hok eb) dd hp ?_;rw[hp2];exact h w' _ (I.tok _) Bv
def WS{Q:Aab}(hu:A.units+1<cLine)(I:Inv X pins σ H s)(g:qx H a y o)(ry:RelV y u)(h:∀s',Inv X pins σ H s'->Q (.bool o.isSome) s') :
 wpAny (model X.prog X.w) A (compareOp .In u$ .ref a) Q E s:=by
 rcases g with⟨aD,k,e,ey,l⟩ | ⟨aD,k,b,e,ey,eb,l⟩
 .subst ey;obtain⟨z,hd,vs,rel,dd⟩:=tZ I.hok e;refine wpAny_in_of (qH ry) hd dd.mapOf ?_;rw[<-(rel.val k).iU,<-l];exact h _$ I.tok _
 .subst ey;cases(show u=Value.ref b from ry)
  obtain⟨z,hd,xs,rel,dd⟩:=vf I.hok e;refine wpAny_in_heap (QbQ hu) (sZ I.hok eb) hd dd ?_;have q:=(rel.val k).iU;rw[QbT] at q;rw[<-q,<-l];exact h _$ I.tok _
def Mj{Q:Aab}(hu:A.units+1<cLine)(I:Inv X pins σ H s)(g:qx H a y o)(ry:RelV y u)(h:∀s',Inv X pins σ H s'->Q (.bool$ !o.isSome) s') :
 wpAny (model X.prog X.w) A (compareOp .NotIn u$ .ref a) Q E s:=by
 rcases g with⟨aD,k,e,ey,l⟩ | ⟨aD,k,b,e,ey,eb,l⟩
 .subst ey;obtain⟨z,hd,vs,rel,dd⟩:=tZ I.hok e;refine wpAny_notIn_of (qH ry) hd dd.mapOf ?_;rw[<-(rel.val k).iU,<-l];exact h _$ I.tok _
 .subst ey;cases(show u=Value.ref b from ry)
  obtain⟨z,hd,xs,rel,dd⟩:=vf I.hok e;refine wpAny_notIn_heap (QbQ hu) (sZ I.hok eb) hd dd ?_;have q:=(rel.val k).iU;rw[QbT] at q;rw[<-q,<-l];exact h _$ I.tok _
def yO{h':Heap}{t':Nat}{ob:HO}(I:Inv X pins σ H s)(mu:T7 (H a))(hs:Heap.SameBut a s.heap h')(he:∃q,h'.get? a=some q)(new:eu X.prog X.w (upd H a ob) h' a ob) :
 Inv X pins σ (upd H a ob) {s with heap:=h',toks:=t'}:=
 I.write (x:=a) (e:=a) mu (.inl rfl) (λb q hb z=>(hs.2 b hb).trans z) he new
def Hr{H':Hp}{h':Heap}{aD:List (Key × V)}{vs:List (Key × Value)}(z:aD.length<=sizeLine)(hd:(a==sysModules)=false)(rel:KV aD vs)(dd:h'.DictOf (cU P w) a vs) :
 eu P w H' h' a (.dK aD):=⟨z,hd,vs,rel,dd⟩
def EY{Q:Unit->QcR->Prop}(hu:A.units+1<cLine)(I:Inv X pins σ H s)(g:Gh H a y v H')(ry:RelV y u)(rv:RelV v r)(h:∀s',Inv X pins σ H' s'->Q () s') :
 wpAny (model X.prog X.w) A (setItem (.ref a) u r) Q E s:=by
 rcases g with⟨aD,k,e,ey,l,eH⟩ | ⟨aD,k,b,e,ey,eb,l,eH⟩
 .subst ey eH;obtain⟨z,hd,vs,rel,dd⟩:=MI I.hok e;have hz:vs.length<=sizeLine:=by rw[<-rel.length];exact z
  have hl:(putK aD k v).length<=sizeLine:=by have:=pF aD k v;omega
  refine wpAny_setItem_pairs (hsz:=hz) (qH ry) dd λh' QU hs=>h _ ?_
  have he:∃q,h'.get? a=some q:=let⟨q,_,_,hq,_⟩:=QU;⟨q,hq⟩
  exact yO I (by rw[e];exact True.intro) hs he$ Hr hl hd (rel.put k rv) QU
 .subst ey eH;cases(show u=Value.ref b from ry)
  obtain⟨z,hd,xs,rel,dd⟩:=T_ I.hok e;have hz:xs.length<=sizeLine:=by rw[<-Paired.length rel];exact z
  have hl:(putK aD k v).length<=sizeLine:=by have:=pF aD k v;omega
  refine wpAny_setItem_heap (hsz:=hz) (QbQ hu) (sZ I.hok eb) dd λh' QU hs=>h _ ?_
  obtain⟨q,es,ep,hq,h2,h3,h4,_,h5⟩:=QU;refine yO I (by rw[e];exact True.intro) hs ⟨q,hq⟩ ⟨hl,hd,_,(rel.put k eb rv).keeps λc ys ec=>?_,q,es,ep,hq,h2,h3,h4,h5⟩
  rw[bb$ Rz ec e$ λz=>nomatch z]
  exact ec
end
section
variable {X:Cx}{pins:Aaa}{σ:St}{H:Hp}{s:QcR}{a:Addr}{aD:List (Key × V)}{A:Around}{E:Aab}
def SM{Q:Aab}(I:Inv X pins σ H s)(e:Rd H a (.dK aD))(h:∀t s',Inv X pins σ H s'->Q (.int aD.length t) s'):wpAny (model X.prog X.w) A (call (.builtin "len") [.ref a]) Q E s:=by
 obtain⟨z,hd,vs,rel,dd⟩:=tZ I.hok e;refine call_len_dict hd dd (by rw[<-rel.length];rw [Qav] at z;omega) ?_
 rw[<-rel.length];exact h _ _$ I.tok _
end
def L6(i:Expr):Prop:=∀ov iv,subscripted i false ov iv=operate [ov,iv] (getItem ov iv)
def Ee{prog:Program}{w:World}{A:Around}{E:Aab}{s:QcR}{env:Env}{value slice:Expr}{pos:Pos}{T id:String}{Q:Aab}
 (hl:typeLookup (.type T) "__getitem__"=pure (some$ .builtin id)) (hs:L6 slice)
 (h:wpAny (model prog w) A (eval value env) (λo s₁=>wpAny (model prog w) A (eval slice env) (λi xx=>xx.TypeIs o T/\wpAny (model prog w) A (getItem o i) Q E xx) E s₁) E s) :
 wpAny (model prog w) A (eval (.Subscript value slice pos) env) Q E s:=by
 refine Subscript_$ QbP h (λo s₁ oV=>QbP oV (λi xx zH=>?_) λ_ _ x=>x) λ_ _ x=>x
 obtain⟨hT,zH⟩:=zH;unfold subscriptTail;refine Qaw ?_;rw[getitemInPython_of_ne hT.not_modules];refine Qaw$ wpAny_specialOf hT hl ?_;have fin:wpAny (model prog w) A (subscripted slice false o i) (λr My=>wpAny (model prog w) A (letTemporaryGo value o r >>=λ_=>pure r) Q E My) E xx:=by
  rw[hs o i];exact wpAny_operating$ QbP zH (λr My YF=>Qaw$ wpAny_letTemporaryGo$ QaX YF) λ_ _ x=>x
 first
  | exact QaX (Qaw fin)
  | exact Qaw (QaX$ Qaw fin)
  | exact Qaw fin
def Bp{X:Cx}{pins:Aaa}{s:QcR}{a:Addr}{y:V}{o:Option V}(I:Inv X pins σ H s)(g:qx H a y o):s.TypeIs (.ref a) "dict":=by
 rcases g with⟨aD,k,e,_,_⟩ | ⟨aD,k,b,e,_,_,_⟩
 .obtain⟨_,_,vs,_,dd⟩:=tZ I.hok e;exact dd.typeIs
 .obtain⟨_,_,xs,_,dd⟩:=vf I.hok e;exact dd.typeIs
def R7(td ty:TE):TE:=λσ H Q=>td σ H λx H1=>ty σ H1 λy H2=>∃a v,x= .ref a/\qx H2 a y (some v)/\Q v H2
def VD(ty td:TE):TE:=λσ H Q=>ty σ H λy H1=>td σ H1 λx H2=>∃a o,x= .ref a/\qx H2 a y o/\Q (.bl o.isSome) H2
def LV(ty td:TE):TE:=λσ H Q=>ty σ H λy H1=>td σ H1 λx H2=>∃a o,x= .ref a/\qx H2 a y o/\Q (.bl$ !o.isSome) H2
def Se(td ty tv:TE):TS:=λD σ H=>tv σ H λv H1=>td σ H1 λx H2=>ty σ H2 λy H3=>∃a H4,x= .ref a/\Gh H3 a y v H4/\D.nx σ H4
def ZY(td ty tv:TE)(rd:V->V->Hp->VK->Prop):TS:=λD σ H=>td σ H λx H1=>ty σ H1 λy H2=>∃a v,x= .ref a/\qx H2 a y (some v)/\
 tv σ H2 λy2 H3=>rd v y2 H3 λz H4=>∃H5,Gh H4 a y z H5/\D.nx σ H5
def Zm(td ty:TE):TS:=λD σ H=>td σ H λx H1=>ty σ H1 λy H2=>∃a aD k,x= .ref a/\H2 a=some (.dK aD)/\y=kV k/\(lK aD k).isSome=true/\D.nx σ (upd H2 a$ .dK$ Iy aD k)
section
variable {X:Cx}{o i value:Expr}{pos pos':Pos}{td ty tv:TE}
def LG(hu:X.A.units+1<cLine)(ho:PE X o td)(hi:PE X i ty)(hs:L6 i):PE X (.Subscript o i pos) (R7 td ty):=by
 intro pins s σ H Q I h;refine Ee QcL.lookup hs$ cH (ho pins s σ H _ I h) λu s1 ⟨x,H1,I1,rx,q1⟩=>cH (hi pins s1 σ H1 _ I1 q1) λiv s2 ⟨y,H2,I2,ry,a,v,ex,g,q2⟩=>?_
 subst ex;obtain rfl:u=Value.ref a:=rx;exact⟨Bp I2 g,F4 hu I2 g ry λw' s3 I3 Bv=>⟨v,H2,I3,Bv,q2⟩⟩
def NF(hu:X.A.units+1<cLine)(hi:PE X i ty)(ho:PE X o td):PC X .In i o (VD ty td):=by
 intro pins s σ H Q I h;refine cH (hi pins s σ H _ I h) λiv s1 ⟨y,H1,I1,ry,q1⟩=>cH (ho pins s1 σ H1 _ I1 q1) λu s2 ⟨x,H2,I2,rx,a,ov,ex,g,q2⟩=>?_
 subst ex;obtain rfl:u=Value.ref a:=rx;exact WS hu I2 g ry λs3 I3=>⟨.bl ov.isSome,H2,I3,rfl,q2⟩
def F6(hu:X.A.units+1<cLine)(hi:PE X i ty)(ho:PE X o td):PC X .NotIn i o (LV ty td):=by
 intro pins s σ H Q I h;refine cH (hi pins s σ H _ I h) λiv s1 ⟨y,H1,I1,ry,q1⟩=>cH (ho pins s1 σ H1 _ I1 q1) λu s2 ⟨x,H2,I2,rx,a,ov,ex,g,q2⟩=>?_
 subst ex;obtain rfl:u=Value.ref a:=rx;exact Mj hu I2 g ry λs3 I3=>⟨.bl$ !ov.isSome,H2,I3,rfl,q2⟩
def Lv(hu:X.A.units+1<cLine)(ho:PE X o td)(hi:PE X i ty)(hv:PE X value tv)(hs:swapsWith value (some$ .Subscript o i pos') pos.line X.env=pure false) :
 PS X (.Assign [.Subscript o i pos'] value pos) (Se td ty tv):=by
 intro pins s σ H D I h;refine wpAny_Assign_Subscript (cH (hv pins s σ H _ I h) λr s1 ⟨v,H1,I1,rv,q1⟩=>cH (ho pins s1 σ H1 _ I1 q1) λu s2 ⟨x,H2,I2,rx,q2⟩=>cH (hi pins s2 σ H2 _ I2 q2) λiv s3 ⟨y,H3,I3,ry,a,H4,ex,g,q3⟩=>?_) hs
 subst ex;obtain rfl:u=Value.ref a:=rx;exact EY hu I3 g ry rv λs4 I4=>⟨σ,H4,I4,q3⟩
end
def Ai(h:Heap)(hb:sysModules<h.objs.size):eu P w H (h.push {cls:= .type "dict",data:= .dict #[]}) h.objs.size (.dK []):=
 ⟨Qa9 _,QaQ.mpr$ Qbz$ QaR hb,[], .nil,Heap.DictOf.new h⟩
def NU:TE:=λ_ H Q=>∀p,H p=none->Q (.ref p) (upd H p$ .dK [])
def WG:TE:=λ_ H Q=>∀p,H p=none->Q (.ref p) (upd H p$ .dT [])
section
variable {X:Cx}{pos:Pos}
def Hs:PE X (.Dict [] [] pos) NU:=λpins s σ H Q I h=>
 wpAny_Dict_empty ⟨.ref s.heap.objs.size,_,I.laid (a:=s.heap.objs.size) (o:= .dK []) (t':=s.toks) (λ_ _ q=>Qau _ q) (Qak _)$ Ai s.heap I.big,rfl,h _$ I.hok.fresh$ Qak _⟩
end
def tK:List (TE × TE)->St->Hp->(List (V × V)->Hp->Prop)->Prop
 | [],_,H,Q=>Q [] H
 | (tk,tv) ::r,σ,H,Q=>tk σ H λx H1=>tv σ H1 λy H2=>tK r σ H2 λps H3=>Q ((x,y) ::ps) H3
abbrev VV:List (V × V)->List (Value × Value)->Prop:=Paired fun p q=>RelV p.1 q.1/\RelV p.2 q.2
def Oz(X:Cx)(pos:Pos)(keys:List (Option Expr))(values:List Expr)(yk:List (TE × TE)):Prop:=
 ∀(pins:Aaa) (s:QcR) (σ:St) (H:Hp) (Q:List (V × V)->Hp->Prop),Inv X pins σ H s->tK yk σ H Q->
  wpAny (model X.prog X.w) X.A (evalPairs$ pairTrees keys values X.env pos) (λvs s'=>∃ps H',Inv X pins σ H' s'/\VV ps vs/\Q ps H') X.xe s
def Dv{X:Cx}:Oz X pos [] [] []:=λpins s σ H Q I h=>pairTrees_nil_walk ⟨[],H,I, .nil,h⟩
def sF{X:Cx}{ks:List (Option Expr)}{tk tv:TE}{yk:List (TE × TE)}(hk:PE X k tk)(hv:PE X v tv)(hr:Oz X pos ks vs yk) :
 Oz X pos (some k ::ks) (v ::vs) ((tk,tv) ::yk):=λpins s σ H Q I h=>
 pairTrees_cons_walk (cH (hk pins s σ H _ I h) λu s1 ⟨x,H1,I1,rx,q1⟩=>cH (hv pins s1 σ H1 _ I1 q1) λw2 s2 ⟨y,H2,I2,ry,q2⟩=>
  cH (hr pins s2 σ H2 _ I2 q2) λws s3 ⟨ps,H3,I3,rel,q3⟩=>⟨(x,y) ::ps,H3,I3, .cons ⟨rx,ry⟩ rel,q3⟩)
def nP(aD more:List (Key × V)):List (Key × V):=more.foldl (λacc kv=>putK acc kv.1 kv.2) aD
def KV.merge:∀{more:List (Key × V)} {rs:List (Key × Value)} {aD:List (Key × V)} {vs:List (Key × Value)},KV more rs->KV aD vs->KV (nP aD more) (merged vs rs):=by
 intro more rs aD vs r;unfold KV at r
 induction r generalizing aD vs with
 | nil=>intro q;exact q
 | @cons p q ps qs h t ih=>
   intro r0;have e:KV (putK aD p.1 p.2) (stored vs q.1 q.2):=by
    have:=r0.put p.1 h.2;rw[<-h.1];exact this
   exact ih e
theorem qI:∀(more aD:List (Key × V)),(nP aD more).length<=aD.length+more.length
 | [],aD=>by show aD.length<=aD.length+0;omega
 | p ::r,aD=>by
   have h1:=qI r$ putK aD p.1 p.2;have h2:=pF aD p.1 p.2;show(nP (putK aD p.1 p.2) r).length<=_;rw[QaI];omega
theorem vL:∀{aD:List (Key × V)} {ws:List (Value × Value)},VV (aD.map λkv=>(kV kv.1,kv.2)) ws->∃rs,Carries (cU P w) ws rs/\KV aD rs
 | [],_,r=>by rw[QbI] at r;cases r;exact⟨[],True.intro, .nil⟩
 | p ::aD,_,r=>by
   rw[Qay] at r;cases r with
   | @cons a b as bs h t=>
     obtain⟨rs,c,q⟩:=vL (P:=P) (w:=w) t;obtain⟨b1,b2⟩:=b;exact⟨(p.1,b2) ::rs,⟨qH h.1,rfl,c⟩, .cons ⟨rfl,h.2⟩ q⟩
def Jp(yk:List (TE × TE)):TE:=λσ H Q=>∀p,H p=none->tK yk σ (upd H p$ .dK []) λps H2=>H2 p=some (.dK [])/\∃aD:List (Key × V),ps=aD.map (λkv=>(kV kv.1,kv.2))/\aD.length<=15/\Q (.ref p) (upd H2 p$ .dK$ nP [] aD)
def Ll{X:Cx}{pos:Pos}{keys:List (Option Expr)}{values:List Expr}{yk:List (TE × TE)}(h:Oz X pos keys values yk)(GB:keys.all (·.isSome)=true)(hl:keys.length=values.length)(h0:keys≠[])
 (h15:keys.length<=15):PE X (.Dict keys values pos) (Jp yk):=by
 intro pins s σ H Q I q;have hn:=I.hok.fresh$ Qak s.heap.objs.size;have I1:=I.laid (a:=s.heap.objs.size) (o:= .dK []) (h':=s.heap.push {cls:= .type "dict",data:= .dict #[]}) (t':=s.toks) (λ_ _ q=>Qau _ q) (Qak _)$ Ai s.heap I.big
 refine wpAny_Dict_walk (knd:=cU X.prog X.w) GB hl h0 h15$ cH (h pins _ σ _ _ I1$ q _ hn) λws s2 ⟨ps,H2,I2,rel,e,aD,ep,lk,q2⟩=>?_
 subst ep;obtain⟨rs,c,rk⟩:=vL (P:=X.prog) (w:=X.w) rel;obtain⟨z,hd,vs0,r0,dd⟩:=MI I2.hok e;cases r0;refine⟨rs,c,dd,λh' QU hs=>⟨.ref s.heap.objs.size,_,?_,rfl,q2⟩⟩
 have hz:(nP [] aD).length<=sizeLine:=by
  have h1:=qI aD [];rw[List.length_nil] at h1;rw[Qav];omega
 have he:∃q,h'.get? s.heap.objs.size=some q:=let⟨q,_,_,hq,_⟩:=QU;⟨q,hq⟩
 exact yO I2 (by rw[e];exact True.intro) hs he$ Hr hz hd (rk.merge .nil) QU
structure M1 (X:Cx) (o:Expr) (m:Str) (apos:Pos) (e:Expr) (aW:Pos):Prop where
 base:attributeBase o m X.env (eval o X.env)=eval o X.env
 few:((backTo aW (starEach [e] X.env)).all (fun x=>!x.1) && (backToKw aW (keywordEach [] X.env)).all (fun x=>x.1.isSome)
  && decide (([e]:List Expr).length+([]:List Keyword).length+(if([]:List Keyword).isEmpty then 0 else 1)<30))=true
 line:(apos.endLine==aW.line)=true
 trees:backTo aW (starEach [e] X.env)=[(false,eval e X.env)]
structure M2 (X:Cx) (o:Expr) (m:Str) (apos:Pos) (e f:Expr) (aW:Pos):Prop where
 base:attributeBase o m X.env (eval o X.env)=eval o X.env
 few:((backTo aW (starEach [e,f] X.env)).all (fun x=>!x.1) && (backToKw aW (keywordEach [] X.env)).all (fun x=>x.1.isSome)
  && decide (([e,f]:List Expr).length+([]:List Keyword).length+(if([]:List Keyword).isEmpty then 0 else 1)<30))=true
 line:(apos.endLine==aW.line)=true
 trees:backTo aW (starEach [e,f] X.env)=[(false,eval e X.env),(false,eval f X.env)]
def TZ(H:Hp)(a:Addr):Prop:=(∃aD,Rd H a$ .dK aD)\/∃aD,Rd H a$ .dT aD
def Oe{X:Cx}{pins:Aaa}{s:QcR}{a:Addr}(I:Inv X pins σ H s)(d:TZ H a) :
 s.TypeIs (.ref a) "dict"/\(∀b,Value.ref a= .ref b->∃ob,s.heap.get? b=some ob/\ob.dict=none)/\(a==sysModules)=false:=by
 rcases d with⟨aD,e⟩ | ⟨aD,e⟩
 .obtain⟨_,hd,vs,_,dd⟩:=tZ I.hok e;refine⟨dd.typeIs,λb q=>?_,hd⟩
  cases q;obtain⟨ob,_,_,h1,h2,_⟩:=dd;exact⟨ob,h1,h2.2.1⟩
 .obtain⟨_,hd,xs,_,dd⟩:=vf I.hok e;refine⟨dd.typeIs,λb q=>?_,hd⟩
  cases q;obtain⟨ob,_,_,h1,h2,_⟩:=dd;exact⟨ob,h1,h2.2.1⟩
section
variable {X:Cx}{pins:Aaa}{σ:St}{H:Hp}{s:QcR}{a:Addr}{y d:V}{u r:Value}{o:Option V}{A:Around}{E:Aab}
def PM{Q:Aab}(hu:A.units+1<cLine)(I:Inv X pins σ H s)(g:qx H a y o)(ry:RelV y u)(rd:RelV d r)(h:∀w' s',Inv X pins σ H s'->RelV (o.getD d) w'->Q w' s') :
 wpAny (model X.prog X.w) A (call (.builtin "dict.get") [.ref a,u,r]) Q E s:=by
 rcases g with⟨aD,k,e,ey,l⟩ | ⟨aD,k,b,e,ey,eb,l⟩
 .subst ey;obtain⟨z,hd,vs,rel,dd⟩:=tZ I.hok e;refine call_meetsIn Qcm dd.typeIs PySem.F.entry_dict_get (PySem.F.args_dict_get_3 _ _ _) (meets_dict_get_default (cU X.prog X.w) a (qH ry) hd r) ⟨_,dd.mapOf,h _ _ (I.tok _) ?_⟩;rw[l];exact(rel.val k).getD rd
 .subst ey;cases(show u=Value.ref b from ry)
  obtain⟨z,hd,xs,rel,dd⟩:=vf I.hok e;refine call_meetsIn Qcm dd.typeIs PySem.F.entry_dict_get (PySem.F.args_dict_get_3 _ _ _) (meetsH_dict_get_default (tupleKind$ cU X.prog X.w) a b hd r) ⟨QbQ hu,k,xs,sZ I.hok eb,dd,h _ _ (I.tok _) ?_⟩;rw[l];exact(rel.val k).getD rd
end
def We(td ty:TE):TE:=λσ H Q=>td σ H λx H1=>∃a,x= .ref a/\TZ H1 a/\ty σ H1 λy H2=>∃o,qx H2 a y o/\Q (o.getD .cM) H2
def P6(td ty tx:TE):TE:=λσ H Q=>td σ H λx H1=>∃a,x= .ref a/\TZ H1 a/\ty σ H1 λy H2=>tx σ H2 λz H3=>∃o,qx H3 a y o/\Q (o.getD z) H3
def Vj(td ty:TE):TE:=λσ H Q=>td σ H λx H1=>∃a,x= .ref a/\TZ H1 a/\ty σ H1 λy H2=>∃aD k v,H2 a=some (.dK aD)/\y=kV k/\lK aD k=some v/\Q v (upd H2 a$ .dK$ Iy aD k)
def V2(td ty tx:TE):TE:=λσ H Q=>td σ H λx H1=>∃a,x= .ref a/\TZ H1 a/\ty σ H1 λy H2=>tx σ H2 λz H3=>∃aD k,H3 a=some (.dK aD)/\y=kV k/\
 (∀v,lK aD k=some v->Q v (upd H3 a$ .dK$ Iy aD k))/\(lK aD k=none->Q z H3)
section
variable {X:Cx}{o e f:Expr}{apos aW:Pos}{td ty tx:TE}
def IS(hu:X.A.units+1<cLine)(ho:PE X o td)(he:PE X e ty)(hf:PE X f tx)(m:M2 X o "get" apos e f aW):PE X (.Call (.Attribute o "get" apos) [e,f] [] aW) (P6 td ty tx):=by
 intro pins s σ H Q I h;refine wpAny_Call_method m.base m.few m.line PySem.F.plainAttrs_dict Qcm PySem.F.type_dict_get$ cH (ho pins s σ H _ I h) λu s1 ⟨x,H1,I1,rx,a,ex,d,q1⟩=>?_
 subst ex;obtain rfl:u=Value.ref a:=rx;obtain⟨t1,t2,_⟩:=Oe I1 d;refine⟨t1,t2,?_⟩;rw[m.trees];refine Qck rfl (QbY (Qbt (cH (he pins s1 σ H1 _ I1 q1) λiv s2 ⟨y,H2,I2,ry,q2⟩=>
  Qbt (cH (hf pins s2 σ H2 _ I2 q2) λfv s3 ⟨z,H3,I3,rz,ov,g,q3⟩=>Qci ?_))))
 exact PM hu I3 g ry rz λw' s4 I4 Bv=>⟨_,H3,I4,Bv,q3⟩
end
end L2
namespace HT
open PySem PyProof.Rows
def lexLt:List Int->List Int->Bool
 | [],[]=>false
 | [],_ ::_=>true
 | _ ::_,[]=>false
 | x ::xs,y ::ys=>if x=y then lexLt xs ys else decide (x<y)
section
def t9(n d:Nat):Option Int->Nat
 | none=>d
 | some v=>if v<0 then(v+(n:Int)).toNat else min v.toNat n
def si(n d:Nat):t9 n d none=d:=rfl
def qb(n d k:Nat):t9 n d (some (k:Int))=min k n:=by
 show(if(k:Int)<0 then((k:Int)+(n:Int)).toNat else min (k:Int).toNat n)=min k n
 rw[Qaj (by omega),Int.toNat_natCast]
end
end HT
namespace L2
open PySem PySem.Spec PyProof.Rows
abbrev TO:=St->Hp->(Option Int->Hp->Prop)->Prop
def PO(X:Cx)(e:Option Expr)(t:TO):Prop:=
 ∀(pins:Aaa) (s:QcR) (σ:St) (H:Hp) (Q:Option Int->Hp->Prop),Inv X pins σ H s->t σ H Q->
  wpAny (model X.prog X.w) X.A (evalPart e X.env) (λu s'=>∃o H',Inv X pins σ H' s'/\IsPart u o/\Q o H') X.xe s
def Kp:TO:=λ_ H Q=>Q none H
def Sr(t:TE):TO:=λσ H Q=>t σ H λx H1=>∃i,x= .int i/\Q (some i) H1
section
variable {X:Cx}{e:Expr}{te:TE}{lo hi:Option Expr}{tl th:TO}{pos p2:Pos}
def Kh:PO X none Kp:=by
 intro pins s σ H Q I h;rw[evalPart_none];exact QaX ⟨none,H,I, .none,h⟩
def Kg(h:PE X e te):PO X (some e) (Sr te):=by
 intro pins s σ H Q I hw;rw[evalPart_some];refine cH (h pins s σ H _ I hw) λu s1 ⟨x,H1,I1,r1,q1⟩=>?_
 obtain⟨i,rfl,q⟩:=q1;obtain⟨t,rfl⟩:=r1;exact⟨some i,H1,I1, .int i t,q⟩
def N2(X:Cx)(r:V->Option Int->Option Int->Hp->VK->Prop):Prop:=
 ∀(pins:Aaa) (s:QcR) (σ:St) (H:Hp) (x:V) (v vl vu:Value) (lo hi:Option Int) (sl:Addr) (Q:VK),Inv X pins σ H s->RelV x v->s.heap.IsSliceOf sl vl vu .none->IsPart vl lo->IsPart vu hi->r x lo hi H Q->
  ∃T id,typeLookup (.type T) "__getitem__"=pure (some$ .builtin id)/\s.TypeIs v T/\wpAny (model X.prog X.w) X.A (getItem v$ .ref sl) (EP X pins σ Q) X.xe s
def N2.or{r r':V->Option Int->Option Int->Hp->VK->Prop}(h:N2 X r)(h':N2 X r'):N2 X (λx lo hi H Q=>r x lo hi H Q\/r' x lo hi H Q):=by
 intro pins s σ H x v vl vu lo hi sl Q I rx hs pl pu q;rcases q with q | q
 .exact h pins s σ H x v vl vu lo hi sl Q I rx hs pl pu q
 .exact h' pins s σ H x v vl vu lo hi sl Q I rx hs pl pu q
def tSl(r:V->Option Int->Option Int->Hp->VK->Prop)(te:TE)(tl th:TO):TE:=λσ H Q=>te σ H λx H1=>tl σ H1 λl H2=>th σ H2 λu H3=>r x l u H3 Q
def Jw{r:V->Option Int->Option Int->Hp->VK->Prop}(hr:N2 X r)(he:PE X e te)(hl:PO X lo tl)(hu:PO X hi th):PE X (.Subscript e (.Slice lo hi none p2) pos) (tSl r te tl th):=by
 intro pins s σ H Q I h;refine Subscript_$ cH (he pins s σ H _ I h) λv s1 ⟨x,H1,I1,r1,q1⟩=>?_
 refine wpAny_Slice$ cH (hl pins s1 σ H1 _ I1 q1) λvl s2 ⟨l,H2,I2,pl,q2⟩=>cH (hu pins s2 σ H2 _ I2 q2) λvu s3 ⟨u,H3,I3,pu,q3⟩=>?_
 rw[evalPart_none];refine QaX ?_;have I4:Inv X pins σ H3 {s3 with heap:=s3.heap.push {cls:= .type "slice",data:= .fields #[vl,vu, .none]}}:=I3.kept (t':=s3.toks) λb ob q=>Qau _ q
 obtain⟨T,id,hT,ht,hg⟩:=hr pins {s3 with heap:=s3.heap.push {cls:= .type "slice",data:= .fields #[vl,vu, .none]}} σ H3 x v vl vu l u s3.heap.objs.size Q I4 r1 (Heap.IsSliceOf.new ..) pl pu q3
 show wpAny (model X.prog X.w) X.A (subscriptTail e (.Slice lo hi none p2) v$ .ref s3.heap.objs.size) (EP X pins σ Q) X.xe {s3 with heap:=s3.heap.push {cls:= .type "slice",data:= .fields #[vl,vu, .none]}}
 exact tail_any (ops:=[.ref s3.heap.objs.size,v]) ht hT hg (by with_unfolding_all rfl)
def BG(xs:List V)(lo hi:Option Int):List V:=(xs.drop$ HT.t9 xs.length 0 lo).take$ HT.t9 xs.length xs.length hi - HT.t9 xs.length 0 lo
def Ao(xs:List V)(lo hi:Option Int):(BG xs lo hi).length<=xs.length:=by
 unfold BG;rw[QaO,Qbd];omega
def aaZ(K:QcQ):V->Option Int->Option Int->Hp->VK->Prop:=λx lo hi H Q=>∃a xs,x= .ref a/\sR K H a xs/\
 ¬(HT.t9 xs.length 0 lo=0/\HT.t9 xs.length xs.length hi=xs.length)/\∀p,H p=none->Q (.ref p) (upd H p$ .tup$ BG xs lo hi)
def aaS(K:QcQ):R2:=λx y H Q=>∃a b ns ms,x= .ref a/\y= .ref b/\sR K H a (ns.map V.int)/\sR K H b (ms.map V.int)/\Q (.bl$ HT.lexLt ns ms) H
def Zb(K:QcQ):R2:=λx y H Q=>∃a b xs ys,x= .ref a/\y= .ref b/\sR K H a xs/\sR K H b ys/\xs≠[]/\xs.length+ys.length<=sizeLine/\
 (ys=[]->Q (.ref a) H)/\(ys≠[]->∀p,H p=none->Q (.ref p) (upd H p$ .tup$ xs++ys))
end
def FU(n:Nat)(i:Int):Option Nat:=if 0<=i then(if i<n then some i.toNat else none) else if -(n:Int)<=i then some (i+n).toNat else none
def zj{α:Type}(xs:List α)(i:Int):Option α:=(FU xs.length i).bind λj=>xs[j]?
def Ez{n:Nat}{i:Int}{j:Nat}(h:FU n i=some j):seqIndex? i n=some j/\j<n/\ -(n:Int)<=i/\i<n:=by
 unfold FU at h;by_cases h0:0<=i
 .rw [Qap h0] at h;by_cases h1:i<n
  .rw [Qap h1] at h;have e:i.toNat=j:=QaW h;exact⟨by rw[seqIndex_of h0 h1,e],by omega,by omega,h1⟩
  .rw [Qaj h1] at h;cases h
 .rw [Qaj h0] at h;by_cases h1: -(n:Int)<=i
  .rw [Qap h1] at h;have e:(i+n).toNat=j:=QaW h;exact⟨by rw[seqIndex_neg (by omega) h1,e],by omega,h1,by omega⟩
  .rw [Qaj h1] at h;cases h
def y7{α:Type}{xs:List α}{i:Int}{v:α}(h:zj xs i=some v):∃j,seqIndex? i xs.length=some j/\xs[j]? =some v/\j<xs.length/\ -(xs.length:Int)<=i/\i<xs.length:=by
 unfold zj at h;cases e:FU xs.length i with
 | none=>rw [e] at h;cases h
 | some j=>
   rw[e] at h;obtain⟨h1,h2,h3,h4⟩:=Ez e;exact⟨j,h1,h,h2,h3,h4⟩
def y_(b:Expr):Prop:=∀o i,subscripted b false o i=operate [o,i] (getItem o i)
def Ml(X:Cx)(r:R2):Prop:=
 ∀(value slice:Expr) (pins:Aaa) (s:QcR) (σ:St) (H:Hp) (x y:V) (v u:Value) (Q:VK),Inv X pins σ H s->RelV x v->RelV y u->r x y H Q->
  subscripted slice false v u=operate [v,u] (getItem v u)->wpAny (model X.prog X.w) X.A (subscriptTail value slice v u) (EP X pins σ Q) X.xe s
def Vo(X:Cx)(id:String)(r:V->List V->Hp->VK->Prop):Prop:=
 ∀(pins:Aaa) (s:QcR) (σ:St) (H:Hp) (x:V) (xs:List V) (v:Value) (us:List Value) (Q:VK),Inv X pins σ H s->RelV x v->Vals xs us->r x xs H Q->
  wpAny (model X.prog X.w) X.A (call (.builtin id) (v ::us)) (EP X pins σ Q) X.xe s
section
variable {X:Cx}{a b:Expr}{ta tb:TE}{pos:Pos}
def Ml.or{r r':R2}(h:Ml X r)(h':Ml X r'):Ml X (λx y H Q=>r x y H Q\/r' x y H Q):=by
 intro value slice pins s σ H x y v u Q I rx ry q hs;rcases q with q | q
 .exact h value slice pins s σ H x y v u Q I rx ry q hs
 .exact h' value slice pins s σ H x y v u Q I rx ry q hs
def R5{r:R2}(hr:Ml X r)(ha:PE X a ta)(hb:PE X b tb)(hs:y_ b):PE X (.Subscript a b pos) (Rj r ta tb):=by
 intro pins s σ H Q I h;exact Subscript_$ Nx ha hb I h λv u s2 x y H2 I2 rx ry q=>hr a b pins s2 σ H2 x y v u Q I2 rx ry q$ hs _ _
def Sq(K:QcQ):R2:=λx y H Q=>∃p xs i v,x= .ref p/\y= .int i/\oZ K H p xs/\zj xs i=some v/\Q v H
def TC(K:QcQ):R2:=λx y H Q=>∃p xs i v,x= .ref p/\y= .int i/\sR K H p xs/\zj xs i=some v/\Q v H
def Sb:R2:=λx y H Q=>∃z i c,x= .str z/\y= .int i/\z.length<=sizeLine/\zj z.cps.toList i=some c/\Q (.str ⟨#[c]⟩) H
def Ly:Ml X (Sq X.K):=by
 intro value slice pins s σ H x y v u Q I rx ry h hs;obtain⟨p,xs,i,z,rfl,rfl,hq,he,q⟩:=h;cases rx;obtain⟨t,rfl⟩:=ry;obtain⟨its,r,pl,hz⟩:=I.list hq;obtain⟨j,h1,h2,h3,h4,h5⟩:=y7 he;obtain⟨w,ew,Bv⟩:=r.get h2;have hl:=r.length;have hn:=q0;have fin:EP X pins σ Q w s:=⟨z,H,I,Bv,q⟩;by_cases h0:0<=i
 .have hj:i.toNat=j:=by
   rw[seqIndex_of h0 h5] at h1;exact QaW h1
  exact item_listR pl.isList h0 (by omega) (by rw[hj];simpa using ew) fin hs
 .have hj:(i+(its.toArray.size:Int)).toNat=j:=by
   rw[seqIndex_neg (by omega) h4] at h1
   rw[QaD,<-hl];exact QaW h1
  exact subscriptTail_builtinR (x:=w) pl.isList.typeIs slot_list_getitem.lookup
   (wpAny_getItem_list_neg (Q:=λr s'=>r=w/\EP X pins σ Q r s') pl.isList (by omega) (by rw[QaD] <;> omega) (by omega) (by rw[hj];simpa using ew) ⟨rfl,fin⟩) hs
def P4:Ml X (TC X.K):=by
 intro value slice pins s σ H x y v u Q I rx ry h hs;obtain⟨p,xs,i,z,rfl,rfl,hq,he,q⟩:=h;cases rx;obtain⟨t,rfl⟩:=ry;obtain⟨its,r,pl,hz⟩:=I.tuple hq;obtain⟨j,h1,h2,h3,h4,h5⟩:=y7 he;obtain⟨w,ew,Bv⟩:=r.get h2;have hl:=r.length;have hn:=q0;have fin:EP X pins σ Q w s:=⟨z,H,I,Bv,q⟩;exact subscriptTail_builtinR (x:=w) pl.typeIs slot_tuple_getitem.lookup
  (getItem_tuple (j:=j) (Q:=λr s'=>r=w/\EP X pins σ Q r s') pl (by omega) (by omega) (by rw[QaD,<-hl];exact h1) (by simpa using ew) ⟨rfl,fin⟩) hs
def NX:Ml X Sb:=by
 intro value slice pins s σ H x y v u Q I rx ry h hs;obtain⟨z,i,c,rfl,rfl,hz,he,q⟩:=h;obtain⟨t,rfl⟩:=rx;obtain⟨t',rfl⟩:=ry;obtain⟨j,h1,h2,h3,h4,h5⟩:=y7 he;have hl:z.cps.toList.length=z.length:=by simp [Str.length]
 rw[hl] at h1 h4 h5;have hn:=q0;exact tail_any (QbZ s z t) slot_str_getitem.lookup (getItem_str (c:=c) (by
  have e1:decide (i < -(2 ^ 63:Int))=false:=Qaf (by omega)
  have e2:decide (i>=2 ^ 63)=false:=Qaf (by omega)
  rw[e1,e2,Bool.or_false]) (by rw[h1];simpa using h2) ⟨.str ⟨#[c]⟩,H,I.tok _,⟨_,rfl⟩,q⟩) hs
def ZX(K:QcQ):R2:=λx y H Q=>Sq K x y H Q\/TC K x y H Q\/Sb x y H Q
def OS:Ml X (ZX X.K):=Ly.or$ P4.or NX
def Df(its:List Value)(n j:Nat)(u:Value):Obj.mapSeq (·.setIfInBounds j u) {cls:= .type "list",data:= .seq its.toArray n}={cls:= .type "list",data:= .seq (its.set j u).toArray n}:=by
 simp [Obj.mapSeq]
def Inv.lst{pins:Aaa}{H:Hp}{s:QcR}{p:Addr}{xs:List V}(I:Inv X pins σ H s)(h:H p=some (.lst xs)) :
 ∃(its:List Value) (n:Nat),Vals xs its/\s.heap.get? p=some {cls:= .type "list",data:= .seq its.toArray n}/\xs.length<=sizeLine:=by
 obtain⟨z,its,n,r,e⟩:=I.hok p _ h;exact⟨its,n,r,e,z⟩
def Inv.NC{pins:Aaa}{σ:St}{H:Hp}{s:QcR}{p:Addr}{xs ys:List V}{its its':List Value}{n n':Nat}{f:Obj->Obj}(I:Inv X pins σ H s)(h:H p=some (.lst xs))
 (ho:s.heap.get? p=some {cls:= .type "list",data:= .seq its.toArray n}) (hf:f {cls:= .type "list",data:= .seq its.toArray n}={cls:= .type "list",data:= .seq its'.toArray n'}) (r:Vals ys its') (hz:ys.length<=sizeLine) (t:Nat) :
 Inv X pins σ (upd H p$ .lst ys) {s with heap:=s.heap.update p f,toks:=t}:=by
 have e:(s.heap.update p f).get? p=some {cls:= .type "list",data:= .seq its'.toArray n'}:=by
  rw[Heap.get?_update_self f ho (by rw[hf] <;> rfl),hf]
 refine I.write (x:=p) (e:=p) (by rw[h];trivial) (.inl rfl) (λb u hb q=>(Heap.get?_update_other _ _$ Qbz hb).trans q) ⟨_,e⟩ ?_
 exact⟨hz,its',n',r,e⟩
def ML:V->V->V->Hp->(Hp->Prop)->Prop:=λo i v H Q=>∃p xs k j,o= .ref p/\i= .int k/\H p=some (.lst xs)/\FU xs.length k=some j/\Q (upd H p$ .lst$ xs.set j v)
def set_list:R_ X ML:=by
 intro pins s σ H o i v ov iv u Q I ro ri rv h;obtain⟨p,xs,k,j,rfl,rfl,hp,hj,q⟩:=h;cases ro;obtain⟨t,rfl⟩:=ri;obtain⟨its,n,r,ho,hz⟩:=I.lst hp;obtain⟨h1,h2,h3,h4⟩:=Ez hj;have hl:=r.length;have hn:=q0;have I':Inv X pins σ (upd H p$ .lst$ xs.set j v) {s with heap:=s.heap.update p$ Obj.mapSeq (·.setIfInBounds j u)}:=
  I.NC hp ho (Df its n j u) (r.set rv j) (by rw[QaM];exact hz) s.toks
 by_cases h0:0<=k
 .have hk:k.toNat=j:=by
   rw[seqIndex_of h0 h4] at h1;exact QaW h1
  exact PySem.W.ki_setAt ho h0 (by omega) (by rw[QaD,<-hl];exact h4) (by rw[hk];exact⟨_,I',q⟩)
 .have hk:(k+(its.toArray.size:Int)).toNat=j:=by
   rw[seqIndex_neg (by omega) h3] at h1
   rw[QaD,<-hl];exact QaW h1
  exact PySem.W.ki_setBack ho (by omega) (by rw[QaD,<-hl];exact h3) (by omega) (by rw[hk];exact⟨_,I',q⟩)
def yY(lo hi:Option Int)(n:Nat):(sliceBounds lo hi none n).1=((HT.t9 n 0 lo:Nat):Int)/\(sliceBounds lo hi none n).2.1=((HT.t9 n n hi:Nat):Int)/\(sliceBounds lo hi none n).2.2=1:=by
 refine⟨?_,?_,rfl⟩
 .cases lo with
  | none=>simp [sliceBounds,HT.t9]
  | some i=>
    simp only[sliceBounds,HT.t9,Option.getD_none,show(1:Int) > 0 by decide,QbU]
    by_cases h:i<0
    .simp only[h,QbU] <;> omega
    .simp only[h,Qb0] <;> omega
 .cases hi with
  | none=>simp [sliceBounds,HT.t9]
  | some i=>
    simp only[sliceBounds,HT.t9,Option.getD_none,show(1:Int) > 0 by decide,QbU]
    by_cases h:i<0
    .simp only[h,QbU] <;> omega
    .simp only[h,Qb0] <;> omega
def xk(its:List Value)(lo hi:Option Int):slicePick its.toArray lo hi none=((its.drop$ HT.t9 its.length 0 lo).take$ HT.t9 its.length its.length hi - HT.t9 its.length 0 lo).toArray:=by
 obtain⟨h1,h2,h3⟩:=yY lo hi its.toArray.size;unfold slicePick;rw[h1,h2,h3];simp only[sliceRange_one,pick_run,QaD] <;> rfl
def Xa(K:QcQ):V->Option Int->Option Int->Hp->VK->Prop:=λx lo hi H Q=>∃a xs,x= .ref a/\oZ K H a xs/\∀p,H p=none->Q (.ref p) (upd H p$ .lst$ BG xs lo hi)
def L9:N2 X (Xa X.K):=by
 intro pins s σ H x v vl vu lo hi sl Q I rx hs pl pu h;obtain⟨a,xs,rfl,hx,q⟩:=h;cases rx;obtain⟨its,r,ht,hz⟩:=I.list hx;have hlen:=r.length;refine⟨"list",_,slot_list_getitem.lookup,ht.isList.typeIs,?_⟩;refine wpAny_getItem_list_slice ht.isList hs pl pu .none (by simp) ?_ (by rw[QaD] <;> omega)
 rw[xk,<-hlen];refine⟨.ref s.heap.objs.size,_,I.laid (t':=s.toks) (o:= .lst$ BG xs lo hi) (λb ob q=>Qau _ q) (Qak _) ?_,rfl,q _$ I.hok.fresh$ Qak _⟩
 exact⟨QaK (Ao xs lo hi) hz,_,0,(r.drop$ HT.t9 xs.length 0 lo).take$ HT.t9 xs.length xs.length hi - HT.t9 xs.length 0 lo,QaY _ rfl⟩
def oO:V->Bool
 | .cM=>true
 | .bl _=>true
 | .int _=>true
 | .str _=>true
 | _=>false
def MR:V->V->Bool
 | .cM, .cM=>true
 | .bl a, .bl b=>a==b
 | .bl a, .int b=>(if a then 1 else 0)==b
 | .int a, .bl b=>a==(if b then 1 else 0)
 | .int a, .int b=>a==b
 | .str a, .str b=>a==b
 | _,_=>false
def Ob{s:QcR}{y x:V}{u v:Value}(ry:RelV y u)(rx:RelV x v)(fy:oO y=true)(fx:oO x=true):SeqAt.EqAt A s u v (MR y x):=by
 cases y with
 | cM=>
   cases ry;cases x with
   | cM=>cases rx;exact SeqAt.EqAt.same _
   | bl b=>cases rx;exact SeqAt.EqAt.none_bool b
   | int b=>obtain⟨t,rfl⟩:=rx;exact SeqAt.EqAt.none_int b t
   | str b=>obtain⟨t,rfl⟩:=rx;exact SeqAt.EqAt.none_str b t
   | _=>exact absurd (show false=true from fx) QaG
 | bl a=>
   cases ry;cases x with
   | cM=>cases rx;exact SeqAt.EqAt.bool_none a
   | bl b=>cases rx;exact SeqAt.EqAt.bool_bool a b
   | int b=>obtain⟨t,rfl⟩:=rx;exact SeqAt.EqAt.bool_int a b t
   | str b=>obtain⟨t,rfl⟩:=rx;exact SeqAt.EqAt.bool_str a b t
   | _=>exact absurd (show false=true from fx) QaG
 | int a=>
   obtain⟨t',rfl⟩:=ry;cases x with
   | cM=>cases rx;exact SeqAt.EqAt.int_none a t'
   | bl b=>cases rx;exact SeqAt.EqAt.int_bool a t' b
   | int b=>obtain⟨t,rfl⟩:=rx;exact SeqAt.EqAt.int_int a t' b t
   | str b=>obtain⟨t,rfl⟩:=rx;exact SeqAt.EqAt.int_str a t' b t
   | _=>exact absurd (show false=true from fx) QaG
 | str a=>
   obtain⟨t',rfl⟩:=ry;cases x with
   | cM=>cases rx;exact SeqAt.EqAt.str_none a t'
   | bl b=>cases rx;exact SeqAt.EqAt.str_bool a t' b
   | int b=>obtain⟨t,rfl⟩:=rx;exact SeqAt.EqAt.str_int a t' b t
   | str b=>obtain⟨t,rfl⟩:=rx;exact SeqAt.EqAt.str_str a t' b t
   | _=>exact absurd (show false=true from fx) QaG
 | _=>exact absurd (show false=true from fy) QaG
def CC(x:V)(u:Value):Bool:=match u with
 | .none=>MR .cM x
 | .bool b=>MR (.bl b) x
 | .int i _=>MR (.int i) x
 | .str z _=>MR (.str z) x
 | _=>false
def G5{x y:V}{u:Value}(r:RelV y u)(f:oO y=true):CC x u=MR y x:=by
 cases y with
 | cM=>cases r;rfl
 | bl b=>cases r;rfl
 | int i=>obtain⟨t,rfl⟩:=r;rfl
 | str z=>obtain⟨t,rfl⟩:=r;rfl
 | _=>exact absurd (show false=true from f) QaG
theorem rQ{x:V}:∀{xs:List V} {us:List Value},Vals xs us->xs.all oO=true->us.any (CC x)=xs.any λy=>MR y x
 | _,_, .nil,_=>rfl
 | y ::xs,u ::us, .cons r t,f=>by
   rw[List.all_cons,QaL] at f;rw[Qby,Qby,G5 r f.1,rQ t f.2]
theorem ph{s:QcR}{x:V}{v:Value}(rx:RelV x v)(fx:oO x=true):∀{xs:List V} {us:List Value},Vals xs us->xs.all oO=true->∀u∈us,SeqAt.EqAt A s u v (CC x u)
 | _,_, .nil,_=>λu hu=>by cases hu
 | y ::xs,u ::us, .cons r t,f=>λu' hu=>by
   rw[List.all_cons,QaL] at f;rcases QaF.mp hu with rfl | hu
   .rw [G5 r f.1];exact Ob r rx f.1 fx
   .exact ph rx fx t f.2 u' hu
def MZ(x:V)(xs:List V):Bool:=xs.any λy=>MR y x
def Wr(K:QcQ)(neg:Bool):R2:=λx y H Q=>∃p xs,y= .ref p/\(oZ K H p xs\/sR K H p xs)/\oO x=true/\xs.all oO=true/\Q (.bl$ if neg then !MZ x xs else MZ x xs) H
def Fd:qq X (compareOp .In) (Wr X.K false):=by
 intro pins s σ H x y v u Q I rx ry h;obtain⟨p,xs,rfl,hq,fx,fs,q⟩:=h;cases ry;rcases hq with hq | hq
 .obtain⟨its,r,pl,hz⟩:=I.list hq;refine SeqAt.in_listAt (CC x) pl.isList (λw hw=>ph rx fx r fs w$ by simpa using hw) ⟨.bl _,H,I,rfl,?_⟩
  rw[show its.toArray.any (CC x)=its.any (CC x) by simp,rQ r fs]
  exact q
 .obtain⟨its,r,pl,hz⟩:=I.tuple hq;refine SeqAt.in_tupleAt (CC x) pl (λw hw=>ph rx fx r fs w$ by simpa using hw) ⟨.bl _,H,I,rfl,?_⟩
  rw[show its.toArray.any (CC x)=its.any (CC x) by simp,rQ r fs]
  exact q
def zB:qq X (compareOp .NotIn) (Wr X.K true):=by
 intro pins s σ H x y v u Q I rx ry h;obtain⟨p,xs,rfl,hq,fx,fs,q⟩:=h;cases ry;rcases hq with hq | hq
 .obtain⟨its,r,pl,hz⟩:=I.list hq;refine SeqAt.notIn_listAt (CC x) pl.isList (λw hw=>ph rx fx r fs w$ by simpa using hw) ⟨.bl _,H,I,rfl,?_⟩
  rw[show its.toArray.any (CC x)=its.any (CC x) by simp,rQ r fs]
  exact q
 .obtain⟨its,r,pl,hz⟩:=I.tuple hq;refine SeqAt.notIn_tupleAt (CC x) pl (λw hw=>ph rx fx r fs w$ by simpa using hw) ⟨.bl _,H,I,rfl,?_⟩
  rw[show its.toArray.any (CC x)=its.any (CC x) by simp,rQ r fs]
  exact q
def zc:kL X (.builtin "len") (λxs H Q=>∃p ys,xs=[.ref p]/\(oZ X.K H p ys\/sR X.K H p ys)/\Q (.int ys.length) H):=by
 intro pins s σ H xs us Q I r h;obtain⟨p,ys,rfl,hq,q⟩:=h;obtain⟨u,rfl,rx⟩:=vals1 r;cases rx;have hn:=q0;rcases hq with hq | hq
 .obtain⟨its,r',pl,hz⟩:=I.list hq;have hlen:=r'.length;exact Calls.call_len_list pl.isList (by simp only[QaD] <;> omega) ⟨.int ys.length,H,I.tok _,⟨s.toks+1,by rw[QaD,hlen]⟩,q⟩
 .obtain⟨its,r',pl,hz⟩:=I.tuple hq;have hlen:=r'.length;exact len_tuple pl (by simp only[QaD] <;> omega) ⟨.int ys.length,H,I.tok _,⟨s.toks+1,by rw[QaD,hlen]⟩,q⟩
def xp:kL X (.type "tuple") (λxs H Q=>∃p ys,xs=[.ref p]/\((oZ X.K H p ys/\∀l,H l=none->Q (.ref l) (upd H l$ .tup ys))\/(sR X.K H p ys/\Q (.ref p) H))):=by
 intro pins s σ H xs us Q I r h;obtain⟨p,ys,rfl,h⟩:=h;obtain⟨u,rfl,rx⟩:=vals1 r;cases rx;rcases h with⟨hq,q⟩ | ⟨hq,q⟩
 .obtain⟨its,r',pl,hz⟩:=I.list hq;have hlen:=r'.length;refine call_tuple_list pl.isList (λh' kp=>?_) (by simp only[QaD] <;> omega)
  have I1:Inv X pins σ H {s with heap:=h'}:=I.kept (t':=s.toks) kp
  have I2:Inv X pins σ (upd H h'.objs.size$ .tup ys) {s with heap:=h'.push {cls:= .type "tuple",data:= .seq its.toArray}}:=
   I1.laid (t':=s.toks) (λb o e=>Qau _ e) (Qak _) (show eu X.prog X.w _ _ _ (.tup ys) from⟨hz,its,r',IsTup.new _ _⟩)
  exact⟨.ref h'.objs.size,_,I2,rfl,q _$ I1.hok.fresh$ Qak _⟩
 .obtain⟨its,r',pl,hz⟩:=I.tuple hq;exact call_tuple_same pl ⟨.ref p,H,I,rfl,q⟩
def U_(K:QcQ)(T:String)(x:V)(H:Hp):Prop:=match x with
 | .str _=>T="str"
 | .int _=>T="int"
 | .ref p=>(T="list"/\∃xs,oZ K H p xs)\/(T="tuple"/\∃o,K.lookup p=some o/\o.cls= .type "tuple"/\o.dict=none)\/
    (T="dict"/\((∃aD,H p=some (.dK aD))\/∃aD,H p=some (.dT aD)))\/(T="set"/\∃S n,H p=some (.set S n))
 | _=>False
def Qq{pins:Aaa}{s:QcR}{T:String}{x:V}{v:Value}(I:Inv X pins σ H s)(r:RelV x v)(ty:U_ X.K T x H) :
 s.TypeIs v T/\∀a,v= .ref a->∃ob,s.heap.get? a=some ob/\ob.dict=none:=by
 cases x with
 | str z=>
   obtain⟨t,rfl⟩:=r;cases(show T="str" from ty)
   exact⟨QbZ s z t,λ_ e=>nomatch e⟩
 | int i=>
   obtain⟨t,rfl⟩:=r;cases(show T="int" from ty)
   exact⟨typeIs_int s i t,λ_ e=>nomatch e⟩
 | ref p=>
   cases r;rcases ty with⟨rfl,xs,hq⟩ | ⟨rfl,o,hk,hc,hd⟩ | ⟨rfl,hk⟩ | ⟨rfl,S,n,hk⟩
   .obtain⟨its,_,pl,_⟩:=I.list hq;refine⟨pl.isList.typeIs,λa e=>?_⟩
    cases e;obtain⟨o,n,e,c,hd,_⟩:=pl;exact⟨o,e,hd⟩
   .refine⟨⟨o,I.yd p o hk,hc⟩,λa e=>?_⟩
    cases e;exact⟨o,I.yd _ o hk,hd⟩
   .have z:∃o,s.heap.get? p=some o/\o.ExactDict:=by
     rcases hk with⟨aD,hk⟩ | ⟨aD,hk⟩
     .obtain⟨_,_,_,_,o,_,_,e,ex,_⟩:=I.hok p _ hk;exact⟨o,e,ex⟩
     .obtain⟨_,_,_,_,o,_,_,e,ex,_⟩:=I.hok p _ hk;exact⟨o,e,ex⟩
    obtain⟨o,e,ex⟩:=z;refine⟨⟨o,e,ex.1⟩,λa e2=>?_⟩
    cases e2;exact⟨o,e,ex.2.1⟩
   .obtain⟨o,_,_,_,e,ex,_⟩:=I.hok p _ hk;refine⟨⟨o,e,ex.1⟩,λa e2=>?_⟩
    cases e2;exact⟨o,e,ex.2.1⟩
 | _=>exact False.elim ty
def abS(K:QcQ)(T:String)(r:V->List V->Hp->VK->Prop)(to:TE):TE:=λσ H Q=>to σ H λx H1=>U_ K T x H1/\r x [] H1 Q
def tBM(K:QcQ)(T:String)(r:V->List V->Hp->VK->Prop)(to:TE)(t:TA):TE:=λσ H Q=>to σ H λx H1=>U_ K T x H1/\t σ H1 λxs H2=>r x xs H2 Q
variable {o e:Expr}{es:List Expr}{to:TE}{t:TA}{name:Str}{apos aW:Pos}{T id:String}{r:V->List V->Hp->VK->Prop}
def xO(pa:PlainAttrs T)(slot:Slot T name id)(Kd:typeOf (.builtin id)=pure (.type "method_descriptor"))(hm:Vo X id r)(ho:PE X o to)(ha:PA X (e ::es) t)
 (dM:attributeBase o name X.env (eval o X.env)=eval o X.env:=by rfl)
 (i_:((backTo aW$ starEach (e ::es) X.env).all (λx=>!x.1) && (backToKw aW$ keywordEach [] X.env).all (λx=>x.1.isSome)
   && decide ((e ::es).length+([]:List Keyword).length+(if([]:List Keyword).isEmpty then 0 else 1)<30))=true:=by rfl)
 (dO:(apos.endLine==aW.line)=true:=by rfl) (hs:starEach (e ::es) X.env=(false,eval e X.env) ::starEach es X.env:=by rfl) (Dk:(backTo aW$ starEach es X.env).any (·.1)=false:=by rfl) :
 PE X (.Call (.Attribute o name apos) (e ::es) [] aW) (tBM X.K T r to t):=by
 intro pins s σ H Q I h;refine wpAny_Call_method_late dM i_ dO rfl$ cH (ho pins s σ H _ I h) λv s1 ⟨x,H1,I1,r1,ty,q1⟩=>?_
 obtain⟨h1,h2⟩:=Qq I1 r1 ty;refine⟨T,id,pa,slot,Kd,h1,h2,?_⟩;have hA:=ha aW pins s1 σ H1 _ I1 q1;rw[hs] at hA ⊢;refine Qck (by show(false || (backTo aW$ starEach es X.env).any (·.1))=false;rw [Dk] <;> rfl)$ QbY ?_
 exact cH hA λus s2 ⟨vs,H2,I2,r2,q2⟩=>hm pins s2 σ H2 x vs v us Q I2 r1 r2 q2
end
def MtM(X:Cx)(id:String)(r:V->List V->Hp->VK->Prop):Prop:=
 ∀(pins:Aaa) (s:QcR) (σ:St) (H:Hp) (x:V) (xs:List V) (v:Value) (us:List Value) (Q:VK),Inv X pins σ H s->RelV x v->Vals xs us->r x xs H Q->
  wpAny (model X.prog X.w) X.A (call (.builtin id) (v ::us)) (EP X pins σ Q) X.xe s
theorem Vals.one:∀{x:V} {us:List Value},Vals [x] us->∃u,us=[u]/\RelV x u
 | _,_, .cons r .nil=>⟨_,rfl,r⟩
section
variable {X:Cx}{pins:Aaa}{σ:St}{H:Hp}{s:QcR}{l:Addr}{xs ys:List V}
def Inv.V5{its its':List Value}{n:Nat}{f:Array Value->Array Value}{t':Nat}(I:Inv X pins σ H s)(hH:H l=some (.lst xs))
 (e:s.heap.get? l=some {cls:= .type "list",data:= .seq its.toArray n}) (hf:f its.toArray=its'.toArray) (hv:Vals ys its') (hz:ys.length<=sizeLine) :
 Inv X pins σ (upd H l$ .lst ys) {s with heap:=s.heap.update l$ Obj.mapSeq f,toks:=t'}:=by
 have q:=PySem.IsL.update e f;rw[hf] at q;refine I.write (x:=l) (e:=l) (by rw[hH];exact trivial) (.inl rfl) (λb' u hb hu=>(Heap.get?_update_other s.heap (Obj.mapSeq f)$ Qbz hb).trans hu) ⟨_,q⟩ ?_
 exact⟨hz,its',_,hv,q⟩
def Inv.Po{its:List Value}{t':Nat}(I:Inv X pins σ H s)(hv:Vals ys its)(hz:ys.length<=sizeLine) :
 Inv X pins σ (upd H s.heap.objs.size$ .lst ys) {s with heap:=s.heap.push {cls:= .type "list",data:= .seq its.toArray},toks:=t'}:=
 I.laid (λ_ _ q=>Qau _ q) (Qak _) ⟨hz,its,0,hv,QaY _ rfl⟩
def Inv.fresh(I:Inv X pins σ H s):H s.heap.objs.size=none:=I.hok.fresh$ Qak _
def Inv.W6(I:Inv X pins σ H s)(hH:H l=some (.lst xs)):xs.length<=sizeLine/\∃(its:List Value) (n:Nat),Vals xs its/\xs.length=its.length/\s.heap.get? l=some {cls:= .type "list",data:= .seq its.toArray n}:=by
 obtain⟨z,its,n,r,e⟩:=I.hok l _ hH;exact⟨z,its,n,r,r.length,e⟩
end
section
variable {X:Cx}
def L_:V->List V->Hp->VK->Prop:=λx vs H Q=>∃l xs y,x= .ref l/\vs=[y]/\H l=some (.lst xs)/\xs.length<sizeLine/\Q .cM (upd H l$ .lst$ xs++[y])
def m5:MtM X "list.append" L_:=by
 intro pins s σ H x vs v us Q I rx rv h;obtain⟨l,xs,y,rfl,rfl,hH,hz,q⟩:=h;cases rx;obtain⟨u,rfl,ru⟩:=rv.one;obtain⟨z,its,n,r,hl,e⟩:=I.W6 hH;refine call_meets F.slot_list_append ⟨_,e,rfl⟩ F.entry_list_append (F.args_list_append_2 _ _) (PySem.list_append l its.toArray n u$ by rw[QaD];omega) ⟨e,?_⟩
 refine⟨.cM,_,I.V5 (its':=its++[u]) hH e (by simp) (r.append$ .cons ru .nil) ?_,rfl,q⟩
 rw[Qar,Qcn];omega
def US:V->List V->Hp->VK->Prop:=λx vs H Q=>∃l b xs zs,x= .ref l/\vs=[.ref b]/\H l=some (.lst xs)/\H b=some (.lst zs)/\xs.length+zs.length<=sizeLine/\Q .cM (upd H l$ .lst$ xs++zs)
def abi:V->List V->Hp->VK->Prop:=λx vs H Q=>∃l xs y,x= .ref l/\vs=[]/\H l=some (.lst xs)/\xs[xs.length - 1]? =some y/\Q y (upd H l$ .lst xs.dropLast)
def Vz:V->List V->Hp->VK->Prop:=λx vs H Q=>∃l xs i k y,x= .ref l/\vs=[.int i]/\H l=some (.lst xs)/\ -(2 ^ 63)<=i/\i<2 ^ 63/\seqIndex? i xs.length=some k/\xs[k]? =some y/\Q y (upd H l$ .lst$ xs.eraseIdx k)
def TV:V->List V->Hp->VK->Prop:=λx vs H Q=>∃l xs,x= .ref l/\vs=[]/\H l=some (.lst xs)/\Q .cM (upd H l$ .lst xs.reverse)
def W5:V->List V->Hp->VK->Prop:=λx vs H Q=>∃l xs,x= .ref l/\vs=[]/\H l=some (.lst xs)/\Q .cM (upd H l$ .lst [])
def acA:R2:=λx y H Q=>∃l b xs zs,x= .ref l/\y= .ref b/\H l=some (.lst xs)/\H b=some (.lst zs)/\xs.length+zs.length<=sizeLine/\∀p,H p=none->Q (.ref p) (upd H p$ .lst$ xs++zs)
def acf:R2:=λx y H Q=>∃l k xs,x= .ref l/\y= .int k/\H l=some (.lst xs)/\ -(2 ^ 63)<=k/\k<2 ^ 63/\xs.length*k.toNat<=sizeLine/\
 ∀p,H p=none->Q (.ref p) (upd H p$ .lst (List.replicate k.toNat xs).flatten)
end
section
set_option maxRecDepth 100000 in
end
end L2
namespace Att
open PySem PySem.W PySem.Calls PyProof.Rows
def uz{P:Params}:∀(ns:List Int) (vs:List Value),WellAll P h vs (ns.map WData.int)->IntsAre vs ns:=by
 intro ns
 induction ns with
 | nil=>
   intro vs w;rw[QbI] at w;cases w;exact .nil
 | cons n ns ih=>
   intro vs w;rw[Qay] at w;cases w with
   | cons a b=>
     cases a;exact .cons _ _$ ih _ b
def Gv{l:OpenLaw}{n:Nat}(hn:l.most=some n){P:Params}{h:Heap}{args:List WData}{vals:List Value}
 (Dt:l.row.toRowW.claim.pre args=true) (xw:WellAll P h vals args) :
 ∃a vs ns,vals=[Value.ref a]/\args=[WData.list$ ns.map WData.int]/\h.get? a=some {cls:= .type "list",data:= .seq vs.toArray}/\IntsAre vs ns/\ns.length<=n:=by
 have hsh:WShape.hasAll [] args [.list .int]=true:=(pre_splitW Dt).1;have hc:l.pre.holds [] {args:=args}=true:=(pre_splitW Dt).2;obtain⟨d,r,rfl,h1,h2⟩:=hasAllW_cons hsh;obtain rfl:=hasAllW_nil h2;obtain⟨xs,rfl,h3⟩:=hasW_list h1;obtain⟨ns,rfl⟩:=items_int h3;have hlen:ns.length<=n:=by
  unfold OpenLaw.pre at hc;have h4:(WTm.not$ .lt (.lit$ .int (n:Int))$ .len$ .arg 0).holds [] {args:=[.list$ ns.map .int]}=true:=by
   have h4:=(holds_andW hc).1;rw[hn] at h4;exact h4
  have h5:=condW_of h4$ w_not$ w_lt w_lit$ w_len_list$ w_arg rfl;rw[Qaa] at h5;refine Nat.le_of_not_lt λq=>?_
  have q':(n:Int)<((ns.length:Nat):Int):=by omega
  first
   | (rw [Qac q'] at h5;exact absurd h5$ by decide)
   | (simp at h5;omega)
 cases xw with
 | cons w1 w2=>
   cases w2;cases w1 with
   | list ho GB=>exact⟨_,_,ns,rfl,rfl,ho,uz ns _ GB,hlen⟩
def F3(l:OpenLaw)(args:List WData):l.row.toRowW.claim.post args (.bool true) args=true:=
 postW_of (r:=l.row.toRowW) (X:=(true==true))
  (show WShape.has [] (.bool true) .bool=true by first | rfl | decide | simp [WShape.has,WShape.arms,WShape.armsAll])
  (show(WTm.eq .res$ .lit$ .bool true).value [] {args:=args,res:=some$ .bool true,after:=args}=some (.bool$ true==true) from w_eq_bool (w_res rfl) w_lit) rfl
def Au{l:OpenLaw}{n:Nat}{q:Program}{loose:List Str}{XP:(Str->Option Value)->Heap->Prop}{YP:World->Heap->Prop}{d:DefRec}
 (hn:l.most=some n) (Yc:d.params.defaults=[])
 (call:∀(w:World) (s₀ s₁:QcR) (mg mb:Aaf) (fa:Addr) (o:Obj) (pm cd doc:Value) (a:Addr) (vs:List Value) (ns:List Int),
   Ground q loose [] XP w s₀ mg mb s₁.heap->YP w s₁.heap->
   s₁.heap.get? fa=some o->o.data= .func (docDef d.name d.params d.body d.scope pm cd doc)->s₁.heap.CodeRec cd d.name->mg d.name=some (.ref fa)->
   s₁.heap.get? a=some {cls:= .type "list",data:= .seq vs.toArray}->IntsAre vs ns->ns.length<=n->s₁.gens=#[]->
   codeAny (model l.prog w) callerA (.call (.ref fa) ⟨[.ref a],[]⟩) (λr s'=>r= .ok (.ret$ .bool true)/\OldK s₁.heap s'.heap/\s'.os=s₁.os/\AllBare s'.gens) s₁) :
 WalkO q loose XP YP l.row.toRowW d [] (λf vs=>PySem.call f vs):=by
 intro w s₀ s₁ mg mb G Y fa o pm cd doc dV kV ho hd rJ hD Ur hg args vals as Dt hlay hrd xw hlo;obtain rfl:dV= .none:=Dflts.none hD Yc;obtain rfl:kV= .none:=Dflts.noKw hD;obtain⟨a,vs,ns,rfl,rfl,QW,hints,hlen⟩:=Gv hn Dt xw;refine enter_call$ codeAny_mono (call w s₀ s₁ mg mb fa o pm cd doc a vs ns G Y ho (fd_plain hd) rJ Ur QW hints hlen hg) λr s' hq=>?_
 obtain⟨rfl,h2,h3,h4⟩:=hq;exact⟨.inl ⟨.bool true, .bool true,[],rfl,λ_=>rfl, .bool true,F3 l _,λ_=>⟨List.Pairwise.nil,λ_ hm=>(nomatch hm)⟩⟩,h2,h3,h4⟩
section
def Xd(h:Heap):Heap:={h with objs:=#[]}
def ledger(h:Heap)(L d:Addr):Aaa:=(List.range h.objs.size).filterMap λa=>if a=L\/a=d then none else(h.get? a).map λo=>(a,o)
end
end Att
namespace L2
open PySem PySem.Spec PyProof.Rows
theorem x6:∀{vs:List Value} {ns:List Int},IntsAre vs ns->Vals (ns.map V.int) vs
 | _,_, .nil=> .nil
 | _,_, .cons n t h=> .cons ⟨t,rfl⟩$ x6 h
def R4(H:Hp):Prop:=∀b,H b=none\/∃o xs,H b=some (.mq o$ .lst xs)
abbrev eZ{K:QcQ}{h:Heap}(_:K.In h):QcQ:=K
def inClass(s:Stmt)(j:Nat):Stmt:=match s with
 | .ClassDef _ _ _ body _ _ _ _ _ _ _=>body.getD j$ .Pass ⟨0,0,0,0⟩
 | _=> .Pass ⟨0,0,0,0⟩
def fP(s:Stmt):Arguments:=match s with
 | .FunctionDef _ a _ _ _ _ _ _ _ _=>a
 | _=>{posonlyargs:=[],args:=[],vararg:=none,kwonlyargs:=[],kw_defaults:=[],kwarg:=none,defaults:=[]}
def aQ(s:Stmt):List Stmt:=match s with
 | .FunctionDef _ _ b _ _ _ _ _ _ _=>b
 | _=>[]
def aC(s:Stmt):Scope:=match s with
 | .FunctionDef _ _ _ _ _ _ sc _ _ _=>sc
 | _=>{kind:= .function,names:=[],isGenerator:=false,isCoroutine:=false}
abbrev wM:GH:=fun _ _ _ _ _ _=>False
abbrev E0:XK:=fun _ _ _=>False
def HG{X:Cx}:Passes wM X E0:=λ_ _ _ _ _ _ _ h=>h.elim
structure Cz (K:QcQ) (x qual:Str) (st:Stmt) (f:Addr) (fd:FuncData):Prop where
 ex:∃(oc:Value) (od:Option Addr) (kV doc pm:Value) (an:Option Addr) (fu ct:Value) (JJ:Array (Option Value)),
  fd=PySem.W.fnOf x qual (fP st) (aQ st) (aC st) .none kV doc pm an fu ct/\K.lookup f=some ⟨oc,od, .func fd,JJ⟩/\PySem.W.codeIn K fu qual=true
 kp:PySem.W.keepIn K (.ref f)=true
section
variable {P:Program}{w:World}{K:QcQ}{mg:Aaf}{base:Heap}
def Cz.ok{x qual:Str}{st:Stmt}{f:Addr}{fd:FuncData}{N ps:List Str}{k:Nat}{sp:Sp}(F:Cz K x qual st f fd)(S:bp N ps (aC st))(len:∀vs H Q E,sp vs H Q E->vs.length=ps.length)
 (fj:∀(fu:Value) (A:Around) (outer:List Env) (s:QcR) (H:Hp) (vs:List V) (Q:VK) (E:XK),dW k (A.deeper$ envOfC qual (aC st) s.heap.objs.size f fu)->sp vs H Q E->
   ∃t,yI (mn wM P w K mg base N qual (aC st) f fu A outer s H E).HQ (aQ st) t/\t {nx:=λ_ H'=>Q .cM H',rt:=Q} (start N vs) H):jH P w K mg base wM (k+1) f fd ps sp:=by
 obtain⟨oc,od,kV,doc,pm,an,fu,ct,JJ,rfl,lk,rJ⟩:=F.ex;refine M_ lk rJ S len λA outer s H vs Q E hr GC=>?_
 obtain⟨t,h,q⟩:=fj fu A outer s H vs Q E hr GC;exact⟨t,h.HQ,q⟩
def Cz.binds{x qual:Str}{st:Stmt}{f:Addr}{fd:FuncData}{ps:List Str}(F:Cz K x qual st f fd)
 (h:∀(kV doc pm:Value) (an:Option Addr) (fu ct:Value) (us:List Value),us.length=ps.length->bindArgs (PySem.W.fnOf x qual (fP st) (aQ st) (aC st) .none kV doc pm an fu ct) ⟨us,[]⟩=pure (ps.zip us)):Binds K fd ps []:=by
 obtain⟨oc,od,kV,doc,pm,an,fu,ct,JJ,rfl,lk,rJ⟩:=F.ex;exact .all$ h kV doc pm an fu ct
def tE{x qual:Str}{st:Stmt}{f:Addr}{oc:Value}{od an:Option Addr}{JJ:Array (Option Value)}{kV doc pm fu ct:Value}(l:K.lookup f=some ⟨oc,od, .func$ PySem.W.fnOf x qual (fP st) (aQ st) (aC st) .none kV doc pm an fu ct,JJ⟩)
 (c:PySem.W.codeIn K fu qual=true) (k:PySem.W.keepIn K (.ref f)=true):Cz K x qual st f (PySem.W.fnOf x qual (fP st) (aQ st) (aC st) .none kV doc pm an fu ct):=⟨⟨oc,od,kV,doc,pm,an,fu,ct,JJ,rfl,l,c⟩,k⟩
end
def nA{A:Around}{k:Nat}(hr:dW k A):A.units+1<cLine:=Nat.lt_of_le_of_lt (Nat.add_le_add_left (by decide:1<=64) _) hr.units
section
variable {X:Cx}
def Gb:kL X (.builtin "len") (λxs H Q=>∃a aD,xs=[V.ref a]/\H a=some (.dK aD)/\Q (.int aD.length) H):=by
 intro pins s σ H xs us Q I r h;obtain⟨a,aD,rfl,ha,q⟩:=h;obtain⟨u,rfl,ru⟩:=vals1 r;cases ru;exact SM I (.inl ha) λt s' I'=>⟨.int aD.length,H,I',⟨t,rfl⟩,q⟩
end
def Hx{A B:Prop}(h:B):if false=true then A else B:=by
 rw[Qaj QaG];exact h
def HC{A B:Prop}(h:A):if true=true then A else B:=by
 rw[Qap rfl];exact h
def aR(H H':Hp):Prop:=∀b o,H b=some o->H' b=some o
def aR.refl(H:Hp):aR H H:=λ_ _ h=>h
def aR.trans(a:aR H H1)(b:aR H1 H2):aR H H2:=λc o h=>b c o$ a c o h
def aR.free{H H':Hp}(e:aR H H'){l:Addr}(h:H' l=Option.none):H l=Option.none:=by
 cases q:H l with
 | none=>rfl
 | some o=>
   rw[e l o q] at h;cases h
def qv(cells:List (Str × Addr)):List (Str × NameKind)->List (Str × Addr)->List (Str × Addr)
 | [],acc=>acc
 | (n,k) ::r,acc=>qv cells r (if k==NameKind.free then(n,(cells.lookup n).getD 0) ::acc else acc)
def nS{env:Env}:∀(names:List (Str × NameKind)) (acc:List (Str × Addr)),(∀y∈names,y.2= .free->∃c,env.cells.lookup y.1=some c)->
 (forIn names acc λ(x:Str × NameKind) (cs:List (Str × Addr))=>(match x with
   | (name,kind)=>if kind== .free then do let a <-cellOf env name;pure (ForInStep.yield ((name,a) ::cs)) else pure (ForInStep.yield cs):Sem (ForInStep$ List$ Str × Addr)))=pure (qv env.cells names acc)
 | [],acc,_=>by simp [qv]
 | (n,k) ::r,acc,h=>by
   rw[List.forIn_cons];by_cases hk:k=NameKind.free
   .subst hk;obtain⟨c,hc⟩:=h (n, .free) Qai rfl;have e:cellOf env n=pure c:=by unfold cellOf;rw [hc]
    simp only[Qcl,QbU,e,pure_bind,qv,hc,Option.getD_some];exact nS r _ λy hy=>h y$ Qab _ hy
   .have hb:(k==NameKind.free)=false:=by simpa using hk
    simp only[hb,Qbl,Qb0,pure_bind,qv];exact nS r _ λy hy=>h y$ Qab _ hy
def oH{env:Env}{scope:Scope}(h:∀y∈scope.names,y.2= .free->∃c,env.cells.lookup y.1=some c):closureFor scope env=pure (qv env.cells scope.names []):=by
 unfold closureFor;have:=nS (env:=env) scope.names [] h;simp only[bind_pure];exact this
def mH{cells:List (Str × Addr)}:∀(names:List (Str × NameKind)) (acc:List (Str × Addr)) {x:Str} {c:Addr},(qv cells names acc).lookup x=some c->
 acc.lookup x=some c\/((x,NameKind.free)∈names/\c=(cells.lookup x).getD 0)
 | [],acc,x,c,h=> .inl h
 | (n,k) ::r,acc,x,c,h=>by
   rcases mH r _ h with q | ⟨q1,q2⟩
   .by_cases hk:k=NameKind.free
    .subst hk;simp only[Qcl,QbU] at q;cases hx:x==n with
     | true=>
       have e:x=n:=by simpa using hx
       subst e;rw[QaB,hx] at q;exact .inr ⟨Qai,(QaW q).symm⟩
     | false=>
       rw[QaB,hx] at q;exact .inl q
    .have hb:(k==NameKind.free)=false:=by simpa using hk
     simp only[hb,Qbl,Qb0] at q;exact .inl q
   .exact .inr ⟨Qab _ q1,q2⟩
theorem Aa{cells:List (Str × Addr)}:∀(names:List (Str × NameKind)) (acc:List (Str × Addr)) {x:Str},((x,NameKind.free)∈names\/∃c,acc.lookup x=some c)->∃c,(qv cells names acc).lookup x=some c
 | [],acc,x,h=>by
   rcases h with h | h
   .simp at h
   .exact h
 | (n,k) ::r,acc,x,h=>by
   refine Aa r _ ?_;rcases h with h | ⟨c,h⟩
   .rcases QaF.mp h with e | e
    .cases e;exact .inr ⟨(cells.lookup n).getD 0,by simp [QaB]⟩
    .exact .inl e
   .by_cases hk:k=NameKind.free
    .subst hk;simp only[Qcl,QbU];cases hx:x==n with
     | true=>exact .inr ⟨(cells.lookup n).getD 0,by rw[QaB,hx]⟩
     | false=>exact .inr ⟨c,by rw[QaB,hx];exact h⟩
    .have hb:(k==NameKind.free)=false:=by simpa using hk
     simp only[hb,Qbl,Qb0];exact .inr ⟨c,h⟩
theorem zm:∀(names:List (Str × NameKind)) (n:Nat) (acc:List (Str × Addr)) {x:Str},(x,NameKind.cell) ∉ names->(cellsFrom n names acc).lookup x=acc.lookup x
 | [],_,_,_,_=>rfl
 | (y,k) ::r,n,acc,x,h=>by
   unfold cellsFrom;split
   .rename_i hk;have hk:k= .cell:=by simpa using hk
    subst hk;rw[zm r _ _ λz=>h$ Qab _ z,QaB]
    cases hx:x==y with
    | true=>
      have e:x=y:=by simpa using hx
      subst e;exact absurd Qai h
    | false=>rfl
   .exact zm r _ _ λz=>h$ Qab _ z
theorem qT:∀(names:List (Str × NameKind)) (n:Nat) (acc:List (Str × Addr)),cellsFrom n names acc=cellsFrom n names []++acc
 | [],_,_=>rfl
 | (y,k) ::r,n,acc=>by
   unfold cellsFrom;split
   .rw [qT r (n+1) ((y,n) ::acc),qT r (n+1) [(y,n)],QaE];rfl
   .exact qT r n acc
def BI{a b:List (Str × Addr)}{c:Addr}(h:(a++b).lookup x=some c):(x,c)∈a\/b.lookup x=some c:=by
 induction a with
 | nil=>exact .inr h
 | cons y r ih=>
   obtain⟨n,v⟩:=y;rw[Qbe,QaB] at h;cases hx:x==n with
   | true=>
     rw[hx] at h;have e:x=n:=by simpa using hx
     subst e;cases h;exact .inl Qai
   | false=>
     rw[hx] at h;exact(ih h).imp (Qab _) id
def pd{a b:List (Str × Addr)}(h:∃c,b.lookup x=some c):∃c,(a++b).lookup x=some c:=by
 induction a with
 | nil=>exact h
 | cons y r ih=>
   rw[Qbe,QaB];cases x==y.1 with
   | true=>exact⟨_,rfl⟩
   | false=>exact ih
def zw{a b:List (Str × Addr)}{c:Addr}(h:a.lookup x=some c):∃c,(a++b).lookup x=some c:=by
 induction a with
 | nil=>cases h
 | cons y r ih=>
   rw[Qbe,QaB];rw[QaB] at h;cases hx:x==y.1 with
   | true=>exact⟨_,rfl⟩
   | false=>rw [hx] at h;exact ih h
def xN{M:Model}{A:Around}{E:Aab}{s:QcR}{scope:Scope}{cl:List (Str × Addr)}{qual:Str}{env:Env}{Q:Env->QcR->Prop}(hQ:∀h',h'.Ns s.heap.objs.size (λ_=>none)->(∀b o,s.heap.get? b=some o->h'.get? b=some o)->CellsOk h' (s.heap.objs.size+1) (cellsFrom (s.heap.objs.size+1) scope.names [])->
 Q (newEnv scope s.heap.objs.size env.globals (cellsFrom (s.heap.objs.size+1) scope.names cl) qual none .none (some env) builtinsNs) {s with heap:=h'}) :
 wpAny M A (newFunctionEnv scope env.globals cl [] qual none .none$ some env) Q E s:=by
 simp only[newFunctionEnv,Option.isSome_some,QbU];refine Qaw$ wpAny_alloc ?_;refine Qaw (wpAny_layCells _ (λname kind cells=>by cases hkc:kind==NameKind.cell <;> simp [hkc]) _ _ _ _ ?_)
 have ok:=cellsFrom_ok scope.names (s.heap.push {cls:= .type "dict",data:= .dict #[]}) (s.heap.objs.size+1) [] ⟨λ_ _ hm=>(nomatch hm),List.Pairwise.nil⟩ (by rw[QbH];exact Qak _)
 rw[QbH] at ok;rw[show({s with heap:=s.heap.push {cls:= .type "dict",data:= .dict #[]}}:QcR).heap.objs.size=s.heap.objs.size+1 from QbH ..]
 rw[List.forIn_nil];refine Qaw$ QaX$ QaX ?_;exact hQ _ ((Heap.Ns.new s.heap$ .type "dict").keeps$ pushCells_keeps _ _) (λb o e=>pushCells_keeps _ _ b o$ Qau _ e) ok
def bB(X:Cx)(scope:Scope)(N':List Str)(fp:List Addr)(s:QcR)(H:Hp):Cx where
 prog:=X.prog
 w:=X.w
 K:=X.K
 mg:=X.mg
 base:=X.base
 A:=X.A
 N:=N'
 s₀:=s
 H₀:=H
 env:=compEnvC scope (cellsFrom (s.heap.objs.size+1) scope.names$ qv X.env.cells scope.names []) s.heap.objs.size X.env
 outer:=X.stack
 stack:=X.stack
 ex:=fp
 fn:=λx=>scope.names.lookup x==some .cell
 calm:=X.calm
 pn:=[]
 xe:=λ_ _=>False
structure f6 (X:Cx) (scope:Scope) (own:List Str) (kp:List Nat) (kn:List Str):Prop where
 kind:scope.kind= .function
 cel:∀y∈scope.names,y.2= .cell->scope.names.lookup y.1=some .cell
 nd:∀y∈scope.names,y.2= .local->scope.names.lookup y.1=some .local
 free:∀y∈scope.names,y.2= .free->X.env.kindOf y.1=some .cell\/X.env.kindOf y.1=some .free
 frl:∀y∈scope.names,y.2= .free->scope.names.lookup y.1=some .free
 names:kn.length=kp.length
 at_:∀(j i:Nat) (x:Str),kp[j]? =some i->kn[j]? =some x->X.N[i]? =some x
 isfree:∀x∈kn,scope.names.lookup x=some .free
def dj(own:List Str)(kp:List Nat)(σ:St):St:=List.replicate own.length none++kp.map λi=>(σ[i]?).getD none
section
variable {X:Cx}{scope:Scope}{own:List Str}{kp:List Nat}{kn:List Str}
def eO{env:Env}:∀{names:List (Str × NameKind)} {x:Str} {k:NameKind},
 (names.map λ(n,k)=>if(k==NameKind.free && env.scope.kind== .function && env.kindOf n==some .cell) then(n,NameKind.cell) else(n,k)).lookup x=some k->
 names.lookup x=some k\/(k= .cell/\names.lookup x=some .free)
 | [],_,_,h=>by simp at h
 | (n,k) ::r,x,k',h=>by
   have ih:=@eO env r x k';have h:List.lookup x ((if(k==NameKind.free && env.scope.kind== .function && env.kindOf n==some .cell)=true then(n,NameKind.cell) else(n,k)) ::_)=some k':=h
   by_cases hc:(k==NameKind.free && env.scope.kind== .function && env.kindOf n==some .cell)=true
   .rw [Qap hc] at h;have hkf:k= .free:=by
     simp only[QaL,Qa3] at hc;exact hc.1.1
    cases hx:x==n with
    | true=>
      rw[QaB,hx] at h;cases h;exact .inr ⟨rfl,by rw[QaB,hx,hkf]⟩
    | false=>
      rw[QaB,hx] at h;rw[QaB,hx];exact ih h
   .rw [Qaj hc] at h;cases hx:x==n with
    | true=>
      rw[QaB,hx] at h;rw[QaB,hx];exact .inl h
    | false=>
      rw[QaB,hx] at h;rw[QaB,hx];exact ih h
def q8{pins:Aaa}{s:QcR}(C:f6 X scope own kp kn)(I:Inv X pins σ H s):∀y∈scope.names,y.2= .free->∃c,X.env.cells.lookup y.1=some c:=λy hy hf=>
 I.ok.has y.1 (C.free y hy hf)
def GY{pins:Aaa}{σ:St}{H:Hp}{s:QcR}{fp:List Addr}{oV:Heap}{tk:Nat}(C:f6 X scope own kp kn)(I:Inv X pins σ H s)(hf:∀b∈fp,uH X pins H b)(hb:∀b∈fp,b<s.heap.objs.size)
 (hn:oV.Ns s.heap.objs.size (λ_=>none)) (hk:∀b o,s.heap.get? b=some o->oV.get? b=some o) (hC:CellsOk oV (s.heap.objs.size+1) (cellsFrom (s.heap.objs.size+1) scope.names [])):Inv (bB X scope (own++kn) fp s H) [] (dj own kp σ) H {s with heap:=oV,toks:=tk}:=by
 have cl:∀x c,(qv X.env.cells scope.names []).lookup x=some c->X.env.cells.lookup x=some c:=λx c e=>by
  rcases mH scope.names [] e with q | ⟨q1,q2⟩
  .simp at q
  .obtain⟨c',GQ⟩:=q8 C I (x, .free) q1 rfl;have GQ:X.env.cells.lookup x=some c':=GQ;rw[GQ] at q2;rw[GQ,q2];rfl
 have clA:∀x c,(cellsFrom (s.heap.objs.size+1) scope.names$ qv X.env.cells scope.names []).lookup x=some c->(x,c)∈cellsFrom (s.heap.objs.size+1) scope.names []\/(qv X.env.cells scope.names []).lookup x=some c:=λx c e=>by
  rw[qT] at e;exact BI e
 have old:∀x c,(qv X.env.cells scope.names []).lookup x=some c->c<s.heap.objs.size:=λx c e=>by
  obtain⟨v,h⟩:=I.cell x c$ cl x c e;exact h.lt
 have new:∀x c,(x,c)∈cellsFrom (s.heap.objs.size+1) scope.names []->s.heap.objs.size<=c:=λx c e=>Nat.le_of_lt (hC.empty x c e).2
 have clh:∀x,scope.names.lookup x=some .free->∃c,(qv X.env.cells scope.names []).lookup x=some c:=λx hx=>Aa scope.names []$ .inl$ Qbh hx
 refine⟨⟨I.ok.mod,C.kind,I.ok.glob,I.ok.blt,Qak _,λx y c h1 h2=>?inj,λx hx=>?_,λx c hn h=>?cab,I.ok.hd,I.ok.frames, .inl rfl,λb uo=>⟨QaR$ hb b uo,λx c e z=>?exf⟩,
  λb o e=>I.bs b o e,QaK I.ok.bsz I.sz,λb o e uo=>?_,λb uo hs=>?_,I.stack,I.p9⟩,
  rfl,I.bare,Un.kept hk,⟨_,hn,λi x v h1 h2 h3=>?_⟩,λx c e=>?_,I.hok.fresh$ Qak _,λx c e=>?frc,λp hp=>(by cases hp),I.hok.kept hk,?_⟩
 case inj=>
  rcases clA x c h1 with a | a <;> rcases clA y c h2 with b | b
  .exact name_of_addr hC.apart a b
  .exact absurd (Qas (old y c b)$ new x c a) (Qbr _)
  .exact absurd (Qas (old x c a)$ new y c b) (Qbr _)
  .exact I.ok.inj x y c (cl x c a) (cl y c b)
 case cab=>
  have hn:(scope.names.lookup x==some .cell)=true:=hn;rcases clA x c h with a | a
  .exact new x c a
  .rcases mH scope.names [] a with q | ⟨q1,q2⟩
   .simp at q
   .have hx:scope.names.lookup x=some .cell:=by simpa using hn
    have h7:scope.names.lookup x=some .free:=C.frl _ q1 rfl;rw[hx] at h7;cases h7
 case exf=>
  rcases clA x c e with a | a
  .subst z;exact absurd (Qas (hb _ uo)$ new x _ a)$ Qbr _
  .exact(hf b uo).2.2.2.2.1 x c (cl x c a) z
 case frc=>
  rcases clA x c e with a | a
  .exact I.hok.fresh (new x c a)
  .exact I.freeC x c (cl x c a)
 .have hx:(relabel scope X.env).names.lookup x=some .cell\/(relabel scope X.env).names.lookup x=some .free:=hx;show ∃c,(cellsFrom (s.heap.objs.size+1) scope.names$ qv X.env.cells scope.names []).lookup x=some c;rcases hx with hx | hx
  .rcases eO hx with q | ⟨_,q⟩
   .rw [qT];obtain⟨c,hc⟩:=vh (n:=s.heap.objs.size+1) q;exact zw hc
   .rw [qT];exact pd$ clh x q
  .rcases eO hx with q | ⟨q,_⟩
   .rw [qT];exact pd$ clh x q
   .cases q
 .rcases(hf b uo).2.2.2.1 with z | z
  .exact I.ok.noex b o e z
  .exact absurd (Qas (QaA (I.ok.bs b o e).1) z) (Qbr _)
 .rcases QaF.mp (I.CL b hs) with z | z
  .exact(hf b uo).2.1 z
  .exact(hf b uo).2.2.1 z
 .-- a kept name
  have h1:(own++kn)[i]? =some x:=h1;have h2:(dj own kp σ)[i]? =some (some v):=h2;unfold dj at h2;by_cases hi:i<own.length
  .rw [Qat (by simpa using hi),QaS] at h2
   split at h2 <;> cases h2
  .rw [Qal (by simpa using hi),QaV,Qad] at h2
   rw[Qal$ by simpa using hi] at h1
   cases e:kp[i - own.length]? with
   | none=>rw [e] at h2;cases h2
   | some j=>
     rw[e] at h2;have h2:(σ[j]?).getD none=some v:=QaW h2;have hj:X.N[j]? =some x:=C.at_ _ j x e h1;have Mu:σ[j]? =some (some v):=by
      cases q:σ[j]? with
      | none=>rw [q] at h2;cases h2
      | some y=>rw [q] at h2;exact Qbs some h2
     have hfree:scope.names.lookup x=some .free:=C.isfree x$ Qan h1;have hkind:=C.free (x, .free) (Qbh hfree) rfl;obtain⟨m,hm,hl⟩:=I.loc;obtain⟨u,r,l⟩:=hl j x v hj Mu$ hkind.elim (λq=>Or.inr$ Or.inl q) λq=>Or.inr$ Or.inr q
     refine⟨u,r, .inr ⟨?_,?_⟩⟩
     .have h3:(relabel scope X.env).names.lookup x=some .local\/(relabel scope X.env).names.lookup x=some .cell\/(relabel scope X.env).names.lookup x=some .free:=h3;rcases h3 with q | q | q
      .rcases eO q with z | ⟨z,_⟩
       .rw [hfree] at z;cases z
       .cases z
      .exact .inl q
      .exact .inr q
     .rcases l with⟨k,_⟩ | ⟨_,c,hc,hcell⟩
      .rcases hkind with q | q
       .rw [show X.env.kindOf x=some .cell from q] at k;cases k
       .rw [show X.env.kindOf x=some .free from q] at k;cases k
      .obtain⟨c',GQ⟩:=clh x hfree;have:=cl x c' GQ;rw[hc] at this;cases this;obtain⟨o,ho,hd⟩:=hcell;exact⟨c,(zm _ _ _ λz=>by have:=C.cel _ z rfl;rw [hfree] at this;cases this).trans GQ,o,hk c o ho,hd⟩
 .rcases clA x c e with a | a
  .exact⟨_,(hC.empty x c a).1⟩
  obtain⟨v,o,ho,hd⟩:=I.cell x c$ cl x c a;exact⟨v,o,hk c o ho,hd⟩
 .show(dj own kp σ).length=(own++kn).length;unfold dj;rw[Qar,QaV,Qaa,Qar,C.names]
def wx{pins:Aaa}{s s':QcR}{fp:List Addr}{N':List Str}(I:Inv X pins σ H s)(hf:∀b∈fp,uH X pins H b)(J:Inv (bB X scope N' fp s H) [] cu H' s'):Inv X pins σ H' s':=
 I.Nb (ch:=fp) J.os J.base J.hok J.bare λb hb=>⟨(hf b hb).2.2.2.1,(hf b hb).2.1,(hf b hb).2.2.2.2.1,(hf b hb).2.2.2.2.2⟩
end
def ur(X:Cx)(ifs:List Expr)(t:TT):Prop:=
 ∀(pins:Aaa) (s:QcR) (σ:St) (H:Hp) (Q:Bool->Hp->Prop),Inv X pins σ H s->t σ H Q->
  wpAny (model X.prog X.w) X.A (forIn ifs true λc r=>if r=true then do let ok <-isTrue c X.env (eval c X.env);pure (ForInStep.yield ok) else pure (ForInStep.yield r)) (TP X pins σ Q) X.xe s
def VE:TT:=λ_ H Q=>Q true H
def Aj{X:Cx}:ur X [] VE:=λ_ _ _ H _ I h=>wpAny_tests_nil ⟨H,I,h⟩
def IT{X:Cx}{t:TT}(h:PT X c t):ur X [c] t:=λpins s σ H Q I hq=>wpAny_tests_one$ h pins s σ H Q I hq
def D9(wi:TI)(g:TG)(tc:TT)(te:TE)(own:List Str)(kp:List Nat):TE:=λσ H Q=>wi σ H λJ H1=>∀D,H1 D=none->
 ∃W:Nat->Nat->List V->Hp->Prop,(∃m,W 0 m []$ upd H1 D$ .lst [])/\∀i m ys H,W i m ys H->
  (J.stop i H/\Q (.ref D) H)\/(J.go i H/\∀x H',J.yld i H x H'->g x (dj own kp σ) H' λwK H2=>tc wK H2 λc H3=>
    if c=true then te wK H3 λy H4=>H4 D=some (.lst ys)/\ys.length<sizeLine/\∃m',m'<m/\W (i+1) m' (ys++[y]) (upd H4 D$ .lst$ ys++[y])
    else ∃m',m'<m/\W (i+1) m' ys H3)
section
variable {X:Cx}{scope:Scope}{own:List Str}{kp:List Nat}{kn:List Str}{tg iter elt:Expr}{ifs:List Expr}{wi:TI}{g:TG}{tc:TT}{te:TE}{pos:Pos}
def Av{pins:Aaa}{σ:St}{H:Hp}{s:QcR}{fp:List Addr}{it D:Addr}{tn:Nat->Heap->Prop}{J:It}{Q:VK}{oV:Heap}{tk:Nat}{R:Result->QcR->Prop}
 (hc:X.calm=true) (C:f6 X scope own kp kn) (I:Inv X pins σ H s) (hf:∀b∈fp,uH X pins H b) (hb:∀b∈fp,b<s.heap.objs.size) (T:Turn X.prog X.w X.K tg J fp it tn)
 (hg:PG (bB X scope (own++kn) fp s H) tg g) (hi:ur (bB X scope (own++kn) fp s H) ifs tc) (he:PE (bB X scope (own++kn) fp s H) elt te)
 (hn:oV.Ns s.heap.objs.size (λ_=>none)) (hk:∀b o,s.heap.get? b=some o->oV.get? b=some o) (hC:CellsOk oV (s.heap.objs.size+1) (cellsFrom (s.heap.objs.size+1) scope.names [])) (st:tn 0 s.heap)
 (W:Nat->Nat->List V->Hp->Prop) (w0:∃m,W 0 m [] H)
 (turn:∀i m ys H,W i m ys H->
   (J.stop i H/\Q (.ref D) H)\/(J.go i H/\∀x H',J.yld i H x H'->g x (dj own kp σ) H' λwK H2=>tc wK H2 λc H3=>
     if c=true then te wK H3 λy H4=>H4 D=some (.lst ys)/\ys.length<sizeLine/\∃m',m'<m/\W (i+1) m' (ys++[y]) (upd H4 D$ .lst$ ys++[y])
     else ∃m',m'<m/\W (i+1) m' ys H3))
 (hR:∀H' s' cu,Inv (bB X scope (own++kn) fp s H) [] cu H' s'->Q (.ref D) H'->R (.ok .next) s') :
 codeAny (model X.prog X.w) X.A (.compStart (.ListComp elt [⟨tg,iter,ifs,0⟩] scope pos) 0 (.ref it) (.ref D) (bB X scope (own++kn) fp s H).env) R {s with heap:=oV,toks:=tk}:=by
 have I1:Inv (bB X scope (own++kn) fp s H) [] (dj own kp σ) H {s with heap:=oV,toks:=tk}:=GY C I hf hb hn hk hC
 have st1:tn 0 oV:=T.keep _ _ _ st λb _ o e=>hk b o e
 have fp1:∀{H':Hp} {p:Aaa},(∀b∈fp,H' b=none)->(∀b∈fp,∀q∈p,q.1≠b)->∀b∈fp,uH (bB X scope (own++kn) fp s H) p H' b:=fun {H' p} hn hp b uo=>
  ⟨hn b uo,(I1.ok.exf b uo).1,I1.ok.exfs b uo, .inl uo,λx c e=>(I1.ok.exf b uo).2 x c e,λq hq=>hp b uo q hq⟩
 obtain⟨m0,w0⟩:=w0;have loop:codeAny (model X.prog X.w) X.A (.compLoop (.ListComp elt [⟨tg,iter,ifs,0⟩] scope pos) 0 (.ref it) (.ref D) (bB X scope (own++kn) fp s H).env) R {s with heap:=oV,toks:=tk}:=by
  refine codeAny_loop rfl (λn s'=>∃i ys H',Inv (bB X scope (own++kn) fp s H) [] (dj own kp σ) H' s'/\tn i s'.heap/\(∀b∈fp,H' b=none)/\W i n ys H') (λn s' hI=>?_) m0 ⟨0,[],H,I1,st1,λb uo=>(hf b uo).1,w0⟩
  obtain⟨i,ys,H3,I3,Mt,Us,w3⟩:=hI;show wpAny _ _ ((compTurn (.ListComp elt [⟨tg,iter,ifs,0⟩] scope pos) 0 (.ref it) (.ref D) (bB X scope (own++kn) fp s H).env).onRaise$ λx=>do noteFrame x (bB X scope (own++kn) fp s H).env;theTreesLotGoes x) _ _ s'
  refine wpAny_noted$ wpAny_noRaise ?_;rw[compTurn_list];refine Qaw$ wpAny_standAt$ Qaw ?_;rcases turn i n ys H3 w3 with⟨stop,q⟩ | ⟨go,step⟩
  .refine cH (T.done (bB X scope (own++kn) fp s H) rfl rfl rfl hc i [] s' _ H3 _ I3 (fp1 Us$ λ_ _ q hq=>by cases hq) Mt stop) λr s4 ⟨hr,I4⟩=>?_
   subst hr;exact QaX$ hR H3 s4 _ I4 q
  .refine cH (T.item (bB X scope (own++kn) fp s H) rfl rfl rfl hc i [] s' _ H3 _ I3 (fp1 Us$ λ_ _ q hq=>by cases hq) Mt go) λr s4 ⟨u,hr,h4⟩=>?_
   subst hr;refine Qaw$ cH h4 λ_ s5 ⟨x,H5,I5,r5,y5,QR,Xm⟩=>?_
   have I5':=I5.pinned (fp1 Xm$ λ_ _ q hq=>by cases hq) (T.obj _ _ QR)
   have keepIt:∀{Br:St} {H7:Hp} {s7:QcR},Inv (bB X scope (own++kn) fp s H) ([]++rg fp s5.heap) Br H7 s7->tn (i+1) s7.heap/\∀b∈fp,H7 b=none:=fun {Br H7 s7} I7=>by
    refine⟨T.keep _ _ _ QR λb hb o e=>(I7.pin (b,o)$ QaU _$ QaU _$ oh hb e).1,λb hb=>?_⟩
    obtain⟨o,e,d⟩:=T.obj _ _ QR b hb;exact(I7.pin (b,o)$ QaU _$ QaU _$ oh hb e).2.1
   have reset:∀{Br:St} {H7:Hp} {s7:QcR},Inv (bB X scope (own++kn) fp s H) ([]++rg fp s5.heap) Br H7 s7->Inv (bB X scope (own++kn) fp s H) [] (dj own kp σ) H7 s7:=fun {Br H7 s7} I7=>by
    have I8:=I7.r_;have hun:Un (qZ X.stack) fp H H7 s.heap s7.heap:=I8.base;have I9:Inv X pins σ H7 s7:=wx I hf I8;refine⟨I8.ok,I8.os,I8.bare,I8.base,?_,I8.cell,I8.free,I8.freeC,I8.pin,I8.hok,I1.len⟩;obtain⟨m,hm,_⟩:=I8.loc;refine⟨m,hm,λi x v h1 h2 h3=>?_⟩
    obtain⟨m1,hm1,Uq⟩:=I1.loc;obtain⟨u1,r1,l1⟩:=Uq i x v h1 h2 h3;have h1:(own++kn)[i]? =some x:=h1;have h2:(dj own kp σ)[i]? =some (some v):=h2;unfold dj at h2;by_cases hi:i<own.length
    .rw [Qat (by simpa using hi),QaS] at h2
     split at h2 <;> cases h2
    .rw [Qal (by simpa using hi),QaV,Qad] at h2
     rw[Qal$ by simpa using hi] at h1
     cases e:kp[i - own.length]? with
     | none=>rw [e] at h2;cases h2
     | some j=>
       rw[e] at h2;have h2:(σ[j]?).getD none=some v:=QaW h2;have hj:X.N[j]? =some x:=C.at_ _ j x e h1;have Mu:σ[j]? =some (some v):=by
        cases q:σ[j]? with
        | none=>rw [q] at h2;cases h2
        | some y=>rw [q] at h2;exact Qbs some h2
       have hfree:scope.names.lookup x=some .free:=C.isfree x$ Qan h1;have hkind:=C.free (x, .free) (Qbh hfree) rfl;obtain⟨m9,hm9,hl9⟩:=I9.loc;obtain⟨u,r,l⟩:=hl9 j x v hj Mu$ hkind.elim (λq=>Or.inr$ Or.inl q) λq=>Or.inr$ Or.inr q
       refine⟨u,r, .inr ?_⟩;rcases l1 with⟨k,k2⟩ | ⟨k,c,hc,hcell⟩
       .have k:(relabel scope X.env).names.lookup x=some .local:=k;rcases eO k with z | ⟨z,_⟩
        .rw [hfree] at z;cases z
        .cases z
       .refine⟨k,c,hc,?_⟩;rcases l with⟨k',_⟩ | ⟨_,c',GQ,QI⟩
        .rcases hkind with q | q
         .rw [show X.env.kindOf x=some .cell from q] at k';cases k'
         .rw [show X.env.kindOf x=some .free from q] at k';cases k'
        .have Rt:(qv X.env.cells scope.names []).lookup x=some c:=(zm _ _ _ λz=>by have:=C.cel _ z rfl;rw [hfree] at this;cases this).symm.trans hc
         rcases mH scope.names [] Rt with q | ⟨q1,q2⟩
         .simp at q
         .rw [GQ] at q2;have q2:c=c':=q2;rw[q2];exact QI
   have hmm:=hg ([]++rg fp s5.heap) s5 (dj own kp σ) H5 x u _ I5' r5$ step x H5 y5;refine Qaw$ cH hmm λ_ s6 ⟨Ux,H6,I6,q6⟩=>?_
   refine Qaw$ cH (hi _ s6 Ux H6 _ I6 q6) λok s7 ⟨H7,I7,q7⟩=>?_
   cases ok with
   | false=>
     simp only[Qbl,Qb0] at q7 ⊢;obtain⟨m',QF,w7⟩:=q7;obtain⟨a1,a2⟩:=keepIt I7;exact QaX ⟨rfl,m',QF,i+1,ys,H7,reset I7,a1,a2,w7⟩
   | true=>
     simp only[QbU] at q7 ⊢;refine Qaw$ Qaw$ cH (he _ s7 Ux H7 _ I7 q7) λyv s8 ⟨y,H8,I8,r8,hD,hlt,m',QF,w8⟩=>Qaw ?_
     obtain⟨a1,a2⟩:=keepIt I8;refine cH (m5 _ s8 Ux H8 (.ref D) [y] (.ref D) [yv] (λv H9=>v= .cM/\H9=upd H8 D (.lst$ ys++[y])) I8 rfl (.cons r8 .nil) ⟨D,ys,y,rfl,rfl,hD,hlt,rfl,rfl⟩) λ_ s9 ⟨v9,H9,I9,_,_,e9⟩=>?_
     subst e9;obtain⟨b1,b2⟩:=keepIt I9;exact QaX$ QaX ⟨rfl,m',QF,i+1,ys++[y],_,reset I9,b1,b2,w8⟩
 exact codeAny_compStart_list loop$ T.self _ _ _ _ _ st1 loop
def DR(hc:X.calm=true)(C:f6 X scope own kp kn)(hi:PI X tg iter wi)(hg:∀fp s H,PG (bB X scope (own++kn) fp s H) tg g)(Dq:∀fp s H,ur (bB X scope (own++kn) fp s H) ifs tc)
 (he:∀fp s H,PE (bB X scope (own++kn) fp s H) elt te) (hs:∀x,foldedSetIterable iter X.env x=pure x:=by intro _;rfl):PE X (.ListComp elt [⟨tg,iter,ifs,0⟩] scope pos) (D9 wi g tc te own kp):=by
 intro pins s σ H Q I h;rw[eval_ListComp];refine wpAny_comprehension_free (use:=none) rfl hs (oH$ q8 C I) C.kind C.nd$ cH (hi pins s σ H _ I h) λv s1 h1=>cH h1 λU6 s2 h2=>?_
 obtain⟨it,fp,tn,J,H2,e,I2,T,Qy,f2,q⟩:=h2;subst e;refine wpAny_newObj_type ?_;have I3:Inv X pins σ (upd H2 s2.heap.objs.size$ .lst []) {s2 with heap:=s2.heap.push {cls:= .type "list",dict:=none,data:= .seq ([]:List Value).toArray}}:=I2.Po (its:=[]) (t':=s2.toks) .nil$ Qa9 _
 obtain⟨W,w0,turn⟩:=q s2.heap.objs.size I2.fresh;have fne:∀b∈fp,b<s2.heap.objs.size:=λb hb=>let⟨o,e,_⟩:=T.obj _ _ Qy b hb;QaA e
 have f3:∀b∈fp,uH X pins (upd H2 s2.heap.objs.size$ .lst []) b:=λb hb=>⟨by rw[bb$ QaR$ fne b hb];exact(f2 b hb).1,(f2 b hb).2⟩
 generalize hs3:({s2 with heap:=s2.heap.push {cls:= .type "list",dict:=none,data:= .seq ([]:List Value).toArray}}:QcR)=s3 at I3 ⊢
 have Mt:tn 0 s3.heap:=by rw[<-hs3];exact T.keep _ _ _ Qy λb _ o e=>Qau _ e
 have fne3:∀b∈fp,b<s3.heap.objs.size:=λb hb=>by rw[<-hs3];exact Qas (fne b hb) (by rw[QbH];exact Nat.le_succ _)
 refine xN λoV Dj hk hC=>?_
 refine Av (D:=s2.heap.objs.size) hc C I3 f3 fne3 T (hg fp s3 _) (Dq fp s3 _) (he fp s3 _) Dj hk hC Mt W w0 turn λH' s' cu J' hq=>?_
 have B:=wx I3 f3 J';obtain⟨m',QF,_⟩:=J'.loc;refine⟨m',QF,λh' sb=>⟨.ref s2.heap.objs.size,H',?_,rfl,hq⟩⟩
 have fC:=I3.BV (H':=H') (b:=s3.heap.objs.size) (Qak _) J'.free;exact B.turned (it:=s3.heap.objs.size) (t':=s'.toks) (λb o hb e=>(sb.2 b hb).trans e) fC.1 fC.2.1 fC.2.2.2.1 fC.2.2.2.2.1 fC.2.2.2.2.2
def vn{i:Nat}{x:Str}{pos' oW:Pos}(hc:X.calm=true)(hN:X.N.Nodup)(hx:X.N[i]? =some x)(Dl:X.env.scope.names.lookup x=some .local)(C:f6 X scope own kp kn)(hi:PI X tg iter wi)
 (hg:∀fp s H,PG (bB X scope (own++kn) fp s H) tg g) (Dq:∀fp s H,ur (bB X scope (own++kn) fp s H) ifs tc)
 (he:∀fp s H,PE (bB X scope (own++kn) fp s H) elt te)
 (zN:swapsWith (.ListComp elt [⟨tg,iter,ifs,0⟩] scope pos) (some$ .Name x pos') oW.line X.env=pure true:=by rfl)
 (hs:∀x,foldedSetIterable iter X.env x=pure x:=by intro _;rfl) :
 PS X (.Assign [.Name x pos'] (.ListComp elt [⟨tg,iter,ifs,0⟩] scope pos) oW) (F1 (D9 wi g tc te own kp)$ wb i):=by
 intro pins s σ H D I h;rw[exec_Assign_Name_used _ _ _ _ zN];refine Qaw$ wpAny_standAt$ Qaw ?_;show wpAny _ X.A (do let _ <-comprehension (.ListComp elt [⟨tg,iter,ifs,0⟩] scope pos) scope X.env _ (newList []) false (eval iter X.env) (some$ assign (.Name x pos') X.env)) _ _ s
 refine Qaw (QbP (wpAny_comprehension_free (use:=some$ assign (.Name x pos') X.env) (Q:=λ_ s'=>SP X pins D .next s') rfl hs (oH$ q8 C I) C.kind C.nd
  (cH (hi pins s σ H _ I h) λv s1 h1=>cH h1 λU6 s2 h2=>?_)) (λ_ s' hq=>QaX$ QaX hq) λ_ _ e=>e)
 obtain⟨it,fp,tn,J,H2,e,I2,T,Qy,f2,q⟩:=h2;subst e;refine wpAny_newObj_type ?_;have I3:Inv X pins σ (upd H2 s2.heap.objs.size$ .lst []) {s2 with heap:=s2.heap.push {cls:= .type "list",dict:=none,data:= .seq ([]:List Value).toArray}}:=I2.Po (its:=[]) (t':=s2.toks) .nil$ Qa9 _
 obtain⟨W,w0,turn⟩:=q s2.heap.objs.size I2.fresh;have fne:∀b∈fp,b<s2.heap.objs.size:=λb hb=>let⟨o,e,_⟩:=T.obj _ _ Qy b hb;QaA e
 have f3:∀b∈fp,uH X pins (upd H2 s2.heap.objs.size$ .lst []) b:=λb hb=>⟨by rw[bb$ QaR$ fne b hb];exact(f2 b hb).1,(f2 b hb).2⟩
 generalize hs3:({s2 with heap:=s2.heap.push {cls:= .type "list",dict:=none,data:= .seq ([]:List Value).toArray}}:QcR)=s3 at I3 ⊢
 have Mt:tn 0 s3.heap:=by rw[<-hs3];exact T.keep _ _ _ Qy λb _ o e=>Qau _ e
 have fne3:∀b∈fp,b<s3.heap.objs.size:=λb hb=>by rw[<-hs3];exact Qas (fne b hb) (by rw[QbH];exact Nat.le_succ _)
 refine xN λoV Dj hk hC=>?_
 refine Av (Q:=λx H1=>wb i x σ H1 D.nx) (D:=s2.heap.objs.size) hc C I3 f3 fne3 T (hg fp s3 _) (Dq fp s3 _) (he fp s3 _) Dj hk hC Mt W w0 turn λH' s' cu J' hq=>?_
 have B:=wx I3 f3 J';obtain⟨m',QF,_⟩:=J'.loc;have fC:=I3.BV (H':=H') (b:=s3.heap.objs.size) (Qak _) J'.free;show wpAny _ X.A (assign (.Name x pos') X.env$ .ref s2.heap.objs.size) _ _ s';refine wpAny_assign_Name$ yf B hN hx (.inl Dl) (v:= .ref s2.heap.objs.size) rfl (λs4 I4 ⟨a,sb,ha⟩=>?_)$ .inr Dl
 have ha':s3.heap.objs.size≠a:=by
  rcases ha with rfl | z
  .exact fC.2.1
  .exact λe=>fC.2.2.2.2.1 x a z e.symm
 refine⟨m',QF.sameBut sb ha',λh' sb'=>⟨_,H',?_,hq⟩⟩
 exact I4.turned (it:=s3.heap.objs.size) (t':=s4.toks) (λb o hb e=>(sb'.2 b hb).trans e) fC.1 fC.2.1 fC.2.2.2.1 fC.2.2.2.2.1 fC.2.2.2.2.2
end
inductive D where
 | cM | bl (b:Bool) | int (i:Int) | str (x:Str) | lst (ds:List D) | tup (ds:List D) | dct (ks:List Key) (ds:List D)
inductive R (α:Type) where
 | ok (a:α) | ex (c:Nat) | no
def R.bind{α β:Type}:R α->(α->R β)->R β
 | .ok a,f=>f a
 | .ex c,_=> .ex c
 | .no,_=> .no
def R.aj{α β:Type}{r:R α}{f:α->R β}{b:β}(h:r.bind f= .ok b):∃a,r= .ok a/\f a= .ok b:=by
 cases r with
 | ok a=>exact⟨a,rfl,h⟩
 | ex c=>cases h
 | no=>cases h
@[simp] theorem R.aK{α β:Type}(a:α)(f:α->R β):(R.ok a).bind f=f a:=rfl
def R.aX{α:Type}(c:Bool)(r:R α):R α:=if c then r else .no
def R.aL{α:Type}{c:Bool}{r:R α}{a:α}(h:R.aX c r= .ok a):c=true/\r= .ok a:=by
 cases c with
 | true=>exact⟨rfl,h⟩
 | false=>cases h
@[simp] theorem R.Rf{α:Type}(r:R α):R.aX true r=r:=rfl
def yG(K:QcQ)(B:List Addr)(H:Hp)(a:Addr)(xs:List V):Prop:=
 (a ∉ B/\Rd H a (.lst xs))\/∃(its:List Value) (n:Nat),K.lookup a=some {cls:= .type "list",data:= .seq its.toArray n}/\xs.length<=sizeLine/\Vals xs its
def De(K:QcQ)(B:List Addr)(H:Hp)(a:Addr)(xs:List V):Prop:=
 (a ∉ B/\Rd H a (.tup xs))\/∃(o:Obj) (its:Array Value) (n:Nat),K.lookup a=some o/\o.cls= .type "tuple"/\o.data= .seq its n/\its.size<=sizeLine/\Vals xs its.toList
def yG.sq{K:QcQ}{B:List Addr}{a:Addr}{xs:List V}(h:yG K B H a xs):oZ K H a xs:=by
 rcases h with z | ⟨its,n,hk,hz,r⟩
 .exact .inl z.2
 .exact .inr ⟨_,its.toArray,n,hk,rfl,rfl,rfl,by rw[QaD,<-r.length];exact hz,by simpa using r⟩
def De.sq{K:QcQ}{B:List Addr}{a:Addr}{xs:List V}(h:De K B H a xs):sR K H a xs:=h.elim (λz=> .inl z.2) .inr
mutual
def Rep(K:QcQ)(B:List Addr)(H:Hp):D->V->Prop
 | .cM,v=>v= .cM
 | .bl b,v=>v= .bl b
 | .int i,v=>v= .int i
 | .str x,v=>v= .str x
 | .lst ds,v=>∃a xs,v= .ref a/\yG K B H a xs/\aA K B H ds xs
 | .tup ds,v=>∃a xs,v= .ref a/\De K B H a xs/\aA K B H ds xs
 | .dct ks ds,v=>∃(a:Addr) (aD:List (Key × V)),v= .ref a/\(a ∉ B/\H a=some (.dK aD))/\aD.map (·.1)=ks/\aA K B H ds (aD.map (·.2))
def aA(K:QcQ)(B:List Addr)(H:Hp):List D->List V->Prop
 | [],xs=>xs=[]
 | d ::ds,xs=>∃x r,xs=x ::r/\Rep K B H d x/\aA K B H ds r
end
def dP(B:List Addr)(H:Hp)(B':List Addr)(H':Hp):Prop:=∀b o,H b=some o->b ∉ B->H' b=some o/\b ∉ B'
def dP.rd{B B':List Addr}(p:dP B H B' H'){a:Addr}{u:HO}(h:Rd H a u)(n:a ∉ B):Rd H' a u/\a ∉ B':=by
 rcases h with e | ⟨o,e⟩
 .exact⟨.inl (p a _ e n).1,(p a _ e n).2⟩
 .exact⟨.inr ⟨o,(p a _ e n).1⟩,(p a _ e n).2⟩
def dP.trans{B B' UB:List Addr}(p:dP B H B' H')(q:dP B' H' UB qP):dP B H UB qP:=λb o e n=>
 let⟨e1,n1⟩:=p b o e n;q b o e1 n1
def dP.same{B:List Addr}(s:aR H H'):dP B H B H':=λb o e n=>⟨s b o e,n⟩
def dP.refl(B:List Addr)(H:Hp):dP B H B H:=dP.same$ aR.refl H
def yG.br{K:QcQ}{B B':List Addr}(p:dP B H B' H'){a:Addr}{xs:List V}(l:yG K B H a xs):yG K B' H' a xs:=
 l.elim (λz=> .inl ⟨(p.rd z.2 z.1).2,(p.rd z.2 z.1).1⟩) .inr
mutual
theorem Rep.br{K:QcQ}{B B':List Addr}(p:dP B H B' H'):∀{d:D} {v:V},Rep K B H d v->Rep K B' H' d v
 | .cM,_,h=>h
 | .bl _,_,h=>h
 | .int _,_,h=>h
 | .str _,_,h=>h
 | .lst ds,v,h=>by
   unfold Rep at h ⊢;obtain⟨a,xs,e,l,r⟩:=h;exact⟨a,xs,e,l.br p,aA.br p r⟩
 | .tup ds,v,h=>by
   unfold Rep at h ⊢;obtain⟨a,xs,e,l,r⟩:=h;exact⟨a,xs,e,l.elim (λz=> .inl ⟨(p.rd z.2 z.1).2,(p.rd z.2 z.1).1⟩) .inr,aA.br p r⟩
 | .dct ks ds,v,h=>by
   unfold Rep at h ⊢;obtain⟨a,aD,e,⟨n,l⟩,k,r⟩:=h;exact⟨a,aD,e,⟨(p a _ l n).2,(p a _ l n).1⟩,k,aA.br p r⟩
theorem aA.br{K:QcQ}{B B':List Addr}(p:dP B H B' H'):∀{ds:List D} {xs:List V},aA K B H ds xs->aA K B' H' ds xs
 | [],_,h=>h
 | d ::ds,xs,h=>by
   unfold aA at h ⊢;obtain⟨x,r,e,h1,h2⟩:=h;exact⟨x,r,e,Rep.br p h1,aA.br p h2⟩
end
def Rep.same{K:QcQ}{B:List Addr}{d:D}{v:V}(h:Rep K B H d v)(s:aR H H'):Rep K B H' d v:=h.br$ dP.same s
def aA.same{K:QcQ}{B:List Addr}{d:List D}{v:List V}(h:aA K B H d v)(s:aR H H'):aA K B H' d v:=h.br$ dP.same s
def aA.nil{K:QcQ}{B:List Addr}:aA K B H [] []:=by unfold aA;rfl
def aA.cons{K:QcQ}{B:List Addr}{d:D}{ds:List D}{x:V}{xs:List V}(h:Rep K B H d x)(t:aA K B H ds xs):aA K B H (d ::ds) (x ::xs):=by
 unfold aA;exact⟨x,xs,rfl,h,t⟩
def aA.b7{K:QcQ}{B:List Addr}{d:D}{ds:List D}{xs:List V}(h:aA K B H (d ::ds) xs):∃x r,xs=x ::r/\Rep K B H d x/\aA K B H ds r:=by
 unfold aA at h;exact h
theorem aA.length{K:QcQ}{B:List Addr}:∀{ds:List D} {xs:List V},aA K B H ds xs->ds.length=xs.length
 | [],_,h=>by unfold aA at h;rw [h];rfl
 | d ::ds,xs,h=>by
   obtain⟨x,r,rfl,_,h2⟩:=h.b7;simp [h2.length]
theorem aA.get{K:QcQ}{B:List Addr}:∀{ds:List D} {xs:List V} {i:Nat} {d:D},aA K B H ds xs->ds[i]? =some d->∃x,xs[i]? =some x/\Rep K B H d x
 | [],_,_,_,_,e=>by simp at e
 | d ::ds,xs,0,d',h,e=>by
   obtain⟨x,r,rfl,h1,h2⟩:=h.b7;simp at e;subst e;exact⟨x,rfl,h1⟩
 | d ::ds,xs,i+1,d',h,e=>by
   obtain⟨x,r,rfl,h1,h2⟩:=h.b7;obtain⟨y,e1,e2⟩:=aA.get (i:=i) h2 (by simpa using e)
   exact⟨y,by simpa using e1,e2⟩
theorem aA.append{K:QcQ}{B:List Addr}:∀{ds es:List D} {xs ys:List V},aA K B H ds xs->aA K B H es ys->aA K B H (ds++es) (xs++ys)
 | [],_,_,_,h,t=>by unfold aA at h;subst h;exact t
 | d ::ds,es,xs,ys,h,t=>by
   obtain⟨x,r,rfl,h1,h2⟩:=h.b7;exact aA.cons h1$ aA.append h2 t
theorem aA.drop{K:QcQ}{B:List Addr}:∀{ds:List D} {xs:List V} (n:Nat),aA K B H ds xs->aA K B H (ds.drop n) (xs.drop n)
 | _,_,0,h=>h
 | [],_,n+1,h=>by unfold aA at h;subst h;exact aA.nil
 | d ::ds,xs,n+1,h=>by
   obtain⟨x,r,rfl,h1,h2⟩:=h.b7;exact aA.drop n h2
theorem aA.take{K:QcQ}{B:List Addr}:∀{ds:List D} {xs:List V} (n:Nat),aA K B H ds xs->aA K B H (ds.take n) (xs.take n)
 | _,_,0,h=>aA.nil
 | [],_,n+1,h=>by unfold aA at h;subst h;exact aA.nil
 | d ::ds,xs,n+1,h=>by
   obtain⟨x,r,rfl,h1,h2⟩:=h.b7;exact aA.cons h1$ aA.take n h2
def D.atom:D->Bool
 | .cM=>true | .bl _=>true | .int _=>true | .str _=>true | _=>false
def Rep.atom{K:QcQ}{B B':List Addr}{d:D}{v:V}(a:d.atom=true)(h:Rep K B H d v):Rep K B' H' d v:=by
 cases d <;> first | exact h | cases a
inductive Sl where
 | un | val (d:D) | bld (ds:List D)
abbrev au:=List Sl
structure dn (K:QcQ) (Z B:List Addr) (H:Hp) (σ:St) (δ:au):Prop where
 len:δ.length=σ.length
 bs:∀a∈B,∃o,H a=some o
 zb:∀a∈Z,a∈B
 val:∀(i:Nat) (d:D),δ[i]? =some (.val d)->∃v,σ[i]? =some (some v)/\Rep K B H d v
 bld:∀(i:Nat) (ds:List D),δ[i]? =some (.bld ds)->∃a xs,σ[i]? =some (some (.ref a))/\a∈B/\a ∉ Z/\H a=some (.lst xs)/\aA K B H ds xs
 dis:∀(i j:Nat) (a:Addr) (ds es:List D),δ[i]? =some (.bld ds)->δ[j]? =some (.bld es)->σ[i]? =some (some (.ref a))->σ[j]? =some (some (.ref a))->i=j
def dn.same{K:QcQ}{Z B:List Addr}{δ:au}(E:dn K Z B H σ δ)(s:aR H H'):dn K Z B H' σ δ where
 len:=E.len
 bs:=λa ha=>let⟨o,e⟩:=E.bs a ha;⟨o,s a o e⟩
 zb:=E.zb
 val:=λi d e=>let⟨v,h1,h2⟩:=E.val i d e;⟨v,h1,h2.same s⟩
 bld:=λi ds e=>let⟨a,xs,h1,h2,h3,h4,h5⟩:=E.bld i ds e;⟨a,xs,h1,h2,h3,s a _ h4,h5.same s⟩
 dis:=E.dis
def qy(δ:au):au:=δ.map λx=>match x with | .bld ds=> .val (.lst ds) | y=>y
def dn.qy{K:QcQ}{Z B:List Addr}{δ:au}(E:dn K Z B H σ δ):dn K [] [] H σ (qy δ) where
 len:=by unfold L2.qy;rw [Qaa];exact E.len
 bs:=λa ha=>by cases ha
 zb:=λa ha=>by cases ha
 val:=λi d e=>by
  unfold L2.qy at e;rw[Qad] at e;have p:dP B H [] H:=λb o e _=>⟨e,by simp⟩
  cases q:δ[i]? with
  | none=>rw [q] at e;cases e
  | some x=>
    rw[q] at e;cases x with
    | un=>cases e
    | val d'=>cases e;obtain⟨v,h1,h2⟩:=E.val i d q;exact⟨v,h1,h2.br p⟩
    | bld ds=>
      cases e;obtain⟨a,xs,h1,_,_,h4,h5⟩:=E.bld i ds q;refine⟨.ref a,h1,?_⟩;unfold Rep;exact⟨a,xs,rfl, .inl ⟨by simp, .inl h4⟩,h5.br p⟩
 bld:=λi ds e=>by
  unfold L2.qy at e;rw[Qad] at e;cases q:δ[i]? with
  | none=>rw [q] at e;cases e
  | some x=>rw [q] at e;cases x <;> cases e
 dis:=λi j a ds es e=>by
  unfold L2.qy at e;rw[Qad] at e;cases q:δ[i]? with
  | none=>rw [q] at e;cases e
  | some x=>rw [q] at e;cases x <;> cases e
def PE.imp{X:Cx}{t t':TE}(h:PE X e t)(w:∀σ H Q,t' σ H Q->t σ H Q):PE X e t':=λpins s σ H Q I hq=>h pins s σ H Q I$ w σ H Q hq
def PT.imp{X:Cx}{t t':TT}(h:PT X e t)(w:∀σ H Q,t' σ H Q->t σ H Q):PT X e t':=λpins s σ H Q I hq=>h pins s σ H Q I$ w σ H Q hq
def PA.imp{X:Cx}{t t':TA}(h:PA X e t)(w:∀σ H Q,t' σ H Q->t σ H Q):PA X e t':=λpos pins s σ H Q I hq=>h pos pins s σ H Q I$ w σ H Q hq
def PS.imp{X:Cx}{t t':TS}(h:PS X e t)(w:∀D σ H,t' D σ H->t D σ H):PS X e t':=λpins s σ H D I hq=>h pins s σ H D I$ w D σ H hq
def yI.imp{X:Cx}{t t':TS}(h:yI X e t)(w:∀D σ H,t' D σ H->t D σ H):yI X e t':=λpins s σ H D I hq=>h pins s σ H D I$ w D σ H hq
def PG.imp{X:Cx}{t t':TG}(h:PG X e t)(w:∀v σ H Q,t' v σ H Q->t v σ H Q):PG X e t':=λpins s σ H v u Q I r hq=>h pins s σ H v u Q I r$ w v σ H Q hq
def PI.imp{X:Cx}{t t':TI}(h:PI X tg e t)(w:∀σ H Q,t' σ H Q->t σ H Q):PI X tg e t':=λpins s σ H Q I hq=>h pins s σ H Q I$ w σ H Q hq
abbrev FD:=au->R D
def tD(K:QcQ)(f:FD):TE:=λσ H Q=>∃Z B δ d,dn K Z B H σ δ/\f δ= .ok d/\∀v H',aR H H'->Rep K B H' d v->Q v H'
def tN(K:QcQ)(f:au->R (List D)):TE:=λσ H Q=>∃Z B δ ds,dn K Z B H σ δ/\f δ= .ok ds/\∀a xs H',aR H H'->H a=none->H' a=some (.lst xs)->aA K (a ::B) H' ds xs->Q (.ref a) H'
def MH(K:QcQ)(f:au->R Bool):TT:=λσ H Q=>∃Z B δ b,dn K Z B H σ δ/\f δ= .ok b/\∀H',aR H H'->Q b H'
def ZJ(K:QcQ)(f:au->R (List D)):TA:=λσ H Q=>∃Z B δ ds,dn K Z B H σ δ/\f δ= .ok ds/\∀vs H',aR H H'->aA K B H' ds vs->Q vs H'
abbrev PD(X:Cx)(e:Expr)(f:FD):Prop:=PE X e$ tD X.K f
abbrev PN(X:Cx)(e:Expr)(f:au->R (List D)):Prop:=PE X e$ tN X.K f
abbrev PB(X:Cx)(e:Expr)(f:au->R Bool):Prop:=PT X e$ MH X.K f
abbrev GG(X:Cx)(es:List Expr)(f:au->R (List D)):Prop:=PA X es$ ZJ X.K f
section
variable {X:Cx}
def eNew(f:au->R (List D)):FD:=λδ=>(f δ).bind λds=> .ok$ .lst ds
def OK{f:au->R (List D)}(h:PN X e f):PD X e (eNew f):=h.imp λσ H Q ⟨Z,B,δ,d,E,hf,q⟩=>by
 obtain⟨ds,h1,h2⟩:=R.aj hf;cases h2;refine⟨Z,B,δ,ds,E,h1,λa xs H' s n e r=>q _ H' s ?_⟩
 unfold Rep;refine⟨a,xs,rfl, .inl ⟨λha=>?_, .inl e⟩,r.br λb o e nb=>⟨e,λhb=>nb$ Qab _ hb⟩⟩
 obtain⟨o,ho⟩:=E.bs a ha;rw[n] at ho;cases ho
def Be{B:List Addr}{H:Hp}{p:Addr}{o:HO}(h:H p=none):dP B H (p ::B) (upd H p o):=λb u e nb=>
 ⟨by rw[bb$ bC e h];exact e,λhb=>by
   rcases QaF.mp hb with z | z
   .exact bC e h z
   .exact nb z⟩
def pq(f:FD):FD:=λδ=>(f$ qy δ).bind λd=>R.aX d.atom$ .ok d
def Kz(h:PD X e f):PD X e (pq f):=h.imp λσ H Q ⟨Z,B,δ,d,E,hf,q⟩=>by
 obtain⟨d',h1,h2⟩:=R.aj hf;obtain⟨ha,h3⟩:=R.aL h2;cases h3;exact⟨[],[],L2.qy δ,d,E.qy,h1,λv H' s r=>q v H' s$ r.atom ha⟩
def qL(f:au->R Bool):au->R Bool:=λδ=>f$ qy δ
def K6{f:au->R Bool}(h:PB X e f):PB X e (qL f):=h.imp λσ H Q ⟨Z,B,δ,d,E,hf,q⟩=>⟨[],[],L2.qy δ,d,E.qy,hf,q⟩
def ai(i:Nat):FD:=λδ=>match δ[i]? with | some (.val d)=> .ok d | _=> .no
def eC(d:D):FD:=λ_=> .ok d
def Pl(i:Nat){x:Str}{pos:Pos}(hN:X.N[i]? =some x:=by rfl)(hv:HM X.env.scope x:=by first | exact Or.inl rfl | exact Or.inr QcN | exact Or.inr (Or.inr rfl))(hd:(x==("__debug__":Str))=false:=by decide)
 (rJ:(x==("__classdict__":Str))=false:=by decide):PD X (.Name x pos) (ai i):=(yN hN hv hd rJ).imp λσ H Q ⟨Z,B,δ,d,E,hf,q⟩=>by
 unfold ai at hf;split at hf
 .rename_i d' e;cases hf;obtain⟨v,h1,h2⟩:=E.val i d e;exact⟨v,h1,q v H (aR.refl H) h2⟩
 .cases hf
def sO{v:V}{d:D}(h:PE X e (tC v))(r:∀B H,Rep X.K B H d v):PD X e (eC d):=h.imp λσ H Q ⟨Z,B,δ,d',E,hf,q⟩=>by
 cases hf;exact q v H (aR.refl H)$ r B H
def Ov{i j pos}:PD X (.Constant (.int i) j pos) (eC$ .int i):=sO vG λ_ _=>by unfold Rep;rfl
def Sv{b j pos}:PD X (.Constant (.bool b) j pos) (eC$ .bl b):=sO S_ λ_ _=>by unfold Rep;rfl
def NR{x j pos}:PD X (.Constant (.str x) j pos) (eC$ .str x):=sO v7 λ_ _=>by unfold Rep;rfl
def Glob(K:QcQ)(mg:Aaf)(x:Str)(d:D):Prop:=∃(u:Value) (v:V),mg x=some u/\RelV v u/\∀B H,Rep K B H d v
def KO{d:D}{pos:Pos}(g:Glob X.K X.mg x d)(hg:Gl X x)(hd:(x==("__debug__":Str))=false:=by decide):PD X (.Name x pos) (eC d):=by
 obtain⟨u,v,hm,r,h⟩:=g;exact sO (dS hg hm r hd) h
def aI:au->R (List D):=λ_=> .ok []
def ag(f:FD)(g:au->R (List D)):au->R (List D):=λδ=>(f δ).bind λd=>(g δ).bind λds=> .ok (d ::ds)
def Kl:GG X [] aI:=lA.imp λσ H Q ⟨Z,B,δ,d,E,hf,q⟩=>by
 cases hf;exact q [] H (aR.refl H) aA.nil
def HE{g:au->R (List D)}(h:PD X e f)(t:GG X es g)(hs:starEach (e ::es) X.env=(false,eval e X.env) ::starEach es X.env:=by rfl):GG X (e ::es) (ag f g):=
 (fS h t hs).imp λσ H Q ⟨Z,B,δ,d,E,hf,q⟩=>by
   obtain⟨d1,h1,h2⟩:=R.aj hf;obtain⟨ds,h3,h4⟩:=R.aj h2;cases h4;exact⟨Z,B,δ,d1,E,h1,λv H1 s1 r1=>⟨Z,B,δ,ds,E.same s1,h3,λvs H2 s2 r2=>q _ H2 (s1.trans s2)$ aA.cons (r1.same s2) r2⟩⟩
def xq(g:au->R (List D)):FD:=λδ=>(g δ).bind λds=>R.aX (decide$ ds.length<=sizeLine)$ .ok$ .tup ds
def ck(g:au->R (List D)):au->R (List D):=λδ=>(g δ).bind λds=>R.aX (decide$ ds.length<=sizeLine)$ .ok ds
def bA{H:Hp}{p:Addr}{o:HO}(h:H p=none):aR H (upd H p o):=λb u e=>by rw[bb$ bC e h];exact e
def Qs{g:au->R (List D)}{x1 pos}(h:GG X es g):PD X (.Tuple es x1 pos) (xq g):=(Cc h).imp λσ H Q ⟨Z,B,δ,d,E,hf,q⟩=>by
 obtain⟨ds,h1,h2⟩:=R.aj hf;obtain⟨hl,h3⟩:=R.aL h2;cases h3;refine⟨Z,B,δ,ds,E,h1,λvs H1 s1 r1=>⟨by rw[<-r1.length];exact Qae hl,λp hp=>q _ _ (s1.trans$ bA hp) ?_⟩⟩
 unfold Rep;refine⟨p,vs,rfl, .inl ⟨λha=>?_, .inl aZ⟩,r1.same$ bA hp⟩
 obtain⟨o,ho⟩:=(E.same s1).bs p ha;rw[hp] at ho;cases ho
def OH{g:au->R (List D)}{pos}(h:GG X es g):PN X (.List es pos) (ck g):=(HS h).imp λσ H Q ⟨Z,B,δ,d,E,hf,q⟩=>by
 obtain⟨ds,h1,h2⟩:=R.aj hf;obtain⟨hl,h3⟩:=R.aL h2;cases h3;exact⟨Z,B,δ,_,E,h1,λvs H1 s1 r1=>⟨by rw[<-r1.length];exact Qae hl,λp hp=>q p vs _ (s1.trans$ bA hp) (s1.free hp) aZ$ r1.br$ Be hp⟩⟩
def oY(X:Cx)(f:Value->Value->Sem Value)(g:D->D->R D):Prop:=
 ∀(pins:Aaa) (s:QcR) (σ:St) (H:Hp) (B:List Addr) (da db d:D) (x y:V) (v u:Value),Inv X pins σ H s->(∀a∈B,∃o,H a=some o)->RelV x v->RelV y u->Rep X.K B H da x->Rep X.K B H db y->g da db= .ok d->
  wpAny (model X.prog X.w) X.A (f v u) (EP X pins σ λz H'=>aR H H'/\Rep X.K B H' d z) X.xe s
def e2(g:D->D->R D)(fa fb:FD):FD:=λδ=>(fa δ).bind λa=>(fb δ).bind λb=>g a b
def oY.r{f:Value->Value->Sem Value}{g:D->D->R D}(h:oY X f g):qq X f (λx y H Q=>∃B da db d,(∀a∈B,∃o,H a=some o)/\Rep X.K B H da x/\Rep X.K B H db y/\g da db= .ok d/\∀z H',aR H H'->Rep X.K B H' d z->Q z H'):=by
 intro pins s σ H x y v u Q I rx ry ⟨B,da,db,d,hb,ha,uo,hg,q⟩;exact cH (h pins s σ H B da db d x y v u I hb rx ry ha uo hg) λz s' ⟨zv,H',I',r',s1,r1⟩=>⟨zv,H',I',r',q zv H' s1 r1⟩
def Pp{K:QcQ}{g:D->D->R D}{Q:VK}(h:tD K (e2 g fa fb) σ H Q) :
 Rj (λx y H Q=>∃B da db d,(∀a∈B,∃o,H a=some o)/\Rep K B H da x/\Rep K B H db y/\g da db= .ok d/\∀z H',aR H H'->Rep K B H' d z->Q z H') (tD K fa) (tD K fb) σ H Q:=by
 obtain⟨Z,B,δ,d,E,hf,q⟩:=h;obtain⟨d1,h1,h2⟩:=R.aj hf;obtain⟨d2,h3,h4⟩:=R.aj h2;exact⟨Z,B,δ,d1,E,h1,λv1 H1 s1 r1=>⟨Z,B,δ,d2,E.same s1,h3,λv2 H2 s2 r2=>⟨B,d1,d2,d,(E.same$ s1.trans s2).bs,r1.same s2,r2,h4,λz H' s3 r3=>q z H' (s1.trans$ s2.trans s3) r3⟩⟩⟩
def SY{op:Operator}{g:D->D->R D}(ho:oY X (binaryOp op) g)(ha:PD X a fa)(hb:PD X b fb):PD X (.BinOp a op b pos) (e2 g fa fb):=
 (IW ho.r ha hb).imp λσ H Q h=>Pp h
def Qp{op:CmpOp}{g:D->D->R D}(ho:oY X (compareOp op) g)(ha:PD X a fa)(hb:PD X b fb)(hm:behindInMarks op b=false):PD X (.Compare a [op] [b] pos) (e2 g fa fb):=
 (EI ho.r ha hb hm).imp λσ H Q h=>Pp h
def b2(g:D->D->R D)(fa fb:FD):au->R Bool:=λδ=>(e2 g fa fb δ).bind λd=>match d with | .bl b=> .ok b | _=> .no
def Oj{op:CmpOp}{g:D->D->R D}(ho:oY X (compareOp op) g)(ha:PD X a fa)(hb:PD X b fb)(hm:behindInMarks op b=false):PB X (.Compare a [op] [b] pos) (b2 g fa fb):=
 (DF ho.r ha hb hm).imp λσ H Q ⟨Z,B,δ,b,E,hf,q⟩=>by
   obtain⟨d,h1,h2⟩:=R.aj hf;cases d with
   | bl k=>
     cases h2;exact Pp (g:=g) (Q:=λx H'=>∃k,x= .bl k/\Q k H') ⟨Z,B,δ, .bl b,E,h1,λv H' s r=>⟨b,by unfold Rep at r;exact r,q H' s⟩⟩
   | _=>cases h2
def U9(g g':D->D->R D)(fa fb fc:FD):FD:=λδ=>(fa δ).bind λa=>(fb δ).bind λb=>(g a b).bind λr=>match r with
 | .bl true=>(fc δ).bind λc=>g' b c
 | .bl false=> .ok$ .bl false
 | _=> .no
def Py:D->R Bool
 | .cM=> .ok false
 | .bl b=> .ok b
 | .int i=> .ok$ i !=0
 | .str x=>R.aX (decide$ x.length<=sizeLine)$ .ok$ (x.length:Int) !=0
 | .lst ds=> .ok$ !ds.isEmpty
 | .tup ds=> .ok$ !ds.isEmpty
 | .dct _ _=> .no
def yW(f:FD):au->R Bool:=λδ=>(f δ).bind Py
def aA.isEmpty{K:QcQ}{B:List Addr}{ds:List D}{xs:List V}(h:aA K B H ds xs):ds.isEmpty=xs.isEmpty:=by
 have:=h.length;cases ds <;> cases xs <;> simp_all
def NS{K:QcQ}{B:List Addr}{d:D}{v:V}{b:Bool}(r:Rep K B H d v)(h:Py d= .ok b):NB K v H b:=by
 cases d with
 | cM=>unfold Rep at r;subst r;cases h;exact rfl
 | bl k=>unfold Rep at r;subst r;cases h;exact rfl
 | int i=>unfold Rep at r;subst r;cases h;exact rfl
 | str x=>unfold Rep at r;subst r;obtain⟨h1,h2⟩:=R.aL h;cases h2;exact⟨Qae h1,rfl⟩
 | lst ds=>unfold Rep at r;obtain⟨a,xs,rfl,l,r⟩:=r;cases h;exact .inl ⟨xs,l.sq,by rw[r.isEmpty]⟩
 | tup ds=>unfold Rep at r;obtain⟨a,xs,rfl,l,r⟩:=r;cases h;exact .inr (.inl ⟨xs,l.sq,by rw[r.isEmpty]⟩)
 | dct _ _=>cases h
def Oq{a:Expr}(ha:PD X a f)(he:∀whole,isTrue a X.env whole=(do let v <-whole;standAt a.pos;holding [v] (truthy v)):=by intro _;rfl):PB X a (yW f):=
 (AM ha he).imp λσ H Q ⟨Z,B,δ,b,E,hf,q⟩=>by
   obtain⟨d,h1,h2⟩:=R.aj hf;exact⟨Z,B,δ,d,E,h1,λv H' s r=>⟨b,NS r h2,q H' s⟩⟩
def v8(f g:au->R Bool):au->R Bool:=λδ=>(f δ).bind λb=>if b then g δ else .ok false
def CW(f g:au->R Bool):au->R Bool:=λδ=>(f δ).bind λb=>if b then .ok true else g δ
def Gg(f:au->R Bool):au->R Bool:=λδ=>(f δ).bind λb=> .ok$ !b
def JZ(X:Cx)(e:Expr)(f:au->R Bool):Prop:=PW X e$ MH X.K f
def JZ.pb{f:au->R Bool}(h:JZ X e f):PB X e f:=PW.pt h
def IL{f:au->R Bool}(h:PB X a f):JZ X (.BoolOp .And [a] pos) f:=LQ h
def La{f:au->R Bool}(h:PB X a f):JZ X (.BoolOp .Or [a] pos) f:=G7 h
def Ln{rest:List Expr}{f g:au->R Bool}(ha:PB X a f)(hb:JZ X (.BoolOp .And (b ::rest) pos) g):JZ X (.BoolOp .And (a ::b ::rest) pos) (v8 f g):=by
 intro wh pins s σ H Q I ⟨Z,B,δ,k,E,hf,q⟩;refine Qk ha hb wh pins s σ H Q I ?_;obtain⟨c,h1,h2⟩:=R.aj hf;refine⟨Z,B,δ,c,E,h1,λH1 s1=>?_⟩
 cases c with
 | true=>rw [Qap rfl] at h2 ⊢;exact⟨Z,B,δ,k,E.same s1,h2,λH' s2=>q H'$ s1.trans s2⟩
 | false=>rw [Qaj$ by decide] at h2 ⊢;cases h2;exact q H1 s1
def NN{rest:List Expr}{f g:au->R Bool}(ha:PB X a f)(hb:JZ X (.BoolOp .Or (b ::rest) pos) g):JZ X (.BoolOp .Or (a ::b ::rest) pos) (CW f g):=by
 intro wh pins s σ H Q I ⟨Z,B,δ,k,E,hf,q⟩;refine MV ha hb wh pins s σ H Q I ?_;obtain⟨c,h1,h2⟩:=R.aj hf;refine⟨Z,B,δ,c,E,h1,λH1 s1=>?_⟩
 cases c with
 | true=>rw [Qap rfl] at h2 ⊢;cases h2;exact q H1 s1
 | false=>rw [Qaj$ by decide] at h2 ⊢;exact⟨Z,B,δ,k,E.same s1,h2,λH' s2=>q H'$ s1.trans s2⟩
def OL{f:au->R Bool}(ha:PB X a f):PB X (.UnaryOp .Not a pos) (Gg f):=(Hz ha).imp λσ H Q ⟨Z,B,δ,k,E,hf,q⟩=>by
 obtain⟨c,h1,h2⟩:=R.aj hf;cases h2;exact⟨Z,B,δ,c,E,h1,λH1 s1=>q H1 s1⟩
def QZ(f:FD):au->R Bool:=λδ=>(f δ).bind λd=>match d with | .bl b=> .ok b | _=> .no
def wV(f g:FD):FD:=λδ=>(QZ f δ).bind λb=>if b then g δ else .ok (.bl false)
def Sw(f g:FD):FD:=λδ=>(QZ f δ).bind λb=>if b then .ok (.bl true) else g δ
def abb(f:FD):FD:=λδ=>(QZ f δ).bind λb=> .ok$ .bl$ !b
def IH{f:FD}{δ:au}{b:Bool}(h:QZ f δ= .ok b):f δ= .ok (.bl b):=by
 obtain⟨d,h1,h2⟩:=R.aj h;cases d with
 | bl k=>cases h2;exact h1
 | _=>cases h2
def N1{op}(h:PD X a f):PD X (.BoolOp op [a] pos) f:=OQ h
def O5{rest:List Expr}(ha:PD X a f)(hb:PD X (.BoolOp .And (b ::rest) pos) g):PD X (.BoolOp .And (a ::b ::rest) pos) (wV f g):=(Oy ha hb).imp λσ H Q ⟨Z,B,δ,k,E,hf,q⟩=>by
 obtain⟨c,h1,h2⟩:=R.aj hf;refine⟨Z,B,δ, .bl c,E,IH h1,λv H1 s1 r1=>⟨c,by unfold Rep at r1;exact r1,?_⟩⟩
 cases c with
 | true=>rw [Qap rfl] at h2 ⊢;exact⟨Z,B,δ,k,E.same s1,h2,λv H' s2 r2=>q v H' (s1.trans s2) r2⟩
 | false=>rw [Qaj$ by decide] at h2 ⊢;cases h2;exact q _ H1 s1 (by unfold Rep;rfl)
def RY{rest:List Expr}(ha:PD X a f)(hb:PD X (.BoolOp .Or (b ::rest) pos) g):PD X (.BoolOp .Or (a ::b ::rest) pos) (Sw f g):=(RN ha hb).imp λσ H Q ⟨Z,B,δ,k,E,hf,q⟩=>by
 obtain⟨c,h1,h2⟩:=R.aj hf;refine⟨Z,B,δ, .bl c,E,IH h1,λv H1 s1 r1=>⟨c,by unfold Rep at r1;exact r1,?_⟩⟩
 cases c with
 | true=>rw [Qap rfl] at h2 ⊢;cases h2;exact q _ H1 s1 (by unfold Rep;rfl)
 | false=>rw [Qaj$ by decide] at h2 ⊢;exact⟨Z,B,δ,k,E.same s1,h2,λv H' s2 r2=>q v H' (s1.trans s2) r2⟩
def eIf(c:au->R Bool)(f g:FD):FD:=λδ=>(c δ).bind λb=>if b then f δ else g δ
def cO(X:Cx)(f:Value)(g:List D->R D):Prop:=
 ∀(pins:Aaa) (s:QcR) (σ:St) (H:Hp) (B:List Addr) (ds:List D) (d:D) (xs:List V) (us:List Value),Inv X pins σ H s->(∀a∈B,∃o,H a=some o)->Vals xs us->aA X.K B H ds xs->g ds= .ok d->
  wpAny (model X.prog X.w) X.A (call f us) (EP X pins σ λz H'=>aR H H'/\Rep X.K B H' d z) X.xe s
def aM(g:List D->R D)(fs:au->R (List D)):FD:=λδ=>(fs δ).bind g
def cO.r{f:Value}{g:List D->R D}(h:cO X f g):kL X f (λxs H Q=>∃B ds d,(∀a∈B,∃o,H a=some o)/\aA X.K B H ds xs/\g ds= .ok d/\∀z H',aR H H'->Rep X.K B H' d z->Q z H'):=by
 intro pins s σ H xs us Q I rx ⟨B,ds,d,hb,hr,hg,q⟩;exact cH (h pins s σ H B ds d xs us I hb rx hr hg) λz s' ⟨zv,H',I',r',s1,r1⟩=>⟨zv,H',I',r',q zv H' s1 r1⟩
def EH{K:QcQ}{g:List D->R D}{fs:au->R (List D)}{Q:VK}(h:tD K (aM g fs) σ H Q) :
 ZJ K fs σ H λvs H1=>∃B ds d,(∀a∈B,∃o,H1 a=some o)/\aA K B H1 ds vs/\g ds= .ok d/\∀z H',aR H1 H'->Rep K B H' d z->Q z H':=by
 obtain⟨Z,B,δ,d,E,hf,q⟩:=h;obtain⟨ds,h1,h2⟩:=R.aj hf;exact⟨Z,B,δ,ds,E,h1,λvs H1 s1 r1=>⟨B,ds,d,(E.same s1).bs,r1,h2,λz H' s2 r2=>q z H' (s1.trans s2) r2⟩⟩
def Jq{g:List D->R D}{x:Str}{id:String}{p pos:Pos}{e:Expr}{es:List Expr}{fs:au->R (List D)}(hc:cO X (.builtin id) g)(hg:Gl X x)(hm:X.mg x=none)(hv:bootBuiltins x=some (.builtin id))(ha:GG X (e ::es) fs)(hn:x≠"__name__":=by decide)(me:(x==("__debug__":Str))=false:=by decide)
 (he:starEach (e ::es) X.env=(false,eval e X.env) ::starEach es X.env:=by rfl) (oB:(backTo pos$ starEach es X.env).any (·.1)=false:=by rfl):PD X (.Call (.Name x p) (e ::es) [] pos) (aM g fs):=
 (vM hc.r hg hm hv ha hn me he oB).imp λσ H Q h=>EH h
def EM{g:List D->R D}{x:Str}{T:String}{p pos:Pos}{e:Expr}{es:List Expr}{fs:au->R (List D)}(hc:cO X (.type T) g)(hg:Gl X x)(hm:X.mg x=none)(hv:bootBuiltins x=some (.type T))(ha:GG X (e ::es) fs)(hn:x≠"__name__":=by decide)(me:(x==("__debug__":Str))=false:=by decide)
 (he:starEach (e ::es) X.env=(false,eval e X.env) ::starEach es X.env:=by rfl) (oB:(backTo pos$ starEach es X.env).any (·.1)=false:=by rfl):PD X (.Call (.Name x p) (e ::es) [] pos) (aM g fs):=
 (x5 hc.r hg hm hv ha hn me he oB).imp λσ H Q h=>EH h
def K9(K:QcQ)(n:Nat)(g:List D->R D):Sp:=λvs H Q _=>vs.length=n/\∃B ds d,(∀a∈B,∃o,H a=some o)/\aA K B H ds vs/\g ds= .ok d/\∀z H',aR H H'->Rep K B H' d z->Q z H'
def KQ{g:List D->R D}{k n:Nat}{f:Addr}{fd:FuncData}{ps:List Str}{x:Str}{p pos:Pos}{e:Expr}{es:List Expr}{fs:au->R (List D)}
 (F:jH X.prog X.w X.K X.mg X.base wM k f fd ps (K9 X.K n g)) (hr:dW k X.A) (hg:Gl X x) (hm:X.mg x=some (.ref f)) (hk:PySem.W.keepIn X.K (.ref f)=true) (hb:Binds X.K fd ps []) (ha:GG X (e ::es) fs)
 (hn:∀δ ds,fs δ= .ok ds->ds.length=n) (me:(x==("__debug__":Str))=false:=by decide) (he:starEach (e ::es) X.env=(false,eval e X.env) ::starEach es X.env:=by rfl) (oB:(backTo pos$ starEach es X.env).any (·.1)=false:=by rfl) :
 PD X (.Call (.Name x p) (e ::es) [] pos) (aM g fs):=
 (yn F hr hg hm hk hb .nil HG ha me he oB).imp λσ H Q ⟨Z,B,δ,d,E,hf,q⟩=>by
   obtain⟨ds,h1,h2⟩:=R.aj hf;refine⟨Z,B,δ,ds,E,h1,λvs H1 s1 r1=>?_⟩
   show K9 X.K n g (vs++[]) H1 Q E0;rw[Qbj];exact⟨by rw[<-r1.length];exact hn δ ds h1,B,ds,d,(E.same s1).bs,r1,h2,λz H' s2 r2=>q z H' (s1.trans s2) r2⟩
end
end L2
end
section
namespace L2
open PySem PySem.Spec PyProof.Rows
inductive Out where
 | nx (δ:au) | rt (d:D)
abbrev FS:=au->R Out
structure Ev (Z B:List Addr) (H:Hp) (B':List Addr) (H':Hp):Prop where
 br:dP B H B' H'
 zs:∀b o,H b=some o->b∈Z->H' b=some o/\b∈B'
def Ev.refl(Z B:List Addr)(H:Hp)(zb:∀a∈Z,a∈B):Ev Z B H B H:=⟨dP.refl B H,λb o e z=>⟨e,zb b z⟩⟩
def Ev.trans{Z B B' UB:List Addr}(a:Ev Z B H B' H')(b:Ev Z B' H' UB qP):Ev Z B H UB qP:=
 ⟨a.br.trans b.br,λc o e z=>let⟨e1,_⟩:=a.zs c o e z;b.zs c o e1 z⟩
def Ev.same{Z B:List Addr}(zb:∀a∈Z,a∈B)(s:aR H H'):Ev Z B H B H':=⟨dP.same s,λb o e z=>⟨s b o e,zb b z⟩⟩
def DN(K:QcQ)(Z B:List Addr)(H:Hp)(D:Ends):Out->Prop
 | .nx dh=>∀cu B' H',Ev Z B H B' H'->dn K Z B' H' cu dh->D.nx cu H'
 | .rt d=>∀v B' H',Ev Z B H B' H'->(∀a∈Z,a∈B')->Rep K B' H' d v->D.rt v H'
def DN.ev{K:QcQ}{Z B B1:List Addr}{D:Ends}{o:Out}(q:DN K Z B H D o)(ev:Ev Z B H B1 H1):DN K Z B1 H1 D o:=by
 cases o with
 | nx dh=>exact λcu B' H' JN E'=>q cu B' H' (ev.trans JN) E'
 | rt d=>exact λv B' H' JN z r=>q v B' H' (ev.trans JN) z r
def sD(K:QcQ)(F:FS):TS:=λD σ H=>∃Z B δ o,dn K Z B H σ δ/\F δ= .ok o/\DN K Z B H D o
abbrev J1(X:Cx)(st:Stmt)(F:FS):Prop:=PS X st$ sD X.K F
abbrev ux(X:Cx)(st:List Stmt)(F:FS):Prop:=yI X st$ sD X.K F
section
variable {X:Cx}
def qr:FS:=λδ=> .ok$ .nx δ
def bD(F G:FS):FS:=λδ=>(F δ).bind λo=>match o with | .nx dh=>G dh | .rt d=> .ok$ .rt d
def Ms:ux X [] qr:=zg.imp λD σ H ⟨Z,B,δ,o,E,hf,q⟩=>by
 cases hf;exact q σ B H (Ev.refl Z B H E.zb) E
def NG{K:QcQ}{F G:FS}{D:Ends}(h:sD K (bD F G) D σ H):SR (sD K F) (sD K G) D σ H:=by
 obtain⟨Z,B,δ,o,E,hf,q⟩:=h;obtain⟨o1,h1,h2⟩:=R.aj hf;refine⟨Z,B,δ,o1,E,h1,?_⟩;cases o1 with
 | nx δ1=>
   intro QQ B1 H1 ev E1;refine⟨Z,B1,δ1,o,E1,h2,?_⟩;cases o with
   | nx j7=>exact λcu B' H' JN E'=>q cu B' H' (ev.trans JN) E'
   | rt d=>exact λv B' H' JN z r=>q v B' H' (ev.trans JN) z r
 | rt d=>
   cases h2;exact q
def Ir{st:Stmt}{rest:List Stmt}{F G:FS}(h1:J1 X st F)(h2:ux X rest G):ux X (st ::rest) (bD F G):=(v_ h1 h2).imp λD σ H h=>NG h
def Km{st:Stmt}{F:FS}(h1:J1 X st F):ux X [st] F:=yF h1
def dn.set{K:QcQ}{Z B:List Addr}{σ:St}{δ:au}(E:dn K Z B H σ δ){i:Nat}{d:D}{v:V}(hi:i<σ.length)(r:Rep K B H d v):dn K Z B H (σ.set i$ some v) (δ.set i$ .val d) where
 len:=by rw[QaM,QaM];exact E.len
 bs:=E.bs
 zb:=E.zb
 val:=λj d' e=>by
  by_cases h:i=j
  .subst h;rw[Qam$ by rw[E.len];exact hi] at e
   cases e;exact⟨v,Qam hi,r⟩
  .rw [Qao h] at e ⊢;exact E.val j d' e
 bld:=λj ds e=>by
  by_cases h:i=j
  .subst h;rw[Qam$ by rw[E.len];exact hi] at e
   cases e
  .rw [Qao h] at e ⊢;exact E.bld j ds e
 dis:=λj k a ds es e1 e2 e3 e4=>by
  by_cases h:i=j
  .subst h;rw[Qam$ by rw[E.len];exact hi] at e1
   cases e1
  .by_cases h':i=k
   .subst h';rw[Qam$ by rw[E.len];exact hi] at e2
    cases e2
   .rw [Qao h] at e1 e3;rw[Qao h'] at e2 e4;exact E.dis j k a ds es e1 e2 e3 e4
def dn.setB{K:QcQ}{Z B:List Addr}{H:Hp}{σ:St}{δ:au}(E:dn K Z B H σ δ){i:Nat}{ds:List D}{a:Addr}{xs:List V}(hi:i<σ.length)(hB:a∈B)(hZ:a ∉ Z)(hH:H a=some (.lst xs))(r:aA K B H ds xs)
 (new:∀j es,j≠i->δ[j]? =some (.bld es)->σ[j]?≠some (some$ .ref a)):dn K Z B H (σ.set i$ some$ .ref a) (δ.set i$ .bld ds) where
 len:=by rw[QaM,QaM];exact E.len
 bs:=E.bs
 zb:=E.zb
 val:=λj d' e=>by
  by_cases h:i=j
  .subst h;rw[Qam$ by rw[E.len];exact hi] at e
   cases e
  .rw [Qao h] at e ⊢;exact E.val j d' e
 bld:=λj es e=>by
  by_cases h:i=j
  .subst h;rw[Qam$ by rw[E.len];exact hi] at e
   cases e;exact⟨a,xs,Qam hi,hB,hZ,hH,r⟩
  .rw [Qao h] at e ⊢;exact E.bld j es e
 dis:=λj k b Ul UG e1 e2 e3 e4=>by
  by_cases h:i=j
  .subst h;by_cases h':i=k
   .exact h'
   .rw [Qam hi] at e3;cases e3;rw[Qao h'] at e2 e4;exact absurd e4$ new k UG (Qbz h') e2
  .by_cases h':i=k
   .subst h';rw[Qam hi] at e4;cases e4;rw[Qao h] at e1 e3;exact absurd e3$ new j Ul (Qbz h) e1
   .rw [Qao h] at e1 e3;rw[Qao h'] at e2 e4;exact E.dis j k b Ul UG e1 e2 e3 e4
def bU(i:Nat)(f:FD):FS:=λδ=>(f δ).bind λd=>R.aX (decide$ i<δ.length)$ .ok$ .nx$ δ.set i$ .val d
def HP{K:QcQ}{i:Nat}{D:Ends}(h:sD K (bU i f) D σ H):F1 (tD K f) (wb i) D σ H:=by
 obtain⟨Z,B,δ,o,E,hf,q⟩:=h;obtain⟨d,h1,h2⟩:=R.aj hf;obtain⟨hi,h3⟩:=R.aL h2;cases h3;refine⟨Z,B,δ,d,E,h1,λv H1 s1 r1=>?_⟩
 exact q _ B H1 (Ev.same E.zb s1) ((E.same s1).set (by rw[<-E.len];exact Qae hi) r1)
def Mr{i:Nat}{pos pos':Pos}(hN:X.N.Nodup)(hi:X.N[i]? =some x)(hx:Loc X.env.scope x)(he:PD X e f)(hs:swapsWith e (some$ .Name x pos') pos.line X.env=pure false:=by rfl)(hf:X.fn x=true\/X.env.scope.names.lookup x=some .local:=by first | exact .inl rfl | exact .inr rfl | assumption) :
 J1 X (.Assign [.Name x pos'] e pos) (bU i f):=(Co hN hi hx he hs hf).imp λD σ H h=>HP h
def uC(i:Nat)(f:au->R (List D)):FS:=λδ=>(f δ).bind λds=>R.aX (decide$ i<δ.length)$ .ok$ .nx$ δ.set i$ .bld ds
def Qv{K:QcQ}{i:Nat}{f:au->R (List D)}{D:Ends}(h:sD K (uC i f) D σ H):F1 (tN K f) (wb i) D σ H:=by
 obtain⟨Z,B,δ,o,E,hf,q⟩:=h;obtain⟨ds,h1,h2⟩:=R.aj hf;obtain⟨hi,h3⟩:=R.aL h2;cases h3;refine⟨Z,B,δ,ds,E,h1,λa xs H1 s1 n e r=>?_⟩
 have E1:=E.same s1;have aB:a ∉ B:=λha=>by obtain⟨o,ho⟩:=E.bs a ha;rw [n] at ho;cases ho
 have nZ:a ∉ Z:=λha=>aB$ E.zb a ha
 have p0:dP B H (a ::B) H1:=λb o e' nb=>⟨s1 b o e',λhb=>by
  rcases QaF.mp hb with z | z
  .subst z;rw [n] at e';cases e'
  .exact nb z⟩
 have E2:dn K Z (a ::B) H1 σ δ:={
  len:=E.len
  bs:=λb hb=>by
   rcases QaF.mp hb with z | z
   .subst z;exact⟨_,e⟩
   .exact E1.bs b z
  zb:=λb hb=>Qab _$ E.zb b hb
  val:=λj d e=>let⟨v,q1,q2⟩:=E.val j d e;⟨v,q1,q2.br p0⟩
  bld:=λj es e=>let⟨b,ys,q1,q2,q3,q4,q5⟩:=E.bld j es e;⟨b,ys,q1,Qab _ q2,q3,s1 b _ q4,q5.br p0⟩
  dis:=E.dis}
 refine q _ (a ::B) H1 ⟨p0,λb o e' hb=>⟨s1 b o e',Qab _$ E.zb b hb⟩⟩ (E2.setB (by rw[<-E.len];exact Qae hi) Qai nZ e r λj es hj ej Mu=>?_)
 obtain⟨b,ys,q1,_,_,q4,_⟩:=E.bld j es ej;rw[Mu] at q1;cases q1;rw[n] at q4;cases q4
def LN{i:Nat}{f:au->R (List D)}{pos pos':Pos}(hN:X.N.Nodup)(hi:X.N[i]? =some x)(hx:Loc X.env.scope x)(he:PN X e f)(hs:swapsWith e (some$ .Name x pos') pos.line X.env=pure false:=by rfl)(hf:X.fn x=true\/X.env.scope.names.lookup x=some .local:=by first | exact .inl rfl | exact .inr rfl | assumption) :
 J1 X (.Assign [.Name x pos'] e pos) (uC i f):=(Co hN hi hx he hs hf).imp λD σ H h=>Qv h
def dn.grow{K:QcQ}{Z B:List Addr}{H:Hp}{σ:St}{δ:au}(E:dn K Z B H σ δ){i:Nat}{ds es:List D}{a:Addr}{xs ys:List V}(hd:δ[i]? =some (.bld ds))(Mu:σ[i]? =some (some$ .ref a))(hB:a∈B)(hH:H a=some (.lst xs))(r:aA K B H es ys) :
 dn K Z B (upd H a$ .lst ys) σ (δ.set i$ .bld es)/\dP B H B (upd H a$ .lst ys):=by
 have p:dP B H B (upd H a$ .lst ys):=λb o e nb=>⟨by rw[bb$ λ(z:b=a)=>nb$ by rw[z];exact hB];exact e,nb⟩
 have hi:i<δ.length:=(Qah.mp hd).1;refine⟨{
  len:=by rw[QaM];exact E.len
  bs:=λb hb=>by
   by_cases z:b=a
   .subst z;exact⟨_,aZ⟩
   .rw [bb z];exact E.bs b hb
  zb:=E.zb
  val:=λj d e=>by
   by_cases h:i=j
   .subst h;rw [Qam hi] at e;cases e
   .rw [Qao h] at e;obtain⟨v,q1,q2⟩:=E.val j d e;exact⟨v,q1,q2.br p⟩
  bld:=λj fs e=>by
   by_cases h:i=j
   .subst h;rw [Qam hi] at e;cases e;obtain⟨b,zs,q1,q2,q3,_,_⟩:=E.bld i ds hd;rw[Mu] at q1;cases q1;exact⟨a,ys,Mu,hB,q3,aZ,r.br p⟩
   .rw [Qao h] at e;obtain⟨b,zs,q1,q2,q3,q4,q5⟩:=E.bld j fs e;have ne:b≠a:=λz=>by subst z;exact h (E.dis i j b ds fs hd e Mu q1)
    exact⟨b,zs,q1,q2,q3,by rw[bb ne];exact q4,q5.br p⟩
  dis:=λj k b Ul UG e1 e2 e3 e4=>by
   have f1:∃fs,δ[j]? =some (.bld fs):=by
    by_cases h:i=j
    .subst h;exact⟨ds,hd⟩
    .rw [Qao h] at e1;exact⟨_,e1⟩
   have f2:∃fs,δ[k]? =some (.bld fs):=by
    by_cases h:i=k
    .subst h;exact⟨ds,hd⟩
    .rw [Qao h] at e2;exact⟨_,e2⟩
   obtain⟨_,f1⟩:=f1;obtain⟨_,f2⟩:=f2;exact E.dis j k b _ _ f1 f2 e3 e4},p⟩
def Ev.grow{Z B:List Addr}{a:Addr}{o:HO}(zb:∀a∈Z,a∈B)(hZ:a ∉ Z)(p:dP B H B (upd H a o)):Ev Z B H B (upd H a o):=
 ⟨p,λb u e hb=>⟨by rw[bb$ λ(z:b=a)=>hZ$ by rw[<-z];exact hb];exact e,zb b hb⟩⟩
def u_(δ:au)(i:Nat):R (List D):=match δ[i]? with | some (.bld ds)=> .ok ds | _=> .no
def Jn{δ:au}{i:Nat}{ds:List D}(h:u_ δ i= .ok ds):δ[i]? =some (.bld ds):=by
 unfold u_ at h;split at h
 .rename_i q;cases h;exact q
 .cases h
def uI(i:Nat)(f:FD):FS:=λδ=>(f δ).bind λd=>(u_ δ i).bind λds=>R.aX (decide$ ds.length<sizeLine)$ .ok$ .nx$ δ.set i$ .bld$ ds++[d]
def LH{i:Nat}{x:Str}{e:Expr}{f:FD}{p7 apos aW pos:Pos}(hN:X.N[i]? =some x)(hv:HM X.env.scope x)(he:PD X e f)
 (hd:(x==("__debug__":Str))=false:=by decide) (rJ:(x==("__classdict__":Str))=false:=by decide)
 (hs:starEach [e] X.env=(false,eval e X.env) ::starEach [] X.env:=by rfl) (dO:(apos.endLine==aW.line)=true:=by rfl)
 (i_:((backTo aW$ starEach [e] X.env).all (λx=>!x.1) && (backToKw aW$ keywordEach [] X.env).all (λx=>x.1.isSome)
   && decide (([e]:List Expr).length+([]:List Keyword).length+(if([]:List Keyword).isEmpty then 0 else 1)<30))=true:=by rfl)
 (zN:swapsWith (.Call (.Attribute (.Name x p7) "append" apos) [e] [] aW) none pos.line X.env=pure false:=by rfl)
 (dM:attributeBase (.Name x p7) "append" X.env (eval (.Name x p7) X.env)=eval (.Name x p7) X.env:=by rfl) :
 J1 X (.Expr (.Call (.Attribute (.Name x p7) "append" apos) [e] [] aW) pos) (uI i f):=by
 refine(rK (xO (X:=X) QbM QbJ QbK m5 (yN hN hv hd rJ) (fS he lA hs) dM i_ dO hs) zN).imp λD σ H ⟨Z,B,δ,o,E,hf,q⟩=>?_
 obtain⟨d,h1,h2⟩:=R.aj hf;obtain⟨ds,h3,h4⟩:=R.aj h2;obtain⟨hl,h5⟩:=R.aL h4;cases h5;have hb:=Jn h3;obtain⟨a,xs,q1,q2,q3,q4,q5⟩:=E.bld i ds hb;refine⟨.ref a,q1, .inl ⟨rfl,xs,oZ.of q4⟩,⟨Z,B,δ,d,E,h1,λv H1 s1 r1=>?_⟩⟩
 have E1:=E.same s1;refine⟨a,xs,v,rfl,rfl,s1 a _ q4,by rw[<-q5.length];exact Qae hl,?_⟩
 obtain⟨E2,p2⟩:=E1.grow (es:=ds++[d]) (ys:=xs++[v]) hb q1 q2 (s1 a _ q4)$ (q5.same s1).append$ aA.cons r1 aA.nil;exact q σ B _ ((Ev.same E.zb s1).trans$ Ev.grow E.zb q3 p2) E2
def aa4(i:Nat)(f:au->R (List D)):FS:=λδ=>(f δ).bind λes=>(u_ δ i).bind λds=>R.aX (decide$ ds.length+es.length<=sizeLine)$ .ok$ .nx$ δ.set i$ .bld$ ds++es
def mq(i:Nat)(δ:au):au:=match δ[i]? with | some (.bld ds)=>δ.set i (.val$ .lst ds) | _=>δ
def dn.mq{K:QcQ}{Z B:List Addr}{δ:au}(E:dn K Z B H σ δ)(i:Nat):∃B',Ev Z B H B' H/\dn K Z B' H σ (mq i δ):=by
 unfold L2.mq;cases hd:δ[i]? with
 | none=>exact⟨B,Ev.refl Z B H E.zb,E⟩
 | some x=>
   cases x with
   | un=>exact⟨B,Ev.refl Z B H E.zb,E⟩
   | val d=>exact⟨B,Ev.refl Z B H E.zb,E⟩
   | bld ds=>
     obtain⟨a,xs,q1,q2,q3,q4,q5⟩:=E.bld i ds hd;have hi:i<δ.length:=(Qah.mp hd).1;have p:dP B H (B.filter λb=>decide$ b≠a) H:=λb o e nb=>⟨e,λhb=>nb (Qbi.mp hb).1⟩
     have zb:∀b∈Z,b∈B.filter λb=>decide (b≠a):=λb hb=>Qbi.mpr ⟨E.zb b hb,Qac λz=>q3$ z▸hb⟩
     refine⟨B.filter λb=>decide$ b≠a,⟨p,λb o e hb=>⟨e,zb b hb⟩⟩,{
      len:=by rw[QaM];exact E.len
      bs:=λb hb=>E.bs b (Qbi.mp hb).1
      zb:=zb
      val:=λj d e=>by
       by_cases h:i=j
       .subst h;rw [Qam hi] at e;cases e;refine⟨.ref a,q1,?_⟩;unfold Rep;exact⟨a,xs,rfl, .inl ⟨λhb=>by simpa using(Qbi.mp hb).2, .inl q4⟩,q5.br p⟩
       .rw [Qao h] at e;obtain⟨v,z1,z2⟩:=E.val j d e;exact⟨v,z1,z2.br p⟩
      bld:=λj fs e=>by
       by_cases h:i=j
       .subst h;rw [Qam hi] at e;cases e
       .rw [Qao h] at e;obtain⟨b,zs,z1,z2,z3,z4,z5⟩:=E.bld j fs e;exact⟨b,zs,z1,Qbi.mpr ⟨z2,Qac λz=>by subst z;exact h$ E.dis i j b ds fs hd e q1 z1⟩,z3,z4,z5.br p⟩
      dis:=λj k b Ul UG e1 e2 e3 e4=>by
       by_cases h:i=j
       .subst h;rw [Qam hi] at e1;cases e1
       .by_cases h':i=k
        .subst h';rw [Qam hi] at e2;cases e2
        .rw [Qao h] at e1;rw[Qao h'] at e2;exact E.dis j k b Ul UG e1 e2 e3 e4}⟩
def xh(i:Nat)(F:FS):FS:=λδ=>F$ mq i δ
def Qf{K:QcQ}{i:Nat}{F:FS}{D:Ends}(h:sD K (xh i F) D σ H):sD K F D σ H:=by
 obtain⟨Z,B,δ,o,E,hf,q⟩:=h;obtain⟨B1,ev,E1⟩:=E.mq i;refine⟨Z,B1,L2.mq i δ,o,E1,hf,?_⟩;cases o with
 | nx dh=>exact λcu B' H' JN E'=>q cu B' H' (ev.trans JN) E'
 | rt d=>exact λv B' H' JN z r=>q v B' H' (ev.trans JN) z r
def Lk(i:Nat){F:FS}(h:ux X Nm F):ux X Nm (xh i F):=h.imp λD σ H h=>Qf h
def iL(f:FD):FS:=λδ=>(f δ).bind λd=> .ok$ .rt d
def Lm(he:PD X e f):J1 X (.Return (some e) pos) (iL f):=(Jz he).imp λD σ H ⟨Z,B,δ,o,E,hf,q⟩=>by
 obtain⟨d,h1,h2⟩:=R.aj hf;cases h2;exact⟨Z,B,δ,d,E,h1,λv H1 s1 r1=>q v B H1 (Ev.same E.zb s1) E.zb r1⟩
def xB(c:au->R Bool)(F G:FS):FS:=λδ=>(c δ).bind λb=>if b then F δ else G δ
def N8{fc:au->R Bool}{F G:FS}(hc:PB X c fc)(ha:ux X a F)(hb:ux X b G):J1 X (.If c a b pos) (xB fc F G):=(IM hc ha hb).imp λD σ H ⟨Z,B,δ,o,E,hf,q⟩=>by
 obtain⟨k,h1,h2⟩:=R.aj hf;refine⟨Z,B,δ,k,E,h1,λH1 s1=>?_⟩
 have q':=q.ev$ Ev.same E.zb s1;cases k with
 | true=>rw [Qap rfl] at h2;exact HC ⟨Z,B,δ,o,E.same s1,h2,q'⟩
 | false=>rw [Qaj$ by decide] at h2;exact Hx ⟨Z,B,δ,o,E.same s1,h2,q'⟩
abbrev FT:=D->au->R au
def gD(K:QcQ)(t:FT):TG:=λv σ H Q=>∃Z B δ d dh,dn K Z B H σ δ/\Rep K B H d v/\t d δ= .ok dh/\∀cu H',aR H H'->dn K Z B H' cu dh->cu.length=σ.length->Q cu H'
abbrev NZ(X:Cx)(tg:Expr)(t:FT):Prop:=PG X tg$ gD X.K t
def bh(i:Nat):FT:=λd δ=>R.aX (decide$ i<δ.length)$ .ok$ δ.set i$ .val d
def He{i:Nat}{pos:Pos}(hN:X.N.Nodup)(hi:X.N[i]? =some x)(hx:Loc X.env.scope x)(hf:X.fn x=true\/X.env.scope.names.lookup x=some .local:=by first | exact .inl rfl | exact .inr rfl | assumption):NZ X (.Name x pos) (bh i):=
 (DB hN hi hx hf).imp λv σ H Q ⟨Z,B,δ,d,dh,E,r,ht,q⟩=>by
   obtain⟨hi,h⟩:=R.aL ht;cases h;exact q _ H (aR.refl H) (E.set (by rw[<-E.len];exact Qae hi) r)$ QaM ..
abbrev GK:=List D->au->R au
def gDs(K:QcQ)(t:GK):Jr:=λvs σ H Q=>∃Z B δ ds dh,dn K Z B H σ δ/\aA K B H ds vs/\t ds δ= .ok dh/\∀cu H',aR H H'->dn K Z B H' cu dh->cu.length=σ.length->Q cu H'
abbrev GX(X:Cx)(ts:List Expr)(t:GK):Prop:=Mf X ts$ gDs X.K t
def Mf.imp{X:Cx}{t t':Jr}(h:Mf X e t)(w:∀v σ H Q,t' v σ H Q->t v σ H Q):Mf X e t':=λpins s σ H v u Q I r hq=>h pins s σ H v u Q I r$ w v σ H Q hq
def sH:GK:=λds δ=>match ds with | []=> .ok δ | _=> .no
def fq(t:FT)(u:GK):GK:=λds δ=>match ds with | d ::r=>(t d δ).bind λdh=>u r dh | []=> .no
def HL:GX X [] sH:=Eb.imp λvs σ H Q ⟨Z,B,δ,ds,dh,E,r,ht,q⟩=>by
 cases ds with
 | nil=>unfold aA at r;cases ht;exact⟨r,q σ H (aR.refl H) E rfl⟩
 | cons=>cases ht
def F0{u:GK}(h1:NZ X e t)(h2:GX X es u)(hs:(assignEach (e ::es) X.env).map (·.2)=assign e X.env ::(assignEach es X.env).map (·.2):=by rfl):GX X (e ::es) (fq t u):=
 (Ax h1 h2 hs).imp λvs σ H Q ⟨Z,B,δ,ds,dh,E,r,ht,q⟩=>by
   cases ds with
   | nil=>cases ht
   | cons d ds=>
     obtain⟨x,xs,rfl,r1,r2⟩:=r.b7;obtain⟨δ1,h1,h2⟩:=R.aj ht;exact⟨x,xs,rfl,Z,B,δ,d,δ1,E,r1,h1,λQQ H1 s1 E1 l1=>⟨Z,B,δ1,ds,dh,E1,r2.same s1,h2,λwK H2 s2 E2 l2=>q wK H2 (s1.trans s2) E2$ l2.trans l1⟩⟩
def sI(n:Nat)(t:GK):FT:=λd δ=>match d with | .tup ds=>R.aX (decide$ ds.length=n) (t ds δ) | _=> .no
def KR{k:Nat}{t:GK}{n:Nat}{pos:Pos}(hc:X.calm=true)(h:GX X es t)(hn:(assignEach es X.env).length=n:=by rfl)(xA:(assignEach es X.env).findIdx? (·.1)=none:=by rfl):NZ X (.Tuple es k pos) (sI n t):=
 (JE hc h hn xA).imp λv σ H Q ⟨Z,B,δ,d,dh,E,r,ht,q⟩=>by
   cases d with
   | tup ds=>
     unfold Rep at r;obtain⟨a,xs,rfl,l,r⟩:=r;obtain⟨hl,h⟩:=R.aL ht;exact⟨a,xs,rfl,l.sq,by rw[<-r.length];exact Qae hl,Z,B,δ,ds,dh,E,r,h,q⟩
   | _=>cases ht
def abh(f:FD)(t:FT):FS:=λδ=>(f δ).bind λd=>(t d δ).bind λdh=> .ok$ .nx dh
def Hi(K:QcQ)(B:List Addr)(H:Hp)(J:It)(ds:List D):Prop:=∀B' H',dP B H B' H'->(∀(i:Nat) (d:D),ds[i]? =some d->J.go i H'/\∀x qP,J.yld i H' x qP->(∀a∈B',∃o,H' a=some o)->aR H' qP/\Rep K B' qP d x)/\J.stop ds.length H'
def iD(K:QcQ)(f:au->R (List D)):TI:=λσ H R=>∃Z B δ ds,dn K Z B H σ δ/\f δ= .ok ds/\∀J H1,aR H H1->Hi K B H1 J ds->R J H1
abbrev MM(X:Cx)(tg e:Expr)(f:au->R (List D)):Prop:=PI X tg e$ iD X.K f
def dR(f:FD):au->R (List D):=λδ=>(f δ).bind λd=>match d with | .lst ds=> .ok ds | .tup ds=> .ok ds | _=> .no
def LB(h:PD X e f):MM X tg e (dR f):=by
 intro pins s σ H RR I ⟨Z,B,δ,ds,E,hf,q⟩;obtain⟨d,h1,h2⟩:=R.aj hf;refine cH (h pins s σ H (λv H1=>aR H H1/\Rep X.K B H1 d v) I ⟨Z,B,δ,d,E,h1,λv H1 s1 r1=>⟨s1,r1⟩⟩) λv s1 ⟨x,H1,I1,r1,ss,rr⟩=>?_
 cases d with
 | lst es=>
   cases h2;unfold Rep at rr;obtain⟨a,xs,rfl,l,rr⟩:=rr;cases r1;obtain⟨its,rv,p,hz⟩:=I1.list l.sq;refine wpAny_pyIter_list p.isList ?_;refine⟨s1.heap.objs.size,[s1.heap.objs.size],_,_,H1,rfl,I1.kept (t':=s1.toks) λb o e=>Qau _ e,Gj a _,⟨_,QaY _ rfl,rfl,rfl⟩,λb hb=>?_,q _ H1 ss λB' H' pr=>?_⟩
   .have e:b=s1.heap.objs.size:=by simpa using hb
    subst e;exact I1.BV (Qak _)$ I1.hok.fresh$ Qak _
   .have l':yG X.K B' H' a xs:=l.br pr;have rr':=rr.br pr;refine⟨λi d hd=>?_,⟨xs,l'.sq,by rw[rr.length];exact Qak _⟩⟩
    obtain⟨x,hx,rx⟩:=rr'.get hd;exact⟨⟨xs,x,l'.sq,hx⟩,λy qP ⟨e1,e2⟩ _=>by
     subst e1;have:=e2 xs l'.sq;rw[hx] at this;cases this;exact⟨aR.refl _,rx⟩⟩
 | tup es=>
   cases h2;unfold Rep at rr;obtain⟨a,xs,rfl,l,rr⟩:=rr;cases r1;obtain⟨its,rv,p,hz⟩:=I1.tuple l.sq;refine wpAny_pyIter_tuple (show s1.heap.IsTuple a its.toArray from p) ?_
   refine⟨s1.heap.objs.size,[s1.heap.objs.size],_,_,H1,rfl,I1.kept (t':=s1.toks) λb o e=>Qau _ e,B7 a _,⟨_,QaY _ rfl,rfl,rfl⟩,λb hb=>?_,q _ H1 ss λB' H' pr=>?_⟩
   .have e:b=s1.heap.objs.size:=by simpa using hb
    subst e;exact I1.BV (Qak _)$ I1.hok.fresh$ Qak _
   .have l':De X.K B' H' a xs:=l.elim (λz=> .inl ⟨(pr.rd z.2 z.1).2,(pr.rd z.2 z.1).1⟩) .inr
    have rr':=rr.br pr;refine⟨λi d hd=>?_,⟨xs,l'.sq,by rw[rr.length];exact Qak _⟩⟩
    obtain⟨x,hx,rx⟩:=rr'.get hd;exact⟨⟨xs,x,l'.sq,hx⟩,λy qP ⟨e1,e2⟩ _=>by
     subst e1;have:=e2 xs l'.sq;rw[hx] at this;cases this;exact⟨aR.refl _,rx⟩⟩
 | _=>cases h2
def uD(lo:Int)(n:Nat):List D:=(List.range n).map λ(i:Nat)=>D.int$ lo+i
def Pd{K:QcQ}{B:List Addr}(lo:Int)(n:Nat):Hi K B H (Ua lo n) (uD lo n):=λB' H' _=>by
 refine⟨λi d hd=>?_,?_⟩
 .unfold uD at hd;rw[Qad] at hd;cases e:(List.range n)[i]? with
  | none=>rw [e] at hd;cases hd
  | some j=>
    rw[e] at hd;cases hd;obtain⟨hi,ej⟩:=Qah.mp e;rw[QcA] at ej;subst ej;rw[Qbb] at hi;exact⟨hi,λx qP ⟨e1,e2⟩ _=>by subst e1 e2;exact⟨aR.refl _,by unfold Rep;rfl⟩⟩
 .show n<=(uD lo n).length;unfold uD;rw[Qaa,Qbb];exact Qak _
def f7(f:FD):au->R (List D):=λδ=>(f δ).bind λd=>match d with | .int j=>R.aX (decide (-(2 ^ 62)<=j/\j<2 ^ 62)) (.ok$ uD 0 j.toNat) | _=> .no
def Cu{tg a:Expr}{p pos:Pos}(h:PD X a f)(hg:Gl X "range")(hm:X.mg "range"=none)(hs:starEach [a] X.env=[(false,eval a X.env)]:=by rfl):MM X tg (.Call (.Name "range" p) [a] [] pos) (f7 f):=
 (Fb hg hm (fS h lA hs) hs).imp λσ H RR ⟨Z,B,δ,ds,E,hf,q⟩=>by
   obtain⟨d,h1,h2⟩:=R.aj hf;cases d with
   | int j=>
     obtain⟨hb,h3⟩:=R.aL h2;cases h3;have hb:=Qae hb;refine⟨Z,B,δ, .int j,E,h1,λv H1 s1 r1=>⟨j,?_,hb.1,hb.2,q _ H1 s1$ Pd 0 _⟩⟩
     unfold Rep at r1;rw[r1]
   | _=>cases h2
def VT(f g:FD):au->R (List D):=λδ=>(f δ).bind λd=>(g δ).bind λe=>match d,e with
 | .int i, .int j=>R.aX (decide (-(2 ^ 62)<=i/\i<2 ^ 62/\ -(2 ^ 62)<=j/\j<2 ^ 62)) (.ok$ uD i (j - i).toNat) | _,_=> .no
def ub(t:FT)(body:FS):List D->FS
 | [],δ=> .ok$ .nx δ
 | d ::ds,δ=>(t d δ).bind λδ1=>(body δ1).bind λo=>match o with | .nx j7=>ub t body ds j7 | .rt r=> .ok$ .rt r
def wC(it:au->R (List D))(t:FT)(body:FS):FS:=λδ=>(it δ).bind λds=>ub t body ds δ
def LU{tg iter:Expr}{body:List Stmt}{it:au->R (List D)}{t:FT}{F:FS}{pos:Pos}(hp:PassesOwn (model X.prog X.w) X.A X.env X.xe)(hc:X.calm=true)(hi:MM X tg iter it)(hg:NZ X tg t)(hb:ux X body F)
 (hs:∀x,foldedSetIterable iter X.env x=pure x:=by intro _;rfl):J1 X (.For tg iter body [] pos) (wC it t F):=(BK hp hc hi hg hb hs).imp λD σ H ⟨Z,B,δ,o,E,hf,q⟩=>by
 obtain⟨ds,h1,h2⟩:=R.aj hf;refine⟨Z,B,δ,ds,E,h1,λJ H1 s1 ir=>?_⟩
 refine⟨λi m cu H'=>m=ds.length - i/\i<=ds.length/\∃B' dh,Ev Z B H1 B' H'/\dn X.K Z B' H' cu dh/\ub t F (ds.drop i) dh= .ok o,⟨ds.length,rfl,Qa9 _,B,δ,Ev.refl Z B H1 E.zb,E.same s1,by simpa using h2⟩,?_⟩
 rintro i m cu H' ⟨rfl,hi,B',dh,ev,E',hl⟩;obtain⟨go,stop⟩:=ir B' H' ev.br;by_cases hlt:i<ds.length
 .have hd:ds[i]? =some ds[i]:=Qag hlt;have hdrop:ds.drop i=ds[i] ::ds.drop (i+1):=Qbu hlt;rw[hdrop] at hl;obtain⟨δ1,h3,h4⟩:=R.aj hl;obtain⟨o1,h5,h6⟩:=R.aj h4;obtain⟨g1,g2⟩:=go i _ hd;refine .inr ⟨g1,λwK H2=>∃B2 j7,Ev Z B H1 B2 H2/\dn X.K Z B2 H2 wK j7/\ub t F (ds.drop$ i+1) j7= .ok o,λwK H2 n=>⟨ds.length - (i+1),by omega,rfl,hlt,n⟩,λx qP y=>?_⟩
  obtain⟨ss,rr⟩:=g2 x qP y E'.bs;refine⟨Z,B',dh,ds[i],δ1,E'.same ss,rr,h3,λwK H2 s2 E2 l2=>⟨Z,B',δ1,o1,E2,h5,?_⟩⟩
  have ev2:Ev Z B H1 B' H2:=ev.trans$ Ev.same E'.zb$ ss.trans s2;cases o1 with
  | nx j7=>exact λJ_ B3 H3 XJ E3=>⟨B3,j7,ev2.trans XJ,E3,h6⟩
  | rt d=>
    cases h6;exact λv B3 H3 XJ z r=>q v B3 H3 ((Ev.same E.zb s1).trans$ ev2.trans XJ) z r
 .have e:i=ds.length:=by omega
  subst e;rw[Qb1] at hl;cases hl;exact .inl ⟨stop,q cu B' H' ((Ev.same E.zb s1).trans ev) E'⟩
def HD(c:au->R Bool)(body:FS):Nat->FS
 | 0,_=> .no
 | n+1,δ=>(c δ).bind λb=>if b then(body δ).bind λo=>match o with | .nx j7=>HD c body n j7 | .rt r=> .ok (.rt r) else .ok (.nx δ)
def Vx(n:Nat)(c:au->R Bool)(body:FS):FS:=λδ=>HD c body n δ
def wy(δ:au)(i:Nat):Sl:=match δ[i]? with | some (.val d)=> .val d | _=> .un
def uA(own:List Str)(kp:List Nat)(δ:au):au:=List.replicate own.length .un++kp.map (wy δ)
def sj(t:FT)(c:au->R Bool)(f:FD)(δ:au):List D->R (List D)
 | []=> .ok []
 | d ::ds=>(t d δ).bind λδ1=>(c δ1).bind λb=>if b then(f δ1).bind λy=>(sj t c f δ ds).bind λys=> .ok (y ::ys) else sj t c f δ ds
def dq(it:au->R (List D))(t:FT)(c:au->R Bool)(f:FD)(own:List Str)(kp:List Nat):au->R (List D):=λδ=>(it δ).bind λds=>R.aX (decide$ ds.length<=sizeLine)$ sj t c f (uA own kp δ) ds
def Ot{K:QcQ}{Z B B':List Addr}{H H':Hp}{δ:au}{own:List Str}{kp:List Nat}(E:dn K Z B H σ δ)(p:dP B H B' H')(hB:∀a∈B',∃o,H' a=some o):dn K [] B' H' (dj own kp σ) (uA own kp δ) where
 len:=by unfold dj uA;simp
 bs:=hB
 zb:=λa ha=>by cases ha
 val:=λi d e=>by
  unfold uA at e;unfold dj;by_cases hi:i<own.length
  .rw [Qat (by simpa using hi),QaS] at e
   split at e <;> cases e
  .rw [Qal (by simpa using hi),QaV,Qad] at e ⊢
   cases q:kp[i - own.length]? with
   | none=>rw [q] at e;cases e
   | some j=>
     rw[q] at e;have e:wy δ j= .val d:=QaW e;unfold wy at e;split at e
     .rename_i d' ed;cases e;obtain⟨v,h1,h2⟩:=E.val j d ed;exact⟨v,by simp [h1],h2.br p⟩
     .cases e
 bld:=λi ds e=>by
  unfold uA at e;by_cases hi:i<own.length
  .rw [Qat (by simpa using hi),QaS] at e
   split at e <;> cases e
  .rw [Qal (by simpa using hi),QaV,Qad] at e
   cases q:kp[i - own.length]? with
   | none=>rw [q] at e;cases e
   | some j=>
     rw[q] at e;have e:wy δ j= .bld ds:=QaW e;unfold wy at e;split at e <;> cases e
 dis:=λi j a ds es e=>by
  unfold uA at e;by_cases hi:i<own.length
  .rw [Qat (by simpa using hi),QaS] at e
   split at e <;> cases e
  .rw [Qal (by simpa using hi),QaV,Qad] at e
   cases q:kp[i - own.length]? with
   | none=>rw [q] at e;cases e
   | some j=>
     rw[q] at e;have e:wy δ j= .bld ds:=QaW e;unfold wy at e;split at e <;> cases e
def yA{K:QcQ}{it:au->R (List D)}{c:au->R Bool}{own:List Str}{kp:List Nat}{Q:VK}(h:tN K (dq it t c f own kp) σ H Q) :
 D9 (iD K it) (gD K t) (MH K c) (tD K f) own kp σ H Q:=by
 obtain⟨Z,B,δ,ds,E,hf,q⟩:=h;obtain⟨es,h1,h2⟩:=R.aj hf;obtain⟨hl,h3⟩:=R.aL h2;have hl:=Qae hl;refine⟨Z,B,δ,es,E,h1,λJ H1 s1 ir Dd hD=>?_⟩
 have E1:=E.same s1;have pD:dP B H1 (Dd ::B) (upd H1 Dd$ .lst []):=Be hD;refine⟨λi m ys H'=>m=es.length - i/\i<=es.length/\ys.length<=i/\H' Dd=some (.lst ys)/\aR H1 H'/\∃done rest,ds=done++rest/\aA K (Dd ::B) H' done ys/\sj t c f (uA own kp δ) (es.drop i)= .ok rest,
  ⟨es.length,rfl,Qa9 _,Qak _,aZ,bA hD,[],ds,rfl,aA.nil,by simpa using h3⟩,?_⟩
 rintro i m ys H' ⟨rfl,hi,hy,hDl,ss,done,rest,rfl,rd,hc⟩;have dB:Dd ∉ B:=λhb=>by obtain⟨o,ho⟩:=E1.bs Dd hb;rw [hD] at ho;cases ho
 have p':dP B H1 (Dd ::B) H':=λb o e nb=>⟨ss b o e,λhb=>by
  rcases QaF.mp hb with z | z
  .exact bC e hD z
  .exact nb z⟩
 have U4:∀a∈Dd ::B,∃o,H' a=some o:=λa ha=>by
  rcases QaF.mp ha with z | z
  .subst z;exact⟨_,hDl⟩
  .obtain⟨o,ho⟩:=E1.bs a z;exact⟨o,ss a o ho⟩
 obtain⟨go,stop⟩:=ir (Dd ::B) H' p';by_cases hlt:i<es.length
 .have hd:es[i]? =some es[i]:=Qag hlt;have hdrop:es.drop i=es[i] ::es.drop (i+1):=Qbu hlt;rw[hdrop] at hc;obtain⟨δ1,h4,h5⟩:=R.aj hc;obtain⟨b,h6,h7⟩:=R.aj h5;obtain⟨g1,g2⟩:=go i _ hd;refine .inr ⟨g1,λx H2 y=>?_⟩
  obtain⟨sy,ry⟩:=g2 x H2 y U4;have Ec:dn K [] (Dd ::B) H2 (dj own kp σ) (uA own kp δ):=Ot E1 (p'.trans$ dP.same sy) λa ha=>let⟨o,ho⟩:=U4 a ha;⟨o,sy a o ho⟩
  refine⟨[],Dd ::B,uA own kp δ,es[i],δ1,Ec,ry,h4,λJ_ H3 s3 E3 _=>⟨[],Dd ::B,δ1,b,E3,h6,λH4 s4=>?_⟩⟩
  have sAll:aR H' H4:=sy.trans$ s3.trans s4;cases b with
  | true=>
    rw[Qap rfl] at h7;refine HC ?_;obtain⟨yv,h8,h9⟩:=R.aj h7;obtain⟨rs,Ya,XS⟩:=R.aj h9;cases XS;refine⟨[],Dd ::B,δ1,yv,E3.same s4,h8,λv H5 s5 r5=>?_⟩
    have s':aR H' H5:=sAll.trans s5;have YT:H5 Dd=some (.lst ys):=s' Dd _ hDl;have pu:dP (Dd ::B) H5 (Dd ::B) (upd H5 Dd$ .lst$ ys++[v]):=λb o e nb=>⟨by rw[bb$ λ(z:b=Dd)=>nb$ by rw[z];exact Qai];exact e,nb⟩
    refine⟨YT,by omega,es.length - (i+1),by omega,rfl,hlt,by rw[Qar,Qcn];omega,aZ,λb o e=>?_,done++[yv],rs,by simp,((rd.same s').append$ aA.cons r5 aA.nil).br pu,Ya⟩
    rw[bb$ bC e hD];exact s' b o$ ss b o e
  | false=>
    rw[Qaj$ by decide] at h7
    refine Hx ?_;exact⟨es.length - (i+1),by omega,rfl,hlt,by omega,sAll Dd _ hDl,ss.trans sAll,done,rest,rfl,rd.same sAll,h7⟩
 .have e:i=es.length:=by omega
  subst e;rw[Qb1] at hc;cases hc;rw[Qbj] at q;exact .inl ⟨stop,q Dd ys H' (s1.trans ss) (s1.free hD) hDl rd⟩
def K8{scope:Scope}{own:List Str}{kp:List Nat}{kn:List Str}{tg iter elt:Expr}{ifs:List Expr}{it:au->R (List D)}{t:FT}{c:au->R Bool}{f:FD}{pos:Pos}(hc:X.calm=true)(C:f6 X scope own kp kn)(hi:MM X tg iter it)
 (hg:∀fp s H,NZ (bB X scope (own++kn) fp s H) tg t) (Dq:∀fp s H,ur (bB X scope (own++kn) fp s H) ifs$ MH X.K c) (he:∀fp s H,PD (bB X scope (own++kn) fp s H) elt f)
 (hs:∀x,foldedSetIterable iter X.env x=pure x:=by intro _;rfl):PN X (.ListComp elt [⟨tg,iter,ifs,0⟩] scope pos) (dq it t c f own kp):=
 (DR hc C hi hg Dq he hs).imp λσ H Q h=>yA h
def pj:au->R Bool:=λ_=> .ok true
def Ji:ur X [] (MH X.K pj):=λpins s σ H Q I ⟨Z,B,δ,b,E,hf,q⟩=>Aj pins s σ H Q I (by cases hf;exact q H$ aR.refl H)
def Mh{c:au->R Bool}(h:PB X e c):ur X [e] (MH X.K c):=IT h
def Ay{i:Nat}{x:Str}{pos' oW:Pos}{scope:Scope}{own:List Str}{kp:List Nat}{kn:List Str}{tg iter elt:Expr}{ifs:List Expr}{it:au->R (List D)}{t:FT}{c:au->R Bool}{f:FD}{pos:Pos}(hc:X.calm=true)
 (hN:X.N.Nodup) (hx:X.N[i]? =some x) (Dl:X.env.scope.names.lookup x=some .local) (C:f6 X scope own kp kn) (hi:MM X tg iter it)
 (hg:∀fp s H,NZ (bB X scope (own++kn) fp s H) tg t) (Dq:∀fp s H,ur (bB X scope (own++kn) fp s H) ifs$ MH X.K c) (he:∀fp s H,PD (bB X scope (own++kn) fp s H) elt f)
 (zN:swapsWith (.ListComp elt [⟨tg,iter,ifs,0⟩] scope pos) (some$ .Name x pos') oW.line X.env=pure true:=by rfl)
 (hs:∀x,foldedSetIterable iter X.env x=pure x:=by intro _;rfl):J1 X (.Assign [.Name x pos'] (.ListComp elt [⟨tg,iter,ifs,0⟩] scope pos) oW) (bU i$ eNew$ dq it t c f own kp):=
 (vn hc hN hx Dl C hi hg Dq he zN hs).imp λD σ H h=>by
   have h1:=HP h;obtain⟨Z,B,δ,d,E,hf,q⟩:=h1;obtain⟨ds,h2,h3⟩:=R.aj hf;cases h3;refine yA ⟨Z,B,δ,ds,E,h2,λa xs H' s n e r=>q _ H' s ?_⟩
   unfold Rep;refine⟨a,xs,rfl, .inl ⟨λha=>?_, .inl e⟩,r.br λb o e nb=>⟨e,λhb=>nb$ Qab _ hb⟩⟩
   obtain⟨o,ho⟩:=E.bs a ha;rw[n] at ho;cases ho
end
def b8(N:List Str)(ds:List D):au:=ds.map .val++List.replicate (N.length - ds.length) .un
def wR(N:List Str)(F:FS):List D->R D:=λds=>(F$ b8 N ds).bind λo=>match o with | .rt d=> .ok d | .nx _=> .ok .cM
def KY{K:QcQ}{B:List Addr}{H:Hp}{N:List Str}{ds:List D}{vs:List V}(hB:∀a∈B,∃o,H a=some o)(r:aA K B H ds vs):dn K B B H (start N vs) (b8 N ds) where
 len:=by unfold start b8;simp [r.length]
 bs:=hB
 zb:=λa ha=>ha
 val:=λi d e=>by
  unfold b8 at e;unfold start;by_cases hi:i<ds.length
  .rw [Qat (by simpa using hi),Qad] at e
   cases q:ds[i]? with
   | none=>rw [q] at e;cases e
   | some d'=>
     rw[q] at e;cases e;obtain⟨x,h1,h2⟩:=r.get q;exact⟨x,by rw[Qat (by rw[Qaa,<-r.length];exact hi),Qad,h1];rfl,h2⟩
  .rw [Qal (by simpa using hi),QaS] at e
   split at e <;> cases e
 bld:=λi es e=>by
  unfold b8 at e;by_cases hi:i<ds.length
  .rw [Qat (by simpa using hi),Qad] at e
   cases q:ds[i]? with
   | none=>rw [q] at e;cases e
   | some d'=>rw [q] at e;cases e
  .rw [Qal (by simpa using hi),QaS] at e
   split at e <;> cases e
 dis:=λi j a es fs e=>by
  unfold b8 at e;by_cases hi:i<ds.length
  .rw [Qat (by simpa using hi),Qad] at e
   cases q:ds[i]? with
   | none=>rw [q] at e;cases e
   | some d'=>rw [q] at e;cases e
  .rw [Qal (by simpa using hi),QaS] at e
   split at e <;> cases e
def Mb{P:Program}{w:World}{K:QcQ}{mg:Aaf}{base:Heap}{x qual:Str}{st:Stmt}{f:Addr}{fd:FuncData}{N ps:List Str}{k:Nat}{F:FS}(Fn:Cz K x qual st f fd)(S:bp N ps (aC st))
 (fj:∀(fu:Value) (A:Around) (outer:List Env) (s:QcR) (H:Hp) (E:XK),dW k (A.deeper$ envOfC qual (aC st) s.heap.objs.size f fu)->
   ux (mn wM P w K mg base N qual (aC st) f fu A outer s H E).HQ (aQ st) F):jH P w K mg base wM (k+1) f fd ps (K9 K ps.length$ wR N F):=by
 refine Fn.ok S (λvs H Q E h=>h.1)$ λfu A outer s H vs Q E hr h=>⟨_,fj fu A outer s H E hr,?_⟩
 obtain⟨_,B,ds,d,hB,r,hg,q⟩:=h;obtain⟨o,h1,h2⟩:=R.aj hg;refine⟨B,B,b8 N ds,o,KY hB r,h1,?_⟩;have sm:∀{B':List Addr} {H':Hp},Ev B B H B' H'->aR H H':=fun {B' H'} ev b u e=>by
  by_cases hb:b∈B
  .exact(ev.zs b u e hb).1
  .exact(ev.br b u e hb).1
 cases o with
 | nx dh=>
   cases h2;exact λcu B' H' ev _=>q _ H' (sm ev) (by unfold Rep;rfl)
 | rt d'=>
   cases h2;exact λv B' H' ev z rr=>q v H' (sm ev)$ rr.br λb o e nb=>⟨e,λhb=>nb$ z b hb⟩
def Rep.int{K:QcQ}{B:List Addr}{i:Int}{v:V}:Rep K B H (.int i) v↔v= .int i:=by unfold Rep;exact Iff.rfl
def Rep.bl{K:QcQ}{B:List Addr}{i:Bool}{v:V}:Rep K B H (.bl i) v↔v= .bl i:=by unfold Rep;exact Iff.rfl
def Rep.str{K:QcQ}{B:List Addr}{v:V}:Rep K B H (.str i) v↔v= .str i:=by unfold Rep;exact Iff.rfl
def Rep.cM{K:QcQ}{B:List Addr}{v:V}:Rep K B H .cM v↔v= .cM:=by unfold Rep;exact Iff.rfl
def Rep.lst{K:QcQ}{B:List Addr}{ds:List D}{v:V}:Rep K B H (.lst ds) v↔∃a xs,v= .ref a/\yG K B H a xs/\aA K B H ds xs:=by rw[Rep]
def Rep.tup{K:QcQ}{B:List Addr}{ds:List D}{v:V}:Rep K B H (.tup ds) v↔∃a xs,v= .ref a/\De K B H a xs/\aA K B H ds xs:=by rw[Rep]
section
variable {X:Cx}
def oY.of{f:Value->Value->Sem Value}{r:R2}{g:D->D->R D}(h:qq X f r)
 (w:∀(B:List Addr) (H:Hp) (da db d:D) (x y:V) (Q:VK),(∀a∈B,∃o,H a=some o)->Rep X.K B H da x->Rep X.K B H db y->g da db= .ok d->(∀z H',aR H H'->Rep X.K B H' d z->Q z H')->r x y H Q):oY X f g:=by
 intro pins s σ H B da db d x y v u I hb rx ry ra rb hg;exact h pins s σ H x y v u _ I rx ry$ w B H da db d x y _ hb ra rb hg λz H' s1 r1=>⟨s1,r1⟩
def cO.of{f:Value}{r:List V->Hp->VK->Prop}{g:List D->R D}(h:kL X f r)
 (w:∀(B:List Addr) (H:Hp) (ds:List D) (d:D) (xs:List V) (Q:VK),(∀a∈B,∃o,H a=some o)->aA X.K B H ds xs->g ds= .ok d->(∀z H',aR H H'->Rep X.K B H' d z->Q z H')->r xs H Q):cO X f g:=by
 intro pins s σ H B ds d xs us I hb rx rs hg;exact h pins s σ H xs us _ I rx$ w B H ds d xs _ hb rs hg λz H' s1 r1=>⟨s1,r1⟩
def cO.or{f:Value}{g g1 g2:List D->R D}(h1:cO X f g1)(h2:cO X f g2)(e:∀a d,g a= .ok d->g1 a= .ok d\/g2 a= .ok d):cO X f g:=by
 intro pins s σ H B ds d xs us I hb rx rs hg;rcases e ds d hg with q | q
 .exact h1 pins s σ H B ds d xs us I hb rx rs q
 .exact h2 pins s σ H B ds d xs us I hb rx rs q
def JV(C:Int->Int->Bool)(g:Int->Int->Int):D->D->R D
 | .int i, .int j=>R.aX (C i j)$ .ok$ .int$ g i j
 | _,_=> .no
def D6{f:Value->Value->Sem Value}{C:Int->Int->Bool}{Cp:Int->Int->Prop}{g:Int->Int->Int}(h:qq X f (rI Cp λi j=> .int$ g i j))(hc:∀i j,C i j=true->Cp i j):oY X f (JV C g):=
 oY.of h λB H da db d x y Q _ ra rb hg q=>by
  unfold JV at hg;split at hg
  .obtain⟨h1,h2⟩:=R.aL hg;cases h2;exact⟨_,_,Rep.int.mp ra,Rep.int.mp rb,hc _ _ h1,q _ H (aR.refl H)$ Rep.int.mpr rfl⟩
  .cases hg
def Gp(g:Int->Int->Int):D->D->R D
 | .int i, .int j=> .ok$ .int$ g i j
 | _,_=> .no
def Oh{f:Value->Value->Sem Value}{g:Int->Int->Int}(h:qq X f (JW λi j=> .int$ g i j)):oY X f (Gp g):=
 oY.of h λB H da db d x y Q _ ra rb hg q=>by
  unfold Gp at hg;split at hg
  .cases hg;exact⟨_,_,Rep.int.mp ra,Rep.int.mp rb,q _ H (aR.refl H)$ Rep.int.mpr rfl⟩
  .cases hg
def Ra(g:Int->Int->Bool):D->D->R D
 | .int i, .int j=> .ok$ .bl$ g i j
 | _,_=> .no
def D2{f:Value->Value->Sem Value}{g:Int->Int->Bool}(h:qq X f (JW λi j=> .bl$ g i j)):oY X f (Ra g):=
 oY.of h λB H da db d x y Q _ ra rb hg q=>by
  unfold Ra at hg;split at hg
  .cases hg;exact⟨_,_,Rep.int.mp ra,Rep.int.mp rb,q _ H (aR.refl H)$ Rep.bl.mpr rfl⟩
  .cases hg
abbrev B0:D->D->R D:=Gp fun i j=>i - j
def Aq:oY X (binaryOp .Sub) B0:=Oh Ph
abbrev dY:D->D->R D:=JV (fun _ j=>decide$ 0<j/\j<1073741824) fun i j=>i / j
def lu:oY X (binaryOp .FloorDiv) dY:=D6 Kj λi j h=>(Qae h:0<j/\j<1073741824)
abbrev cX:D->D->R D:=JV (fun _ j=>decide$ 0<j) fun i j=>i % j
def cP:oY X (binaryOp .Mod) cX:=D6 Qj λi j h=>Qae h
abbrev F9:D->D->R D:=JV (fun i j=>decide$ 0<=j/\j<=1000000/\i.natAbs<2 ^ 64) fun i j=>i ^ j.toNat
def Jg:oY X (binaryOp .Pow) F9:=D6 Pt λi j h=>(Qae h:0<=j/\j<=1000000/\i.natAbs<2 ^ 64)
abbrev Sj:D->D->R D:=JV (fun _ j=>decide$ 0<=j) fun i j=>i / 2 ^ j.toNat
def RF:oY X (binaryOp .RShift) Sj:=D6 Qi λi j h=>Qae h
abbrev dBa:D->D->R D:=Gp fun i j=>Builtin.bitAnd i j
abbrev dBo:D->D->R D:=Gp fun i j=>Builtin.bitOr i j
abbrev dBx:D->D->R D:=Gp fun i j=>Builtin.bitXor i j
abbrev OR:D->D->R D:=Ra fun i j=>decide$ i<j
def Hk:oY X (compareOp .Lt) OR:=D2 S6
abbrev WQ:D->D->R D:=Ra fun i j=>decide$ i<=j
def W0:oY X (compareOp .LtE) WQ:=D2 S8
abbrev Q0:D->D->R D:=Ra fun i j=>decide$ j<i
def Li:oY X (compareOp .Gt) Q0:=D2 RE
abbrev P0:D->D->R D:=Ra fun i j=>decide$ j<=i
def Lh:oY X (compareOp .GtE) P0:=D2 SA
def yG.HB{K:QcQ}{B:List Addr}{H:Hp}{a:Addr}{xs:List V}(h:H a=some (.lst xs))(n:a ∉ B):yG K B H a xs:= .inl ⟨n, .inl h⟩
def Inv.Pq{pins:Aaa}{s:QcR}{a:Addr}{xs:List V}{B:List Addr}(I:Inv X pins σ H s)(h:yG X.K B H a xs):∃(its:List Value) (n:Nat),Vals xs its/\s.heap.get? a=some {cls:= .type "list",data:= .seq its.toArray n}/\xs.length<=sizeLine:=by
 rcases h with⟨_,h⟩ | ⟨its,n,hk,hz,r⟩
 .obtain⟨z,its,n,r,e⟩:=h.ok I.hok;exact⟨its,n,r,e,z⟩
 .exact⟨its,n,r,I.yd a _ hk,hz⟩
def DG:qq X (binaryOp .Add) (λx y H Q=>∃B l b xs zs,x= .ref l/\y= .ref b/\yG X.K B H l xs/\yG X.K B H b zs/\xs.length+zs.length<=sizeLine/\∀p,H p=none->Q (.ref p) (upd H p$ .lst$ xs++zs)):=by
 intro pins s σ H x y v u Q I rx ry h;obtain⟨B,l,b,xs,zs,rfl,rfl,hH,hB,hz,q⟩:=h;cases rx;cases ry;obtain⟨its,n,r,e,_⟩:=I.Pq hH;obtain⟨UA,n2,r2,e2,_⟩:=I.Pq hB;have l1:=r.length;have l2:=r2.length;refine PySem.P.add_list e e2 ?_ (by rw[QaD,QaD];omega)
 have ea:its.toArray++UA.toArray=(its++UA).toArray:=by simp
 rw[ea];exact⟨.ref _,_,I.Po (t':=s.toks) (r.append r2) (by rw[Qar];omega),rfl,q _ I.fresh⟩
def bu:D->D->R D
 | .int i, .int j=> .ok$ .int$ i+j
 | .str a, .str b=>R.aX (decide$ a.length+b.length<=sizeLine)$ .ok$ .str$ a++b
 | .lst a, .lst b=>R.aX (decide$ a.length+b.length<=sizeLine)$ .ok$ .lst$ a++b
 | _,_=> .no
def aY:oY X (binaryOp .Add) bu:=by
 intro pins s σ H B da db d x y v u I hb rx ry ra rb hg;unfold bu at hg;split at hg
 .cases hg;exact N7 pins s σ H x y v u _ I rx ry ⟨_,_,Rep.int.mp ra,Rep.int.mp rb,aR.refl H,Rep.int.mpr rfl⟩
 .obtain⟨h1,h2⟩:=R.aL hg;cases h2;exact BW pins s σ H x y v u _ I rx ry ⟨_,_,Rep.str.mp ra,Rep.str.mp rb,Qae h1,aR.refl H,Rep.str.mpr rfl⟩
 .obtain⟨h1,h2⟩:=R.aL hg;cases h2;obtain⟨a1,xs1,rfl,l1,r1⟩:=Rep.lst.mp ra;obtain⟨a2,xs2,rfl,l2,r2⟩:=Rep.lst.mp rb;refine DG pins s σ H _ _ v u _ I rx ry ⟨B,a1,a2,xs1,xs2,rfl,rfl,l1,l2,by rw[<-r1.length,<-r2.length];exact Qae h1,λp hp=>⟨bA hp,Rep.lst.mpr ⟨p,_,rfl, .HB aZ λha=>?_,(r1.append r2).same$ bA hp⟩⟩⟩
  obtain⟨o,ho⟩:=hb p ha;rw[hp] at ho;cases ho
 .cases hg
def Kt:qq X (binaryOp .Mult) (λx y H Q=>∃z n,x= .str z/\y= .int n/\MulOk z n/\Q (.str$ Txt.mul z n) H):=by
 intro pins s σ H x y v u Q I rx ry h;obtain⟨z,n,rfl,rfl,hm,q⟩:=h;obtain⟨t,rfl⟩:=rx;obtain⟨t',rfl⟩:=ry;exact SB.mul hm λt2 k=>⟨.str _,H,I.tok _,⟨_,rfl⟩,q⟩
end
section
variable {X:Cx}
def mulOk_of{x:Str}{n:Int}(h1: -(2 ^ 63)<=n)(h2:n<2 ^ 63)(h3:x.length*n.toNat<=sizeLine):MulOk x n:=by
 refine⟨by simp only[Qbn,decide_eq_false_iff_not];omega,λhn _=>?_,λhn _=>?_⟩
 .have hz:=Qav;have e:(n.toNat:Int)=n:=by omega
  have h4:(x.length:Int)*n<=16777216:=by
   have:((x.length*n.toNat:Nat):Int)<=((16777216:Nat):Int):=Int.ofNat_le.mpr (by omega)
   rw[Int.natCast_mul,e] at this;exact this
  have:(x.length:Int)<=(2 ^ 63 - 1) / n:=(Int.le_ediv_iff_mul_le$ by omega).mpr (by omega)
  omega
 .unfold Builtin.Str.tooLong;exact Qaf (by omega)
def jK:D->D->R D
 | .int i, .int j=>R.aX (decide$ (-(2 ^ 64)<i/\i<2 ^ 64)\/(-(2 ^ 64)<j/\j<2 ^ 64))$ .ok$ .int$ i*j
 | .str x, .int n=>R.aX (decide (-(2 ^ 63)<=n/\n<2 ^ 63/\x.length*n.toNat<=sizeLine))$ .ok$ .str$ Txt.mul x n
 | _,_=> .no
def pJ:oY X (binaryOp .Mult) jK:=by
 intro pins s σ H B da db d x y v u I hb rx ry ra rb hg;unfold jK at hg;split at hg
 .obtain⟨h1,h2⟩:=R.aL hg;cases h2;have h1:=Qae h1;exact O4 pins s σ H x y v u _ I rx ry ⟨_,_,Rep.int.mp ra,Rep.int.mp rb,h1,aR.refl H,Rep.int.mpr rfl⟩
 .obtain⟨h1,h2⟩:=R.aL hg;cases h2;have h1:=Qae h1;exact Kt pins s σ H x y v u _ I rx ry ⟨_,_,Rep.str.mp ra,Rep.int.mp rb,mulOk_of h1.1 h1.2.1 h1.2.2,aR.refl H,Rep.str.mpr rfl⟩
 .cases hg
mutual
def toPy:D->PyData
 | .cM=> .none
 | .bl b=> .bool b
 | .int i=> .int i
 | .str x=> .str x
 | .lst ds=> .list$ lp ds
 | .tup ds=> .tuple$ lp ds
 | .dct _ _=> .dict []
def lp:List D->List PyData
 | []=>[]
 | d ::ds=>toPy d ::lp ds
end
mutual
def dX:D->Bool
 | .dct _ _=>false
 | .lst ds=>ie ds
 | .tup ds=>ie ds
 | _=>true
def ie:List D->Bool
 | []=>true
 | d ::ds=>dX d && ie ds
end
mutual
theorem Rep.reads{pins:Aaa}{s:QcR}{B:List Addr}(I:Inv X pins σ H s):∀{d:D} {v:V} {u:Value},dX d=true->Rep X.K B H d v->RelV v u->∃as,Reads s.heap u (toPy d) as
 | .cM,v,u,_,r,q=>by rw[Rep.cM.mp r] at q;cases q;unfold toPy;exact⟨_, .none⟩
 | .bl b,v,u,_,r,q=>by rw[Rep.bl.mp r] at q;cases q;unfold toPy;exact⟨_, .bool b⟩
 | .int i,v,u,_,r,q=>by rw[Rep.int.mp r] at q;obtain⟨t,rfl⟩:=q;unfold toPy;exact⟨_, .int i t⟩
 | .str x,v,u,_,r,q=>by rw[Rep.str.mp r] at q;obtain⟨t,rfl⟩:=q;unfold toPy;exact⟨_, .str x t⟩
 | .lst ds,v,u,hp,r,q=>by
   obtain⟨a,xs,rfl,l,rs⟩:=Rep.lst.mp r;cases q;obtain⟨its,rv,⟨o,n,e,hc,hd,he⟩,_⟩:=I.list l.sq;obtain⟨as,ra⟩:=aA.reads I (by unfold dX at hp;exact hp) rs rv
   unfold toPy;exact⟨_, .list e hc he$ by simpa using ra⟩
 | .tup ds,v,u,hp,r,q=>by
   obtain⟨a,xs,rfl,l,rs⟩:=Rep.tup.mp r;cases q;obtain⟨its,rv,⟨o,e,hc,n,hd⟩,_⟩:=I.tuple l.sq;obtain⟨as,ra⟩:=aA.reads I (by unfold dX at hp;exact hp) rs rv
   unfold toPy;exact⟨_, .tuple e hc hd$ by simpa using ra⟩
 | .dct _ _,v,u,hp,r,q=>by unfold dX at hp;cases hp
theorem aA.reads{pins:Aaa}{s:QcR}{B:List Addr}(I:Inv X pins σ H s):∀{ds:List D} {vs:List V} {us:List Value},ie ds=true->aA X.K B H ds vs->Vals vs us->∃as,ReadsAll s.heap us (lp ds) as
 | [],vs,us,_,r,q=>by unfold aA at r;subst r;cases q;unfold lp;exact⟨_, .nil⟩
 | d ::ds,vs,us,hp,r,q=>by
   obtain⟨x,xs,rfl,r1,r2⟩:=r.b7;cases q with
   | cons q1 q2=>
     unfold ie at hp;obtain⟨h1,h2⟩:=Qa8.mp hp;obtain⟨as,a1⟩:=Rep.reads I h1 r1 q1;obtain⟨bs,a2⟩:=aA.reads I h2 r2 q2;unfold lp;exact⟨_, .cons a1 a2⟩
end
def MA:D->D->R Bool
 | .int i, .int j=> .ok$ decide$ i=j
 | .str x, .str y=> .ok$ decide$ x=y
 | .bl a, .bl b=> .ok$ decide$ a=b
 | d,e=>R.aX (dX d && dX e && SeqAt.shaped (toPy d) && SeqAt.shaped (toPy e))$ .ok$ PyData.eqv (toPy d)$ toPy e
def sS(d e:D):R D:=(MA d e).bind λb=> .ok$ .bl b
def Ma(d e:D):R D:=(MA d e).bind λb=> .ok$ .bl$ !b
def oT(hu:X.A.units+64<cLine):oY X (compareOp .Eq) sS:=by
 intro pins s σ H B da db d x y v u I hb rx ry ra rb hg;obtain⟨b,h1,h2⟩:=R.aj hg;cases h2;unfold MA at h1;split at h1
 .cases h1;rename_i i j;have:=Ik pins s σ H x y v u (λz H'=>aR H H'/\Rep X.K B H' (.bl$ decide$ i=j) z) I rx ry
  rw[Rep.int.mp ra,Rep.int.mp rb] at this;refine this ⟨rfl,aR.refl H,Rep.bl.mpr ?_⟩;simp [V.int.injEq]
 .cases h1;rename_i i j;have:=Ik pins s σ H x y v u (λz H'=>aR H H'/\Rep X.K B H' (.bl$ decide$ i=j) z) I rx ry
  rw[Rep.str.mp ra,Rep.str.mp rb] at this;refine this ⟨rfl,aR.refl H,Rep.bl.mpr ?_⟩;simp [V.str.injEq]
 .cases h1;rename_i i j;have:=Ik pins s σ H x y v u (λz H'=>aR H H'/\Rep X.K B H' (.bl$ decide$ i=j) z) I rx ry
  rw[Rep.bl.mp ra,Rep.bl.mp rb] at this;refine this ⟨rfl,aR.refl H,Rep.bl.mpr ?_⟩;simp [V.bl.injEq]
 .obtain⟨h3,h4⟩:=R.aL h1;cases h4;simp only[QaL] at h3;obtain⟨⟨⟨p1,p2⟩,s1⟩,s2⟩:=h3;obtain⟨as,r1⟩:=ra.reads I p1 rx;obtain⟨bs,r2⟩:=rb.reads I p2 ry;exact eq_dataH r1 r2 s1 s2 hu ⟨.bl _,H,I,rfl,aR.refl H,Rep.bl.mpr rfl⟩
def Pn(hu:X.A.units+64<cLine):oY X (compareOp .NotEq) Ma:=by
 intro pins s σ H B da db d x y v u I hb rx ry ra rb hg;obtain⟨b,h1,h2⟩:=R.aj hg;cases h2;unfold MA at h1;split at h1
 .cases h1;rename_i i j;have:=HK pins s σ H x y v u (λz H'=>aR H H'/\Rep X.K B H' (.bl$ !decide (i=j)) z) I rx ry
  rw[Rep.int.mp ra,Rep.int.mp rb] at this;refine this ⟨rfl,aR.refl H,Rep.bl.mpr ?_⟩;simp [V.int.injEq]
 .cases h1;rename_i i j;have:=HK pins s σ H x y v u (λz H'=>aR H H'/\Rep X.K B H' (.bl$ !decide (i=j)) z) I rx ry
  rw[Rep.str.mp ra,Rep.str.mp rb] at this;refine this ⟨rfl,aR.refl H,Rep.bl.mpr ?_⟩;simp [V.str.injEq]
 .cases h1;rename_i i j;have:=HK pins s σ H x y v u (λz H'=>aR H H'/\Rep X.K B H' (.bl$ !decide (i=j)) z) I rx ry
  rw[Rep.bl.mp ra,Rep.bl.mp rb] at this;refine this ⟨rfl,aR.refl H,Rep.bl.mpr ?_⟩;simp [V.bl.injEq]
 .obtain⟨h3,h4⟩:=R.aL h1;cases h4;simp only[QaL] at h3;obtain⟨⟨⟨p1,p2⟩,s1⟩,s2⟩:=h3;obtain⟨as,r1⟩:=ra.reads I p1 rx;obtain⟨bs,r2⟩:=rb.reads I p2 ry;exact ne_dataH r1 r2 s1 s2 hu ⟨.bl _,H,I,rfl,aR.refl H,Rep.bl.mpr rfl⟩
def strs?:List D->Option (List Str)
 | []=>some []
 | .str x ::ds=>(strs? ds).map (x ::·)
 | _ ::_=>none
theorem lh{K:QcQ}{B:List Addr}:∀{ds:List D} {xs:List V} {ss:List Str},aA K B H ds xs->strs? ds=some ss->xs=ss.map V.str
 | [],xs,ss,r,h=>by unfold aA at r;subst r;cases h;rfl
 | d ::ds,xs,ss,r,h=>by
   obtain⟨x,r',rfl,r1,r2⟩:=r.b7;cases d with
   | str z=>
     unfold strs? at h;cases e:strs? ds with
     | none=>rw [e] at h;cases h
     | some tt=>
       rw[e] at h;cases h;rw[Rep.str.mp r1,lh r2 e];rfl
   | _=>cases h
def ints?:List D->Option (List Int)
 | []=>some []
 | .int x ::ds=>(ints? ds).map (x ::·)
 | _ ::_=>none
theorem gM{K:QcQ}{B:List Addr}:∀{ds:List D} {xs:List V} {ss:List Int},aA K B H ds xs->ints? ds=some ss->xs=ss.map V.int
 | [],xs,ss,r,h=>by unfold aA at r;subst r;cases h;rfl
 | d ::ds,xs,ss,r,h=>by
   obtain⟨x,r',rfl,r1,r2⟩:=r.b7;cases d with
   | int z=>
     unfold ints? at h;cases e:ints? ds with
     | none=>rw [e] at h;cases h
     | some tt=>
       rw[e] at h;cases h;rw[Rep.int.mp r1,gM r2 e];rfl
   | _=>cases h
def inD(d e:D):R Bool:=match d,e with
 | .str x, .lst ds=>(match strs? ds with | some ss=> .ok (ss.contains x) | none=> .no)
 | .str x, .tup ds=>(match strs? ds with | some ss=> .ok (ss.contains x) | none=> .no)
 | .str x, .str y=> .ok$ !(Builtin.Str.occurrences y x 0 y.length 1).isEmpty
 | .int x, .lst ds=>(match ints? ds with | some ss=> .ok (ss.contains x) | none=> .no)
 | .int x, .tup ds=>(match ints? ds with | some ss=> .ok (ss.contains x) | none=> .no)
 | _,_=> .no
def Ce(d e:D):R D:=(inD d e).bind λb=> .ok$ .bl b
def mP(d e:D):R D:=(inD d e).bind λb=> .ok$ .bl$ !b
theorem vX(x:Str):∀ss:List Str,MZ (.str x) (ss.map V.str)=ss.contains x
 | []=>rfl
 | y ::ss=>by
   unfold MZ;rw[Qay,Qby];have ih:=vX x ss;unfold MZ at ih;rw[ih];show(y==x || ss.contains x)=_
   rw[QcB];congr 1;exact Qbp.mpr ⟨λh=>by simpa using(Qa3.mp h).symm,λh=>by simpa using(Qa3.mp h).symm⟩
theorem vA(x:Int):∀ss:List Int,MZ (.int x) (ss.map V.int)=ss.contains x
 | []=>rfl
 | y ::ss=>by
   unfold MZ;rw[Qay,Qby];have ih:=vA x ss;unfold MZ at ih;rw[ih];show(y==x || ss.contains x)=_
   rw[QcB];congr 1;exact Qbp.mpr ⟨λh=>by simpa using(Qa3.mp h).symm,λh=>by simpa using(Qa3.mp h).symm⟩
def xQ(ss:List Int):(ss.map V.int).all oO=true:=by
 rw[List.all_map];simp [QaJ,oO]
def xW(ss:List Str):(ss.map V.str).all oO=true:=by
 rw[List.all_map];simp [QaJ,oO]
def GW{neg:Bool}{op:CmpOp}{g:D->D->R D}(h1:qq X (compareOp op) (Wr X.K neg))(h2:qq X (compareOp op) (λx y H Q=>∃i j,x= .str i/\y= .str j/\Q (.bl$ if neg then !(!(Builtin.Str.occurrences j i 0 j.length 1).isEmpty) else(!(Builtin.Str.occurrences j i 0 j.length 1).isEmpty)) H))
 (hg:∀d e r,g d e= .ok r->∃b,inD d e= .ok b/\r= .bl (if neg then !b else b)):oY X (compareOp op) g:=by
 intro pins s σ H B da db d x y v u I hb rx ry ra rb hg';obtain⟨b,hi,rfl⟩:=hg da db d hg';unfold inD at hi;split at hi
 .rename_i z ds;split at hi
  .rename_i ss e;cases hi;obtain⟨a,xs,rfl,l,rs⟩:=Rep.lst.mp rb;refine h1 pins s σ H x _ v u _ I rx ry ⟨a,xs,rfl, .inl l.sq,by rw[Rep.str.mp ra];rfl,by rw[lh rs e];exact xW _,aR.refl H,Rep.bl.mpr ?_⟩
   rw[lh rs e,Rep.str.mp ra,vX]
  .cases hi
 .rename_i z ds;split at hi
  .rename_i ss e;cases hi;obtain⟨a,xs,rfl,l,rs⟩:=Rep.tup.mp rb;refine h1 pins s σ H x _ v u _ I rx ry ⟨a,xs,rfl, .inr l.sq,by rw[Rep.str.mp ra];rfl,by rw[lh rs e];exact xW _,aR.refl H,Rep.bl.mpr ?_⟩
   rw[lh rs e,Rep.str.mp ra,vX]
  .cases hi
 .cases hi;exact h2 pins s σ H x y v u _ I rx ry ⟨_,_,Rep.str.mp ra,Rep.str.mp rb,aR.refl H,Rep.bl.mpr rfl⟩
 .rename_i z ds;split at hi
  .rename_i ss e;cases hi;obtain⟨a,xs,rfl,l,rs⟩:=Rep.lst.mp rb;refine h1 pins s σ H x _ v u _ I rx ry ⟨a,xs,rfl, .inl l.sq,by rw[Rep.int.mp ra];rfl,by rw[gM rs e];exact xQ _,aR.refl H,Rep.bl.mpr ?_⟩
   rw[gM rs e,Rep.int.mp ra,vA]
  .cases hi
 .rename_i z ds;split at hi
  .rename_i ss e;cases hi;obtain⟨a,xs,rfl,l,rs⟩:=Rep.tup.mp rb;refine h1 pins s σ H x _ v u _ I rx ry ⟨a,xs,rfl, .inr l.sq,by rw[Rep.int.mp ra];rfl,by rw[gM rs e];exact xQ _,aR.refl H,Rep.bl.mpr ?_⟩
   rw[gM rs e,Rep.int.mp ra,vA]
  .cases hi
 .cases hi
def BO:oY X (compareOp .In) Ce:=GW (neg:=false) Fd FI λd e r h=>by
 obtain⟨b,h1,h2⟩:=R.aj h;cases h2;exact⟨b,h1,rfl⟩
def uV:oY X (compareOp .NotIn) mP:=GW (neg:=true) zB zE λd e r h=>by
 obtain⟨b,h1,h2⟩:=R.aj h;cases h2;exact⟨b,h1,rfl⟩
def du(d e:D):R D:=match d,e with
 | .lst ds, .int i=>(match zj ds i with | some x=> .ok x | none=> .no)
 | .tup ds, .int i=>(match zj ds i with | some x=> .ok x | none=> .no)
 | .str x, .int i=>R.aX (decide$ x.length<=sizeLine)$ match zj x.cps.toList i with | some c=> .ok (.str ⟨#[c]⟩) | none=> .no
 | _,_=> .no
def Bf{K:QcQ}{B:List Addr}{ds:List D}{xs:List V}{i:Int}{d:D}(r:aA K B H ds xs)(h:zj ds i=some d):∃x,zj xs i=some x/\Rep K B H d x:=by
 unfold zj at h ⊢;rw[<-r.length];cases e:FU ds.length i with
 | none=>rw [e] at h;cases h
 | some j=>
   rw[e] at h;exact r.get h
def RQ(ha:PD X a fa)(hb:PD X b fb)(hs:y_ b):PD X (.Subscript a b pos) (e2 du fa fb):=by
 refine(R5 (r:=ZX X.K) OS ha hb hs).imp λσ H Q ⟨Z,B,δ,d,E,hf,q⟩=>?_
 obtain⟨d1,h1,h2⟩:=R.aj hf;obtain⟨d2,h3,h4⟩:=R.aj h2;refine⟨Z,B,δ,d1,E,h1,λv1 H1 s1 r1=>⟨Z,B,δ,d2,E.same s1,h3,λv2 H2 s2 r2=>?_⟩⟩
 have Bu:=r1.same s2;unfold du at h4;split at h4
 .split at h4
  .rename_i e;cases h4;obtain⟨p,xs,rfl,l,rs⟩:=Rep.lst.mp Bu;obtain⟨y,e1,e2⟩:=Bf rs e;exact .inl ⟨p,xs,_,y,rfl,Rep.int.mp r2,l.sq,e1,q y H2 (s1.trans s2) e2⟩
  .cases h4
 .split at h4
  .rename_i e;cases h4;obtain⟨p,xs,rfl,l,rs⟩:=Rep.tup.mp Bu;obtain⟨y,e1,e2⟩:=Bf rs e;exact .inr$ .inl ⟨p,xs,_,y,rfl,Rep.int.mp r2,l.sq,e1,q y H2 (s1.trans s2) e2⟩
  .cases h4
 .obtain⟨hl,h5⟩:=R.aL h4;split at h5
  .rename_i e;cases h5;exact .inr$ .inr ⟨_,_,_,Rep.str.mp Bu,Rep.int.mp r2,Qae hl,e,q _ H2 (s1.trans s2)$ Rep.str.mpr rfl⟩
  .cases h5
 .cases h4
abbrev FO:=au->R (Option Int)
def tOD(K:QcQ)(f:FO):TO:=λσ H Q=>∃Z B δ o,dn K Z B H σ δ/\f δ= .ok o/\∀H',aR H H'->Q o H'
def PO.imp{X:Cx}{e:Option Expr}{t t':TO}(h:PO X e t)(w:∀σ H Q,t' σ H Q->t σ H Q):PO X e t':=λpins s σ H Q I hq=>h pins s σ H Q I$ w σ H Q hq
abbrev PP(X:Cx)(e:Option Expr)(f:FO):Prop:=PO X e$ tOD X.K f
def h_:FO:=λ_=> .ok none
def eB(f:FD):FO:=λδ=>(f δ).bind λd=>match d with | .int i=> .ok (some i) | _=> .no
def Mg:PP X none h_:=Kh.imp λσ H Q ⟨Z,B,δ,o,E,hf,q⟩=>by cases hf;exact q H$ aR.refl H
def Lj(h:PD X e f):PP X (some e) (eB f):=(Kg h).imp λσ H Q ⟨Z,B,δ,o,E,hf,q⟩=>by
 obtain⟨d,h1,h2⟩:=R.aj hf;cases d with
 | int i=>cases h2;exact⟨Z,B,δ, .int i,E,h1,λv H1 s1 r1=>⟨i,Rep.int.mp r1,q H1 s1⟩⟩
 | _=>cases h2
def P8:N2 X (λx lo hi H Q=>∃z,x= .str z/\z.length<=sizeLine/\Q (.str$ Txt.slice z lo hi) H):=by
 intro pins s σ H x v vl vu lo hi sl Q I rx hs pl pu h;obtain⟨z,rfl,hz,q⟩:=h;obtain⟨t,rfl⟩:=rx;refine⟨"str",_,F.slot_str_getitem.lookup,QbZ _ _ _,?_⟩;have fin:∀t' k,EP X pins σ Q (.str (Txt.slice z lo hi) t') {s with toks:=k}:=λt' k=>⟨.str _,H,I.tok _,⟨_,rfl⟩,q⟩
 obtain⟨o,ho,hc,hd⟩:=hs;cases pl with
 | none=>
   cases pu with
   | none=>exact QbN (l:=none) (u:=none) (st:=none) ⟨o,ho,hc,hd⟩ rfl$ Qcs ⟨QaK (Qcf z _ _) hz,fin⟩
   | int j u=>exact QbN (l:=none) (u:=some (j,u)) (st:=none) ⟨o,ho,hc,hd⟩ rfl$ Qcs ⟨QaK (Qcf z _ _) hz,fin⟩
 | int i t1=>
   cases pu with
   | none=>exact QbN (l:=some (i,t1)) (u:=none) (st:=none) ⟨o,ho,hc,hd⟩ rfl$ Qcs ⟨QaK (Qcf z _ _) hz,fin⟩
   | int j u=>exact QbN (l:=some (i,t1)) (u:=some (j,u)) (st:=none) ⟨o,ho,hc,hd⟩ rfl$ Qcs ⟨QaK (Qcf z _ _) hz,fin⟩
def cutD{α:Type}(xs:List α)(lo hi:Option Int):List α:=(xs.drop$ HT.t9 xs.length 0 lo).take$ HT.t9 xs.length xs.length hi - HT.t9 xs.length 0 lo
def JS(d:D)(lo hi:Option Int):R D:=match d with
 | .str x=>R.aX (decide$ x.length<=sizeLine)$ .ok$ .str$ Txt.slice x lo hi
 | .lst ds=> .ok$ .lst$ cutD ds lo hi
 | _=> .no
def Jo{K:QcQ}{B:List Addr}{ds:List D}{xs:List V}(r:aA K B H ds xs)(lo hi:Option Int):aA K B H (cutD ds lo hi) (BG xs lo hi):=by
 unfold cutD BG;rw[<-r.length];exact(r.drop _).take _
def wU(f:FD)(fl fh:FO):FD:=λδ=>(f δ).bind λd=>(fl δ).bind λlo=>(fh δ).bind λhi=>JS d lo hi
def SD{lo hi:Option Expr}{fl fh:FO}(he:PD X e f)(hl:PP X lo fl)(hh:PP X hi fh):PD X (.Subscript e (.Slice lo hi none p2) pos) (wU f fl fh):=by
 refine(Jw (P8.or L9) he hl hh).imp λσ H Q ⟨Z,B,δ,d,E,hf,q⟩=>?_
 obtain⟨d1,h1,h2⟩:=R.aj hf;obtain⟨l,h3,h4⟩:=R.aj h2;obtain⟨h,h5,h6⟩:=R.aj h4;refine⟨Z,B,δ,d1,E,h1,λv1 H1 s1 r1=>⟨Z,B,δ,l,E.same s1,h3,λH2 s2=>⟨Z,B,δ,h,(E.same s1).same s2,h5,λH3 s3=>?_⟩⟩⟩
 have sA:aR H H3:=s1.trans$ s2.trans s3;have Bu:=r1.same$ s2.trans s3;unfold JS at h6;split at h6
 .obtain⟨hz,h7⟩:=R.aL h6;cases h7;exact .inl ⟨_,Rep.str.mp Bu,Qae hz,q _ H3 sA$ Rep.str.mpr rfl⟩
 .cases h6;obtain⟨a,xs,rfl,ls,rs⟩:=Rep.lst.mp Bu;refine .inr ⟨a,xs,rfl,ls.sq,λp hp=>q _ _ (sA.trans$ bA hp)$ Rep.lst.mpr ⟨p,_,rfl, .HB aZ λha=>?_,(Jo rs l h).same$ bA hp⟩⟩
  obtain⟨o,ho⟩:=(E.same sA).bs p ha;rw[hp] at ho;cases ho
 .cases h6
end
end L2
end
section
namespace L2
open PySem PySem.Spec PyProof.Rows
section
variable {X:Cx}
def aA.one{K:QcQ}{B:List Addr}{d:D}{xs:List V}(h:aA K B H [d] xs):∃x,xs=[x]/\Rep K B H d x:=by
 obtain⟨x,r,rfl,h1,h2⟩:=h.b7;unfold aA at h2;subst h2;exact⟨x,rfl,h1⟩
def aA.two{K:QcQ}{B:List Addr}{d e:D}{xs:List V}(h:aA K B H [d,e] xs):∃x y,xs=[x,y]/\Rep K B H d x/\Rep K B H e y:=by
 obtain⟨x,r,rfl,h1,h2⟩:=h.b7;obtain⟨y,rfl,h3⟩:=h2.one;exact⟨x,y,rfl,h1,h3⟩
def kZ:List D->R D
 | [.str x]=>R.aX (decide$ x.length<=sizeLine)$ .ok$ .int x.length
 | [.lst ds]=> .ok$ .int ds.length
 | [.tup ds]=> .ok$ .int ds.length
 | _=> .no
def iR:cO X (.builtin "len") kZ:=cO.of I0 λB H ds d xs Q _ rs hg q=>by
 unfold kZ at hg;split at hg
 .obtain⟨h1,h2⟩:=R.aL hg;cases h2;obtain⟨x,rfl,r⟩:=rs.one;exact⟨x,_,rfl,by rw[Rep.str.mp r];exact⟨Qae h1,rfl⟩,q _ H (aR.refl H)$ Rep.int.mpr rfl⟩
 .cases hg;obtain⟨x,rfl,r⟩:=rs.one;obtain⟨a,ys,rfl,l,r⟩:=Rep.lst.mp r;exact⟨_,_,rfl, .inl ⟨ys,l.sq,rfl⟩,q _ H (aR.refl H)$ Rep.int.mpr$ by rw[r.length]⟩
 .cases hg;obtain⟨x,rfl,r⟩:=rs.one;obtain⟨a,ys,rfl,l,r⟩:=Rep.tup.mp r;exact⟨_,_,rfl, .inr ⟨ys,l.sq,rfl⟩,q _ H (aR.refl H)$ Rep.int.mpr$ by rw[r.length]⟩
 .cases hg
def cInt:List D->R D
 | [.int i]=> .ok$ .int i
 | [.bl b]=> .ok$ .int$ if b then 1 else 0
 | _=> .no
def Td:cO X (.type "int") cInt:=cO.of EO λB H ds d xs Q _ rs hg q=>by
 unfold cInt at hg;split at hg
 .cases hg;obtain⟨x,rfl,r⟩:=rs.one;exact .inl ⟨_,by rw[Rep.int.mp r],q _ H (aR.refl H)$ Rep.int.mpr rfl⟩
 .cases hg;obtain⟨x,rfl,r⟩:=rs.one;exact .inr ⟨_,by rw[Rep.bl.mp r],q _ H (aR.refl H)$ Rep.int.mpr rfl⟩
 .cases hg
def cStr:List D->R D
 | [.int i]=>R.aX (decide$ i.natAbs.log2<1920)$ .ok$ .str$ toString i
 | _=> .no
def TY:cO X (.type "str") cStr:=cO.of zA λB H ds d xs Q _ rs hg q=>by
 unfold cStr at hg;split at hg
 .obtain⟨h1,h2⟩:=R.aL hg;cases h2;obtain⟨x,rfl,r⟩:=rs.one;exact⟨_,by rw[Rep.int.mp r],Qae h1,q _ H (aR.refl H)$ Rep.str.mpr rfl⟩
 .cases hg
def IA:List D->R D
 | [.int i, .int j]=> .ok$ .int$ if j<i then j else i
 | _=> .no
def R1(hc:X.calm=true):cO X (.builtin "min") IA:=cO.of (Fs hc) λB H ds d xs Q _ rs hg q=>by
 unfold IA at hg;split at hg
 .cases hg;obtain⟨x,y,rfl,r1,r2⟩:=rs.two;exact⟨_,_,by rw[Rep.int.mp r1,Rep.int.mp r2],q _ H (aR.refl H)$ Rep.int.mpr rfl⟩
 .cases hg
def Xe:List D->R D
 | [.int i, .int j]=> .ok$ .int$ if j > i then j else i
 | _=> .no
def zx:List D->R D
 | [.lst ds]=> .ok$ .tup ds
 | [.tup ds]=> .ok$ .tup ds
 | _=> .no
def Em:cO X (.type "tuple") zx:=cO.of xp λB H ds d xs Q hb rs hg q=>by
 unfold zx at hg;split at hg
 .cases hg;obtain⟨x,rfl,r⟩:=rs.one;obtain⟨a,ys,rfl,l,r⟩:=Rep.lst.mp r;refine⟨a,ys,rfl, .inl ⟨l.sq,λp hp=>q _ _ (bA hp)$ Rep.tup.mpr ⟨p,ys,rfl, .inl ⟨λha=>?_, .inl aZ⟩,r.same$ bA hp⟩⟩⟩
  obtain⟨o,ho⟩:=hb p ha;rw[hp] at ho;cases ho
 .cases hg;obtain⟨x,rfl,r⟩:=rs.one;have r0:=r;obtain⟨a,ys,rfl,l,r⟩:=Rep.tup.mp r;exact⟨a,ys,rfl, .inr ⟨l.sq,q _ H (aR.refl H) r0⟩⟩
 .cases hg
def ZL:List D->R D
 | [.lst ds]=> .ok$ .lst ds
 | [.tup ds]=> .ok$ .lst ds
 | _=> .no
def cAbs:List D->R D
 | [.int i]=> .ok$ .int$ if i<0 then -i else i
 | _=> .no
def P9:List D->R D
 | [.lst ds]=>(match ints? ds with | some ns=> .ok (.int ns.sum) | none=> .no)
 | _=> .no
theorem jz:∀{ns:List Int} {us:List Value},Vals (ns.map V.int) us->∃l:List (Int × Tok),us=l.map (λp=>Value.int p.1 p.2)/\l.map (·.1)=ns
 | [],_, .nil=>⟨[],rfl,rfl⟩
 | n ::ns,_, .cons r t=>by
   obtain⟨l,rfl,e⟩:=jz t;obtain⟨tk,rfl⟩:=r;exact⟨(n,tk) ::l,rfl,by rw[Qay,e]⟩
def Tg(hc:X.calm=true):cO X (.builtin "sum") P9:=by
 intro pins s σ H B ds d xs us I hb rx rs hg;unfold P9 at hg;split at hg
 .split at hg
  .rename_i es ns e;cases hg;obtain⟨x,rfl,r⟩:=rs.one;obtain⟨a,ys,rfl,l,r⟩:=Rep.lst.mp r;obtain⟨u,rfl,ru⟩:=vals1 rx;cases ru;obtain⟨its,n,rv,e1,hz⟩:=I.Pq l;rw[gM r e] at rv;obtain⟨ps,rfl,rfl⟩:=jz rv;have hl:s.heap.IsList a (intItems ps.toArray):=⟨_,e1,rfl,n,by simp [intItems]⟩
   refine sum_intListG (I.ok.hd hc) hl λh' tk t' k=>⟨.int _,H,I.kept k,⟨t',rfl⟩,aR.refl H,Rep.int.mpr ?_⟩
   rw[preSum_eq,QaP$ by simp]
  .cases hg
 .cases hg
def tyName:D->String
 | .cM=>"NoneType" | .bl _=>"bool" | .int _=>"int" | .str _=>"str" | .lst _=>"list" | .tup _=>"tuple" | .dct _ _=>"dict"
def acj(T:String)(f:FD):FD:=λδ=>(f δ).bind λd=>R.aX (tyName d==T && d.atom)$ .ok$ .bl true
def Rb(X:Cx)(id:String)(g:D->List D->R D):Prop:=
 ∀(pins:Aaa) (s:QcR) (σ:St) (H:Hp) (B:List Addr) (da d:D) (ds:List D) (x:V) (xs:List V) (v:Value) (us:List Value),Inv X pins σ H s->(∀a∈B,∃o,H a=some o)->RelV x v->Vals xs us->Rep X.K B H da x->aA X.K B H ds xs->g da ds= .ok d->
  wpAny (model X.prog X.w) X.A (call (.builtin id) (v ::us)) (EP X pins σ λz H'=>aR H H'/\Rep X.K B H' d z) X.xe s
def xH(T:String)(g:D->List D->R D)(f:FD)(fs:au->R (List D)):FD:=λδ=>(f δ).bind λd=>R.aX (tyName d==T && (d.atom || T=="list"))$ (fs δ).bind λds=>g d ds
def Rb.r{id:String}{g:D->List D->R D}(h:Rb X id g):Vo X id (λx xs H Q=>∃B da ds d,(∀a∈B,∃o,H a=some o)/\Rep X.K B H da x/\aA X.K B H ds xs/\g da ds= .ok d/\∀z H',aR H H'->Rep X.K B H' d z->Q z H'):=by
 intro pins s σ H x xs v us Q I rx rxs ⟨B,da,ds,d,hb,ra,rs,hg,q⟩;exact cH (h pins s σ H B da d ds x xs v us I hb rx rxs ra rs hg) λz s' ⟨zv,H',I',r',s1,r1⟩=>⟨zv,H',I',r',q zv H' s1 r1⟩
def Ia{T id:String}{name:Str}{g:D->List D->R D}{o e:Expr}{es:List Expr}{f:FD}{fs:au->R (List D)}{apos aW:Pos}(pa:PlainAttrs T)(slot:Slot T name id)(Kd:typeOf (.builtin id)=pure (.type "method_descriptor"))(hm:Rb X id g)(ho:PD X o f)(ha:GG X (e ::es) fs)
 (hT:T="str"\/T="int"\/T="list")
 (dM:attributeBase o name X.env (eval o X.env)=eval o X.env:=by rfl)
 (i_:((backTo aW$ starEach (e ::es) X.env).all (λx=>!x.1) && (backToKw aW$ keywordEach [] X.env).all (λx=>x.1.isSome)
   && decide ((e ::es).length+([]:List Keyword).length+(if([]:List Keyword).isEmpty then 0 else 1)<30))=true:=by rfl)
 (dO:(apos.endLine==aW.line)=true:=by rfl) (hs:starEach (e ::es) X.env=(false,eval e X.env) ::starEach es X.env:=by rfl) (Dk:(backTo aW$ starEach es X.env).any (·.1)=false:=by rfl) :
 PD X (.Call (.Attribute o name apos) (e ::es) [] aW) (xH T g f fs):=by
 refine(xO pa slot Kd hm.r ho ha dM i_ dO hs Dk).imp λσ H Q ⟨Z,B,δ,d,E,hf,q⟩=>?_
 obtain⟨d1,h1,h2⟩:=R.aj hf;obtain⟨h3,h4⟩:=R.aL h2;obtain⟨ds,h5,h6⟩:=R.aj h4;obtain⟨h7,h8⟩:=Qa8.mp h3;have h7:tyName d1=T:=by simpa using h7
 refine⟨Z,B,δ,d1,E,h1,λv1 H1 s1 r1=>⟨?_,Z,B,δ,ds,E.same s1,h5,λvs H2 s2 r2=>⟨B,d1,ds,d,(E.same$ s1.trans s2).bs,r1.same s2,r2,h6,λz H' s3 r3=>q z H' (s1.trans$ s2.trans s3) r3⟩⟩⟩
 cases d1 with
 | str z=>rw [Rep.str.mp r1];exact h7.symm
 | int i=>rw [Rep.int.mp r1];exact h7.symm
 | lst es=>obtain⟨a,xs,rfl,l,_⟩:=Rep.lst.mp r1;exact .inl ⟨h7.symm,xs,l.sq⟩
 | cM=>rcases hT with z | z | z <;> (rw [z] at h7;exact absurd (show("NoneType":String)=_ from h7) (by decide))
 | bl _=>rcases hT with z | z | z <;> (rw [z] at h7;exact absurd (show("bool":String)=_ from h7) (by decide))
 | tup _=>rcases hT with z | z | z <;> (rw [z] at h7;exact absurd (show("tuple":String)=_ from h7) (by decide))
 | dct _ _=>rcases hT with z | z | z <;> (rw [z] at h7;exact absurd (show("dict":String)=_ from h7) (by decide))
theorem x8:∀{ss:List Str} {us:List Value},Vals (ss.map V.str) us->∃l:List (Str × Tok),us=strValues l/\l.map (·.1)=ss
 | [],_, .nil=>⟨[],rfl,rfl⟩
 | n ::ns,_, .cons r t=>by
   obtain⟨l,rfl,e⟩:=x8 t;obtain⟨tk,rfl⟩:=r;exact⟨(n,tk) ::l,rfl,by rw[Qay,e]⟩
def e_(d:D)(ds:List D):R D:=match d,ds with
 | .str sep,[.lst es]=>(match strs? es with | some ss=>R.aX (JoinOk sep ss) (.ok$ .str$ Str.join sep ss) | none=> .no)
 | _,_=> .no
def Qb:Rb X "str.join" e_:=by
 intro pins s σ H B da d ds x xs v us I hb rx rxs ra rs hg;unfold e_ at hg;split at hg
 .split at hg
  .rename_i sep es ss e;obtain⟨h1,h2⟩:=R.aL hg;cases h2;rw[Rep.str.mp ra] at rx;obtain⟨t,rfl⟩:=rx;obtain⟨y,rfl,r⟩:=rs.one;obtain⟨a,ys,rfl,l,r⟩:=Rep.lst.mp r;obtain⟨u,rfl,ru⟩:=vals1 rxs;cases ru;obtain⟨its,n,rv,e1,hz⟩:=I.Pq l;rw[lh r e] at rv;obtain⟨ps,rfl,rfl⟩:=x8 rv;refine SC.join (D:=a) (l:=ps) ⟨_,e1,rfl,n,rfl⟩ rfl h1 λt' k=>⟨.str _,H,I.tok _,⟨t',rfl⟩,aR.refl H,Rep.str.mpr ?_⟩
   rw[<-StrLaws.glued_eq_join];rfl
  .cases hg
 .cases hg
def KS{o e:Expr}{f:FD}{fs:au->R (List D)}{apos aW:Pos}(ho:PD X o f)(ha:GG X [e] fs)
 (dM:attributeBase o "join" X.env (eval o X.env)=eval o X.env:=by rfl)
 (i_:((backTo aW$ starEach [e] X.env).all (λx=>!x.1) && (backToKw aW$ keywordEach [] X.env).all (λx=>x.1.isSome)
   && decide (([e]:List Expr).length+([]:List Keyword).length+(if([]:List Keyword).isEmpty then 0 else 1)<30))=true:=by rfl)
 (dO:(apos.endLine==aW.line)=true:=by rfl) (hs:starEach [e] X.env=(false,eval e X.env) ::starEach [] X.env:=by rfl) :
 PD X (.Call (.Attribute o "join" apos) [e] [] aW) (xH "str" e_ f fs):=Ia Qb2 F.slot_str_join F.type_str_join Qb ho ha (.inl rfl) dM i_ dO hs
abbrev PJ(X:Cx)(es:List Expr)(f:au->R (List Str)):Prop:=
 ∀(pins:Aaa) (s:QcR) (σ:St) (H:Hp) (Z B:List Addr) (δ:au) (acc:Str) (ss:List Str) (Q:VK),Inv X pins σ H s->dn X.K Z B H σ δ->f δ= .ok ss->(ss.foldl (·++·) acc).length<=sizeLine->(∀H',aR H H'->Q (.str$ ss.foldl (·++·) acc) H')->
  wpAny (model X.prog X.w) X.A (joinParts acc$ evalEach es X.env) (EP X pins σ Q) X.xe s
theorem xY:∀(ss:List Str) (acc:Str),acc.length<=(ss.foldl (·++·) acc).length
 | [],acc=>Qak _
 | s ::ss,acc=>QaK (by rw[Qax];exact Nat.le_add_right _ _)$ xY ss$ acc++s
def qW:au->R (List Str):=λ_=> .ok []
def b5(f:FD)(g:au->R (List Str)):au->R (List Str):=λδ=>(f δ).bind λd=>match d with | .str x=>(g δ).bind λss=> .ok (x ::ss) | _=> .no
def Qa:PJ X [] qW:=by
 intro pins s σ H Z B δ acc ss Q I E hf hl q;cases hf;exact joinParts_nil ⟨.str _,H,I.tok _,⟨_,rfl⟩,q H$ aR.refl H⟩ hl
def Lc{g:au->R (List Str)}(he:PD X e f)(hr:PJ X es g)(Xk:evalEach (e ::es) X.env=eval e X.env ::evalEach es X.env:=by rfl):PJ X (e ::es) (b5 f g):=by
 intro pins s σ H Z B δ acc ss Q I E hf hl q;rw[Xk];obtain⟨d,h1,h2⟩:=R.aj hf;cases d with
 | str x=>
   obtain⟨ss',h3,h4⟩:=R.aj h2;cases h4;refine joinParts_cons$ cH (he pins s σ H (λv H'=>aR H H'/\v= .str x) I ⟨Z,B,δ, .str x,E,h1,λv H' s1 r1=>⟨s1,Rep.str.mp r1⟩⟩) λv s1 ⟨xv,H1,I1,r1,QC,e1⟩=>?_
   subst e1;obtain⟨t,rfl⟩:=r1;exact⟨QaK (xY ss'$ acc++x) hl,hr pins s1 σ H1 Z B δ (acc++x) ss' Q I1 (E.same QC) h3 hl λH' s2=>q H'$ QC.trans s2⟩
 | _=>cases h2
def c_(g:au->R (List Str)):FD:=λδ=>(g δ).bind λss=>R.aX (decide$ (ss.foldl (·++·) Str.empty).length<=sizeLine)$ .ok$ .str$ ss.foldl (·++·) Str.empty
def Fh{rest:List Expr}{g:au->R (List Str)}(h:PJ X (JR ::JL ::rest) g):PD X (.JoinedStr (JR ::JL ::rest) pos) (c_ g):=by
 intro pins s σ H Q I ⟨Z,B,δ,d,E,hf,q⟩;obtain⟨ss,h1,h2⟩:=R.aj hf;obtain⟨h3,h4⟩:=R.aL h2;cases h4;rw[arm_eval_JoinedStr];exact h pins s σ H Z B δ Str.empty ss Q I E h1 (Qae h3) λH' s1=>q _ H' s1$ Rep.str.mpr rfl
def Lp:D->R D
 | .str x=>R.aX (decide$ x.length<=sizeLine)$ .ok$ .str x
 | .int i=>R.aX (decide$ i.natAbs.log2<1920)$ .ok$ .str$ toString i
 | _=> .no
def nq(f:FD):FD:=λδ=>(f δ).bind Lp
def N6(h:PD X e f):PD X (.FormattedValue e (-1) none pos) (nq f):=by
 intro pins s σ H Q I ⟨Z,B,δ,d,E,hf,q⟩;obtain⟨d1,h1,h2⟩:=R.aj hf;refine FormattedValue_plain$ cH (h pins s σ H (λv H'=>aR H H'/\Rep X.K B H' d1 v) I ⟨Z,B,δ,d1,E,h1,λv H' s1 r1=>⟨s1,r1⟩⟩) λv s1 ⟨xv,H1,I1,r1,QC,e1⟩=>?_
 unfold Lp at h2;split at h2
 .obtain⟨h3,h4⟩:=R.aL h2;cases h4;rw[Rep.str.mp e1] at r1;obtain⟨t,rfl⟩:=r1;exact formatField_str (λt' tk=>⟨.str _,H1,I1.tok _,⟨_,rfl⟩,q _ H1 QC$ Rep.str.mpr rfl⟩)$ Qae h3
 .obtain⟨h3,h4⟩:=R.aL h2;cases h4;rw[Rep.int.mp e1] at r1;obtain⟨t,rfl⟩:=r1;exact formatField_int_small (Qae h3) ⟨.str _,H1,I1.tok _,⟨_,rfl⟩,q _ H1 QC$ Rep.str.mpr rfl⟩
 .cases h2
def Tf:List (D × D)->Str->R (Option D)
 | [],_=> .ok none
 | (.str y,d) ::r,x=>(Tf r x).bind λo=> .ok$ match o with | some e=>some e | none=>if y=x then some d else none
 | _ ::_,_=> .no
def EC(x:Str):List D:=x.cps.toList.map λc=> .str ⟨#[c]⟩
def Its(x:Str):It:=⟨λi _=>i<x.cps.size,λi H v H'=>H'=H/\∃c,x.cps[i]? =some c/\v= .str ⟨#[c]⟩,λi _=>x.cps.size<=i⟩
def G_{K:QcQ}(it:Addr)(x:Str)(t:Tok)(ty:String)(Kd:ty="str_ascii_iterator"\/ty="str_iterator"):Turn P w K tg (Its x) [it] it (λi h=>h.IsStrIter it ty x t i/\i<=x.cps.size) where
 mem:=by simp
 obj:=λi h st b hb=>by
  have e:b=it:=by simpa using hb
  subst e;obtain⟨o,e,c,d⟩:=st.1;exact⟨o,e,λv z=>by rw[d] at z;cases z⟩
 keep:=λi h h' st k=>⟨let⟨o,ho,r⟩:=st.1;⟨o,k it (by simp) o ho,r⟩,st.2⟩
 item:=by
  intro X hP hw hK hc i pins s σ H E I hf st hg;subst hP hw hK;obtain⟨f0,f1,f2,f3,f4,f5⟩:=hf it (by simp)
  have W:Walks X.prog X.w X.A it [it] [it] x.cps.size (SignAt x) (λi h=>h.IsStrIter it ty x t i):=by
   rcases Kd with rfl | rfl
   .exact Walks.strAscii (I.ok.hd hc) it x t
   .exact Walks.strWide (I.ok.hd hc) it x t
  refine W.item i s _ _ hg st.1 λv h' tk hv JP kk=>?_
  obtain⟨c,u,e1,rfl⟩:=hv;have I1:Inv X pins σ H {s with heap:=h',toks:=tk}:=I.turned (λb o hb e=>kk b o (by simpa using hb) e) f0 f1 f3 f4 f5
  obtain⟨o,e,cl,d⟩:=id JP;refine⟨_,rfl,Ei (s:={s with heap:=h',toks:=tk}) (n:=ty) e cl d ?_ ⟨.str ⟨#[c]⟩,H,I1,⟨u,rfl⟩,⟨rfl,c,e1,rfl⟩,⟨JP,hg⟩,λb hb=>(hf b hb).1⟩⟩
  rcases Kd with rfl | rfl <;> decide
 done:=by
  intro X hP hw hK hc i pins s σ H E I hf st hg;subst hP hw hK;obtain⟨f0,f1,f2,f3,f4,f5⟩:=hf it (by simp)
  have W:Walks X.prog X.w X.A it [it] [it] x.cps.size (SignAt x) (λi h=>h.IsStrIter it ty x t i):=by
   rcases Kd with rfl | rfl
   .exact Walks.strAscii (I.ok.hd hc) it x t
   .exact Walks.strWide (I.ok.hd hc) it x t
  have e:i=x.cps.size:=Nat.le_antisymm st.2 hg;exact W.done s _ _ (e▸st.1) λh' tk kk=>⟨rfl,I.turned (λb o hb e=>kk b o (by simpa using hb) e) f0 f1 f3 f4 f5⟩
 self:=λA i s Q E st h=>by
  rcases Kd with rfl | rfl
  .exact wpAny_pyIter_striter_ascii st.1 h
  .exact wpAny_pyIter_striter_wide st.1 h
def Ho(f:FD):au->R (List D):=λδ=>(f δ).bind λd=>match d with | .str x=> .ok (EC x) | _=> .no
def Lg(h:PD X e f):MM X tg e (Ho f):=by
 intro pins s σ H RR I ⟨Z,B,δ,ds,E,hf,q⟩;obtain⟨d,h1,h2⟩:=R.aj hf;refine cH (h pins s σ H (λv H1=>aR H H1/\Rep X.K B H1 d v) I ⟨Z,B,δ,d,E,h1,λv H1 s1 r1=>⟨s1,r1⟩⟩) λv s1 ⟨x,H1,I1,r1,ss,rr⟩=>?_
 cases d with
 | str z=>
   cases h2;rw[Rep.str.mp rr] at r1;obtain⟨t,rfl⟩:=r1;refine wpAny_pyIter_strU ?_;have Kd:strIterType z="str_ascii_iterator"\/strIterType z="str_iterator":=by
    unfold strIterType;split
    .exact .inl rfl
    .exact .inr rfl
   refine⟨s1.heap.objs.size,[s1.heap.objs.size],_,_,H1,rfl,I1.kept (t':=s1.toks) λb o e=>Qau _ e,G_ _ z t (strIterType z) Kd,⟨⟨_,QaY _ rfl,rfl,rfl⟩,Qa9 _⟩,λb hb=>?_,q _ H1 ss λB' H' pr=>?_⟩
   .have e:b=s1.heap.objs.size:=by simpa using hb
    subst e;exact I1.BV (Qak _)$ I1.hok.fresh$ Qak _
   .refine⟨λi d hd=>?_,?_⟩
    .unfold EC at hd;rw[Qad] at hd;cases e:z.cps.toList[i]? with
     | none=>rw [e] at hd;cases hd
     | some c=>
       rw[e] at hd;cases hd;have e':z.cps[i]? =some c:=by simpa using e
       exact⟨(Array.getElem?_eq_some_iff.mp e').1,λx qP ⟨e1,c',e2,e3⟩ _=>by
        subst e1;rw[e'] at e2;cases e2;exact⟨aR.refl _,Rep.str.mpr e3⟩⟩
    .show z.cps.size<=(EC z).length;unfold EC;simp
 | _=>cases h2
def Ite(K:QcQ)(a:Addr):It:=
 ⟨λi H=>∃xs x,oZ K H a xs/\xs[i]? =some x,λi H v H'=>∃p x,H p=none/\v= .ref p/\(∀xs,oZ K H a xs->xs[i]? =some x)/\H'=upd H p (.tup [.int i,x]),λi H=>∃xs,oZ K H a xs/\xs.length<=i⟩
def EX{K:QcQ}{k:Nat}(a e it:Addr)(hei:e≠it):Turn P w K (.Tuple elts k pos) (Ite K a) [e,it] e (λi h=>(∃old,IsEnum h e it ((i:Nat):Int) old)/\h.IsListIter it a i) where
 mem:=by simp
 obj:=λi h st b hb=>by
  obtain⟨⟨old,he⟩,o,ho,c,d⟩:=st;rcases QaF.mp hb with rfl | hb
  .exact⟨_,he,λv z=>by cases z⟩
  .have e:b=it:=by simpa using hb
   subst e;exact⟨o,ho,λv z=>by rw[d] at z;cases z⟩
 keep:=λi h h' st k=>by
  obtain⟨⟨old,he⟩,hi⟩:=st;exact⟨⟨old,k e (by simp) _ he⟩,hi.at λo x=>k it (by simp) o x⟩
 item:=by
  intro X hP hw hK hc i pins s σ H E I hf st hg;subst hP hw hK;obtain⟨xs,x,hq,hx⟩:=hg;obtain⟨its,rv,p,hz⟩:=I.list hq;obtain⟨u,hu,ru⟩:=rv.get hx;obtain⟨⟨old,he⟩,hit⟩:=st;obtain⟨f0,f1,f2,f3,f4,f5⟩:=hf e (by simp)
  obtain⟨g0,g1,g2,g3,g4,g5⟩:=hf it (by simp)
  refine wpAny_pyNext_enum_item he hit p.isList (x:=u) (by simpa using hu) hei λoV Nn QK Ud aai UD=>⟨_,rfl,?_⟩
  refine wpAny_letOwnedTupleGo_enum Nn λzH Ug Bw=>?_
  replace Bw:Heap.SameBut e oV zH:=Bw
  have hel:e<s.heap.objs.size:=QaA he;have Uo:zH.get? s.heap.objs.size=some {cls:= .type "tuple",data:= .seq #[.int i s.toks,u]}:=(Bw.2 _$ Nat.ne_of_gt hel).trans Ud;have kk:∀b o,b≠e->b≠it->s.heap.get? b=some o->zH.get? b=some o:=λb o h1 h2 q=>(Bw.2 b h1).trans$ UD b o h1 h2 q
  have hn:H s.heap.objs.size=none:=I.fresh;have sm:aR H (upd H s.heap.objs.size$ .tup [.int i,x]):=bA hn;have nit:∀b o,H b=some o->b≠e/\b≠it:=λb o q=>⟨λz=>(by rw[z,f0] at q;cases q),λz=>(by rw[z,g0] at q;cases q)⟩
  have hok:oU X.prog X.w (upd H s.heap.objs.size$ .tup [.int i,x]) zH:=λb ob q=>by
   by_cases hb:b=s.heap.objs.size
   .subst hb;rw[aZ] at q;cases q;exact⟨by show 2<=sizeLine;decide,[.int i s.toks,u], .cons ⟨_,rfl⟩$ .cons ru .nil,⟨_,Uo,rfl,_,rfl⟩⟩
   .rw [bb hb] at q;refine(I.hok b ob q).yZ (λc v hc z=>?_) (λc z=>sm c _ z) λc ys z=>sm c _ z
    rcases hc with rfl | hc
    .exact kk c v (nit c _ q).1 (nit c _ q).2 z
    .exact kk c v (nit c _ hc).1 (nit c _ hc).2 z
  have nch:∀b,b ∉ [e,it]->b≠e/\b≠it:=λb hb=>⟨λz=>hb (by simp [z]),λz=>hb$ by simp [z]⟩
  have I2:Inv X pins σ (upd H s.heap.objs.size$ .tup [.int i,x]) {s with heap:=zH,toks:=s.toks+1}:=by
   refine I.step (g':=s.gens) (d':=s.drawn) (ch:=[e,it]) (λb hb=>?_) (λb o _ _ hb q _=>kk b o (nch b hb).1 (nch b hb).2 q) (λb o _ _ hb q _=>⟨o.slots,kk b o (nch b hb).1 (nch b hb).2 q⟩)
    (λb o hb q n=>by rw[bb$ QaR$ QaA q];exact n) (λb o hb q=>⟨o,kk b o (nch b hb).1 (nch b hb).2 q⟩) (λb ys z=>sm b _ z) (λb o u z=>sm b _ z) (λb ps z=>⟨#[],by rw[sm b _ z];simp⟩) (λm hm=>?_) hok I.bare
   .rcases QaF.mp hb with rfl | hb
    .exact⟨f3,f1,f4,f5⟩
    .have z:b=it:=by simpa using hb
     subst z;exact⟨g3,g1,g4,g5⟩
   .obtain⟨o,es,ep,ho,r⟩:=hm;exact⟨o,es,ep,kk _ o (Qbz f1) (Qbz g1) ho,r⟩
  refine⟨.ref s.heap.objs.size,_,I2,rfl,⟨s.heap.objs.size,x,hn,rfl,λys hy=>(by rw[I.zW hy hq];exact hx),rfl⟩,⟨⟨_,by simpa using Ug⟩,QK.at λo q=>(Bw.2 it$ Qbz hei).trans q⟩,λb hb=>?_⟩
  rcases QaF.mp hb with rfl | hb
  .rw [bb$ QaR hel];exact f0
  .have z:b=it:=by simpa using hb
   subst z;obtain⟨o,ho,_⟩:=hit;rw[bb$ QaR$ QaA ho];exact g0
 done:=by
  intro X hP hw hK hc i pins s σ H E I hf st hg;subst hP hw hK;obtain⟨xs,hq,hx⟩:=hg;obtain⟨its,rv,p,hz⟩:=I.list hq;obtain⟨⟨old,he⟩,hit⟩:=st;obtain⟨g0,g1,g2,g3,g4,g5⟩:=hf it (by simp)
  have hl:=rv.length;exact wpAny_pyNext_enum_end (I.ok.hd hc) he hit p.isList (by simp;omega) λh' eb=>⟨rfl,I.turned (t':=s.toks) (λb o hb q=>eb b o hb q) g0 g1 g3 g4 g5⟩
 self:=λA i s Q E st h=>let⟨⟨_,he⟩,_⟩:=st;wpAny_pyIter_enum he h
def qA(ds:List D):List D:=ds.zipIdx.map λp=> .tup [.int p.2,p.1]
def uX(f:FD):au->R (List D):=λδ=>(f δ).bind λd=>match d with | .lst ds=> .ok (qA ds) | _=> .no
def Ht{elts:List Expr}{k:Nat}{JO:Pos}{p pos:Pos}(h:PD X a f)(hg:Gl X "enumerate")(hm:X.mg "enumerate"=none)(hs:starEach [a] X.env=[(false,eval a X.env)]:=by rfl):MM X (.Tuple elts k JO) (.Call (.Name "enumerate" p) [a] [] pos) (uX f):=by
 intro pins s σ H RR I ⟨Z,B,δ,ds,E,hf,q⟩;obtain⟨d,h1,h2⟩:=R.aj hf;have hA:=fS h lA hs pos pins s σ H (λvs H1=>aR H H1/\∃v,vs=[v]/\Rep X.K B H1 d v) I ⟨Z,B,δ,d,E,h1,λv H1 s1 r1=>⟨s1,v,rfl,r1⟩⟩
 refine Call_$ uY I hg hm boot_enumerate$ QbW (cH hA λus s1 ⟨vs,H1,I1,r1,ss,v,ev,rr⟩=>?_) hs rfl
 subst ev;obtain⟨u,rfl,ru⟩:=vals1 r1;cases d with
 | lst es=>
   cases h2;obtain⟨b,xs,rfl,l,rs⟩:=Rep.lst.mp rr;cases ru;obtain⟨its,n,rv,e1,hz⟩:=I1.Pq l;refine call_enumerate_list (items:=its.toArray) ⟨_,e1,rfl,n,rfl⟩ λh' he hit hsz kk=>wpAny_pyIter_enum he ?_
   have I2:Inv X pins σ H1 {s1 with heap:=h'}:=I1.kept (t':=s1.toks) kk
   refine⟨s1.heap.objs.size+1,[s1.heap.objs.size+1,s1.heap.objs.size],_,_,H1,rfl,I2,EX b (s1.heap.objs.size+1) s1.heap.objs.size$ Nat.succ_ne_self _,⟨⟨_,he⟩,hit⟩,λc hc=>?_,q _ H1 ss λB' H' pr=>?_⟩
   .have hle:s1.heap.objs.size<=c:=by
     rcases QaF.mp hc with z | hc
     .rw [z];exact Nat.le_succ _
     .have z:c=s1.heap.objs.size:=by simpa using hc
      rw[z];exact Qak _
    exact I1.BV hle$ I1.hok.fresh hle
   .have l':yG X.K B' H' b xs:=l.br pr;have rs':=rs.br pr;refine⟨λi d hd=>?_,⟨xs,l'.sq,by rw[<-rs.length];unfold qA;simp⟩⟩
    unfold qA at hd;rw[Qad,Qb3] at hd;cases e:es[i]? with
    | none=>rw [e] at hd;cases hd
    | some d0=>
      rw[e] at hd;have hd:D.tup [.int ((0+i:Nat):Int),d0]=d:=QaW hd;rw[Nat.zero_add] at hd;obtain⟨x,hx,rx⟩:=rs'.get e;refine⟨⟨xs,x,l'.sq,hx⟩,λv qP y U4=>?_⟩
      obtain⟨p,y,hp,rfl,hy,rfl⟩:=y;refine⟨bA hp,?_⟩;subst hd;have hy2:=hy xs l'.sq;rw[hx] at hy2;cases hy2;refine Rep.tup.mpr ⟨p,_,rfl, .inl ⟨λha=>?_, .inl aZ⟩,aA.cons (Rep.int.mpr rfl)$ aA.cons (rx.same$ bA hp) aA.nil⟩
      obtain⟨o,ho⟩:=U4 p ha;rw[hp] at ho;cases ho
 | _=>cases h2
end
def Def(K:QcQ)(mg:Aaf)(x:Str)(st:Stmt):Prop:=∃f fd,Cz K x x st f fd/\mg x=some (.ref f)
def Callee(P:Program)(w:World)(K:QcQ)(mg:Aaf)(base:Heap)(k:Nat)(x:Str)(n:Nat)(g:List D->R D):Prop:=
 ∃f fd ps,jH P w K mg base wM k f fd ps (K9 K n g)/\mg x=some (.ref f)/\PySem.W.keepIn K (.ref f)=true/\Binds K fd ps []
def HW:∀(δ:au) (ds:List D),aI δ= .ok ds->ds.length=0:=λδ ds h=>by cases h;rfl
def Gx{g:au->R (List D)}{n:Nat}(h:∀(δ:au) (ds:List D),g δ= .ok ds->ds.length=n):∀(δ:au) (ds:List D),ag f g δ= .ok ds->ds.length=n+1:=λδ ds e=>by
 obtain⟨d,h1,h2⟩:=R.aj e;obtain⟨es,h3,h4⟩:=R.aj h2;cases h4;rw[QaI,h δ es h3]
def IQ{P:Program}{w:World}{K:QcQ}{mg:Aaf}{base:Heap}{x qual:Str}{st:Stmt}{f:Addr}{fd:FuncData}{N ps:List Str}{k:Nat}{F:FS}{b:List Stmt}{sc:Scope}(hb:aQ st=b)(hs:aC st=sc)(Fn:Cz K x qual st f fd)(S:bp N ps sc)
 (fj:∀(fu:Value) (A:Around) (outer:List Env) (s:QcR) (H:Hp) (E:XK),dW k (A.deeper$ envOfC qual sc s.heap.objs.size f fu)->
   ux (mn wM P w K mg base N qual sc f fu A outer s H E).HQ b F):jH P w K mg base wM (k+1) f fd ps (K9 K ps.length$ wR N F):=by
 subst hb hs;exact Mb Fn S fj
section
variable {X:Cx}
def Jb{g:List D->R D}{k j n:Nat}{x:Str}{p pos:Pos}{e:Expr}{es:List Expr}{fs:au->R (List D)}(C:Callee X.prog X.w X.K X.mg X.base k x n g)(hr:dW j X.A)(JK:k<=j)(hg:Gl X x)(ha:GG X (e ::es) fs)
 (hn:∀δ ds,fs δ= .ok ds->ds.length=n) (me:(x==("__debug__":Str))=false:=by decide) (he:starEach (e ::es) X.env=(false,eval e X.env) ::starEach es X.env:=by rfl) (oB:(backTo pos$ starEach es X.env).any (·.1)=false:=by rfl) :
 PD X (.Call (.Name x p) (e ::es) [] pos) (aM g fs):=by
 obtain⟨f,fd,ps,F,hm,hk,hb⟩:=C;exact KQ F (hr.mono JK) hg hm hk hb ha hn me he oB
def Pe(sc:Scope)(N:List Str)(scope:Scope)(kp:List Nat)(kn:List Str):Bool:=
 decide (scope.kind= .function) && scope.names.all (λy=>decide$ y.2= .cell->scope.names.lookup y.1=some .cell) && scope.names.all (λy=>decide$ y.2= .local->scope.names.lookup y.1=some .local)
  && scope.names.all (λy=>decide$ y.2= .free->(sc.names.lookup y.1=some .cell\/sc.names.lookup y.1=some .free)) && scope.names.all (λy=>decide$ y.2= .free->scope.names.lookup y.1=some .free) && decide (kn.length=kp.length)
  && (List.range kp.length).all (λj=>decide$ (kp[j]?).bind (N[·]?)=kn[j]?) && kn.all (λx=>decide$ scope.names.lookup x=some .free)
def f6.of{own:List Str}{kp:List Nat}{kn:List Str}{N:List Str}(h1:X.env.scope=sc)(h2:X.N=N)(h:Pe sc N scope kp kn=true):f6 X scope own kp kn:=by
 unfold Pe at h;simp only[QaL,Qa6,QaJ] at h;obtain⟨⟨⟨⟨⟨⟨⟨a1,a2⟩,a3⟩,a4⟩,a8⟩,a5⟩,a6⟩,a7⟩:=h;refine⟨a1,a2,a3,λy hy hf=>?_,a8,a5,λj i x hj hx=>?_,a7⟩
 .have:=a4 y hy hf;unfold Env.kindOf;rw[h1];exact this
 .have hlt:j<kp.length:=(Qah.mp hj).1;have:=a6 j$ Qbm.mpr hlt;rw[hj] at this;rw[h2];exact this.trans hx
def qu(kp:List Nat)(N:List Str):List Str:=kp.map λi=>N.getD i Str.empty
def UP{own:List Str}{kp:List Nat}{kn:List Str}(h:Pe X.env.scope X.N scope kp kn=true):f6 X scope own kp kn:=f6.of rfl rfl h
def Zx:List Str->Bool
 | []=>true
 | x ::l=>!l.contains x && Zx l
theorem Nf:∀{l:List Str},Zx l=true->l.Nodup
 | [],_=>Qcy
 | x ::l,h=>by
   obtain⟨h1,h2⟩:=Qa8.mp h;exact QbB.mpr ⟨λq=>(by rw[QaH.mpr q] at h1;cases h1),Nf h2⟩
def G3(aD:List (Key × V))(f g:FD):FD:=λδ=>(f δ).bind λk=>(g δ).bind λd=>match k with
 | .str x=>(match lK (nP [] aD) (Sum.inr x) with | some (.int i)=> .ok (.int i) | none=> .ok d | _=> .no)
 | _=> .no
def Qt{keys:List (Option Expr)}{values:List Expr}{yk:List (TE × TE)}{zI apos aW:Pos}{e f:Expr}{fe ff:FD}{aD:List (Key × V)}(hu:X.A.units+1<cLine)(h:Oz X zI keys values yk)(GB:keys.all (·.isSome)=true)(hl:keys.length=values.length)(h0:keys≠[])
 (hc:∀σ H Q,Q (aD.map λkv=>(kV kv.1,kv.2)) H->tK yk σ H Q) (hlen:aD.length<=15) (he:PD X e fe) (hf:PD X f ff) (m:M2 X (.Dict keys values zI) "get" apos e f aW)
 (hd:PE X (.Dict keys values zI) (Jp yk)):PD X (.Call (.Attribute (.Dict keys values zI) "get" apos) [e,f] [] aW) (G3 aD fe ff):=by
 refine(IS hu hd he hf m).imp λσ H Q ⟨Z,B,δ,d,E,hfd,q⟩=>?_
 obtain⟨k,h1,h2⟩:=R.aj hfd;obtain⟨dd,h3,h4⟩:=R.aj h2;intro p hp;refine hc σ _ _ ⟨aZ,aD,rfl,hlen,p,rfl, .inl ⟨_, .inl aZ⟩,?_⟩;rw[LP];have s0:aR H (upd H p$ .dK$ nP [] aD):=bA hp;refine⟨Z,B,δ,k,E.same s0,h1,λv1 H1 s1 r1=>⟨Z,B,δ,dd,(E.same s0).same s1,h3,λv2 H2 s2 r2=>?_⟩⟩
 have hH2:H2 p=some (.dK$ nP [] aD):=s2 p _$ s1 p _ aZ;have sA:aR H H2:=s0.trans$ s1.trans s2;split at h4
 .rename_i x;refine⟨lK (nP [] aD)$ Sum.inr x,?_,?_⟩
  .rw [Rep.str.mp r1];exact qx.k (k:=Sum.inr x) hH2
  .split at h4
   .rename_i i e1;cases h4;rw[e1];exact q _ H2 sA$ Rep.int.mpr rfl
   .rename_i e1;cases h4;rw[e1];exact q _ H2 sA r2
   .cases h4
 .cases h4
def ZZ(i:Nat)(f:FD):FS:=λδ=>(f δ).bind λd=>match d with
 | .lst es=>(u_ δ i).bind λds=>R.aX (decide$ ds.length+es.length<=sizeLine)$ .ok$ .nx$ δ.set i$ .bld$ ds++es
 | _=> .no
end
structure QD (X:Cx) (e:Expr) (f:FD):Prop where
 h:PD X e f
structure QN (X:Cx) (e:Expr) (f:au->R (List D)):Prop where
 h:PN X e f
structure QB (X:Cx) (e:Expr) (f:au->R Bool):Prop where
 h:PB X e f
structure OC (X:Cx) (e:Expr) (f:au->R Bool):Prop where
 h:JZ X e f
structure Fe (X:Cx) (e:List Expr) (f:au->R (List D)):Prop where
 h:GG X e f
structure K0 (X:Cx) (e:Stmt) (f:FS):Prop where
 h:J1 X e f
structure uZ (X:Cx) (e:List Stmt) (f:FS):Prop where
 h:ux X e f
structure O6 (X:Cx) (e:Expr) (f:FT):Prop where
 h:NZ X e f
structure Lr (X:Cx) (e:List Expr) (f:GK):Prop where
 h:GX X e f
structure KH (X:Cx) (tg e:Expr) (f:au->R (List D)):Prop where
 h:MM X tg e f
structure QP (X:Cx) (e:Option Expr) (f:FO):Prop where
 h:PP X e f
structure QJ (X:Cx) (e:List Expr) (f:au->R (List Str)):Prop where
 h:PJ X e f
structure IP (X:Cx) (e:List Expr) (c:au->R Bool):Prop where
 h:ur X e (MH X.K c)
section
variable {X:Cx}
def aN{f:au->R (List D)}(h:QN X e f):QD X e (eNew f):=⟨OK h.1⟩
def se(h:QD X e f):QD X e (pq f):=⟨Kz h.1⟩
def va{f:au->R Bool}(h:QB X e f):QB X e (qL f):=⟨K6 h.1⟩
def ae(i:Nat){pos:Pos}(hN:X.N[i]? =some x:=by rfl)(hv:HM X.env.scope x:=by first | exact Or.inl rfl | exact Or.inr QcN | exact Or.inr (Or.inr rfl))(hd:(x==("__debug__":Str))=false:=by decide)(rJ:(x==("__classdict__":Str))=false:=by decide):QD X (.Name x pos) (ai i):=⟨Pl i hN hv hd rJ⟩
def ak{i j pos}:QD X (.Constant (.int i) j pos) (eC$ .int i):=⟨Ov⟩
def rf{b j pos}:QD X (.Constant (.bool b) j pos) (eC$ .bl b):=⟨Sv⟩
def af{x j pos}:QD X (.Constant (.str x) j pos) (eC$ .str x):=⟨NR⟩
def ib{d:D}{pos:Pos}(g:Glob X.K X.mg x d)(hg:Gl X x)(hd:(x==("__debug__":Str))=false:=by decide):QD X (.Name x pos) (eC d):=⟨KO g hg hd⟩
def ah:Fe X [] aI:=⟨Kl⟩
def aa{g:au->R (List D)}(h:QD X e f)(t:Fe X es g)(hs:starEach (e ::es) X.env=(false,eval e X.env) ::starEach es X.env:=by rfl):Fe X (e ::es) (ag f g):=⟨HE h.1 t.1 hs⟩
def qc{g:au->R (List D)}{x1 pos}(h:Fe X es g):QD X (.Tuple es x1 pos) (xq g):=⟨Qs h.1⟩
def aO{g:au->R (List D)}{pos}(h:Fe X es g):QN X (.List es pos) (ck g):=⟨OH h.1⟩
def ao{op:Operator}{g:D->D->R D}(ho:oY X (binaryOp op) g)(ha:QD X a fa)(hb:QD X b fb):QD X (.BinOp a op b pos) (e2 g fa fb):=⟨SY ho ha.1 hb.1⟩
def fR{op:CmpOp}{g:D->D->R D}{pos:Pos}(ho:oY X (compareOp op) g)(ha:QD X a fa)(hb:QD X b fb)(hm:behindInMarks op b=false:=by first | exact tj _ | with_unfolding_all rfl):QD X (.Compare a [op] [b] pos) (e2 g fa fb):=⟨Qp ho ha.1 hb.1 hm⟩
def bH{op:CmpOp}{g:D->D->R D}{pos:Pos}(ho:oY X (compareOp op) g)(ha:QD X a fa)(hb:QD X b fb)(hm:behindInMarks op b=false:=by first | exact tj _ | with_unfolding_all rfl):QB X (.Compare a [op] [b] pos) (b2 g fa fb):=⟨Oj ho ha.1 hb.1 hm⟩
def sr{a:Expr}(ha:QD X a f)(he:∀whole,isTrue a X.env whole=(do let v <-whole;standAt a.pos;holding [v] (truthy v)):=by intro _;rfl):QB X a (yW f):=⟨Oq ha.1 he⟩
def jv{f:au->R Bool}(h:OC X e f):QB X e f:=⟨JZ.pb h.1⟩
def qa{f:au->R Bool}(h:QB X a f):OC X (.BoolOp .And [a] pos) f:=⟨IL h.1⟩
def nG{f:au->R Bool}(h:QB X a f):OC X (.BoolOp .Or [a] pos) f:=⟨La h.1⟩
def rV{rest:List Expr}{f g:au->R Bool}(ha:QB X a f)(hb:OC X (.BoolOp .And (b ::rest) pos) g):OC X (.BoolOp .And (a ::b ::rest) pos) (v8 f g):=⟨Ln ha.1 hb.1⟩
def kO{rest:List Expr}{f g:au->R Bool}(ha:QB X a f)(hb:OC X (.BoolOp .Or (b ::rest) pos) g):OC X (.BoolOp .Or (a ::b ::rest) pos) (CW f g):=⟨NN ha.1 hb.1⟩
def Ea{f:au->R Bool}(ha:QB X a f):QB X (.UnaryOp .Not a pos) (Gg f):=⟨OL ha.1⟩
def sf{op}(h:QD X a f):QD X (.BoolOp op [a] pos) f:=⟨N1 h.1⟩
def qo{rest:List Expr}(ha:QD X a f)(hb:QD X (.BoolOp .And (b ::rest) pos) g):QD X (.BoolOp .And (a ::b ::rest) pos) (wV f g):=⟨O5 ha.1 hb.1⟩
def Qr{rest:List Expr}(ha:QD X a f)(hb:QD X (.BoolOp .Or (b ::rest) pos) g):QD X (.BoolOp .Or (a ::b ::rest) pos) (Sw f g):=⟨RY ha.1 hb.1⟩
def bF{g:List D->R D}{id:String}{p pos:Pos}{fs:au->R (List D)}(hc:cO X (.builtin id) g)(hg:Gl X x)(hm:X.mg x=none)(hv:bootBuiltins x=some (.builtin id))(ha:Fe X (e ::es) fs)(hn:x≠"__name__":=by decide)(me:(x==("__debug__":Str))=false:=by decide)(he:starEach (e ::es) X.env=(false,eval e X.env) ::starEach es X.env:=by rfl)(oB:(backTo pos$ starEach es X.env).any (·.1)=false:=by rfl):QD X (.Call (.Name x p) (e ::es) [] pos) (aM g fs):=⟨Jq hc hg hm hv ha.1 hn me he oB⟩
def lH{g:List D->R D}{T:String}{p pos:Pos}{fs:au->R (List D)}(hc:cO X (.type T) g)(hg:Gl X x)(hm:X.mg x=none)(hv:bootBuiltins x=some (.type T))(ha:Fe X (e ::es) fs)(hn:x≠"__name__":=by decide)(me:(x==("__debug__":Str))=false:=by decide)(he:starEach (e ::es) X.env=(false,eval e X.env) ::starEach es X.env:=by rfl)(oB:(backTo pos$ starEach es X.env).any (·.1)=false:=by rfl):QD X (.Call (.Name x p) (e ::es) [] pos) (aM g fs):=⟨EM hc hg hm hv ha.1 hn me he oB⟩
def eJ:uZ X [] qr:=⟨Ms⟩
def aq{st:Stmt}{rest:List Stmt}{F G:FS}(h1:K0 X st F)(h2:uZ X rest G):uZ X (st ::rest) (bD F G):=⟨Ir h1.1 h2.1⟩
def a_{st:Stmt}{F:FS}(h1:K0 X st F):uZ X [st] F:=⟨Km h1.1⟩
def aF{i:Nat}{pos pos':Pos}(he:QD X e f)(hs:swapsWith e (some$ .Name x pos') pos.line X.env=pure false:=by rfl)(hf:X.fn x=true\/X.env.scope.names.lookup x=some .local:=by first | exact .inl rfl | exact .inr rfl | assumption)(hN:X.N.Nodup:=by first | assumption | exact Nf (by kernel_rfl))(hi:X.N[i]? =some x:=by rfl)(hx:Loc X.env.scope x:=by first | exact Or.inl rfl | exact Or.inr rfl):K0 X (.Assign [.Name x pos'] e pos) (bU i f):=⟨Mr hN hi hx he.1 hs hf⟩
def lL{i:Nat}{f:au->R (List D)}{pos pos':Pos}(he:QN X e f)(hs:swapsWith e (some$ .Name x pos') pos.line X.env=pure false:=by rfl)(hf:X.fn x=true\/X.env.scope.names.lookup x=some .local:=by first | exact .inl rfl | exact .inr rfl | assumption)(hN:X.N.Nodup:=by first | assumption | exact Nf (by kernel_rfl))(hi:X.N[i]? =some x:=by rfl)(hx:Loc X.env.scope x:=by first | exact Or.inl rfl | exact Or.inr rfl):K0 X (.Assign [.Name x pos'] e pos) (uC i f):=⟨LN hN hi hx he.1 hs hf⟩
def lr{i:Nat}{x:Str}{e:Expr}{f:FD}{p7 apos aW pos:Pos}(he:QD X e f)(hd:(x==("__debug__":Str))=false:=by decide)(rJ:(x==("__classdict__":Str))=false:=by decide)(hs:starEach [e] X.env=(false,eval e X.env) ::starEach [] X.env:=by rfl)(dO:(apos.endLine==aW.line)=true:=by rfl)(i_:((backTo aW$ starEach [e] X.env).all (λx=>!x.1) && (backToKw aW$ keywordEach [] X.env).all (λx=>x.1.isSome)
 && decide (([e]:List Expr).length+([]:List Keyword).length+(if([]:List Keyword).isEmpty then 0 else 1)<30))=true:=by rfl) (zN:swapsWith (.Call (.Attribute (.Name x p7) "append" apos) [e] [] aW) none pos.line X.env=pure false:=by rfl) (dM:attributeBase (.Name x p7) "append" X.env (eval (.Name x p7) X.env)=eval (.Name x p7) X.env:=by rfl) (hN:X.N[i]? =some x:=by rfl) (hv:HM X.env.scope x:=by first | exact Or.inl rfl | exact Or.inr QcN | exact Or.inr (Or.inr rfl)):K0 X (.Expr (.Call (.Attribute (.Name x p7) "append" apos) [e] [] aW) pos) (uI i f):=⟨LH hN hv he.1 hd rJ hs dO i_ zN dM⟩
def lF(i:Nat){F:FS}(h:uZ X Nm F):uZ X Nm (xh i F):=⟨Lk i h.1⟩
def bQ(he:QD X e f):K0 X (.Return (some e) pos) (iL f):=⟨Lm he.1⟩
def hV{fc:au->R Bool}{F G:FS}(hc:QB X c fc)(ha:uZ X a F)(hb:uZ X b G):K0 X (.If c a b pos) (xB fc F G):=⟨N8 hc.1 ha.1 hb.1⟩
def bz{i:Nat}{pos:Pos}(hf:X.fn x=true\/X.env.scope.names.lookup x=some .local:=by first | exact .inl rfl | exact .inr rfl | assumption)(hN:X.N.Nodup:=by first | assumption | exact Nf (by kernel_rfl))(hi:X.N[i]? =some x:=by rfl)(hx:Loc X.env.scope x:=by first | exact Or.inl rfl | exact Or.inr rfl):O6 X (.Name x pos) (bh i):=⟨He hN hi hx hf⟩
def qg:Lr X [] sH:=⟨HL⟩
def eL{u:GK}(h1:O6 X e t)(h2:Lr X es u)(hs:(assignEach (e ::es) X.env).map (·.2)=assign e X.env ::(assignEach es X.env).map (·.2):=by rfl):Lr X (e ::es) (fq t u):=⟨F0 h1.1 h2.1 hs⟩
def sJ{k:Nat}{t:GK}{n:Nat}{pos:Pos}(h:Lr X es t)(hn:(assignEach es X.env).length=n:=by rfl)(xA:(assignEach es X.env).findIdx? (·.1)=none:=by rfl)(hc:X.calm=true:=by rfl):O6 X (.Tuple es k pos) (sI n t):=⟨KR hc h.1 hn xA⟩
def cF(h:QD X e f):KH X tg e (dR f):=⟨LB h.1⟩
def dQ{tg a:Expr}{p pos:Pos}(h:QD X a f)(hg:Gl X "range")(hm:X.mg "range"=none)(hs:starEach [a] X.env=[(false,eval a X.env)]:=by rfl):KH X tg (.Call (.Name "range" p) [a] [] pos) (f7 f):=⟨Cu h.1 hg hm hs⟩
def lD{it:au->R (List D)}{F:FS}{pos:Pos}(hi:KH X tg iter it)(hg:O6 X tg t)(hb:uZ X body F)(hs:∀x,foldedSetIterable iter X.env x=pure x:=by intro _;rfl)(hp:PassesOwn (model X.prog X.w) X.A X.env X.xe:=by exact PassesOwn.never)(hc:X.calm=true:=by rfl):K0 X (.For tg iter body [] pos) (wC it t F):=⟨LU hp hc hi.1 hg.1 hb.1 hs⟩
def fJ{own:List Str}{kp:List Nat}{it:au->R (List D)}{c:au->R Bool}{pos:Pos}(hi:KH X tg iter it)(hg:∀fp s H,O6 (bB X scope (own++(qu kp X.N)) fp s H) tg t)(Dq:∀fp s H,IP (bB X scope (own++(qu kp X.N)) fp s H) ifs c)(he:∀fp s H,QD (bB X scope (own++(qu kp X.N)) fp s H) elt f)(hs:∀x,foldedSetIterable iter X.env x=pure x:=by intro _;rfl)(hc:X.calm=true:=by rfl)(C:f6 X scope own kp (qu kp X.N):=by exact UP (by kernel_rfl)):QN X (.ListComp elt [⟨tg,iter,ifs,0⟩] scope pos) (dq it t c f own kp):=⟨K8 hc C hi.1 (λfp s H=>(hg fp s H).1) (λfp s H=>(Dq fp s H).1) (λfp s H=>(he fp s H).1) hs⟩
def dC:IP X [] pj:=⟨Ji⟩
def AO{c:au->R Bool}(h:QB X e c):IP X [e] c:=⟨Mh h.1⟩
def rZ{i:Nat}{pos' oW:Pos}{own:List Str}{kp:List Nat}{it:au->R (List D)}{c:au->R Bool}(hi:KH X tg iter it)(hg:∀fp s H,O6 (bB X scope (own++(qu kp X.N)) fp s H) tg t)(Dq:∀fp s H,IP (bB X scope (own++(qu kp X.N)) fp s H) ifs c)(he:∀fp s H,QD (bB X scope (own++(qu kp X.N)) fp s H) elt f)(zN:swapsWith (.ListComp elt [⟨tg,iter,ifs,0⟩] scope pos) (some$ .Name x pos') oW.line X.env=pure true:=by rfl)(hs:∀x,foldedSetIterable iter X.env x=pure x:=by intro _;rfl)(hc:X.calm=true:=by rfl)(hN:X.N.Nodup:=by first | assumption | exact Nf (by kernel_rfl))(hx:X.N[i]? =some x:=by rfl)(Dl:X.env.scope.names.lookup x=some .local:=by rfl)(C:f6 X scope own kp (qu kp X.N):=by exact UP (by kernel_rfl)):K0 X (.Assign [.Name x pos'] (.ListComp elt [⟨tg,iter,ifs,0⟩] scope pos) oW) (bU i$ eNew$ dq it t c f own kp):=⟨Ay hc hN hx Dl C hi.1 (λfp s H=>(hg fp s H).1) (λfp s H=>(Dq fp s H).1) (λfp s H=>(he fp s H).1) zN hs⟩
def bg{pos:Pos}(ha:QD X a fa)(hb:QD X b fb)(hs:y_ b:=by intro _ _;rfl):QD X (.Subscript a b pos) (e2 du fa fb):=⟨RQ ha.1 hb.1 hs⟩
def dH:QP X none h_:=⟨Mg⟩
def cN(h:QD X e f):QP X (some e) (eB f):=⟨Lj h.1⟩
def gQ{lo hi:Option Expr}{fl fh:FO}(he:QD X e f)(hl:QP X lo fl)(hh:QP X hi fh):QD X (.Subscript e (.Slice lo hi none p2) pos) (wU f fl fh):=⟨SD he.1 hl.1 hh.1⟩
def jM{o e:Expr}{f:FD}{fs:au->R (List D)}{apos aW:Pos}(ho:QD X o f)(ha:Fe X [e] fs)(dM:attributeBase o "join" X.env (eval o X.env)=eval o X.env:=by rfl)(i_:((backTo aW$ starEach [e] X.env).all (λx=>!x.1) && (backToKw aW$ keywordEach [] X.env).all (λx=>x.1.isSome)
 && decide (([e]:List Expr).length+([]:List Keyword).length+(if([]:List Keyword).isEmpty then 0 else 1)<30))=true:=by rfl) (dO:(apos.endLine==aW.line)=true:=by rfl) (hs:starEach [e] X.env=(false,eval e X.env) ::starEach [] X.env:=by rfl):QD X (.Call (.Attribute o "join" apos) [e] [] aW) (xH "str" e_ f fs):=⟨KS ho.1 ha.1 dM i_ dO hs⟩
def ia:QJ X [] qW:=⟨Qa⟩
def bo{g:au->R (List Str)}(he:QD X e f)(hr:QJ X es g)(Xk:evalEach (e ::es) X.env=eval e X.env ::evalEach es X.env:=by rfl):QJ X (e ::es) (b5 f g):=⟨Lc he.1 hr.1 Xk⟩
def cR{rest:List Expr}{g:au->R (List Str)}(h:QJ X (JR ::JL ::rest) g):QD X (.JoinedStr (JR ::JL ::rest) pos) (c_ g):=⟨Fh h.1⟩
def gT(h:QD X e f):QD X (.FormattedValue e (-1) none pos) (nq f):=⟨N6 h.1⟩
def IF(h:QD X e f):KH X tg e (Ho f):=⟨Lg h.1⟩
def E5{elts:List Expr}{k:Nat}{JO:Pos}{p pos:Pos}(h:QD X a f)(hg:Gl X "enumerate")(hm:X.mg "enumerate"=none)(hs:starEach [a] X.env=[(false,eval a X.env)]:=by rfl):KH X (.Tuple elts k JO) (.Call (.Name "enumerate" p) [a] [] pos) (uX f):=⟨Ht h.1 hg hm hs⟩
def Gi{P:Program}{w:World}{K:QcQ}{mg:Aaf}{base:Heap}{x qual:Str}{st:Stmt}{f:Addr}{fd:FuncData}{N ps:List Str}{k:Nat}{F:FS}{b:List Stmt}{sc:Scope}(hb:aQ st=b)(hs:aC st=sc)(Fn:Cz K x qual st f fd)(S:bp N ps sc)(fj:∀(fu:Value) (A:Around) (outer:List Env) (s:QcR) (H:Hp) (E:XK),dW k (A.deeper$ envOfC qual sc s.heap.objs.size f fu)->
 uZ (mn wM P w K mg base N qual sc f fu A outer s H E).HQ b F):jH P w K mg base wM (k+1) f fd ps (K9 K ps.length$ wR N F):=IQ hb hs Fn S$ λfu A outer s H E hr=>(fj fu A outer s H E hr).1
def Bx{K:QcQ}{mg:Aaf}{st:Stmt}{N ps:List Str}{k:Nat}{F:FS}(h:Def K mg x st)(hb:aQ st=b)(hs:aC st=sc)(S:bp N ps sc)(fj:∀(f:Addr) (fu:Value) (A:Around) (outer:List Env) (s:QcR) (H:Hp) (E:XK),dW k (A.deeper$ envOfC x sc s.heap.objs.size f fu)->N.Nodup->uZ (mn wM P w K mg base N x sc f fu A outer s H E).HQ b F)(bd:∀(kV doc pm:Value) (an:Option Addr) (fu ct:Value) (us:List Value),us.length=ps.length->bindArgs (PySem.W.fnOf x x (fP st) (aQ st) (aC st) .none kV doc pm an fu ct) ⟨us,[]⟩=pure (ps.zip us):=by intro _ _ _ _ _ _ us hl;rcases us with _ | ⟨_,_ | ⟨_,_ | ⟨_,_ | ⟨_,_ | ⟨_,_ | ⟨_,_ | ⟨_,_⟩⟩⟩⟩⟩⟩⟩ <;> first | (simp at hl;done) | rfl):Callee P w K mg base (k+1) x ps.length (wR N F):=by
 obtain⟨f,fd,F,hm⟩:=h;exact⟨f,fd,_,Gi hb hs F S (λfu A outer s H E hr=>fj f fu A outer s H E hr S.nd),hm,F.kp,F.binds bd⟩
def aG{g:List D->R D}{k j n:Nat}{p pos:Pos}{fs:au->R (List D)}(C:Callee X.prog X.w X.K X.mg X.base k x n g)(ha:Fe X (e ::es) fs)(me:(x==("__debug__":Str))=false:=by decide)(he:starEach (e ::es) X.env=(false,eval e X.env) ::starEach es X.env:=by rfl)(oB:(backTo pos$ starEach es X.env).any (·.1)=false:=by rfl)(hr:dW j X.A:=by assumption)(JK:k<=j:=by decide)(hg:Gl X x:=by rfl)(hn:∀δ ds,fs δ= .ok ds->ds.length=n:=by(repeat apply Gx);exact HW):QD X (.Call (.Name x p) (e ::es) [] pos) (aM g fs):=⟨Jb C hr JK hg ha.1 hn me he oB⟩
def LA{keys:List (Option Expr)}{values:List Expr}{yk:List (TE × TE)}{aD:List (Key × V)}(hu:X.A.units+1<cLine)(h:Oz X zI keys values yk)(GB:keys.all (·.isSome)=true)(hl:keys.length=values.length)(h0:keys≠[])(hc:∀σ H Q,Q (aD.map λkv=>(kV kv.1,kv.2)) H->tK yk σ H Q)(hlen:aD.length<=15)(he:QD X e fe)(hf:QD X f ff)(m:M2 X (.Dict keys values zI) "get" apos e f aW)(hd:PE X (.Dict keys values zI) (Jp yk)):QD X (.Call (.Attribute (.Dict keys values zI) "get" apos) [e,f] [] aW) (G3 aD fe ff):=⟨Qt hu h GB hl h0 hc hlen he.1 hf.1 m hd⟩
end
def Fj{P:Program}{w:World}{K:QcQ}{mg mb:Aaf}{CX:GH}{k:Nat}{fa a:Addr}{fd:FuncData}{x:Str}{sp:Sp}{s₁:QcR}{vs:List Value}{ns:List Int}
 (KX:K.In s₁.heap) (hns:s₁.heap.Ns mainGlobals mg) (hb:s₁.heap.Ns builtinsNs mb) (hbb:∀x:Str,x≠"__name__"->mb x=bootBuiltins x) (Yh:s₁.heap.NoLimit) (hg:s₁.gens=#[])
 (ha:s₁.heap.get? a=some {cls:= .type "list",data:= .seq vs.toArray}) (hi:IntsAre vs ns) (hl:ns.length<=sizeLine) (hr:dW k callerA)
 (F:∀base:Heap,K.In base->base.Ns mainGlobals mg->jH P w K mg base CX k fa fd [x] sp) (Uj:∀(s:QcR) (u:Value),BindsTo s fd ⟨[u],[]⟩ [(x,u)])
 (GC:∀H:Hp,R4 H->yG K [] H a (ns.map V.int)->sp [.ref a] H (λv _=>v= .bl true) λ_ _ _=>False)
 (hCX:∀H e s',CX [] H s₁ (λ_ _ _=>False) e s'->False) :
 codeAny (model P w) callerA (.call (.ref fa) ⟨[.ref a],[]⟩) (λr s'=>r= .ok (.ret$ .bool true)/\OldK s₁.heap s'.heap/\s'.os=s₁.os/\AllBare s'.gens) s₁:=by
 have rv:=x6 hi;have lenV:=hi.length;have core:∀H:Hp,R4 H->yG K [] H a (ns.map V.int)->oU P w H s₁.heap->(∀b,H b≠none->b=a)->(H a≠none->K.lookup a=none)->
  codeAny (model P w) callerA (.call (.ref fa) ⟨[.ref a],[]⟩) (λr s'=>r= .ok (.ret$ .bool true)/\OldK s₁.heap s'.heap/\s'.os=s₁.os/\AllBare s'.gens) s₁:=by
  intro H hO hS hok hA hK;have EK:∀{b:Addr} {o:Obj},s₁.heap.get? b=some o->H b=none->(yR s₁.heap H).get? b=some o:=λe n=>GR e n
  have noA:∀{b:Addr} {o:Obj} {es:Array DictEntry} {ep:Nat},s₁.heap.get? b=some o->o.data= .dict es ep->H b=none:=fun {b o es ep} e d=>by
   cases q:H b with
   | none=>rfl
   | some u=>
     have e':b=a:=hA b (by rw[q];simp)
     subst e';rw[ha] at e;cases e;have d':Data.seq vs.toArray _=Data.dict es ep:=d;cases d'
  have nsK:∀{b:Addr} {m:Aaf},s₁.heap.Ns b m->(yR s₁.heap H).Ns b m:=fun {b m} ⟨o,es,ep,e,d,r⟩=>⟨o,es,ep,EK e$ noA e d,d,r⟩
  have hKb:K.In (yR s₁.heap H):=λb o e=>EK (KX b o e) (by
   cases q:H b with
   | none=>rfl
   | some u=>
     have e':b=a:=hA b (by rw[q];simp)
     subst e';rw[hK$ by rw[q];simp] at e;cases e)
  have hM:Mod K mg (yR s₁.heap H):=⟨hKb,nsK hns,⟨mb,nsK hb,hbb⟩,let⟨mc,h1,h2⟩:=Yh;⟨mc,nsK h1,h2⟩⟩
  have e0:Dg P w K mg (yR s₁.heap H) callerA [] s₁ H:=⟨rfl,hM,λb o e=>LY e,Nat.le_of_eq$ Ge _ _,trivial,λb hb=>absurd (show b∈([]:List Addr) from hb) (by simp),hok, .of_eq hg⟩
  refine codeAny_mono ((F _ hKb$ nsK hns).run callerA [] s₁ H ⟨[.ref a],[]⟩ [.ref a] [.ref a] _ _ hr e0 (Uj s₁$ .ref a) (.cons rfl .nil)$ GC H hO hS) λr s' h=>?_
  cases r with
  | error e=>exact(hCX H e s' h).elim
  | ok fl=>
    cases fl with
    | next=>exact False.elim h
    | brk=>exact False.elim h
    | cont=>exact False.elim h
    | ret u=>
      obtain⟨v,H',os,bare,un,XH,r',q⟩:=h;have q':v= .bl true:=q;subst q';obtain rfl:u=Value.bool true:=r';refine⟨rfl,OldK.of_keep λb o e=>?_,os,bare⟩
      cases q:H b with
      | none=>exact un.keep b o e q (by intro z;exact absurd (show b∈([]:List Addr) from z) (by simp)) (by simp)
      | some u=>
        rcases hO b with z | ⟨ob,xs,z⟩
        .rw [q] at z;cases z
        .have z2:=un.frzs b ob _ z;obtain⟨e1,_⟩:=hok b _ z;obtain⟨e2,_⟩:=XH b _ z2;rw[e] at e1;cases e1;exact e2
 cases hk:K.lookup a with
 | some o=>
   have e:=KX a o hk;rw[ha] at e;cases e;refine core (λ_=>none) (λ_=> .inl rfl) (.inr ⟨vs,_,hk,by rw[Qaa];exact hl,rv⟩) (λb u z=>by have z':(none:Option HO)=some u:=z;cases z') (λb z=>absurd rfl z) λz=>absurd rfl z
 | none=>
   refine core (λb=>if b=a then some (.mq {cls:= .type "list",data:= .seq vs.toArray} (.lst$ ns.map V.int)) else none) (λb=>?_) (.inl ⟨by simp, .inr ⟨{cls:= .type "list",data:= .seq vs.toArray},Qap rfl⟩⟩) (λb u z=>?_) (λb z=>?_) λ_=>hk
   .by_cases hb:b=a
    .exact .inr ⟨_,_,Qap hb⟩
    .exact .inl (Qaj hb)
   .by_cases hb:b=a
    .have z':=(Qap hb).symm.trans z;cases z';subst hb;exact⟨ha,by rw[Qaa];exact hl,vs,_,rv,ha⟩
    .have z':=(Qaj hb).symm.trans z;cases z'
   .by_cases hb:b=a
    .exact hb
    .exact absurd (Qaj hb) z
theorem ints_rep{K:QcQ}{B:List Addr}:∀ns:List Int,aA K B H (ns.map D.int) (ns.map V.int)
 | []=>aA.nil
 | n ::ns=>aA.cons (Rep.int.mpr rfl)$ ints_rep ns
def Sn{l:PySem.W.OpenLaw}{n k:Nat}{q:Program}{loose:List Str}{XP:(Str->Option Value)->Heap->Prop}{YP:World->Heap->Prop}{d:DefRec}{K:Params->QcQ}{x:Str}{g:List D->R D}
 (hn:l.most=some n) (U1:n<=sizeLine) (Yc:d.params.defaults=[]) (hr:dW k callerA) (hY:∀(w:World) (h:Heap),YP w h->(K w.params).In h)
 (F:∀(w:World) (mg:Aaf) (fa:Addr) (h:Heap),(K w.params).In h->h.Ns mainGlobals mg->mg d.name=some (.ref fa)->
   ∃fd:FuncData,(∀(s:QcR) (u:Value),BindsTo s fd ⟨[u],[]⟩ [(x,u)])/\∀base:Heap,(K w.params).In base->base.Ns mainGlobals mg->jH l.prog w (K w.params) mg base wM k fa fd [x] (K9 (K w.params) 1 g))
 (hg:∀ns:List Int,ns.length<=n->g [.lst$ ns.map D.int]= .ok (.bl true)):PySem.W.WalkO q loose XP YP l.row.toRowW d [] (λf vs=>PySem.call f vs):=by
 refine Att.Au hn Yc λw s₀ s₁ mg mb fa o pm cd doc a vs ns G Y ho hd rJ Ur QW hints hlen Yj=>?_
 have KX:=hY w _ Y;obtain⟨fd,hb,hF⟩:=F w mg fa _ KX G.T.g Ur;refine Fj KX G.T.g G.T.b G.T.builtins G.T.nolimit Yj QW hints (QaK hlen U1) hr hF hb (λH hO hS=>?_) λH e s' h=>h
 refine⟨rfl,[],[.lst$ ns.map D.int], .bl true,λb hb=>(by cases hb),aA.cons (Rep.lst.mpr ⟨_,_,rfl,hS,ints_rep ns⟩) aA.nil,hg ns hlen,λz H' _ r=>Rep.bl.mp r⟩
def cY{K:QcQ}{h:Heap}{mg:Aaf}{x:Str}{st:Stmt}{f:Addr}{oc:Value}{od an:Option Addr}{JJ:Array (Option Value)}{kV doc pm fu ct:Value}(X:K.In h)(G:h.Ns mainGlobals mg)(a:PySem.W.nsIn K mainGlobals x=some (some$ .ref f))
 (l:K.lookup f=some ⟨oc,od, .func$ PySem.W.fnOf x x (fP st) (aQ st) (aC st) .none kV doc pm an fu ct,JJ⟩) (c:PySem.W.codeIn K fu x=true) (k:PySem.W.keepIn K (.ref f)=true):Def K mg x st:=
 ⟨f,_,tE l c k,QaZ X G a⟩
def Ii{K:QcQ}{h:Heap}{mg:Aaf}(X:K.In h)(G:h.Ns mainGlobals mg){t:Tok}(a:PySem.W.nsIn K mainGlobals x=some (some$ .str y t)):Glob K mg x (.str y):=
 ⟨_, .str y,QaZ X G a,⟨t,rfl⟩,λ_ _=>Rep.str.mpr rfl⟩
def nj{K:QcQ}{h:Heap}{mg:Aaf}(X:K.In h)(G:h.Ns mainGlobals mg){i:Int}{t:Tok}(a:PySem.W.nsIn K mainGlobals x=some (some$ .int i t)):Glob K mg x (.int i):=
 ⟨_, .int i,QaZ X G a,⟨t,rfl⟩,λ_ _=>Rep.int.mpr rfl⟩
theorem pk{K:QcQ}{B:List Addr}:∀ss:List Str,aA K B H (ss.map D.str) (ss.map V.str)
 | []=>aA.nil
 | n ::ns=>aA.cons (Rep.str.mpr rfl)$ pk ns
def A6{K:QcQ}{h:Heap}{mg:Aaf}(X:K.In h)(G:h.Ns mainGlobals mg){x:Str}{a:Addr}{o:Obj}{its:Array Value}{n:Nat}(ss:List Str)(e:PySem.W.nsIn K mainGlobals x=some (some$ .ref a))(l:K.lookup a=some o)(hc:o.cls= .type "tuple")(hd:o.data= .seq its n)
 (hz:its.size<=sizeLine) (r:Vals (ss.map V.str) its.toList):Glob K mg x (.tup$ ss.map D.str):=
 ⟨_, .ref a,QaZ X G e,rfl,λB H=>Rep.tup.mpr ⟨a,_,rfl, .inr ⟨o,its,n,l,hc,hd,hz,r⟩,pk ss⟩⟩
def vc{t:FT}{body:FS}:∀(ds:List D) (n:Nat) (P:Nat->au->Prop) {δ:au},P n δ->
 (∀i d δ,ds[i]? =some d->P (n+i) δ->∃dh,((t d δ).bind body)= .ok (.nx dh)/\P (n+i+1) dh)->∃dh,ub t body ds δ= .ok (.nx dh)/\P (n+ds.length) dh
 | [],n,P,δ,h0,_=>⟨δ,rfl,h0⟩
 | d ::ds,n,P,δ,h0,hs=>by
   obtain⟨δ1,e1,p1⟩:=hs 0 d δ rfl h0;obtain⟨j7,e2,p2⟩:=vc ds (n+1) P p1 (λi d' dh hi hp=>by
    have:=hs (i+1) d' dh (by simpa using hi) (by rw[show n+(i+1)=n+1+i by omega];exact hp)
    rw[show n+(i+1)+1=n+1+i+1 by omega] at this
    exact this)
   refine⟨j7,?_,by rw[QaI,show n+(ds.length+1)=n+1+ds.length by omega];exact p2⟩
   obtain⟨δ0,h1,h2⟩:=R.aj e1;show(t d δ).bind (λδ1=>(body δ1).bind λo=>match o with | .nx j7=>ub t body ds j7 | .rt r=> .ok$ .rt r)=_
   rw[h1,R.aK,h2,R.aK];exact e2
def iW{t:FT}{body:FS}{ds:List D}(P:Nat->au->Prop){δ:au}(h0:P 0 δ)
 (hs:∀i d δ,ds[i]? =some d->P i δ->∃dh,((t d δ).bind body)= .ok (.nx dh)/\P (i+1) dh):∃dh,ub t body ds δ= .ok (.nx dh)/\P ds.length dh:=by
 have:=vc (t:=t) (body:=body) ds 0 P h0 (λi d δ hi hp=>by simpa using hs i d δ hi (by simpa using hp))
 simpa using this
theorem Iv{α:Type} [DecidableEq α]:∀(L F:List α),L.Nodup->(∀x∈L,x∈F)->L.length<=F.length
 | [],_,_,_=>Qa9 _
 | x ::L,F,hn,hs=>by
   obtain⟨h1,h2⟩:=QbB.mp hn;have hx:x∈F:=hs x Qai;have ih:=Iv L (F.erase x) h2 (λy hy=>(List.mem_erase_of_ne$ λ(e:y=x)=>h1$ by rw[<-e];exact hy).mpr$ hs y$ Qab _ hy)
   rw[List.length_erase_of_mem hx] at ih;have:0<F.length:=List.length_pos_of_mem hx;rw[QaI];omega
def Dh{α:Type}{xs:List α}{i:Int}(h0:0<=i)(h:i.toNat<xs.length):zj xs i=some xs[i.toNat]:=by
 unfold zj FU;rw[Qap h0,Qap$ by omega]
 simp [h]
theorem strs_map:∀ss:List Str,strs? (ss.map D.str)=some ss
 | []=>rfl
 | s ::ss=>by show(strs?$ ss.map D.str).map (s ::·)=_;rw [strs_map ss];rfl
theorem ints_map:∀ss:List Int,ints? (ss.map D.int)=some ss
 | []=>rfl
 | s ::ss=>by show(ints?$ ss.map D.int).map (s ::·)=_;rw [ints_map ss];rfl
def cW{a b:Str}(h:a.cps.toList=b.cps.toList):a=b:=by
 obtain⟨a⟩:=a;obtain⟨b⟩:=b;congr 1;exact Array.toList_inj.mp h
def bq(a b:Str):(a++b).cps.toList=a.cps.toList++b.cps.toList:=by
 show(a.cps++b.cps).toList=_;simp
def xC(a b c:Str):a++b++c=a++(b++c):=cW (by rw[bq,bq,bq,bq,QaE])
def empty_app(a:Str):Str.empty++a=a:=cW (by rw[bq];rfl)
def aJ{F G:FS}{δ δ1:au}{r:R Out}(h:F δ= .ok (.nx δ1))(h2:G δ1=r):bD F G δ=r:=by unfold bD;rw [h,R.aK];exact h2
def bN{f:au->R (List D)}{δ:au}{ds:List D}(h:f δ= .ok ds):eNew f δ= .ok (.lst ds):=by unfold eNew;rw [h];rfl
def ug{c:au->R Bool}{F G:FS}{δ:au}{r:R Out}(h:c δ= .ok true)(h2:F δ=r):xB c F G δ=r:=by unfold xB;rw [h,R.aK,Qap rfl];exact h2
def uk{c:au->R Bool}{F G:FS}{δ:au}{r:R Out}(h:c δ= .ok false)(h2:G δ=r):xB c F G δ=r:=by unfold xB;rw [h,R.aK,Qaj$ by decide];exact h2
def nX{it:au->R (List D)}{F:FS}{δ:au}{ds:List D}{r:R Out}(h:it δ= .ok ds)(h2:ub t F ds δ=r):wC it t F δ=r:=by unfold wC;rw [h,R.aK];exact h2
def cV{f:FD}{δ:au}{d:D}(h:f δ= .ok d):iL f δ= .ok (.rt d):=by unfold iL;rw [h];rfl
def dU{N:List Str}{F:FS}{ds:List D}{d:D}(h:F (b8 N ds)= .ok (.rt d)):wR N F ds= .ok d:=by unfold wR;rw [h];rfl
def bG{α:Type}{p:Prop} [Decidable p](r:R α)(h:p):R.aX (decide p) r=r:=by rw[Qac h];rfl
def bE{i:Nat}{f:FD}{δ:au}{d:D}(h:f δ= .ok d)(hi:i<δ.length):bU i f δ= .ok (.nx$ δ.set i$ .val d):=by unfold bU;rw [h,R.aK,bG _ hi]
def nL{i:Nat}{f:au->R (List D)}{δ:au}{ds:List D}(h:f δ= .ok ds)(hi:i<δ.length):uC i f δ= .ok (.nx$ δ.set i$ .bld ds):=by unfold uC;rw [h,R.aK,bG _ hi]
def nM{i:Nat}{f:FD}{δ:au}{d:D}{ds:List D}(h:f δ= .ok d)(hb:δ[i]? =some (.bld ds))(hl:ds.length<sizeLine):uI i f δ= .ok (.nx$ δ.set i$ .bld$ ds++[d]):=by unfold uI u_;rw [h,R.aK,hb];show R.aX _ _=_;rw [bG _ hl]
def d6{it:au->R (List D)}{c:au->R Bool}{own:List Str}{kp:List Nat}{δ:au}{ds ys:List D}(h1:it δ= .ok ds)(h2:ds.length<=sizeLine)(h3:sj t c f (uA own kp δ) ds= .ok ys):dq it t c f own kp δ= .ok ys:=by unfold dq;rw [h1,R.aK,bG _ h2,h3]
def P_{ds:List D}{i:Int}{d:D}(h:zj ds i=some d):du (.lst ds) (.int i)= .ok d:=by unfold du;simp only[h]
def lE{x:Str}{i:Int}{c:Nat}(hz:x.length<=sizeLine)(h:zj x.cps.toList i=some c):du (.str x) (.int i)= .ok (.str ⟨#[c]⟩):=by unfold du;simp only[h,bG _ hz]
def ax{g:D->D->R D}{fa fb:FD}{δ:au}{a b:D}{r:R D}(ha:fa δ= .ok a)(hb:fb δ= .ok b)(h:g a b=r):e2 g fa fb δ=r:=by unfold e2;rw [ha,R.aK,hb,R.aK];exact h
def cG{g:D->D->R D}{fa fb:FD}{δ:au}{a b:D}{k:Bool}(ha:fa δ= .ok a)(hb:fb δ= .ok b)(h:g a b= .ok (.bl k)):b2 g fa fb δ= .ok k:=by unfold b2;rw [ax ha hb h];rfl
def aw{f:FD}{g:au->R (List D)}{δ:au}{d:D}{ds:List D}(h:f δ= .ok d)(h2:g δ= .ok ds):ag f g δ= .ok (d ::ds):=by unfold ag;rw [h,R.aK,h2];rfl
def ay{g:List D->R D}{fs:au->R (List D)}{δ:au}{ds:List D}{r:R D}(h:fs δ= .ok ds)(h2:g ds=r):aM g fs δ=r:=by unfold aM;rw [h,R.aK];exact h2
def sC{f:FD}{δ:au}{d:D}(h:f (qy δ)= .ok d)(ha:d.atom=true):pq f δ= .ok d:=by unfold pq;rw [h,R.aK,ha];rfl
def rO{g:au->R (List D)}{δ:au}{ds:List D}(h:g δ= .ok ds)(hl:ds.length<=sizeLine):xq g δ= .ok (.tup ds):=by unfold xq;rw [h,R.aK,bG _ hl]
def b_{g:au->R (List D)}{δ:au}{ds:List D}(h:g δ= .ok ds)(hl:ds.length<=sizeLine):ck g δ= .ok ds:=by unfold ck;rw [h,R.aK,bG _ hl]
def jy{g:D->List D->R D}{f:FD}{fs:au->R (List D)}{δ:au}{ds:List D}{r:R D}(h:f δ= .ok (.str x))(h2:fs δ= .ok ds)(h3:g (.str x) ds=r):xH "str" g f fs δ=r:=by
 unfold xH;rw [h,R.aK,h2,R.aK];exact h3
def iS{f:FD}{fl fh:FO}{δ:au}{d:D}{lo hi:Option Int}{r:R D}(h:f δ= .ok d)(h1:fl δ= .ok lo)(h2:fh δ= .ok hi)(h3:JS d lo hi=r):wU f fl fh δ=r:=by unfold wU;rw [h,R.aK,h1,R.aK,h2,R.aK];exact h3
def c9{f:FD}{δ:au}{i:Int}(h:f δ= .ok (.int i)):eB f δ= .ok (some i):=by unfold eB;rw [h];rfl
def B8{x:Str}{lo hi:Option Int}(h:x.length<=sizeLine):JS (.str x) lo hi= .ok (.str$ Txt.slice x lo hi):=by unfold JS;exact bG _ h
def cn{a b:Str}(h:a.length+b.length<=sizeLine):bu (.str a) (.str b)= .ok (.str$ a++b):=by unfold bu;exact bG _ h
def nT{a b:List D}(h:a.length+b.length<=sizeLine):bu (.lst a) (.lst b)= .ok (.lst$ a++b):=by unfold bu;exact bG _ h
def qX{a b:Int}(h:0<b):cX (.int a) (.int b)= .ok (.int$ a % b):=by unfold cX JV;exact bG _ h
def Ef{a b:Int}(h:0<b)(h2:b<1073741824):dY (.int a) (.int b)= .ok (.int$ a / b):=by unfold dY JV;exact bG _ ⟨h,h2⟩
def L8{a:Str}{n:Int}(h0:0<=n)(h1:n<1000)(hl:a.length*n.toNat<=sizeLine):jK (.str a) (.int n)= .ok (.str$ Txt.mul a n):=by unfold jK;exact bG _ ⟨by omega,by omega,hl⟩
def LD{f:FD}{δ:au}{n:Nat}(h:f δ= .ok (.int n))(hn:n<1000000):f7 f δ= .ok (uD 0 n):=by
 unfold f7;rw [h,R.aK];show R.aX (decide (-(2 ^ 62)<=(n:Int)/\(n:Int)<2 ^ 62)) _=_;rw[bG _ ⟨by omega,by omega⟩,Int.toNat_natCast]
def g8{f:FD}{δ:au}{ds:List D}(h:f δ= .ok (.lst ds)):dR f δ= .ok ds:=by unfold dR;rw [h];rfl
def P7{f:FD}{δ:au}{ds:List D}(h:f δ= .ok (.tup ds)):dR f δ= .ok ds:=by unfold dR;rw [h];rfl
def Oc{f:FD}{δ:au}{ds:List D}(h:f δ= .ok (.lst ds)):uX f δ= .ok (qA ds):=by unfold uX;rw [h];rfl
def IB{f:FD}{δ:au}{b:Bool}(h:f δ= .ok (.bl b)):QZ f δ= .ok b:=by unfold QZ;rw [h];rfl
def jJ{f:FD}{g:au->R (List Str)}{δ:au}{ss:List Str}(h:f δ= .ok (.str x))(h2:g δ= .ok ss):b5 f g δ= .ok (x ::ss):=by unfold b5;rw [h,R.aK];show(g δ).bind _=_;rw [h2];rfl
def AK{f:FD}{δ:au}{x:Str}(h:f δ= .ok (.str x))(hl:x.length<=sizeLine):nq f δ= .ok (.str x):=by unfold nq;rw [h,R.aK];unfold Lp;exact bG _ hl
def wt{f:FD}{δ:au}{i:Int}(h:f δ= .ok (.int i))(hl:i.natAbs.log2<1920):nq f δ= .ok (.str$ toString i):=by unfold nq;rw [h,R.aK];unfold Lp;exact bG _ hl
def qS{g:au->R (List Str)}{δ:au}{ss:List Str}(h:g δ= .ok ss)(hl:(ss.foldl (·++·) Str.empty).length<=sizeLine):c_ g δ= .ok (.str$ ss.foldl (·++·) Str.empty):=by unfold c_;rw [h,R.aK,bG _ hl]
def SV(ds:List D):kZ [.lst ds]= .ok (.int ds.length):=rfl
def ze{i:Int}(h:i.natAbs.log2<1920):cStr [.int i]= .ok (.str$ toString i):=by unfold cStr;exact bG _ h
end L2
end
section
namespace L3
open PySem PySem.Spec PyProof.Rows L2
inductive V3 where
 | d (x:D) | loc (k:Nat) | lst (vs:List V3) | tup (vs:List V3) | fn (x:Str)
inductive SO where
 | lst (ds:List D) | dct (aD:List (Key × D)) | ins (c:Nat) (fs:List (Str × V3)) | mq | exc (c:Nat)
abbrev aP:=List SO
inductive R3 (α:Type) where
 | ok (a:α) (S:aP) | ex (c:Nat) (S:aP) | no
def R3.bind{α β:Type}:R3 α->(α->aP->R3 β)->R3 β
 | .ok a S,f=>f a S
 | .ex c S,_=> .ex c S
 | .no,_=> .no
def R3.aj{α β:Type}{r:R3 α}{f:α->aP->R3 β}{b:β}{S':aP}(h:r.bind f= .ok b S'):∃a S,r= .ok a S/\f a S= .ok b S':=by
 cases r with
 | ok a S=>exact⟨a,S,rfl,h⟩
 | ex c S=>cases h
 | no=>cases h
@[simp] theorem R3.aK{α β:Type}(a:α)(S:aP)(f:α->aP->R3 β):(R3.ok a S).bind f=f a S:=rfl
def R3.aX{α:Type}(c:Bool)(r:R3 α):R3 α:=if c then r else .no
def R3.aL{α:Type}{c:Bool}{r:R3 α}{a:α}{S:aP}(h:R3.aX c r= .ok a S):c=true/\r= .ok a S:=by
 cases c with
 | true=>exact⟨rfl,h⟩
 | false=>cases h
def R3.of{α:Type}(r:R α)(S:aP):R3 α:=match r with | .ok a=> .ok a S | _=> .no
def R3.of_ok{α:Type}{r:R α}{S S':aP}{a:α}(h:R3.of r S= .ok a S'):r= .ok a/\S'=S:=by
 cases r with
 | ok b=>cases h;exact⟨rfl,rfl⟩
 | ex c=>cases h
 | no=>cases h
structure P3 where
 r:List Addr
 z:List Addr
 f:List Addr
def P3.b(ρ:P3):List Addr:=ρ.r.filter (λa=>!ρ.f.contains a)++ρ.z
def P3.dD{ρ:P3}{a:Addr}:a∈ρ.b↔(a∈ρ.r/\a ∉ ρ.f)\/a∈ρ.z:=by
 unfold P3.b;rw[Qaq,Qbi];simp
def P3.push(ρ:P3)(a:Addr):P3:=⟨ρ.r++[a],ρ.z,ρ.f⟩
def P3.cut(ρ:P3)(n:Nat):P3:=⟨ρ.r.take n,ρ.z,ρ.f⟩
mutual
def aS(K:QcQ)(ρ:P3)(H:Hp):V3->V->Prop
 | .d x,v=>Rep K ρ.b H x v
 | .loc k,v=>∃a,ρ.r[k]? =some a/\v= .ref a
 | .lst vs,v=>∃a xs,v= .ref a/\yG K ρ.b H a xs/\aE K ρ H vs xs
 | .tup vs,v=>∃a xs,v= .ref a/\De K ρ.b H a xs/\aE K ρ H vs xs
 | .fn x,v=>∃a,PySem.W.nsIn K mainGlobals x=some (some$ .ref a)/\v= .ref a
def aE(K:QcQ)(ρ:P3)(H:Hp):List V3->List V->Prop
 | [],xs=>xs=[]
 | d ::ds,xs=>∃x r,xs=x ::r/\aS K ρ H d x/\aE K ρ H ds r
end
structure Pre (ρ:P3) (H:Hp) (bK:P3) (H':Hp):Prop where
 br:dP ρ.b H bK.b H'
 zz:bK.z=ρ.z
 zs:∀(b:Addr) (o:HO),b∈ρ.z->H b=some o->H' b=some o
 ext:∀(k:Nat) (a:Addr),ρ.r[k]? =some a->bK.r[k]? =some a
def Pre.refl(ρ:P3)(H:Hp):Pre ρ H ρ H:=⟨dP.refl ρ.b H,rfl,λ_ _ _ h=>h,λ_ _ h=>h⟩
def Pre.trans(a:Pre ρ H bK H')(b:Pre bK H' JM qP):Pre ρ H JM qP:=⟨a.br.trans b.br,b.zz.trans a.zz,λc o hc h=>b.zs c o (by rw[a.zz];exact hc)$ a.zs c o hc h,λk x h=>b.ext k x$ a.ext k x h⟩
def Pre.same(s:aR H H'):Pre ρ H ρ H':=⟨dP.same s,rfl,λb o _ h=>s b o h,λ_ _ h=>h⟩
def De.br{K:QcQ}{B B':List Addr}(p:dP B H B' H'){a:Addr}{xs:List V}(l:De K B H a xs):De K B' H' a xs:=
 l.elim (λz=> .inl ⟨(p.rd z.2 z.1).2,(p.rd z.2 z.1).1⟩) .inr
mutual
theorem aS.pre{K:QcQ}(p:Pre ρ H bK H'):∀{d:V3} {v:V},aS K ρ H d v->aS K bK H' d v
 | .d x,v,h=>by unfold aS at h ⊢;exact h.br p.br
 | .loc k,v,h=>by unfold aS at h ⊢;obtain⟨a,h1,h2⟩:=h;exact⟨a,p.ext k a h1,h2⟩
 | .lst vs,v,h=>by unfold aS at h ⊢;obtain⟨a,xs,e,l,r⟩:=h;exact⟨a,xs,e,l.br p.br,aE.pre p r⟩
 | .tup vs,v,h=>by unfold aS at h ⊢;obtain⟨a,xs,e,l,r⟩:=h;exact⟨a,xs,e,De.br p.br l,aE.pre p r⟩
 | .fn x,v,h=>by unfold aS at h ⊢;exact h
theorem aE.pre{K:QcQ}(p:Pre ρ H bK H'):∀{ds:List V3} {xs:List V},aE K ρ H ds xs->aE K bK H' ds xs
 | [],_,h=>by unfold aE at h ⊢;exact h
 | d ::ds,xs,h=>by
   unfold aE at h ⊢;obtain⟨x,r,e,h1,h2⟩:=h;exact⟨x,r,e,aS.pre p h1,aE.pre p h2⟩
end
structure PW (ρ:P3) (H:Hp) (bK:P3) (H':Hp):Prop where
 br:dP ρ.b H bK.b H'
 ext:∀(k:Nat) (a:Addr),ρ.r[k]? =some a->bK.r[k]? =some a
def Pre.pw(p:Pre ρ H bK H'):PW ρ H bK H':=⟨p.br,p.ext⟩
def PW.trans(a:PW ρ H bK H')(b:PW bK H' JM qP):PW ρ H JM qP:=⟨a.br.trans b.br,λk x h=>b.ext k x$ a.ext k x h⟩
mutual
theorem aS.pw{K:QcQ}(p:PW ρ H bK H'):∀{d:V3} {v:V},aS K ρ H d v->aS K bK H' d v
 | .d x,v,h=>by unfold aS at h ⊢;exact h.br p.br
 | .loc k,v,h=>by unfold aS at h ⊢;obtain⟨a,h1,h2⟩:=h;exact⟨a,p.ext k a h1,h2⟩
 | .lst vs,v,h=>by unfold aS at h ⊢;obtain⟨a,xs,e,l,r⟩:=h;exact⟨a,xs,e,l.br p.br,aE.pw p r⟩
 | .tup vs,v,h=>by unfold aS at h ⊢;obtain⟨a,xs,e,l,r⟩:=h;exact⟨a,xs,e,De.br p.br l,aE.pw p r⟩
 | .fn x,v,h=>by unfold aS at h ⊢;exact h
theorem aE.pw{K:QcQ}(p:PW ρ H bK H'):∀{ds:List V3} {xs:List V},aE K ρ H ds xs->aE K bK H' ds xs
 | [],_,h=>by unfold aE at h ⊢;exact h
 | d ::ds,xs,h=>by
   unfold aE at h ⊢;obtain⟨x,r,e,h1,h2⟩:=h;exact⟨x,r,e,aS.pw p h1,aE.pw p h2⟩
end
def aE.nil{K:QcQ}:aE K ρ H [] []:=by unfold aE;rfl
def aE.cons{K:QcQ}{d:V3}{ds:List V3}{x:V}{xs:List V}(h:aS K ρ H d x)(t:aE K ρ H ds xs):aE K ρ H (d ::ds) (x ::xs):=by
 unfold aE;exact⟨x,xs,rfl,h,t⟩
def aE.b7{K:QcQ}{d:V3}{ds:List V3}{xs:List V}(h:aE K ρ H (d ::ds) xs):∃x r,xs=x ::r/\aS K ρ H d x/\aE K ρ H ds r:=by
 unfold aE at h;exact h
theorem aE.length{K:QcQ}:∀{ds:List V3} {xs:List V},aE K ρ H ds xs->ds.length=xs.length
 | [],_,h=>by unfold aE at h;rw [h];rfl
 | d ::ds,xs,h=>by
   obtain⟨x,r,rfl,_,h2⟩:=h.b7;simp [h2.length]
theorem aE.of{K:QcQ}{ρ:P3}:∀{ds:List D} {xs:List V},aA K ρ.b H ds xs->aE K ρ H (ds.map .d) xs
 | [],_,h=>by unfold aA at h;subst h;exact aE.nil
 | d ::ds,xs,h=>by
   obtain⟨x,r,rfl,h1,h2⟩:=h.b7;exact aE.cons (by unfold aS;exact h1) (aE.of h2)
theorem aE.to{K:QcQ}{ρ:P3}:∀{ds:List D} {xs:List V},aE K ρ H (ds.map .d) xs->aA K ρ.b H ds xs
 | [],_,h=>by unfold aE at h;subst h;exact aA.nil
 | d ::ds,xs,h=>by
   obtain⟨x,r,rfl,h1,h2⟩:=aE.b7 h;unfold aS at h1;exact aA.cons h1$ aE.to h2
def isExc(C b:Addr):Heap->Prop:=λh=>∃o,h.get? b=some o/\o.cls= .ref C
def GI(K:QcQ)(cl:Aag)(ρ:P3)(H:Hp):SO->Option HO->Prop
 | .lst ds,h=>∃xs,h=some (.lst xs)/\aA K ρ.b H ds xs
 | .dct aD,h=>∃ys,h=some (.dK ys)/\ys.map (·.1)=aD.map (·.1)/\aA K ρ.b H (aD.map (·.2)) (ys.map (·.2))
 | .ins c fs,h=>∃dx ys,h=some (.ins (cl c) dx ys)/\ys.map (·.1)=fs.map (·.1)/\aE K ρ H (fs.map (·.2)) (ys.map (·.2))
 | .mq,h=>∃u,h=some u
 | .exc c,h=>∃b,h=some (.ext$ isExc (cl c) b)
def GI.pre{K:QcQ}{cl:Aag}(p:Pre ρ H bK H'){o:SO}{h:Option HO}(r:GI K cl ρ H o h):GI K cl bK H' o h:=by
 cases o with
 | lst ds=>obtain⟨xs,e,q⟩:=r;exact⟨xs,e,q.br p.br⟩
 | dct aD=>obtain⟨ys,e,e2,q⟩:=r;exact⟨ys,e,e2,q.br p.br⟩
 | ins c fs=>obtain⟨dx,ys,e,e2,q⟩:=r;exact⟨dx,ys,e,e2,q.pre p⟩
 | mq=>exact r
 | exc c=>exact r
def GI.pw{K:QcQ}{cl:Aag}(p:PW ρ H bK H'){o:SO}{h:Option HO}(r:GI K cl ρ H o h):GI K cl bK H' o h:=by
 cases o with
 | lst ds=>obtain⟨xs,e,q⟩:=r;exact⟨xs,e,q.br p.br⟩
 | dct aD=>obtain⟨ys,e,e2,q⟩:=r;exact⟨ys,e,e2,q.br p.br⟩
 | ins c fs=>obtain⟨dx,ys,e,e2,q⟩:=r;exact⟨dx,ys,e,e2,q.pw p⟩
 | mq=>exact r
 | exc c=>exact r
def GI.some{K:QcQ}{cl:Aag}{o:SO}{h:Option HO}(r:GI K cl ρ H o h):∃u,h=some u:=by
 cases o with
 | lst ds=>obtain⟨xs,e,q⟩:=r;exact⟨_,e⟩
 | dct aD=>obtain⟨ys,e,e2,q⟩:=r;exact⟨_,e⟩
 | ins c fs=>obtain⟨dx,ys,e,e2,q⟩:=r;exact⟨_,e⟩
 | mq=>exact r
 | exc c=>obtain⟨b,e⟩:=r;exact⟨_,e⟩
structure SW (K:QcQ) (cl:Aag) (ρ:P3) (H:Hp) (S:aP):Prop where
 len:ρ.r.length=S.length
 nd:∀(i j:Nat) (a:Addr),ρ.r[i]? =some a->ρ.r[j]? =some a->i=j
 ob:∀(k:Nat) (a:Addr) (o:SO),ρ.r[k]? =some a->S[k]? =some o->GI K cl ρ H o (H a)
 zb:∀b∈ρ.z,(∃xs,H b=some (.lst xs))/\b ∉ ρ.r
 fz:∀(k:Nat) (a:Addr),ρ.r[k]? =some a->S[k]?≠some .mq->a ∉ ρ.f
 ff:∀a∈ρ.f,∃o,H a=some o
 fi:∀(k:Nat) (a:Addr),ρ.r[k]? =some a->S[k]? =some .mq->a∈ρ.f
def SW.rs{K:QcQ}{cl:Aag}{ρ:P3}{H:Hp}{S:aP}(w:SW K cl ρ H S):∀a∈ρ.r,∃o,H a=some o:=λa z=>by
 obtain⟨k,hk⟩:=Qbf z;have hl:=(Qah.mp hk).1;exact(w.ob k a _ hk$ Qag$ by rw[<-w.len];exact hl).some
def SW.bs{K:QcQ}{cl:Aag}{ρ:P3}{H:Hp}{S:aP}(w:SW K cl ρ H S):∀a∈ρ.b,∃o,H a=some o:=λa ha=>by
 rcases P3.dD.mp ha with z | z
 .exact w.rs a z.1
 .obtain⟨xs,h⟩:=(w.zb a z).1;exact⟨_,h⟩
def SW.same{K:QcQ}{cl:Aag}{S:aP}(w:SW K cl ρ H S)(s:aR H H'):SW K cl ρ H' S:=
 ⟨w.len,w.nd,λk a o h1 h2=>by
   have r:=w.ob k a o h1 h2;obtain⟨u,hu⟩:=r.some;rw[s a u hu,<-hu];exact r.pre$ Pre.same s,λb hb=>let⟨⟨o,ho⟩,n⟩:=w.zb b hb;⟨⟨o,s b _ ho⟩,n⟩,w.fz,λa ha=>let⟨o,ho⟩:=w.ff a ha;⟨o,s a o ho⟩,w.fi⟩
def P3.mem_push{ρ:P3}{a b:Addr}(h:b∈(ρ.push a).b):b∈ρ.b\/b=a:=by
 rcases P3.dD.mp h with⟨z,n⟩ | z
 .rcases Qaq.mp z with y | y
  .exact .inl (P3.dD.mpr$ .inl ⟨y,n⟩)
  .exact .inr (QaC.mp y)
 .exact .inl (P3.dD.mpr$ .inr z)
def SW.new{K:QcQ}{cl:Aag}{ρ:P3}{H H':Hp}{S:aP}(w:SW K cl ρ H S){a:Addr}{o:SO}(s:aR H H')(n:H a=none)(r:GI K cl (ρ.push a) H' o (H' a))(rE:o≠SO.mq:=by intro h;cases h) :
 SW K cl (ρ.push a) H' (S++[o])/\Pre ρ H (ρ.push a) H':=by
 have na:a ∉ ρ.b:=λha=>by obtain⟨o,ho⟩:=w.bs a ha;rw [n] at ho;cases ho
 have nr:a ∉ ρ.r:=λha=>by obtain⟨o,ho⟩:=w.rs a ha;rw [n] at ho;cases ho
 have nf:a ∉ ρ.f:=λha=>by obtain⟨o,ho⟩:=w.ff a ha;rw [n] at ho;cases ho
 have p:Pre ρ H (ρ.push a) H':=⟨λb u e nb=>⟨s b u e,λhb=>by
  rcases P3.mem_push hb with z | z
  .exact nb z
  .subst z;rw [n] at e;cases e⟩,rfl,λb o _ h=>s b o h,λk x hx=>by
   show(ρ.r++[a])[k]? =_;rw[Qat (Qah.mp hx).1];exact hx⟩
 have last:∀(i:Nat) (b:Addr),(ρ.push a).r[i]? =some b->(i<ρ.r.length/\ρ.r[i]? =some b)\/(i=ρ.r.length/\b=a):=λi b h=>by
  have h:(ρ.r++[a])[i]? =some b:=h;by_cases q:i<ρ.r.length
  .rw [Qat q] at h;exact .inl ⟨q,h⟩
  .rw [Qal$ by omega] at h
   have h0:i - ρ.r.length=0:=by
    have:=(Qah.mp h).1;simp at this;omega
   rw[h0] at h;cases h;exact .inr ⟨by omega,rfl⟩
 refine⟨⟨by show(ρ.r++[a]).length=_;rw [Qar,Qar,w.len];rfl,λi j b hi hj=>?_,λk b u hk hu=>?_,λb hb=>?_,λk b hk hu=>?_,λb hb=>?_,λk b hk hu=>?_⟩,p⟩
 .rcases last i b hi with⟨q1,q2⟩ | ⟨q1,rfl⟩
  .rcases last j b hj with⟨z1,z2⟩ | ⟨z1,rfl⟩
   .exact w.nd i j b q2 z2
   .exact absurd (Qan q2) nr
  .rcases last j b hj with⟨z1,z2⟩ | ⟨z1,z3⟩
   .exact absurd (Qan z2) nr
   .omega
 .rcases last k b hk with⟨q1,q2⟩ | ⟨q1,rfl⟩
  .rw [Qat$ by rw[<-w.len];exact q1] at hu
   have r0:=w.ob k b u q2 hu;obtain⟨x,hx⟩:=r0.some;rw[s b x hx,<-hx];exact r0.pre p
  .rw [Qal (by rw[<-w.len];omega),q1,w.len,QbA] at hu
   cases hu;exact r
 .obtain⟨⟨o,ho⟩,nb⟩:=w.zb b hb;refine⟨⟨o,s b _ ho⟩,λh=>?_⟩
  rcases Qaq.mp h with y | y
  .exact nb y
  .rw [QaC] at y;subst y;rw [n] at ho;cases ho
 .rcases last k b hk with⟨q1,q2⟩ | ⟨q1,rfl⟩
  .rw [Qat$ by rw[<-w.len];exact q1] at hu
   exact w.fz k b q2 hu
  .exact nf
 .obtain⟨o,ho⟩:=w.ff b hb;exact⟨o,s b o ho⟩
 .rcases last k b hk with⟨q1,q2⟩ | ⟨q1,rfl⟩
  .rw [Qat$ by rw[<-w.len];exact q1] at hu
   exact w.fi k b q2 hu
  .rw [Qal (by rw[<-w.len];omega),q1,w.len,QbA] at hu
   cases hu;exact absurd rfl rE
def SW.put{K:QcQ}{cl:Aag}{ρ:P3}{S:aP}(w:SW K cl ρ H S){k:Nat}{a:Addr}{o:SO}{u:HO}(hk:ρ.r[k]? =some a)(hf:a ∉ ρ.f)(r:GI K cl ρ H o (some u))(rE:o≠SO.mq:=by intro h;cases h) :
 SW K cl ρ (upd H a u) (S.set k o)/\Pre ρ H ρ (upd H a u):=by
 have ha:a∈ρ.r:=Qan hk;have hb:a∈ρ.b:=P3.dD.mpr$ .inl ⟨ha,hf⟩;have nz:∀b∈ρ.z,b≠a:=λb hb z=>(w.zb b hb).2 (by rw[z];exact ha)
 have p:Pre ρ H ρ (upd H a u):=⟨λb x e nb=>⟨by rw[bb$ λ(z:b=a)=>nb$ by rw[z];exact hb];exact e,nb⟩,rfl,λb o hb h=>by rw[bb$ nz b hb];exact h,λ_ _ h=>h⟩
 have hl:k<S.length:=by rw[<-w.len];exact(Qah.mp hk).1
 refine⟨⟨by rw[QaM];exact w.len,w.nd,λj b x hj hx=>?_,λb hb=>?_,λj b hj hx=>?_,λb hb=>?_,λj b hj hx=>?_⟩,p⟩
 .by_cases q:k=j
  .subst q;rw[hk] at hj;cases hj;rw[Qam hl] at hx;cases hx;rw[aZ];exact r.pre p
  .rw [Qao q] at hx;have ne:b≠a:=λz=>by subst z;exact q (w.nd k j b hk hj)
   rw[bb ne];exact(w.ob j b x hj hx).pre p
 .obtain⟨⟨o,ho⟩,nb⟩:=w.zb b hb;exact⟨⟨o,by rw[bb$ nz b hb];exact ho⟩,nb⟩
 .by_cases q:k=j
  .subst q;rw[hk] at hj;cases hj;exact hf
  .rw [Qao q] at hx;exact w.fz j b hj hx
 .obtain⟨o,ho⟩:=w.ff b hb;exact⟨o,by rw[bb$ λz=>hf$ by rw[<-z];exact hb];exact ho⟩
 .by_cases q:k=j
  .subst q;rw[Qam hl] at hx;cases hx;exact absurd rfl rE
  .rw [Qao q] at hx;exact w.fi j b hj hx
def SW.mq{K:QcQ}{cl:Aag}{ρ:P3}{S:aP}(w:SW K cl ρ H S){k:Nat}{a:Addr}{ds:List D}(hk:ρ.r[k]? =some a)(hS:S[k]? =some (.lst ds)) :
 SW K cl ⟨ρ.r,ρ.z,a ::ρ.f⟩ H (S.set k .mq)/\Pre ρ H ⟨ρ.r,ρ.z,a ::ρ.f⟩ H/\Rep K (⟨ρ.r,ρ.z,a ::ρ.f⟩:P3).b H (.lst ds) (.ref a):=by
 have hl:k<S.length:=by rw[<-w.len];exact(Qah.mp hk).1
 have sub:∀b,b∈(⟨ρ.r,ρ.z,a ::ρ.f⟩:P3).b->b∈ρ.b:=λb hb=>by
  rcases P3.dD.mp hb with⟨z,n⟩ | z
  .exact P3.dD.mpr (.inl ⟨z,λh=>n$ Qab _ h⟩)
  .exact P3.dD.mpr (.inr z)
 have p:Pre ρ H ⟨ρ.r,ρ.z,a ::ρ.f⟩ H:=⟨λb o e nb=>⟨e,λhb=>nb$ sub b hb⟩,rfl,λ_ _ _ h=>h,λ_ _ h=>h⟩
 obtain⟨xs,e1,r1⟩:=w.ob k a _ hk hS;refine⟨⟨by rw[QaM];exact w.len,w.nd,λj b x hj hx=>?_,w.zb,λj b hj hx=>?_,λb hb=>?_,λj b hj hx=>?_⟩,p,?_⟩
 .by_cases q:k=j
  .subst q;rw[Qam hl] at hx;cases hx;rw[hk] at hj;cases hj;exact⟨_,e1⟩
  .rw [Qao q] at hx;exact(w.ob j b x hj hx).pre p
 .by_cases q:k=j
  .subst q;rw[Qam hl] at hx;exact absurd rfl hx
  .rw [Qao q] at hx;intro h;rcases QaF.mp h with z | z
   .subst z;exact q$ w.nd k j b hk hj
   .exact w.fz j b hj hx z
 .rcases QaF.mp hb with z | z
  .subst z;exact⟨_,e1⟩
  .exact w.ff b z
 .by_cases q:k=j
  .subst q;rw[hk] at hj;cases hj;exact Qai
  .rw [Qao q] at hx;exact Qab _$ w.fi j b hj hx
 .refine Rep.lst.mpr ⟨a,xs,rfl, .inl ⟨λhb=>?_, .inl e1⟩,r1.br p.br⟩
  rcases P3.dD.mp hb with⟨_,n⟩ | z
  .exact n Qai
  .exact(w.zb a z).2 (Qan hk)
mutual
def A3:D->Bool
 | .lst _=>false
 | .dct _ _=>false
 | .tup ds=>A9 ds
 | _=>true
def A9:List D->Bool
 | []=>true
 | d ::ds=>A3 d && A9 ds
end
mutual
theorem Rep.AE{K:QcQ}{B:List Addr}(hB:∀b∈B,∀xs,¬Rd H b (.tup xs)):∀{d:D} {v:V},A3 d=true->Rep K [] H d v->Rep K B H d v
 | .cM,v,_,r=>Rep.cM.mpr$ Rep.cM.mp r
 | .bl _,v,_,r=>Rep.bl.mpr$ Rep.bl.mp r
 | .int _,v,_,r=>Rep.int.mpr$ Rep.int.mp r
 | .str _,v,_,r=>Rep.str.mpr$ Rep.str.mp r
 | .lst _,v,h,_=>by unfold A3 at h;cases h
 | .dct _ _,v,h,_=>by unfold A3 at h;cases h
 | .tup ds,v,h,r=>by
   unfold A3 at h;obtain⟨a,xs,rfl,l,rs⟩:=Rep.tup.mp r;exact Rep.tup.mpr ⟨a,xs,rfl,l.elim (λz=> .inl ⟨λhb=>hB a hb xs z.2,z.2⟩) .inr,aA.AE hB h rs⟩
theorem aA.AE{K:QcQ}{B:List Addr}(hB:∀b∈B,∀xs,¬Rd H b (.tup xs)):∀{ds:List D} {vs:List V},A9 ds=true->aA K [] H ds vs->aA K B H ds vs
 | [],_,_,r=>by unfold aA at r;subst r;exact aA.nil
 | d ::ds,vs,h,r=>by
   unfold A9 at h;obtain⟨h1,h2⟩:=Qa8.mp h;obtain⟨x,xs,rfl,r1,r2⟩:=r.b7;exact aA.cons (Rep.AE hB h1 r1)$ aA.AE hB h2 r2
end
def SW.nt{K:QcQ}{cl:Aag}{ρ:P3}{S:aP}(w:SW K cl ρ H S):∀b∈ρ.b,∀xs,¬Rd H b (.tup xs):=λb hb xs h=>by
 have key:∀o,H b=some o->(∀xs,o≠ .tup xs)->(∀ob xs,o≠ .mq ob (.tup xs))->False:=λo e h1 h2=>by
  rcases h with z | ⟨ob,z⟩
  .rw [e] at z;cases z;exact h1 _ rfl
  .rw [e] at z;cases z;exact h2 _ _ rfl
 rcases P3.dD.mp hb with⟨z,n⟩ | z
 .obtain⟨k,hk⟩:=Qbf z;have hl:=(Qah.mp hk).1;have hS:S[k]? =some (S[k]'(by rw[<-w.len];exact hl)):=Qag (by rw[<-w.len];exact hl)
  have r:=w.ob k b _ hk hS;generalize S[k]'(by rw[<-w.len];exact hl)=o at r hS
  cases o with
  | lst ds=>obtain⟨ys,e,_⟩:=r;exact key _ e (λ_ q=>by cases q) (λ_ _ q=>by cases q)
  | dct aD=>obtain⟨ys,e,_⟩:=r;exact key _ e (λ_ q=>by cases q) (λ_ _ q=>by cases q)
  | ins c fs=>obtain⟨dx,ys,e,_⟩:=r;exact key _ e (λ_ q=>by cases q) (λ_ _ q=>by cases q)
  | mq=>exact n$ w.fi k b hk hS
  | exc c=>obtain⟨b',e⟩:=r;exact key _ e (λ_ q=>by cases q) (λ_ _ q=>by cases q)
 .obtain⟨⟨ys,e⟩,_⟩:=w.zb b z;exact key _ e (λ_ q=>by cases q) (λ_ _ q=>by cases q)
abbrev DE:=List$ Option V3
structure eg (K:QcQ) (cl:Aag) (ρ:P3) (H:Hp) (S:aP) (σ:L2.St) (δ:DE):Prop where
 len:δ.length=σ.length
 sw:SW K cl ρ H S
 val:∀(i:Nat) (d:V3),δ[i]? =some (some d)->∃v,σ[i]? =some (some v)/\aS K ρ H d v
def eg.to{K:QcQ}{cl:Aag}{S S':aP}{σ:L2.St}{δ:DE}(E:eg K cl ρ H S σ δ)(p:Pre ρ H bK H')(w:SW K cl bK H' S'):eg K cl bK H' S' σ δ:=
 ⟨E.len,w,λi d e=>let⟨v,h1,h2⟩:=E.val i d e;⟨v,h1,h2.pre p⟩⟩
def eg.set{K:QcQ}{cl:Aag}{S:aP}{σ:L2.St}{δ:DE}(E:eg K cl ρ H S σ δ){i:Nat}{d:V3}{v:V}(hi:i<σ.length)(r:aS K ρ H d v):eg K cl ρ H S (σ.set i$ some v) (δ.set i$ some d):=
 ⟨by rw[QaM,QaM];exact E.len,E.sw,λj d' e=>by
   by_cases h:i=j
   .subst h;rw[Qam$ by rw[E.len];exact hi] at e
    cases e;exact⟨v,Qam hi,r⟩
   .rw [Qao h] at e ⊢;exact E.val j d' e⟩
def down(δ:DE):au:=δ.map λx=>match x with | some (.d d)=> .val d | _=> .un
def eg.down{K:QcQ}{cl:Aag}{ρ:P3}{S:aP}{σ:L2.St}{δ:DE}(E:eg K cl ρ H S σ δ):dn K [] ρ.b H σ (down δ) where
 len:=by unfold L3.down;rw [Qaa];exact E.len
 bs:=E.sw.bs
 zb:=λa ha=>by cases ha
 val:=λi d e=>by
  unfold L3.down at e;rw[Qad] at e;cases q:δ[i]? with
  | none=>rw [q] at e;cases e
  | some x=>
    rw[q] at e
    match x,e,q with
    | some (.d y),e,q=>
      cases e;obtain⟨v,h1,h2⟩:=E.val i _ q;unfold aS at h2;exact⟨v,h1,h2⟩
    | some (.loc k),e,q=>cases e
    | some (.lst k),e,q=>cases e
    | some (.tup k),e,q=>cases e
    | none,e,q=>cases e
 bld:=λi ds e=>by
  unfold L3.down at e;rw[Qad] at e;cases q:δ[i]? with
  | none=>rw [q] at e;cases e
  | some x=>
    rw[q] at e
    match x,e with
    | some (.d y),e=>cases e
    | some (.loc k),e=>cases e
    | some (.lst k),e=>cases e
    | some (.tup k),e=>cases e
    | none,e=>cases e
 dis:=λi j a ds es e=>by
  unfold L3.down at e;rw[Qad] at e;cases q:δ[i]? with
  | none=>rw [q] at e;cases e
  | some x=>
    rw[q] at e
    match x,e with
    | some (.d y),e=>cases e
    | some (.loc k),e=>cases e
    | some (.lst k),e=>cases e
    | some (.tup k),e=>cases e
    | none,e=>cases e
mutual
def res(S:aP):V3->Option D
 | .d x=>some x
 | .loc k=>(match S[k]? with | some (.lst ds)=>some (.lst ds) | some (.dct aD)=>some (.dct (aD.map (·.1))$ aD.map (·.2)) | _=>none)
 | .lst vs=>(A4 S vs).map D.lst
 | .tup vs=>(A4 S vs).map D.tup
 | .fn _=>none
def A4(S:aP):List V3->Option (List D)
 | []=>some []
 | v ::vs=>(res S v).bind λd=>(A4 S vs).map (d ::·)
end
def mz(S:aP)(δ:DE):au:=δ.map λx=>match x with | some v=>(match res S v with | some d=> .val d | none=> .un) | none=> .un
def tJ{α β:Type}{o:Option α}{f:α->β}{b:β}(h:o.map f=some b):∃a,o=some a/\f a=b:=by
 cases o with
 | none=>cases h
 | some a=>cases h;exact⟨a,rfl,rfl⟩
def CU{α β:Type}{o:Option α}{f:α->Option β}{b:β}(h:o.bind f=some b):∃a,o=some a/\f a=some b:=by
 cases o with
 | none=>cases h
 | some a=>exact⟨a,rfl,h⟩
mutual
def oS(n:Nat):V3->Bool
 | .d _=>true
 | .loc k=>decide$ n<=k
 | .lst vs=>rS n vs
 | .tup vs=>rS n vs
 | .fn _=>true
def rS(n:Nat):List V3->Bool
 | []=>true
 | v ::vs=>oS n v && rS n vs
end
mutual
theorem aS.resB{K:QcQ}{cl:Aag}{ρ:P3}{S:aP}{B':List Addr}{n:Nat}(w:SW K cl ρ H S)(p:dP ρ.b H B' H)(hn:∀(k:Nat) (a:Addr),n<=k->ρ.r[k]? =some a->a ∉ B'):∀{v:V3} {d:D} {x:V},oS n v=true->res S v=some d->aS K ρ H v x->Rep K B' H d x
 | .d y,d,x,_,h,r=>by unfold L3.res at h;cases h;unfold aS at r;exact r.br p
 | .fn y,d,x,_,h,r=>by unfold L3.res at h;cases h
 | .loc k,d,x,g,h,r=>by
   unfold L3.res at h;unfold aS at r;unfold oS at g;obtain⟨a,h1,rfl⟩:=r;split at h
   .rename_i ds e;cases h;obtain⟨xs,e2,q⟩:=w.ob k a _ h1 e;unfold Rep;exact⟨a,xs,rfl, .inl ⟨hn k a (Qae g) h1, .inl e2⟩,q.br p⟩
   .rename_i aD e;cases h;obtain⟨ys,e2,e3,q⟩:=w.ob k a _ h1 e;unfold Rep;exact⟨a,ys,rfl,⟨hn k a (Qae g) h1,e2⟩,e3,q.br p⟩
   .cases h
 | .lst vs,d,x,g,h,r=>by
   unfold L3.res at h;unfold oS at g;obtain⟨ds,e,rfl⟩:=tJ h;unfold aS at r;obtain⟨a,xs,rfl,l,r⟩:=r;unfold Rep;exact⟨a,xs,rfl,l.br p,aE.resB w p hn g e r⟩
 | .tup vs,d,x,g,h,r=>by
   unfold L3.res at h;unfold oS at g;obtain⟨ds,e,rfl⟩:=tJ h;unfold aS at r;obtain⟨a,xs,rfl,l,r⟩:=r;unfold Rep;exact⟨a,xs,rfl,De.br p l,aE.resB w p hn g e r⟩
theorem aE.resB{K:QcQ}{cl:Aag}{ρ:P3}{S:aP}{B':List Addr}{n:Nat}(w:SW K cl ρ H S)(p:dP ρ.b H B' H)(hn:∀(k:Nat) (a:Addr),n<=k->ρ.r[k]? =some a->a ∉ B'):∀{vs:List V3} {ds:List D} {xs:List V},rS n vs=true->A4 S vs=some ds->aE K ρ H vs xs->aA K B' H ds xs
 | [],ds,xs,_,h,r=>by unfold A4 at h;cases h;unfold aE at r;subst r;exact aA.nil
 | v ::vs,ds,xs,g,h,r=>by
   unfold A4 at h;unfold rS at g;obtain⟨g1,g2⟩:=Qa8.mp g;obtain⟨d,e1,h2⟩:=CU h;obtain⟨es,e2,rfl⟩:=tJ h2;obtain⟨y,ys,rfl,r1,r2⟩:=r.b7;exact aA.cons (aS.resB w p hn g1 e1 r1)$ aE.resB w p hn g2 e2 r2
end
mutual
theorem xI:∀v:V3,oS 0 v=true
 | .d _=>by unfold oS;rfl
 | .loc k=>by unfold oS;exact Qac$ Qa9 _
 | .lst vs=>by unfold oS;exact qQ vs
 | .tup vs=>by unfold oS;exact qQ vs
 | .fn _=>by unfold oS;rfl
theorem qQ:∀vs:List V3,rS 0 vs=true
 | []=>by unfold rS;rfl
 | v ::vs=>by unfold rS;rw [xI v,qQ vs];rfl
end
def aS.res{K:QcQ}{cl:Aag}{S:aP}(w:SW K cl ρ H S){v:V3}{d:D}{x:V}(h:res S v=some d)(r:aS K ρ H v x):Rep K [] H d x:=
 r.resB w (λb o e _=>⟨e,by simp⟩) (n:=0) (λ_ _ _ _=>by simp) (xI v) h
def sW{S:aP}{δ:DE}{i:Nat}{y:Sl}(e:(mz S δ)[i]? =some y):(∃v d,δ[i]? =some (some v)/\res S v=some d/\y= .val d)\/y= .un:=by
 unfold mz at e;rw[Qad] at e;cases q:δ[i]? with
 | none=>rw [q] at e;cases e
 | some x=>
   rw[q] at e;cases x with
   | none=>cases e;exact .inr rfl
   | some v=>
     cases z:res S v with
     | none=>
       have e:some (match res S v with | some d=>Sl.val d | none=> .un)=some y:=e
       rw[z] at e;cases e;exact .inr rfl
     | some d=>
       have e:some (match res S v with | some d=>Sl.val d | none=> .un)=some y:=e
       rw[z] at e;cases e;exact .inl ⟨v,d,rfl,z,rfl⟩
def eg.mz{K:QcQ}{cl:Aag}{S:aP}{σ:L2.St}{δ:DE}(E:eg K cl ρ H S σ δ):dn K [] [] H σ (mz S δ) where
 len:=by unfold L3.mz;rw [Qaa];exact E.len
 bs:=λa ha=>by cases ha
 zb:=λa ha=>by cases ha
 val:=λi d e=>by
  rcases sW e with⟨v,d',h1,h2,h3⟩ | h
  .cases h3;obtain⟨x,q1,q2⟩:=E.val i v h1;exact⟨x,q1,q2.res E.sw h2⟩
  .cases h
 bld:=λi ds e=>by
  rcases sW e with⟨v,d',h1,h2,h3⟩ | h
  .cases h3
  .cases h
 dis:=λi j a ds es e=>by
  rcases sW e with⟨v,d',h1,h2,h3⟩ | h
  .cases h3
  .cases h
abbrev FX:=DE->aP->R3 V3
abbrev FB:=DE->aP->R3 Bool
abbrev FA:=DE->aP->R3 (List V3)
def tX(K:QcQ)(cl:Aag)(f:FX):TE:=λσ H Q=>∃ρ S δ v S',eg K cl ρ H S σ δ/\f δ S= .ok v S'/\∀u bK H',Pre ρ H bK H'->SW K cl bK H' S'->aS K bK H' v u->Q u H'
def Q_(K:QcQ)(cl:Aag)(f:FB):TT:=λσ H Q=>∃ρ S δ b S',eg K cl ρ H S σ δ/\f δ S= .ok b S'/\∀bK H',Pre ρ H bK H'->SW K cl bK H' S'->Q b H'
def Y1(K:QcQ)(cl:Aag)(f:FA):TA:=λσ H Q=>∃ρ S δ vs S',eg K cl ρ H S σ δ/\f δ S= .ok vs S'/\∀us bK H',Pre ρ H bK H'->SW K cl bK H' S'->aE K bK H' vs us->Q us H'
structure PX (X:Cx) (cl:Aag) (e:Expr) (f:FX):Prop where
 go:PE X e (tX X.K cl f)
structure Gu (X:Cx) (cl:Aag) (e:Expr) (f:FB):Prop where
 go:PT X e (Q_ X.K cl f)
structure KW (X:Cx) (cl:Aag) (es:List Expr) (f:FA):Prop where
 go:PA X es (Y1 X.K cl f)
section
variable {X:Cx}{cl:Aag}
def xP(f:FD):FX:=λδ S=>(R3.of (f$ down δ) S).bind λd S=> .ok (.d d) S
def az(h:QD X e f):PX X cl e (xP f):=⟨h.1.imp λσ H Q ⟨ρ,S,δ,v,S',E,hf,q⟩=>by
 obtain⟨d,S1,h1,h2⟩:=R3.aj hf;obtain⟨h3,e3⟩:=R3.of_ok h1;cases h2;subst e3;exact⟨[],ρ.b,down δ,d,E.down,h3,λv H' s r=>q v ρ H' (Pre.same s) (E.sw.same s)$ by unfold aS;exact r⟩⟩
def xT(f:FD):FX:=λδ S=>(R3.of (f$ mz S δ) S).bind λd S=>R3.aX (A3 d)$ .ok (.d d) S
def mF(h:QD X e f):PX X cl e (xT f):=⟨h.1.imp λσ H Q ⟨ρ,S,δ,v,S',E,hf,q⟩=>by
 obtain⟨d,S1,h1,h2⟩:=R3.aj hf;obtain⟨h4,e3⟩:=R3.of_ok h1;obtain⟨ha,h3⟩:=R3.aL h2;cases h3;subst e3;exact⟨[],[],mz _ δ,d,E.mz,h4,λv H' s r=>q v ρ H' (Pre.same s) (E.sw.same s)$ by unfold aS;exact Rep.AE (E.sw.same s).nt ha r⟩⟩
def bP(f:au->R Bool):FB:=λδ S=>R3.of (f$ down δ) S
def lT{f:au->R Bool}(h:QB X e f):Gu X cl e (bP f):=⟨h.1.imp λσ H Q ⟨ρ,S,δ,v,S',E,hf,q⟩=>by
 obtain⟨h1,e3⟩:=R3.of_ok hf;subst e3;exact⟨[],ρ.b,down δ,v,E.down,h1,λH' s=>q ρ H' (Pre.same s)$ E.sw.same s⟩⟩
def bT(f:au->R Bool):FB:=λδ S=>R3.of (f$ mz S δ) S
def vp{f:au->R Bool}(h:QB X e f):Gu X cl e (bT f):=⟨h.1.imp λσ H Q ⟨ρ,S,δ,v,S',E,hf,q⟩=>by
 obtain⟨h1,e3⟩:=R3.of_ok hf;subst e3;exact⟨[],[],mz _ δ,v,E.mz,h1,λH' s=>q ρ H' (Pre.same s)$ E.sw.same s⟩⟩
def bO(i:Nat):FX:=λδ S=>match δ[i]? with | some (some v)=> .ok v S | _=> .no
def aT(i:Nat){x:Str}{pos:Pos}(hN:X.N[i]? =some x:=by rfl)(hv:HM X.env.scope x:=by first | exact Or.inl rfl | exact Or.inr QcN | exact Or.inr (Or.inr rfl))(hd:(x==("__debug__":Str))=false:=by decide)
 (rJ:(x==("__classdict__":Str))=false:=by decide):PX X cl (.Name x pos) (bO i):=⟨(yN hN hv hd rJ).imp λσ H Q ⟨ρ,S,δ,v,S',E,hf,q⟩=>by
 unfold bO at hf;split at hf
 .rename_i d' e;cases hf;obtain⟨u,h1,h2⟩:=E.val i _ e;exact⟨u,h1,q u ρ H (Pre.refl ρ H) E.sw h2⟩
 .cases hf⟩
def zl(f:au->R (List D)):FX:=λδ S=>(R3.of (f$ down δ) S).bind λds S=> .ok (.loc S.length)$ S++[.lst ds]
def yx{f:au->R (List D)}(h:QN X e f):PX X cl e (zl f):=⟨h.1.imp λσ H Q ⟨ρ,S,δ,v,S',E,hf,q⟩=>by
 obtain⟨ds,S1,h1,h2⟩:=R3.aj hf;obtain⟨h3,e3⟩:=R3.of_ok h1;cases h2;subst e3;refine⟨[],ρ.b,down δ,ds,E.down,h3,λa xs H' s n e r=>?_⟩
 have r':aA X.K (ρ.push a).b H' ds xs:=r.br λb o e nb=>⟨e,λhb=>nb (by
  rcases P3.mem_push hb with z | z
  .exact Qab _ z
  .subst z;exact Qai)⟩
 obtain⟨w,p⟩:=E.sw.new (o:= .lst ds) s n ⟨xs,e,r'⟩;exact q _ _ H' p w$ by unfold aS;exact⟨a,by show(ρ.r++[a])[_]? =_;rw [<-E.sw.len,Qal (by omega),QbA];rfl,rfl⟩⟩
end
end L3
end
section
namespace L3
open PySem PySem.Spec PyProof.Rows L2
section
variable {X:Cx}{cl:Aag}
def dG:FA:=λ_ S=> .ok [] S
def bf(f:FX)(g:FA):FA:=λδ S=>(f δ S).bind λv S1=>(g δ S1).bind λvs S2=> .ok (v ::vs) S2
def bM:KW X cl [] dG:=⟨lA.imp λσ H Q ⟨ρ,S,δ,v,S',E,hf,q⟩=>by
 cases hf;exact q [] ρ H (Pre.refl ρ H) E.sw aE.nil⟩
def aH(h:PX X cl e f)(t:KW X cl es g)(hs:starEach (e ::es) X.env=(false,eval e X.env) ::starEach es X.env:=by rfl):KW X cl (e ::es) (bf f g):=
 ⟨(fS h.1 t.1 hs).imp λσ H Q ⟨ρ,S,δ,v,S',E,hf,q⟩=>by
   obtain⟨v1,S1,h1,h2⟩:=R3.aj hf;obtain⟨vs,S2,h3,h4⟩:=R3.aj h2;cases h4;exact⟨ρ,S,δ,v1,S1,E,h1,λu bL H1 p1 w1 r1=>⟨bL,S1,δ,vs,_,E.to p1 w1,h3,λus qp H2 p2 w2 r2=>q _ qp H2 (p1.trans p2) w2$ aE.cons (r1.pre p2) r2⟩⟩⟩
def tF:List V3->Option (List D)
 | []=>some []
 | .d x ::r=>(tF r).map (x ::·)
 | _ ::_=>none
theorem p_:∀{vs:List V3} {ds:List D},tF vs=some ds->vs=ds.map .d
 | [],ds,h=>by cases h;rfl
 | .d x ::r,ds,h=>by
   cases e:tF r with
   | none=>have h:(tF r).map (x ::·)=some ds:=h;rw [e] at h;cases h
   | some es=>
     have h:(tF r).map (x ::·)=some ds:=h
     rw[e] at h;cases h;rw[p_ e];rfl
 | .loc _ ::_,_,h=>by cases h
 | .lst _ ::_,_,h=>by cases h
 | .tup _ ::_,_,h=>by cases h
 | .fn _ ::_,_,h=>by cases h
theorem vH:∀ds:List D,tF (ds.map .d)=some ds
 | []=>rfl
 | d ::ds=>by show(tF$ ds.map .d).map (d ::·)=_;rw [vH ds];rfl
def AQ(vs:List V3):V3:=match tF vs with | some ds=> .d (.tup ds) | none=> .tup vs
def vg(vs:List V3):V3:=match tF vs with | some ds=> .d (.lst ds) | none=> .lst vs
def BS(g:FA):FX:=λδ S=>(g δ S).bind λvs S=>R3.aX (decide$ vs.length<=sizeLine)$ .ok (AQ vs) S
def qk{H:Hp}{p:Addr}{o:HO}(hp:H p=none):Pre ρ H ρ (upd H p o):=Pre.same$ bA hp
def xM{K:QcQ}{ρ:P3}{vs:List V3}{xs:List V}{a:Addr}(l:De K ρ.b H a xs)(r:aE K ρ H vs xs):aS K ρ H (AQ vs) (.ref a):=by
 unfold AQ;split
 .rename_i ds e;rw[p_ e] at r;unfold aS Rep;exact⟨a,xs,rfl,l,r.to⟩
 .unfold aS;exact⟨a,xs,rfl,l,r⟩
def xZ{K:QcQ}{ρ:P3}{vs:List V3}{xs:List V}{a:Addr}(l:yG K ρ.b H a xs)(r:aE K ρ H vs xs):aS K ρ H (vg vs) (.ref a):=by
 unfold vg;split
 .rename_i ds e;rw[p_ e] at r;unfold aS Rep;exact⟨a,xs,rfl,l,r.to⟩
 .unfold aS;exact⟨a,xs,rfl,l,r⟩
def O1{x1 pos}(h:KW X cl es g):PX X cl (.Tuple es x1 pos) (BS g):=⟨(Cc h.1).imp λσ H Q ⟨ρ,S,δ,v,S',E,hf,q⟩=>by
 obtain⟨vs,S1,h1,h2⟩:=R3.aj hf;obtain⟨hl,h3⟩:=R3.aL h2;cases h3;refine⟨ρ,S,δ,vs,_,E,h1,λus bL H1 p1 w1 r1=>⟨by rw[<-r1.length];exact Qae hl,λp hp=>q _ bL _ (p1.trans$ qk hp) (w1.same$ bA hp) ?_⟩⟩
 refine xM (.inl ⟨λha=>?_, .inl aZ⟩)$ r1.pre$ qk hp
 obtain⟨o,ho⟩:=w1.bs p ha;rw[hp] at ho;cases ho⟩
def CJ(g:FA):FX:=λδ S=>(g δ S).bind λvs S=>R3.aX (decide$ vs.length<=sizeLine)$ .ok (vg vs) S
def yy{pos}(h:KW X cl es g):PX X cl (.List es pos) (CJ g):=⟨(HS h.1).imp λσ H Q ⟨ρ,S,δ,v,S',E,hf,q⟩=>by
 obtain⟨vs,S1,h1,h2⟩:=R3.aj hf;obtain⟨hl,h3⟩:=R3.aL h2;cases h3;refine⟨ρ,S,δ,vs,_,E,h1,λus bL H1 p1 w1 r1=>⟨by rw[<-r1.length];exact Qae hl,λp hp=>q _ bL _ (p1.trans$ qk hp) (w1.same$ bA hp) ?_⟩⟩
 refine xZ (.inl ⟨λha=>?_, .inl aZ⟩)$ r1.pre$ qk hp
 obtain⟨o,ho⟩:=w1.bs p ha;rw[hp] at ho;cases ho⟩
def x2(g:D->D->R D)(fa fb:FX):FX:=λδ S=>(fa δ S).bind λa S1=>(fb δ S1).bind λb S2=>match a,b with
 | .d x, .d y=>(R3.of (g x y) S2).bind λd S=> .ok (.d d) S
 | _,_=> .no
def Og{K:QcQ}{g:D->D->R D}{σ:L2.St}{Q:VK}(h:tX K cl (x2 g fa fb) σ H Q) :
 Rj (λx y H Q=>∃B da db d,(∀a∈B,∃o,H a=some o)/\Rep K B H da x/\Rep K B H db y/\g da db= .ok d/\∀z H',aR H H'->Rep K B H' d z->Q z H') (tX K cl fa) (tX K cl fb) σ H Q:=by
 obtain⟨ρ,S,δ,v,S',E,hf,q⟩:=h;obtain⟨a,S1,h1,h2⟩:=R3.aj hf;obtain⟨b,S2,h3,h4⟩:=R3.aj h2
 match a,b,h1,h3,h4 with
 | .d x, .d y,h1,h3,h4=>
   obtain⟨d,S3,h5,h6⟩:=R3.aj h4;obtain⟨h7,e⟩:=R3.of_ok h5;cases h6;subst e;refine⟨ρ,S,δ, .d x,S1,E,h1,λu1 bL H1 p1 w1 r1=>⟨bL,S1,δ, .d y,_,E.to p1 w1,h3,λu2 qp H2 p2 w2 r2=>?_⟩⟩
   have Bu:=r1.pre p2;unfold aS at Bu r2;exact⟨qp.b,x,y,d,w2.bs,Bu,r2,h7,λz H' s r=>q z qp H' (p1.trans$ p2.trans$ Pre.same s) (w2.same s)$ by unfold aS;exact r⟩
 | .d x, .loc _,_,_,h4=>cases h4
 | .d x, .lst _,_,_,h4=>cases h4
 | .d x, .tup _,_,_,h4=>cases h4
 | .d x, .fn _,_,_,h4=>cases h4
 | .loc _,_,_,_,h4=>cases h4
 | .lst _,_,_,_,h4=>cases h4
 | .tup _,_,_,_,h4=>cases h4
 | .fn _,_,_,_,h4=>cases h4
def HA{op:Operator}{g:D->D->R D}(ho:oY X (binaryOp op) g)(ha:PX X cl a fa)(hb:PX X cl b fb):PX X cl (.BinOp a op b pos) (x2 g fa fb):=
 ⟨(IW ho.r ha.1 hb.1).imp λσ H Q h=>Og h⟩
def NY{op:CmpOp}{g:D->D->R D}(ho:oY X (compareOp op) g)(ha:PX X cl a fa)(hb:PX X cl b fb)(hm:behindInMarks op b=false):PX X cl (.Compare a [op] [b] pos) (x2 g fa fb):=
 ⟨(EI ho.r ha.1 hb.1 hm).imp λσ H Q h=>Og h⟩
def TM(g:D->D->R D)(fa fb:FX):FB:=λδ S=>(x2 g fa fb δ S).bind λv S=>match v with | .d (.bl b)=> .ok b S | _=> .no
def zo{op:CmpOp}{g:D->D->R D}(ho:oY X (compareOp op) g)(ha:PX X cl a fa)(hb:PX X cl b fb)(hm:behindInMarks op b=false):Gu X cl (.Compare a [op] [b] pos) (TM g fa fb):=
 ⟨(DF ho.r ha.1 hb.1 hm).imp λσ H Q ⟨ρ,S,δ,b,S',E,hf,q⟩=>by
   obtain⟨v,S1,h1,h2⟩:=R3.aj hf;have hv:v= .d (.bl b)/\S1=S':=by
    match v,h2 with
    | .d (.bl k),h2=>cases h2;exact⟨rfl,rfl⟩
    | .d .cM,h2=>cases h2
    | .d (.int _),h2=>cases h2
    | .d (.str _),h2=>cases h2
    | .d (.lst _),h2=>cases h2
    | .d (.tup _),h2=>cases h2
    | .d (.dct _ _),h2=>cases h2
    | .loc _,h2=>cases h2
    | .lst _,h2=>cases h2
    | .tup _,h2=>cases h2
    | .fn _,h2=>cases h2
   obtain⟨rfl,rfl⟩:=hv;exact Og (g:=g) (Q:=λx H'=>∃k,x= .bl k/\Q k H') ⟨ρ,S,δ,_,_,E,h1,λu bK H' p w r=>⟨b,by unfold aS Rep at r;exact r,q bK H' p w⟩⟩⟩
inductive Ou where
 | nx (δ:DE) | rt (v:V3)
abbrev FZ:=DE->aP->R3 Ou
def za(K:QcQ)(cl:Aag)(ρ:P3)(H:Hp)(D:Ends)(S':aP):Ou->Prop
 | .nx dh=>∀cu bK H',Pre ρ H bK H'->eg K cl bK H' S' cu dh->D.nx cu H'
 | .rt v=>∀u bK H',Pre ρ H bK H'->SW K cl bK H' S'->aS K bK H' v u->D.rt u H'
def za.pre{K:QcQ}{D:Ends}{S':aP}{o:Ou}(q:za K cl ρ H D S' o)(p:Pre ρ H bL H1):za K cl bL H1 D S' o:=by
 cases o with
 | nx dh=>exact λcu bK H' p' E'=>q cu bK H' (p.trans p') E'
 | rt d=>exact λv bK H' p' w r=>q v bK H' (p.trans p') w r
def sX(K:QcQ)(cl:Aag)(F:FZ):TS:=λD σ H=>∃ρ S δ o S',eg K cl ρ H S σ δ/\F δ S= .ok o S'/\za K cl ρ H D S' o
structure PZ (X:Cx) (cl:Aag) (st:Stmt) (F:FZ):Prop where
 go:PS X st (sX X.K cl F)
structure D1 (X:Cx) (cl:Aag) (st:List Stmt) (F:FZ):Prop where
 go:yI X st (sX X.K cl F)
def oa:FZ:=λδ S=> .ok (.nx δ) S
def cx(F G:FZ):FZ:=λδ S=>(F δ S).bind λo S1=>match o with | .nx dh=>G dh S1 | .rt d=> .ok (.rt d) S1
def uN:D1 X cl [] oa:=⟨zg.imp λD σ H ⟨ρ,S,δ,o,S',E,hf,q⟩=>by
 cases hf;exact q σ ρ H (Pre.refl ρ H) E⟩
def bj{st:Stmt}{rest:List Stmt}(h1:PZ X cl st F)(h2:D1 X cl rest G):D1 X cl (st ::rest) (cx F G):=⟨(v_ h1.1 h2.1).imp λD σ H ⟨ρ,S,δ,o,S',E,hf,q⟩=>by
 obtain⟨o1,S1,h1,h2⟩:=R3.aj hf;refine⟨ρ,S,δ,o1,S1,E,h1,?_⟩;cases o1 with
 | nx δ1=>
   intro QQ bL H1 p1 E1;exact⟨bL,S1,δ1,o,S',E1,h2,q.pre p1⟩
 | rt d=>
   cases h2;exact q⟩
def cq{st:Stmt}(h1:PZ X cl st F):D1 X cl [st] F:=⟨yF h1.1⟩
def lU(i:Nat)(f:FX):FZ:=λδ S=>(f δ S).bind λv S=>R3.aX (decide$ i<δ.length)$ .ok (.nx$ δ.set i$ some v) S
def ef{i:Nat}{pos pos':Pos}(he:PX X cl e f)(hs:swapsWith e (some$ .Name x pos') pos.line X.env=pure false:=by rfl)(hf:X.fn x=true\/X.env.scope.names.lookup x=some .local:=by first | exact .inl rfl | exact .inr rfl | assumption)(hN:X.N.Nodup:=by first | assumption | exact Nf (by kernel_rfl))(hi:X.N[i]? =some x:=by rfl)(hx:Loc X.env.scope x:=by first | exact Or.inl rfl | exact Or.inr rfl) :
 PZ X cl (.Assign [.Name x pos'] e pos) (lU i f):=⟨(Co hN hi hx he.1 hs hf).imp λD σ H ⟨ρ,S,δ,o,S',E,hf,q⟩=>by
 obtain⟨v,S1,h1,h2⟩:=R3.aj hf;obtain⟨hi,h3⟩:=R3.aL h2;cases h3;refine⟨ρ,S,δ,v,_,E,h1,λu bL H1 p1 w1 r1=>?_⟩
 exact q _ bL H1 p1$ (E.to p1 w1).set (by rw[<-E.len];exact Qae hi) r1⟩
def vt(f:FX):FZ:=λδ S=>(f δ S).bind λv S=> .ok (.rt v) S
def nR(he:PX X cl e f):PZ X cl (.Return (some e) pos) (vt f):=⟨(Jz he.1).imp λD σ H ⟨ρ,S,δ,o,S',E,hf,q⟩=>by
 obtain⟨v,S1,h1,h2⟩:=R3.aj hf;cases h2;exact⟨ρ,S,δ,v,_,E,h1,λu bL H1 p1 w1 r1=>q u bL H1 p1 w1 r1⟩⟩
def uK(c:FB)(F G:FZ):FZ:=λδ S=>(c δ S).bind λb S=>if b then F δ S else G δ S
def xR(hc:Gu X cl c fc)(ha:D1 X cl a F)(hb:D1 X cl b G):PZ X cl (.If c a b pos) (uK fc F G):=⟨(IM hc.1 ha.1 hb.1).imp λD σ H ⟨ρ,S,δ,o,S',E,hf,q⟩=>by
 obtain⟨k,S1,h1,h2⟩:=R3.aj hf;refine⟨ρ,S,δ,k,S1,E,h1,λbL H1 p1 w1=>?_⟩
 cases k with
 | true=>rw [Qap rfl] at h2;exact HC ⟨bL,S1,δ,o,S',E.to p1 w1,h2,q.pre p1⟩
 | false=>rw [Qaj$ by decide] at h2;exact Hx ⟨bL,S1,δ,o,S',E.to p1 w1,h2,q.pre p1⟩⟩
def vE(f:FX):FZ:=λδ S=>(f δ S).bind λ_ S=> .ok (.nx δ) S
def EF(c:FB)(body:FZ):Nat->FZ
 | 0,_,_=> .no
 | n+1,δ,S=>(c δ S).bind λb S=>if b then(body δ S).bind λo S=>match o with | .nx j7=>EF c body n j7 S | .rt r=> .ok (.rt r) S else .ok (.nx δ) S
def Ws(n:Nat)(c:FB)(body:FZ):FZ:=λδ S=>EF c body n δ S
end
theorem aE.get{K:QcQ}:∀{ds:List V3} {xs:List V} {i:Nat} {d:V3},aE K ρ H ds xs->ds[i]? =some d->∃x,xs[i]? =some x/\aS K ρ H d x
 | [],_,_,_,_,e=>by simp at e
 | d ::ds,xs,0,d',h,e=>by
   obtain⟨x,r,rfl,h1,h2⟩:=h.b7;simp at e;subst e;exact⟨x,rfl,h1⟩
 | d ::ds,xs,i+1,d',h,e=>by
   obtain⟨x,r,rfl,h1,h2⟩:=h.b7;obtain⟨y,e1,e2⟩:=aE.get (i:=i) h2 (by simpa using e)
   exact⟨y,by simpa using e1,e2⟩
def UY(K:QcQ)(ρ:P3)(H:Hp)(J:It)(vs:List V3):Prop:=∀bK H',PW ρ H bK H'->(∀a∈bK.b,∃o,H' a=some o)->(∀(i:Nat) (d:V3),vs[i]? =some d->J.go i H'/\∀x qP,J.yld i H' x qP->aR H' qP/\aS K bK qP d x)/\J.stop vs.length H'
def UY.of{K:QcQ}{ρ:P3}{J:It}{ds:List D}(h:Hi K ρ.b H J ds):UY K ρ H J (ds.map .d):=λbK H' p bs=>by
 obtain⟨h1,h2⟩:=h bK.b H' p.br;refine⟨λi v hv=>?_,by rw[Qaa];exact h2⟩
 rw[Qad] at hv;cases e:ds[i]? with
 | none=>rw [e] at hv;cases hv
 | some d=>
   rw[e] at hv;cases hv;obtain⟨g1,g2⟩:=h1 i d e;exact⟨g1,λx qP y=>let⟨s,r⟩:=g2 x qP y bs;⟨s,by unfold aS;exact r⟩⟩
def ZH(K:QcQ)(cl:Aag)(f:FA):TI:=λσ H R=>∃ρ S δ vs S',eg K cl ρ H S σ δ/\f δ S= .ok vs S'/\∀J bL H1,Pre ρ H bL H1->SW K cl bL H1 S'->UY K bL H1 J vs->R J H1
structure UN (X:Cx) (cl:Aag) (tg e:Expr) (f:FA):Prop where
 go:PI X tg e (ZH X.K cl f)
section
variable {X:Cx}{cl:Aag}
def iP(f:au->R (List D)):FA:=λδ S=>(R3.of (f$ down δ) S).bind λds S=> .ok (ds.map .d) S
def m7{f:au->R (List D)}(h:KH X tg e f):UN X cl tg e (iP f):=⟨h.1.imp λσ H Q ⟨ρ,S,δ,vs,S',E,hf,q⟩=>by
 obtain⟨ds,S1,h1,h2⟩:=R3.aj hf;obtain⟨h3,e3⟩:=R3.of_ok h1;cases h2;subst e3;exact⟨[],ρ.b,down δ,ds,E.down,h3,λJ H1 s r=>q J ρ H1 (Pre.same s) (E.sw.same s)$ UY.of r⟩⟩
def Ni(f:FX):FA:=λδ S=>(f δ S).bind λv S=>match v with | .d (.int j)=>R3.aX (decide (-(2 ^ 62)<=j/\j<2 ^ 62)) (.ok ((uD 0 j.toNat).map .d) S) | _=> .no
def aaR(f:FX):FA:=λδ S=>(f δ S).bind λv S=>match v with | .d (.lst ds)=> .ok (ds.map .d) S | .lst vs=> .ok vs S | _=> .no
abbrev FG:=V3->DE->Option DE
abbrev Kn:=List V3->DE->Option DE
def gX(K:QcQ)(cl:Aag)(t:FG):TG:=λv σ H Q=>∃ρ S δ x dh,eg K cl ρ H S σ δ/\aS K ρ H x v/\t x δ=some dh/\∀cu H',aR H H'->eg K cl ρ H' S cu dh->Q cu H'
def gXs(K:QcQ)(cl:Aag)(t:Kn):Jr:=λv σ H Q=>∃ρ S δ x dh,eg K cl ρ H S σ δ/\aE K ρ H x v/\t x δ=some dh/\∀cu H',aR H H'->eg K cl ρ H' S cu dh->Q cu H'
structure Ox (X:Cx) (cl:Aag) (tg:Expr) (t:FG):Prop where
 go:PG X tg (gX X.K cl t)
structure Kx (X:Cx) (cl:Aag) (tg:List Expr) (t:Kn):Prop where
 go:Mf X tg (gXs X.K cl t)
def eg.same{K:QcQ}{S:aP}{σ:L2.St}{δ:DE}(E:eg K cl ρ H S σ δ)(s:aR H H'):eg K cl ρ H' S σ δ:=E.to (Pre.same s)$ E.sw.same s
def By(i:Nat):FG:=λd δ=>if i<δ.length then some (δ.set i$ some d) else none
def dt{i:Nat}{pos:Pos}(hf:X.fn x=true\/X.env.scope.names.lookup x=some .local:=by first | exact .inl rfl | exact .inr rfl | assumption)(hN:X.N.Nodup:=by first | assumption | exact Nf (by kernel_rfl))(hi:X.N[i]? =some x:=by rfl)(hx:Loc X.env.scope x:=by first | exact Or.inl rfl | exact Or.inr rfl):Ox X cl (.Name x pos) (By i):=
 ⟨(DB hN hi hx hf).imp λv σ H Q ⟨ρ,S,δ,d,dh,E,r,ht,q⟩=>by
   unfold By at ht;split at ht
   .rename_i hi;cases ht;exact q _ H (aR.refl H) (E.set (by rw[<-E.len];exact hi) r)
   .cases ht⟩
def SQ:Kn:=λds δ=>match ds with | []=>some δ | _=>none
def GV(t:FG)(u:Kn):Kn:=λds δ=>match ds with | d ::r=>(t d δ).bind λdh=>u r dh | []=>none
def sk:Kx X cl [] SQ:=⟨Eb.imp λvs σ H Q ⟨ρ,S,δ,ds,dh,E,r,ht,q⟩=>by
 cases ds with
 | nil=>unfold aE at r;cases ht;exact⟨r,q σ H (aR.refl H) E⟩
 | cons=>cases ht⟩
def d_{u:Kn}(h1:Ox X cl e t)(h2:Kx X cl es u)(hs:(assignEach (e ::es) X.env).map (·.2)=assign e X.env ::(assignEach es X.env).map (·.2):=by rfl):Kx X cl (e ::es) (GV t u):=
 ⟨(Ax h1.1 h2.1 hs).imp λvs σ H Q ⟨ρ,S,δ,ds,dh,E,r,ht,q⟩=>by
   cases ds with
   | nil=>cases ht
   | cons d ds=>
     obtain⟨x,xs,rfl,r1,r2⟩:=r.b7;have ht:(t d δ).bind (λdh=>u ds dh)=some dh:=ht
     cases e1:t d δ with
     | none=>rw [e1] at ht;cases ht
     | some δ1=>
       rw[e1] at ht;exact⟨x,xs,rfl,ρ,S,δ,d,δ1,E,r1,e1,λQQ H1 s1 E1=>⟨ρ,S,δ1,ds,dh,E1,r2.pre$ Pre.same s1,ht,λwK H2 s2 E2=>q wK H2 (s1.trans s2) E2⟩⟩⟩
def Q7(n:Nat)(t:Kn):FG:=λd δ=>match d with
 | .d (.tup ds)=>if ds.length=n then t (ds.map .d) δ else none
 | .tup vs=>if vs.length=n then t vs δ else none
 | _=>none
def uJ{k:Nat}{t:Kn}{n:Nat}{pos:Pos}(h:Kx X cl es t)(hn:(assignEach es X.env).length=n:=by rfl)(xA:(assignEach es X.env).findIdx? (·.1)=none:=by rfl)(hc:X.calm=true:=by rfl):Ox X cl (.Tuple es k pos) (Q7 n t):=
 ⟨(JE hc h.1 hn xA).imp λv σ H Q ⟨ρ,S,δ,d,dh,E,r,ht,q⟩=>by
   have key:∃vs a xs,v= .ref a/\De X.K ρ.b H a xs/\aE X.K ρ H vs xs/\vs.length=n/\t vs δ=some dh:=by
    unfold Q7 at ht;split at ht
    .rename_i ds;split at ht
     .rename_i hl;unfold aS Rep at r;obtain⟨a,xs,e,l,r⟩:=r;exact⟨ds.map .d,a,xs,e,l,aE.of r,by rw[Qaa];exact hl,ht⟩
     .cases ht
    .rename_i vs;split at ht
     .rename_i hl;unfold aS at r;obtain⟨a,xs,e,l,r⟩:=r;exact⟨vs,a,xs,e,l,r,hl,ht⟩
     .cases ht
    .cases ht
   obtain⟨vs,a,xs,rfl,l,r,hl,ht⟩:=key;exact⟨a,xs,rfl,l.sq,by rw[<-r.length];exact hl,ρ,S,δ,vs,dh,E,r,ht,q⟩⟩
def OJ(f:FX)(t:FG):FZ:=λδ S=>(f δ S).bind λd S=>match t d δ with | some dh=> .ok (.nx dh) S | none=> .no
def Ol{tg e:Expr}{f:FX}{t:FG}{pos:Pos}(he:PX X cl e f)(hg:Ox X cl tg t)(hs:swapsWithSole [tg] e pos.line X.env=pure false:=by rfl)(hw:swappedStores [tg] e X.env=pure none:=by rfl)
 (h1:(assignEach [tg] X.env).map (·.2)=[assign tg X.env]:=by rfl):PZ X cl (.Assign [tg] e pos) (OJ f t):=⟨(Hu he.1 hg.1 hs hw h1).imp λD σ H ⟨ρ,S,δ,o,S',E,hf,q⟩=>by
 obtain⟨d,S1,h1,h2⟩:=R3.aj hf;split at h2
 .rename_i δ1 e1;cases h2;exact⟨ρ,S,δ,d,_,E,h1,λv bL H1 p1 w1 r1=>⟨bL,_,δ,d,δ1,E.to p1 w1,r1,e1,λcu H2 s2 E2=>q cu bL H2 (p1.trans$ Pre.same s2) E2⟩⟩
 .cases h2⟩
def iM(t:FG)(body:FZ):List V3->FZ
 | [],δ,S=> .ok (.nx δ) S
 | d ::ds,δ,S=>match t d δ with
   | none=> .no
   | some δ1=>(body δ1 S).bind λo S=>match o with | .nx j7=>iM t body ds j7 S | .rt r=> .ok (.rt r) S
def yS(it:FA)(t:FG)(body:FZ):FZ:=λδ S=>(it δ S).bind λvs S=>iM t body vs δ S
def CA{pos:Pos}(hi:UN X cl tg iter it)(hg:Ox X cl tg t)(hb:D1 X cl body F)(hs:∀x,foldedSetIterable iter X.env x=pure x:=by intro _;rfl)(hp:PassesOwn (model X.prog X.w) X.A X.env X.xe:=by exact PassesOwn.never)(hc:X.calm=true:=by rfl):PZ X cl (.For tg iter body [] pos) (yS it t F):=⟨(BK hp hc hi.1 hg.1 hb.1 hs).imp λD σ H ⟨ρ,S,δ,o,S',E,hf,q⟩=>by
 obtain⟨ds,S0,h1,h2⟩:=R3.aj hf;refine⟨ρ,S,δ,ds,S0,E,h1,λJ bL H1 p1 w1 ir=>?_⟩
 refine⟨λi m cu H'=>m=ds.length - i/\i<=ds.length/\∃bK S1 dh,Pre bL H1 bK H'/\eg X.K cl bK H' S1 cu dh/\iM t F (ds.drop i) dh S1= .ok o S',⟨ds.length,rfl,Qa9 _,bL,S0,δ,Pre.refl bL H1,E.to p1 w1,by simpa using h2⟩,?_⟩
 rintro i m cu H' ⟨rfl,hi,bK,S1,dh,pv,E',hl⟩;obtain⟨go,stop⟩:=ir bK H' pv.pw E'.sw.bs;by_cases hlt:i<ds.length
 .have hd:ds[i]? =some ds[i]:=Qag hlt;have hdrop:ds.drop i=ds[i] ::ds.drop (i+1):=Qbu hlt;rw[hdrop] at hl;unfold iM at hl;split at hl
  .cases hl
  .rename_i δ1 h3;obtain⟨o1,S2,h5,h6⟩:=R3.aj hl;obtain⟨g1,g2⟩:=go i _ hd;refine .inr ⟨g1,λwK H2=>∃qp S2 j7,Pre bL H1 qp H2/\eg X.K cl qp H2 S2 wK j7/\iM t F (ds.drop$ i+1) j7 S2= .ok o S',λwK H2 n=>⟨ds.length - (i+1),by omega,rfl,hlt,n⟩,λx qP y=>?_⟩
   obtain⟨ss,rr⟩:=g2 x qP y;refine⟨bK,S1,dh,ds[i],δ1,E'.same ss,rr,h3,λwK H2 s2 E2=>⟨bK,S1,δ1,o1,S2,E2,h5,?_⟩⟩
   have pv2:Pre bL H1 bK H2:=pv.trans$ Pre.same$ ss.trans s2;cases o1 with
   | nx j7=>exact λJ_ Dm H3 p3 E3=>⟨Dm,S2,j7,pv2.trans p3,E3,h6⟩
   | rt d=>
     cases h6;exact λv Dm H3 p3 w r=>q v Dm H3 (p1.trans$ pv2.trans p3) w r
 .have e:i=ds.length:=by omega
  subst e;rw[Qb1] at hl;cases hl;exact .inl ⟨stop,q cu bK H' (p1.trans pv) E'⟩⟩
end
mutual
def AA(n:Nat):V3->Bool
 | .d _=>true
 | .loc k=>decide$ k<n
 | .lst vs=>tq n vs
 | .tup vs=>tq n vs
 | .fn _=>true
def tq(n:Nat):List V3->Bool
 | []=>true
 | v ::vs=>AA n v && tq n vs
end
def z0(n:Nat):SO->Bool
 | .ins _ fs=>tq n$ fs.map (·.2)
 | _=>true
def Kv{ρ:P3}{n:Nat}{b:Addr}(h:b∈(ρ.cut n).b):b∈ρ.b:=by
 rcases P3.dD.mp h with z | z
 .exact P3.dD.mpr (.inl ⟨Qbo z.1,z.2⟩)
 .exact P3.dD.mpr (.inr z)
def jO{ρ:P3}(n:Nat):dP ρ.b H (ρ.cut n).b H:=λb o e nb=>⟨e,λhb=>nb$ Kv hb⟩
mutual
theorem aS.cut{K:QcQ}{ρ:P3}{n:Nat}:∀{v:V3} {x:V},AA n v=true->aS K ρ H v x->aS K (ρ.cut n) H v x
 | .fn y,x,_,h=>by unfold aS at h ⊢;exact h
 | .d y,x,_,h=>by unfold aS at h ⊢;exact h.br$ jO n
 | .loc k,x,o,h=>by
   unfold aS at h ⊢;unfold AA at o;obtain⟨a,h1,h2⟩:=h;exact⟨a,by show(ρ.r.take n)[k]? =_;rw [Qbw$ Qae o];exact h1,h2⟩
 | .lst vs,x,o,h=>by
   unfold aS at h ⊢;unfold AA at o;obtain⟨a,xs,e,l,r⟩:=h;exact⟨a,xs,e,l.br$ jO n,aE.cut o r⟩
 | .tup vs,x,o,h=>by
   unfold aS at h ⊢;unfold AA at o;obtain⟨a,xs,e,l,r⟩:=h;exact⟨a,xs,e,De.br (jO n) l,aE.cut o r⟩
theorem aE.cut{K:QcQ}{ρ:P3}{n:Nat}:∀{vs:List V3} {xs:List V},tq n vs=true->aE K ρ H vs xs->aE K (ρ.cut n) H vs xs
 | [],_,_,h=>by unfold aE at h ⊢;exact h
 | v ::vs,xs,o,h=>by
   unfold tq at o;obtain⟨o1,o2⟩:=Qa8.mp o;obtain⟨x,r,rfl,h1,h2⟩:=h.b7;exact aE.cons (aS.cut o1 h1)$ aE.cut o2 h2
end
def SW.cut{K:QcQ}{cl:Aag}{ρ:P3}{S:aP}(w:SW K cl ρ H S){n:Nat}(ok:(S.take n).all (z0 n)=true):SW K cl (ρ.cut n) H (S.take n):=
 ⟨by show(ρ.r.take n).length=_;rw [QaO,QaO,w.len],λi j a hi hj=>by
   have hi:(ρ.r.take n)[i]? =some a:=hi;have hj:(ρ.r.take n)[j]? =some a:=hj;have gi:ρ.r[i]? =some a:=by
    rw[Qa2] at hi;split at hi
    .exact hi
    .cases hi
   have gj:ρ.r[j]? =some a:=by
    rw[Qa2] at hj;split at hj
    .exact hj
    .cases hj
   exact w.nd i j a gi gj,λk a o hk ho=>by
   have hk:(ρ.r.take n)[k]? =some a:=hk;have gk:ρ.r[k]? =some a:=by
    rw[Qa2] at hk;split at hk
    .exact hk
    .cases hk
   have go:S[k]? =some o:=by
    rw[Qa2] at ho;split at ho
    .exact ho
    .cases ho
   have r:=w.ob k a o gk go;have oo:z0 n o=true:=QaJ.mp ok o$ Qan ho;cases o with
   | lst ds=>obtain⟨xs,e,q⟩:=r;exact⟨xs,e,q.br$ jO n⟩
   | dct aD=>obtain⟨ys,e,e2,q⟩:=r;exact⟨ys,e,e2,q.br$ jO n⟩
   | ins c fs=>obtain⟨dx,ys,e,e2,q⟩:=r;exact⟨dx,ys,e,e2,q.cut oo⟩
   | exc c=>exact r
   | mq=>exact r,λb hb=>let⟨h1,h2⟩:=w.zb b hb;⟨h1,λh=>h2$ Qbo h⟩,(λk a hk ho=>by
   have hk:(ρ.r.take n)[k]? =some a:=hk;rw[Qa2] at hk;split at hk
   .rename_i hlt;rw[Qbw hlt] at ho;exact w.fz k a hk ho
   .cases hk),w.ff,(λk a hk ho=>by
   have hk:(ρ.r.take n)[k]? =some a:=hk;rw[Qa2] at hk;split at hk
   .rename_i hlt;rw[Qbw hlt] at ho;exact w.fi k a hk ho
   .cases hk)⟩
def SW.Im{K:QcQ}{cl:Aag}{ρ bK:P3}{n:Nat}(hn:ρ.r.length<=n)(p:Pre ρ H bK H'):Pre ρ H (bK.cut n) H':=
 ⟨p.br.trans$ jO n,p.zz,p.zs,λk a h=>by show(bK.r.take n)[k]? =_;rw [Qbw$ Qas (Qah.mp h).1 hn];exact p.ext k a h⟩
section
variable {X:Cx}{cl:Aag}
def cf(S:aP)(k:Nat):Option (List D):=match S[k]? with | some (.lst ds)=>some ds | _=>none
def cw{S:aP}{k:Nat}{ds:List D}(h:cf S k=some ds):S[k]? =some (.lst ds):=by
 unfold cf at h;split at h
 .rename_i e;cases h;exact e
 .cases h
def lR(δ:DE)(i:Nat):Option Nat:=match δ[i]? with | some (some$ .loc k)=>some k | _=>none
def qV{δ:DE}{i k:Nat}(h:lR δ i=some k):δ[i]? =some (some$ .loc k):=by
 unfold lR at h;split at h
 .rename_i e;cases h;exact e
 .cases h
def Ga(i:Nat)(f:FX):FZ:=λδ S=>match lR δ i with
 | none=> .no
 | some k=>match cf S k with
   | none=> .no
   | some _=>(f δ S).bind λv S1=>match v with
     | .d d=>(match cf S1 k with | some ds=>R3.aX (decide$ ds.length<sizeLine) (.ok (.nx δ)$ S1.set k$ .lst$ ds++[d]) | none=> .no)
     | _=> .no
def H_{i:Nat}{x:Str}{e:Expr}{f:FX}{p7 apos aW pos:Pos}(he:PX X cl e f)(hd:(x==("__debug__":Str))=false:=by decide)(rJ:(x==("__classdict__":Str))=false:=by decide)(hs:starEach [e] X.env=(false,eval e X.env) ::starEach [] X.env:=by rfl)(dO:(apos.endLine==aW.line)=true:=by rfl)(i_:((backTo aW$ starEach [e] X.env).all (λx=>!x.1) && (backToKw aW$ keywordEach [] X.env).all (λx=>x.1.isSome)
 && decide (([e]:List Expr).length+([]:List Keyword).length+(if([]:List Keyword).isEmpty then 0 else 1)<30))=true:=by rfl) (zN:swapsWith (.Call (.Attribute (.Name x p7) "append" apos) [e] [] aW) none pos.line X.env=pure false:=by rfl) (dM:attributeBase (.Name x p7) "append" X.env (eval (.Name x p7) X.env)=eval (.Name x p7) X.env:=by rfl) (hN:X.N[i]? =some x:=by rfl) (hv:HM X.env.scope x:=by first | exact Or.inl rfl | exact Or.inr QcN | exact Or.inr (Or.inr rfl)) :
 PZ X cl (.Expr (.Call (.Attribute (.Name x p7) "append" apos) [e] [] aW) pos) (Ga i f):=by
 refine⟨(rK (xO (X:=X) QbM QbJ QbK m5 (yN hN hv hd rJ) (fS he.1 lA hs) dM i_ dO hs) zN).imp λD σ H ⟨ρ,S,δ,o,S',E,hf,q⟩=>?_⟩
 unfold Ga at hf;split at hf
 .cases hf
 .rename_i k hk;split at hf
  .cases hf
  .rename_i GP h0;obtain⟨v,S1,h1,h2⟩:=R3.aj hf;split at h2
   .rename_i d;split at h2
    .rename_i ds h3;obtain⟨hl,h4⟩:=R3.aL h2;cases h4;obtain⟨u,u1,u2⟩:=E.val i _$ qV hk;unfold aS at u2;obtain⟨a,a1,rfl⟩:=u2;obtain⟨Uy,x0,_⟩:=E.sw.ob k a _ a1$ cw h0;refine⟨.ref a,u1, .inl ⟨rfl,Uy,oZ.of x0⟩,⟨ρ,S,δ, .d d,S1,E,h1,λy bL H1 p1 w1 r1=>?_⟩⟩
     have b1:=p1.ext k a a1;obtain⟨xs,x1,x2⟩:=w1.ob k a _ b1$ cw h3;refine⟨a,xs,y,rfl,rfl,x1,by rw[<-x2.length];exact Qae hl,?_⟩
     unfold aS at r1;obtain⟨w2,p2⟩:=w1.put (o:= .lst$ ds++[d]) (u:= .lst$ xs++[y]) b1 (w1.fz k a b1$ by rw[cw h3];intro h;cases h) ⟨xs++[y],rfl,x2.append$ aA.cons r1 aA.nil⟩
     exact q σ bL _ (p1.trans p2)$ E.to (p1.trans p2) w2
    .cases h2
   .cases h2
def Gn(fo fi fe:FX):FZ:=λδ S=>(fe δ S).bind λv S1=>(fo δ S1).bind λo S2=>(fi δ S2).bind λj S3=>match v,o,j with
 | .d d, .loc k, .d (.int n)=>(match cf S3 k with
   | some ds=>(match FU ds.length n with | some m=> .ok (.nx δ) (S3.set k$ .lst$ ds.set m d) | none=> .no)
   | none=> .no)
 | _,_,_=> .no
def KG(K:QcQ)(cl:Aag)(n:Nat)(g:List V3->aP->R3 V3):Sp:=λvs H Q _=>vs.length=n/\∃ρ S xs v S',SW K cl ρ H S/\aE K ρ H xs vs/\g xs S= .ok v S'/\∀u bK H',Pre ρ H bK H'->SW K cl bK H' S'->aS K bK H' v u->Q u H'
def sv(g:List V3->aP->R3 V3)(fs:FA):FX:=λδ S=>(fs δ S).bind g
def my(P:Program)(w:World)(K:QcQ)(mg:Aaf)(base:Heap)(cl:Aag)(k:Nat)(x:Str)(n:Nat)(g:List V3->aP->R3 V3):Prop:=
 ∃(f:Addr) (fd:FuncData) (ps:List Str),jH P w K mg base wM k f fd ps (KG K cl n g)/\mg x=some (.ref f)/\PySem.W.keepIn K (.ref f)=true/\Binds K fd ps []
def yJ{g:List V3->aP->R3 V3}{k j n:Nat}{p pos:Pos}(C:my X.prog X.w X.K X.mg X.base cl k x n g)(ha:KW X cl (e ::es) fs)(me:(x==("__debug__":Str))=false:=by decide)(he:starEach (e ::es) X.env=(false,eval e X.env) ::starEach es X.env:=by rfl)(oB:(backTo pos$ starEach es X.env).any (·.1)=false:=by rfl)(hr:dW j X.A:=by assumption)(JK:k<=j:=by decide)(hg:Gl X x:=by rfl)(hn:∀δ S ds S',fs δ S= .ok ds S'->ds.length=n:=by(repeat apply cC);exact jF) :
 PX X cl (.Call (.Name x p) (e ::es) [] pos) (sv g fs):=by
 obtain⟨f,fd,ps,F,hm,hk,hb⟩:=C;refine⟨(yn F (hr.mono JK) hg hm hk hb .nil HG ha.1 me he oB).imp λσ H Q ⟨ρ,S,δ,v,S',E,hf,q⟩=>?_⟩
 obtain⟨vs,S1,h1,h2⟩:=R3.aj hf;refine⟨ρ,S,δ,vs,S1,E,h1,λus bL H1 p1 w1 r1=>?_⟩
 show KG X.K cl n g (us++[]) H1 Q E0;rw[Qbj];exact⟨by rw[<-r1.length];exact hn δ S vs S1 h1,bL,S1,vs,v,S',w1,r1,h2,λz qp H2 p2 w2 r2=>q z qp H2 (p1.trans p2) w2 r2⟩
end
def fm(N:List Str)(vs:List V3):DE:=vs.map some++List.replicate (N.length - vs.length) none
def Ae{K:QcQ}{cl:Aag}{S:aP}{N:List Str}{ds:List V3}{vs:List V}(w:SW K cl ρ H S)(r:aE K ρ H ds vs):eg K cl ρ H S (L2.start N vs) (fm N ds) where
 len:=by unfold L2.start fm;simp [r.length]
 sw:=w
 val:=λi d e=>by
  unfold fm at e;unfold L2.start;by_cases hi:i<ds.length
  .rw [Qat (by simpa using hi),Qad] at e
   cases q:ds[i]? with
   | none=>rw [q] at e;cases e
   | some d'=>
     rw[q] at e;cases e;obtain⟨x,h1,h2⟩:=r.get q;exact⟨x,by rw[Qat (by rw[Qaa,<-r.length];exact hi),Qad,h1];rfl,h2⟩
  .rw [Qal (by simpa using hi),QaS] at e
   split at e <;> cases e
def uu(N:List Str)(F:FZ):List V3->aP->R3 V3:=λvs S=>(F (fm N vs) S).bind λo S'=>match o with | .rt v=> .ok v S' | .nx _=> .ok (.d .cM) S'
def zR(N:List Str)(F:FZ):List V3->aP->R3 V3:=λvs S=>(uu N F vs S).bind λv S'=>match res S' v with
 | some d=>R3.aX ((S'.take S.length).all (z0 S.length) && oS S.length v)$ .ok (.d d)$ S'.take S.length
 | none=> .no
def LW{P:Program}{w:World}{K:QcQ}{mg:Aaf}{base:Heap}{cl:Aag}{x qual:Str}{st:Stmt}{f:Addr}{fd:FuncData}{N ps:List Str}{k:Nat}{F:FZ}(Fn:Cz K x qual st f fd)(S:bp N ps (aC st))
 (fj:∀(fu:Value) (A:Around) (outer:List Env) (s:QcR) (H:Hp) (E:XK),dW k (A.deeper$ envOfC qual (aC st) s.heap.objs.size f fu)->
   D1 (mn wM P w K mg base N qual (aC st) f fu A outer s H E).HQ cl (aQ st) F):jH P w K mg base wM (k+1) f fd ps (KG K cl ps.length$ uu N F):=by
 refine Fn.ok S (λvs H Q E h=>h.1)$ λfu A outer s H vs Q E hr h=>⟨_,(fj fu A outer s H E hr).1,?_⟩
 obtain⟨_,ρ,S,ds,v,S',w,r,hg,q⟩:=h;obtain⟨o,S1,h1,h2⟩:=R3.aj hg;refine⟨ρ,S,fm N ds,o,S1,Ae w r,h1,?_⟩;cases o with
 | nx dh=>
   cases h2;exact λcu bK H' p' E'=>q _ bK H' p' E'.sw (by unfold aS Rep;rfl)
 | rt d'=>
   cases h2;exact λu bK H' p' w' r'=>q u bK H' p' w' r'
def Hq{K:QcQ}{cl:Aag}{N:List Str}{n:Nat}{vs:List V}{Q:VK}{E:XK}(h:KG K cl n (zR N F) vs H Q E):KG K cl n (uu N F) vs H Q E:=by
 obtain⟨hl,ρ,S,xs,v,S',w,r,hg,q⟩:=h;obtain⟨v1,S1,h1,h2⟩:=R3.aj hg;refine⟨hl,ρ,S,xs,v1,S1,w,r,h1,λu bL H1 p1 w1 r1=>?_⟩
 have pc:Pre ρ H (bL.cut S.length) H1:=SW.Im (K:=K) (cl:=cl) (by rw[w.len];exact Qak _) p1
 split at h2
 .rename_i d e;obtain⟨ok,h3⟩:=R3.aL h2;obtain⟨ok,hk⟩:=Qa8.mp ok;cases h3;refine q u _ H1 pc (w1.cut ok) ?_;unfold aS;refine r1.resB w1 (jO _) (λk a hk a1 ha=>?_) hk e
  rcases P3.dD.mp ha with⟨z,_⟩ | z
  .obtain⟨j,hj⟩:=Qbf z;have hj:(bL.r.take S.length)[j]? =some a:=hj;rw[Qa2] at hj;split at hj
   .rename_i hjl;have:=w1.nd j k a hj a1;omega
   .cases hj
  .exact(w1.zb a z).2 (Qan a1)
 .cases h2
end L3
end
section
namespace L3
open PySem PySem.Spec PyProof.Rows L2
theorem aA.setAt{K:QcQ}{ρ:P3}:∀{ds:List D} {xs:List V} {m:Nat} {d:D} {v:V},aA K ρ.b H ds xs->Rep K ρ.b H d v->aA K ρ.b H (ds.set m d) (xs.set m v)
 | [],_,_,_,_,h,_=>by unfold aA at h;subst h;exact aA.nil
 | e ::ds,xs,0,d,v,h,r=>by
   obtain⟨x,r',rfl,h1,h2⟩:=h.b7;exact aA.cons r h2
 | e ::ds,xs,m+1,d,v,h,r=>by
   obtain⟨x,r',rfl,h1,h2⟩:=h.b7;exact aA.cons h1$ aA.setAt h2 r
section
variable {X:Cx}{cl:Aag}
def zp{o i e:Expr}{fo fi fe:FX}{oW pos:Pos}(he:PX X cl e fe)
 (hg:PG X (.Subscript o i oW) (Uc (tX X.K cl fo) (tX X.K cl fi) ML))
 (hs:swapsWithSole [.Subscript o i oW] e pos.line X.env=pure false:=by rfl) (hw:swappedStores [.Subscript o i oW] e X.env=pure none:=by rfl)
 (h1:(assignEach [.Subscript o i oW] X.env).map (·.2)=[assign (.Subscript o i oW) X.env]:=by rfl):PZ X cl (.Assign [.Subscript o i oW] e pos) (Gn fo fi fe):=⟨(Hu he.1 hg hs hw h1).imp λD σ H ⟨ρ,S,δ,ou,S',E,hf,q⟩=>by
 obtain⟨v,S1,h1,h2⟩:=R3.aj hf;obtain⟨vo,S2,h3,h4⟩:=R3.aj h2;obtain⟨vi,S3,h5,h6⟩:=R3.aj h4;split at h6
 .rename_i d k n;split at h6
  .rename_i ds hds;split at h6
   .rename_i m hm;cases h6;refine⟨ρ,S,δ, .d d,S1,E,h1,λu bL H1 p1 w1 r1=>⟨bL,S1,δ, .loc k,S2,E.to p1 w1,h3,λu2 qp H2 p2 w2 r2=>⟨qp,S2,δ, .d$ .int n,S3,(E.to p1 w1).to p2 w2,h5,λu3 Dm H3 p3 w3 r3=>?_⟩⟩⟩
    unfold aS at r2;obtain⟨a,a1,rfl⟩:=r2;have a3:=p3.ext k a a1;obtain⟨xs,x1,x2⟩:=w3.ob k a _ a3$ cw hds;unfold aS Rep at r3;have Bu:=r1.pre$ p2.trans p3;unfold aS at Bu;obtain⟨w4,p4⟩:=w3.put (o:= .lst$ ds.set m d) (u:= .lst$ xs.set m u) a3 (w3.fz k a a3$ by rw[cw hds];intro h;cases h) ⟨xs.set m u,rfl,aA.setAt x2 Bu⟩
    exact⟨a,xs,n,m,rfl,r3,x1,by rw[<-x2.length];exact hm,q σ Dm _ (((p1.trans p2).trans p3).trans p4)$ E.to (((p1.trans p2).trans p3).trans p4) w4⟩
   .cases h6
  .cases h6
 .cases h6⟩
def kX(δ:DE)(i:Nat):Option V3:=match δ[i]? with | some (some v)=>some v | _=>none
def qN(own:List Str)(kp:List Nat)(δ:DE):DE:=List.replicate own.length none++kp.map (kX δ)
def Mq{K:QcQ}{S S':aP}{σ:L2.St}{δ:DE}{own:List Str}{kp:List Nat}(E:eg K cl ρ H S σ δ)(p:PW ρ H bK H')(w:SW K cl bK H' S'):eg K cl bK H' S' (dj own kp σ) (qN own kp δ) where
 len:=by unfold dj qN;simp
 sw:=w
 val:=λi d e=>by
  unfold qN at e;unfold dj;by_cases hi:i<own.length
  .rw [Qat (by simpa using hi),QaS] at e
   split at e <;> cases e
  .rw [Qal (by simpa using hi),QaV,Qad] at e ⊢
   cases q:kp[i - own.length]? with
   | none=>rw [q] at e;cases e
   | some j=>
     rw[q] at e;have e:kX δ j=some d:=QaW e;unfold kX at e;split at e
     .rename_i d' ed;cases e;obtain⟨v,h1,h2⟩:=E.val j d ed;exact⟨v,by simp [h1],h2.pw p⟩
     .cases e
def pO(t:FG)(c:FB)(f:FX)(δ:DE):List V3->aP->R3 (List V3)
 | [],S=> .ok [] S
 | v ::vs,S=>match t v δ with
   | none=> .no
   | some δ1=>(c δ1 S).bind λb S1=>if b then(f δ1 S1).bind λy S2=>(pO t c f δ vs S2).bind λys S3=> .ok (y ::ys) S3 else pO t c f δ vs S1
def Ac(it:FA)(t:FG)(c:FB)(f:FX)(own:List Str)(kp:List Nat):FX:=λδ S=>(it δ S).bind λvs S1=>R3.aX (decide$ vs.length<=sizeLine)$ (pO t c f (qN own kp δ) vs S1).bind λys S2=> .ok (vg ys) S2
theorem aE.append{K:QcQ}:∀{ds es:List V3} {xs ys:List V},aE K ρ H ds xs->aE K ρ H es ys->aE K ρ H (ds++es) (xs++ys)
 | [],_,_,_,h,t=>by unfold aE at h;subst h;exact t
 | d ::ds,es,xs,ys,h,t=>by
   obtain⟨x,r,rfl,h1,h2⟩:=h.b7;exact aE.cons h1$ aE.append h2 t
def Ky{K:QcQ}{own:List Str}{kp:List Nat}{σ:L2.St}{Q:VK}(h:tX K cl (Ac it t c f own kp) σ H Q) :
 D9 (ZH K cl it) (gX K cl t) (Q_ K cl c) (tX K cl f) own kp σ H Q:=by
 obtain⟨ρ,S,δ,v,SF,E,hf,q⟩:=h;obtain⟨es,S1,h1,h2⟩:=R3.aj hf;obtain⟨hl,h3⟩:=R3.aL h2;have hl:=Qae hl;obtain⟨vs,S2,h4,h5⟩:=R3.aj h3;cases h5;refine⟨ρ,S,δ,es,S1,E,h1,λJ bL H1 p1 w1 ir Dd hD=>?_⟩
 have nDz:Dd ∉ bL.b:=λhb=>by obtain⟨o,ho⟩:=w1.bs Dd hb;rw [hD] at ho;cases ho
 have nDr:Dd ∉ bL.r:=λhb=>by obtain⟨o,ho⟩:=w1.rs Dd hb;rw [hD] at ho;cases ho
 have toZ:∀{r' f':List Addr} {H':Hp},Pre bL H1 ⟨r',bL.z,f'⟩ H'->PW bL H1 ⟨r',Dd ::bL.z,f'⟩ H':=fun {r' f' H'} p=>⟨λb o e nb=>⟨(p.br b o e nb).1,λhb=>by
  rcases P3.dD.mp hb with z | z
  .exact(p.br b o e nb).2 (P3.dD.mpr$ .inl z)
  .rcases QaF.mp z with y | y
   .exact bC e hD y
   .exact(p.br b o e nb).2 (P3.dD.mpr$ .inr y)⟩,p.ext⟩
 have w0:SW K cl ⟨bL.r,Dd ::bL.z,bL.f⟩ (upd H1 Dd$ .lst []) S1:=by
  have s0:aR H1 (upd H1 Dd$ .lst []):=bA hD;have ws:=w1.same s0;refine⟨ws.len,ws.nd,λk a o hk ho=>?_,λb hb=>?_,ws.fz,ws.ff,ws.fi⟩
  .have r:=w1.ob k a o hk ho;obtain⟨u,hu⟩:=r.some;rw[s0 a u hu,<-hu];exact r.pw$ toZ$ Pre.same s0
  .rcases QaF.mp hb with y | y
   .subst y;exact⟨⟨_,aZ⟩,nDr⟩
   .exact ws.zb b y
 refine⟨λi m ys H'=>m=es.length - i/\i<=es.length/\ys.length<=i/\H' Dd=some (.lst ys)/\∃r' f' S' done rest,Pre bL H1 ⟨r',bL.z,f'⟩ H'/\SW K cl ⟨r',Dd ::bL.z,f'⟩ H' S'/\vs=done++rest/\aE K ⟨r',Dd ::bL.z,f'⟩ H' done ys/\pO t c f (qN own kp δ) (es.drop i) S'= .ok rest SF,
  ⟨es.length,rfl,Qa9 _,Qak _,aZ,bL.r,bL.f,S1,[],vs,Pre.same$ bA hD,w0,rfl,aE.nil,by simpa using h4⟩,?_⟩
 rintro i m ys H' ⟨rfl,hi,hy,hDl,r',f',S',done,rest,pv,w',rfl,rd,hc⟩;obtain⟨go,stop⟩:=ir ⟨r',Dd ::bL.z,f'⟩ H' (toZ pv) w'.bs;have unZ:∀{Nl:P3} {H4:Hp},Pre ⟨r',Dd ::bL.z,f'⟩ H' Nl H4->Pre bL H1 ⟨Nl.r,bL.z,Nl.f⟩ H4:=fun {Nl H4} p4=>⟨λb o e nb=>by
  obtain⟨e1,n1⟩:=(toZ pv).br b o e nb;obtain⟨rH,n2⟩:=p4.br b o e1 n1;refine⟨rH,λhb=>n2 ?_⟩
  rcases P3.dD.mp hb with z | z
  .exact P3.dD.mpr (.inl z)
  .exact P3.dD.mpr (.inr$ by rw[p4.zz];exact Qab _ z),rfl,λb o hb h=>p4.zs b o (Qab _ hb)$ pv.zs b o hb h,λk a h=>p4.ext k a$ pv.ext k a h⟩
 by_cases hlt:i<es.length
 .have hd:es[i]? =some es[i]:=Qag hlt;have hdrop:es.drop i=es[i] ::es.drop (i+1):=Qbu hlt;rw[hdrop] at hc;unfold pO at hc;split at hc
  .cases hc
  .rename_i δ1 h6;obtain⟨b,T1,h7,h8⟩:=R3.aj hc;obtain⟨g1,g2⟩:=go i _ hd;refine .inr ⟨g1,λx H2 y=>?_⟩
   obtain⟨sy,ry⟩:=g2 x H2 y;have Ec:eg K cl ⟨r',Dd ::bL.z,f'⟩ H2 S' (dj own kp σ) (qN own kp δ):=Mq E (p1.pw.trans$ (toZ pv).trans (Pre.same sy).pw)$ w'.same sy;refine⟨⟨r',Dd ::bL.z,f'⟩,S',qN own kp δ,es[i],δ1,Ec,ry,h6,λJ_ H3 s3 E3=>⟨⟨r',Dd ::bL.z,f'⟩,S',δ1,b,T1,E3,h7,λNl H4 p4 w4=>?_⟩⟩
   have Uz:Pre ⟨r',Dd ::bL.z,f'⟩ H' Nl H4:=(Pre.same$ sy.trans s3).trans p4;cases b with
   | true=>
     rw[Qap rfl] at h8;refine HC ?_;obtain⟨yv,T2,h9,Ya⟩:=R3.aj h8;obtain⟨rs,T3,XS,h12⟩:=R3.aj Ya;cases h12;refine⟨Nl,T1,δ1,yv,T2,E3.to p4 w4,h9,λv5 ρ5 H5 p5 w5 r5=>?_⟩
     have pv5:Pre ⟨r',Dd ::bL.z,f'⟩ H' ρ5 H5:=Uz.trans p5;have YT:H5 Dd=some (.lst ys):=pv5.zs Dd _ Qai hDl;have u5:=unZ pv5;obtain⟨U7,z5,f5⟩:=ρ5;have ez:z5=Dd ::bL.z:=pv5.zz;subst ez;have nr:Dd ∉ U7:=(w5.zb Dd Qai).2;have pw:PW ⟨U7,Dd ::bL.z,f5⟩ H5 ⟨U7,Dd ::bL.z,f5⟩ (upd H5 Dd$ .lst$ ys++[v5]):=⟨λb o e nb=>⟨by rw[bb$ λ(z:b=Dd)=>nb$ by rw[z];exact P3.dD.mpr$ .inr Qai];exact e,nb⟩,λ_ _ h=>h⟩
     refine⟨YT,by omega,es.length - (i+1),by omega,rfl,hlt,by rw[Qar,Qcn];omega,aZ,U7,f5,T2,done++[yv],rs,?_,?_,by simp,aE.append ((rd.pre pv5).pw pw)$ aE.cons (r5.pw pw) aE.nil,XS⟩
     .refine⟨λb o e nb=>⟨by rw[bb$ bC e hD];exact(u5.br b o e nb).1,(u5.br b o e nb).2⟩,rfl,λb o hb h=>?_,u5.ext⟩
      rw[bb$ bC h hD];exact u5.zs b o hb h
     .refine⟨w5.len,w5.nd,λk a o hk ho=>?_,λb hb=>?_,w5.fz,λb hb=>?_,w5.fi⟩
      .have ne:a≠Dd:=λz=>nr (by rw[<-z];exact Qan hk)
       rw[bb ne];exact(w5.ob k a o hk ho).pw pw
      .obtain⟨⟨o,ho⟩,n⟩:=w5.zb b hb;refine⟨?_,n⟩;by_cases z:b=Dd
       .subst z;exact⟨_,aZ⟩
       .rw [bb z];exact⟨o,ho⟩
      .obtain⟨o,ho⟩:=w5.ff b hb;by_cases z:b=Dd
       .subst z;exact⟨_,aZ⟩
       .rw [bb z];exact⟨o,ho⟩
   | false=>
     rw[Qaj$ by decide] at h8
     refine Hx ?_;have hD4:H4 Dd=some (.lst ys):=Uz.zs Dd _ Qai hDl;have u4:=unZ Uz;obtain⟨r4',z4,f4⟩:=Nl;have ez:z4=Dd ::bL.z:=Uz.zz;subst ez;exact⟨es.length - (i+1),by omega,rfl,hlt,by omega,hD4,r4',f4,T1,done,rest,u4,w4,rfl,rd.pre Uz,h8⟩
 .have e:i=es.length:=by omega
  subst e;rw[Qb1] at hc;cases hc;rw[Qbj] at q;refine .inl ⟨stop,?_⟩;have back:PW ⟨r',Dd ::bL.z,f'⟩ H' ⟨r',bL.z,f'⟩ H':=⟨λb o e nb=>⟨e,λhb=>nb (by
   rcases P3.dD.mp hb with z | z
   .exact P3.dD.mpr (.inl z)
   .exact P3.dD.mpr (.inr$ Qab _ z))⟩,λ_ _ h=>h⟩
  have wB:SW K cl ⟨r',bL.z,f'⟩ H' _:=⟨w'.len,w'.nd,λk a o hk ho=>(w'.ob k a o hk ho).pw back,λb hb=>w'.zb b$ Qab _ hb,w'.fz,w'.ff,w'.fi⟩
  refine q _ ⟨r',bL.z,f'⟩ H' (p1.trans pv) wB$ xZ (.inl ⟨λhb=>?_, .inl hDl⟩)$ rd.pw back
  rcases P3.dD.mp hb with z | z
  .exact(w'.zb Dd Qai).2 z.1
  .exact nDz (P3.dD.mpr$ .inr z)
end
section
variable {X:Cx}{cl:Aag}
def Me{own:List Str}{kp:List Nat}{pos:Pos}(hi:UN X cl tg iter it)(hg:∀fp s H,Ox (bB X scope (own++(qu kp X.N)) fp s H) cl tg t)(Dq:∀fp s H,ur (bB X scope (own++(qu kp X.N)) fp s H) ifs$ Q_ X.K cl c)(he:∀fp s H,PX (bB X scope (own++(qu kp X.N)) fp s H) cl elt f)(hs:∀x,foldedSetIterable iter X.env x=pure x:=by intro _;rfl)(hc:X.calm=true:=by rfl)(C:f6 X scope own kp (qu kp X.N):=by exact UP (by kernel_rfl)):PX X cl (.ListComp elt [⟨tg,iter,ifs,0⟩] scope pos) (Ac it t c f own kp):=
 ⟨(DR hc C hi.1 (λfp s H=>(hg fp s H).1) Dq (λfp s H=>(he fp s H).1) hs).imp λσ H Q h=>Ky h⟩
def Oi:FB:=λ_ S=> .ok true S
def FC:ur X [] (Q_ X.K cl Oi):=λpins s σ H Q I ⟨ρ,S,δ,b,S',E,hf,q⟩=>Aj pins s σ H Q I (by cases hf;exact q ρ H (Pre.refl ρ H) E.sw)
def N5{K:QcQ}{i:Nat}{D:Ends}{σ:L2.St}(h:sX K cl (lU i f) D σ H):F1 (tX K cl f) (wb i) D σ H:=by
 obtain⟨ρ,S,δ,o,S',E,hf,q⟩:=h;obtain⟨v,S1,h1,h2⟩:=R3.aj hf;obtain⟨hi,h3⟩:=R3.aL h2;cases h3;refine⟨ρ,S,δ,v,_,E,h1,λu bL H1 p1 w1 r1=>?_⟩
 exact q _ bL H1 p1 ((E.to p1 w1).set (by rw[<-E.len];exact Qae hi) r1)
def xAl(g:FA):FX:=λδ S=>(g δ S).bind λvs S1=>match tF vs with
 | some ds=>R3.aX (decide$ ds.length<=sizeLine)$ .ok (.loc S1.length)$ S1++[.lst ds]
 | none=> .no
end
section
variable {X:Cx}{cl:Aag}
def yo(g:List D->R D)(fs:FA):FX:=λδ S=>(fs δ S).bind λvs S1=>match tF vs with
 | some ds=>(R3.of (g ds) S1).bind λd S=> .ok (.d d) S
 | none=> .no
def JA{K:QcQ}{g:List D->R D}{σ:L2.St}{Q:VK}(h:tX K cl (yo g fs) σ H Q) :
 Y1 K cl fs σ H λvs H1=>∃B ds d,(∀a∈B,∃o,H1 a=some o)/\aA K B H1 ds vs/\g ds= .ok d/\∀z H',aR H1 H'->Rep K B H' d z->Q z H':=by
 obtain⟨ρ,S,δ,v,S',E,hf,q⟩:=h;obtain⟨vs,S1,h1,h2⟩:=R3.aj hf;split at h2
 .rename_i ds e;obtain⟨d,S2,h3,h4⟩:=R3.aj h2;obtain⟨h5,e5⟩:=R3.of_ok h3;cases h4;subst e5;refine⟨ρ,S,δ,vs,_,E,h1,λus bL H1 p1 w1 r1=>?_⟩
  rw[p_ e] at r1;exact⟨bL.b,ds,d,w1.bs,r1.to,h5,λz H' s r=>q z bL H' (p1.trans$ Pre.same s) (w1.same s)$ by unfold aS;exact r⟩
 .cases h2
def FF{g:List D->R D}{x:Str}{T:String}{p pos:Pos}{e:Expr}{es:List Expr}{fs:FA}(hc:cO X (.type T) g)(hg:Gl X x)(hm:X.mg x=none)(hv:bootBuiltins x=some (.type T))(ha:KW X cl (e ::es) fs)(hn:x≠"__name__":=by decide)(me:(x==("__debug__":Str))=false:=by decide)
 (he:starEach (e ::es) X.env=(false,eval e X.env) ::starEach es X.env:=by rfl) (oB:(backTo pos$ starEach es X.env).any (·.1)=false:=by rfl):PX X cl (.Call (.Name x p) (e ::es) [] pos) (yo g fs):=
 ⟨(x5 hc.r hg hm hv ha.1 hn me he oB).imp λσ H Q h=>JA h⟩
def xIf(c:FB)(f g:FX):FX:=λδ S=>(c δ S).bind λb S=>if b then f δ S else g δ S
def jF:∀(δ:DE) (S:aP) (ds:List V3) (S':aP),dG δ S= .ok ds S'->ds.length=0:=λδ S ds S' h=>by cases h;rfl
def cC{g:FA}{n:Nat}(h:∀(δ:DE) (S:aP) (ds:List V3) (S':aP),g δ S= .ok ds S'->ds.length=n):∀(δ:DE) (S:aP) (ds:List V3) (S':aP),bf f g δ S= .ok ds S'->ds.length=n+1:=λδ S ds S' e=>by
 obtain⟨v,S1,h1,h2⟩:=R3.aj e;obtain⟨vs,S2,h3,h4⟩:=R3.aj h2;cases h4;rw[QaI,h δ S1 vs _ h3]
end
section
def xIx(fa fb:FX):FX:=λδ S=>(fa δ S).bind λa S1=>(fb δ S1).bind λb S2=>match a,b with
 | .d x, .d y=>(R3.of (du x y) S2).bind λd S=> .ok (.d d) S
 | .lst vs, .d (.int i)=>(match zj vs i with | some v=> .ok v S2 | none=> .no)
 | .tup vs, .d (.int i)=>(match zj vs i with | some v=> .ok v S2 | none=> .no)
 | _,_=> .no
end
section
variable {X:Cx}{cl:Aag}
structure Om (X:Cx) (cl:Aag) (e:Expr) (f:FB):Prop where
 go:L2.PW X e (Q_ X.K cl f)
def Om.pb(h:Om X cl e f):Gu X cl e f:=⟨L2.PW.pt h.1⟩
def abA(f g:FB):FB:=λδ S=>(f δ S).bind λb S=>if b then g δ S else .ok false S
def SJ(f g:FB):FB:=λδ S=>(f δ S).bind λb S=>if b then .ok true S else g δ S
def HU(f:FB):FB:=λδ S=>(f δ S).bind λb S=> .ok (!b) S
def Eg(h:Gu X cl a f):Om X cl (.BoolOp .Or [a] pos) f:=⟨G7 h.1⟩
def Iz{rest:List Expr}(ha:Gu X cl a f)(hb:Om X cl (.BoolOp .Or (b ::rest) pos) g):Om X cl (.BoolOp .Or (a ::b ::rest) pos) (SJ f g):=⟨by
 intro wh pins s σ H Q I ⟨ρ,S,δ,k,S',E,hf,q⟩;refine MV ha.1 hb.1 wh pins s σ H Q I ?_;obtain⟨c,S1,h1,h2⟩:=R3.aj hf;refine⟨ρ,S,δ,c,S1,E,h1,λbL H1 p1 w1=>?_⟩
 cases c with
 | true=>rw [Qap rfl] at h2 ⊢;cases h2;exact q bL H1 p1 w1
 | false=>rw [Qaj$ by decide] at h2 ⊢;exact⟨bL,S1,δ,k,S',E.to p1 w1,h2,λqp H' p2 w2=>q qp H' (p1.trans p2) w2⟩⟩
def D5(ha:Gu X cl a f):Gu X cl (.UnaryOp .Not a pos) (HU f):=⟨(Hz ha.1).imp λσ H Q ⟨ρ,S,δ,k,S',E,hf,q⟩=>by
 obtain⟨c,S1,h1,h2⟩:=R3.aj hf;cases h2;exact⟨ρ,S,δ,c,_,E,h1,λbL H1 p1 w1=>q bL H1 p1 w1⟩⟩
def abt(f:FX):FB:=λδ S=>(f δ S).bind λv S=>match v with | .d d=>R3.of (Py d) S | _=> .no
abbrev Rk:=DE->aP->R3 (Option Int)
def tOX(K:QcQ)(cl:Aag)(f:Rk):TO:=λσ H Q=>∃ρ S δ o S',eg K cl ρ H S σ δ/\f δ S= .ok o S'/\∀bK H',Pre ρ H bK H'->SW K cl bK H' S'->Q o H'
structure PXO (X:Cx) (cl:Aag) (e:Option Expr) (f:Rk):Prop where
 go:PO X e (tOX X.K cl f)
def Xh:Rk:=λ_ S=> .ok none S
def WA(f:FX):Rk:=λδ S=>(f δ S).bind λv S=>match v with | .d (.int i)=> .ok (some i) S | _=> .no
def xSl(f:FX)(fl fh:Rk):FX:=λδ S=>(f δ S).bind λv S1=>(fl δ S1).bind λlo S2=>(fh δ S2).bind λhi S3=>match v with
 | .d d=>(R3.of (JS d lo hi) S3).bind λr S=> .ok (.d r) S
 | _=> .no
end
end L3
end
section
namespace L2
open PySem PySem.Spec PyProof.Rows
section
def OB(t T:String):Bool:=t==T || (t=="bool" && T=="int")
def aaP(T:String)(f:FD):FD:=λδ=>(f δ).bind λd=>match d with | .dct _ _=> .no | _=> .ok$ .bl$ OB (tyName d) T
def nList(f:FD):au->R (List D):=λδ=>(f δ).bind λd=>match d with | .lst ds=> .ok ds | .tup ds=> .ok ds | _=> .no
end
end L2
namespace L3
open PySem PySem.Spec PyProof.Rows L2
def vm{P:Program}{w:World}{K:QcQ}{mg:Aaf}{base:Heap}{cl:Aag}{x qual:Str}{st:Stmt}{f:Addr}{fd:FuncData}{N ps:List Str}{k:Nat}{F:FZ}{b:List Stmt}{sc:Scope}(hb:aQ st=b)(hs:aC st=sc)(Fn:Cz K x qual st f fd)(S:bp N ps sc)
 (fj:∀(fu:Value) (A:Around) (outer:List Env) (s:QcR) (H:Hp) (E:XK),dW k (A.deeper$ envOfC qual sc s.heap.objs.size f fu)->
   D1 (mn wM P w K mg base N qual sc f fu A outer s H E).HQ cl b F):jH P w K mg base wM (k+1) f fd ps (KG K cl ps.length$ uu N F):=by
 subst hb hs;exact LW Fn S fj
def Vc{K:QcQ}{mg:Aaf}{cl:Aag}{st:Stmt}{N ps:List Str}{k:Nat}(h:Def K mg x st)(hb:aQ st=b)(hs:aC st=sc)(S:bp N ps sc)(fj:∀(f:Addr) (fu:Value) (A:Around) (outer:List Env) (s:QcR) (H:Hp) (E:XK),dW k (A.deeper$ envOfC x sc s.heap.objs.size f fu)->N.Nodup->D1 (mn wM P w K mg base N x sc f fu A outer s H E).HQ cl b F)(bd:∀(kV doc pm:Value) (an:Option Addr) (fu ct:Value) (us:List Value),us.length=ps.length->bindArgs (PySem.W.fnOf x x (fP st) (aQ st) (aC st) .none kV doc pm an fu ct) ⟨us,[]⟩=pure (ps.zip us):=by intro _ _ _ _ _ _ us hl;rcases us with _ | ⟨_,_ | ⟨_,_ | ⟨_,_ | ⟨_,_ | ⟨_,_ | ⟨_,_ | ⟨_,_⟩⟩⟩⟩⟩⟩⟩ <;> first | (simp at hl;done) | rfl):my P w K mg base cl (k+1) x ps.length (uu N F):=by
 obtain⟨f,fd,F,hm⟩:=h;exact⟨f,fd,_,vm hb hs F S (λfu A outer s H E hr=>fj f fu A outer s H E hr S.nd),hm,F.kp,F.binds bd⟩
def my.p{K:QcQ}{mg:Aaf}{cl:Aag}{k:Nat}{n:Nat}{N:List Str}(C:my P w K mg base cl k x n (uu N F)):my P w K mg base cl k x n (zR N F):=
 let⟨f,fd,ps,F,h⟩:=C;⟨f,fd,ps,F.imp λ_ _ _ _ h=>Hq h,h⟩
def UQ(N:List Str)(F:FZ):List D->R D:=λds=>match zR N F (ds.map .d) [] with
 | .ok (.d d) []=>R.aX d.atom$ .ok d
 | _=> .no
def Pm{K:QcQ}{cl:Aag}{N:List Str}{n:Nat}{vs:List V}{Q:VK}{E:XK}(h:K9 K n (UQ N F) vs H Q E):KG K cl n (uu N F) vs H Q E:=by
 obtain⟨hl,B,ds,d,hb,r,hg,q⟩:=h;unfold UQ at hg;split at hg
 .rename_i d' e;obtain⟨ha,h2⟩:=R.aL hg;cases h2;have r0:aA K (⟨[],[],[]⟩:P3).b H ds vs:=r.br λb o e _=>⟨e,by simp [P3.b]⟩
  refine Hq ⟨hl,⟨[],[],[]⟩,[],ds.map .d, .d d,[],⟨rfl,λi j a hi=>by simp at hi,λk a o hk=>by simp at hk,λb hb=>by simp at hb,λk a hk=>by simp at hk,λb hb=>by simp at hb,λk a hk=>by simp at hk⟩,aE.of r0,e,λu bK H' p w' r'=>q u H' (λb o eb=>?_) ?_⟩
  .exact(p.br b o eb$ by simp [P3.b]).1
  .unfold aS at r';exact r'.atom ha
 .cases hg
section
def Wb(f:FX):FA:=λδ S=>(f δ S).bind λv S=>match v with | .d (.tup ds)=> .ok (ds.map .d) S | .tup vs=> .ok vs S | _=> .no
end
def W3{α:Type}(r:R3 α)(Q:α->aP->Prop):Prop:=∃a S,r= .ok a S/\Q a S
section
variable {α β:Type}{Q Q':α->aP->Prop}{S:aP}
def W3.ok{a:α}(h:Q a S):W3 (.ok a S) Q:=⟨a,S,rfl,h⟩
def W3.bind{Q:β->aP->Prop}{r:R3 α}{f:α->aP->R3 β}(h:W3 r λa S=>W3 (f a S) Q):W3 (r.bind f) Q:=by
 obtain⟨a,S1,e1,b,S2,h2,q⟩:=h;exact⟨b,S2,by rw[e1];exact h2,q⟩
def W3.mono{r:R3 α}(h:W3 r Q)(m:∀a S,Q a S->Q' a S):W3 r Q':=let⟨a,S,e,q⟩:=h;⟨a,S,e,m a S q⟩
def W3.wh{c:Bool}{r:R3 α}(hc:c=true)(h:W3 r Q):W3 (R3.aX c r) Q:=by rw[hc];exact h
def W3.of{r:R α}{a:α}(e:r= .ok a)(h:Q a S):W3 (R3.of r S) Q:=by rw[e];exact⟨a,S,rfl,h⟩
end
section
variable {S:aP}{δ:DE}{QV:V3->aP->Prop}{QB:Bool->aP->Prop}{QA:List V3->aP->Prop}{QO:Ou->aP->Prop}
def fH{f:FD}{d:D}(e:f (down δ)= .ok d)(h:QV (.d d) S):W3 (xP f δ S) QV:=W3.bind$ W3.of e$ W3.ok h
def MN{f:FD}{d:D}(e:f (mz S δ)= .ok d)(ha:A3 d=true)(h:QV (.d d) S):W3 (xT f δ S) QV:=W3.bind$ W3.of e$ W3.wh ha$ W3.ok h
def CG{f:au->R Bool}{b:Bool}(e:f (down δ)= .ok b)(h:QB b S):W3 (bP f δ S) QB:=W3.of e h
def ON{f:au->R Bool}{b:Bool}(e:f (mz S δ)= .ok b)(h:QB b S):W3 (bT f δ S) QB:=W3.of e h
def w_var{i:Nat}{v:V3}(e:δ[i]? =some (some v))(h:QV v S):W3 (bO i δ S) QV:=by unfold bO;rw [e];exact W3.ok h
def AB{f:au->R (List D)}{ds:List D}(e:f (down δ)= .ok ds)(h:QV (.loc S.length) (S++[.lst ds])):W3 (zl f δ S) QV:=W3.bind$ W3.of e$ W3.ok h
def gS(h:QA [] S):W3 (dG δ S) QA:=W3.ok h
def bV{f:FX}{g:FA}(h:W3 (f δ S) λv S1=>W3 (g δ S1) λvs S2=>QA (v ::vs) S2):W3 (bf f g δ S) QA:=W3.bind$ h.mono λ_ _ h=>W3.bind$ h.mono λ_ _ h=>W3.ok h
def Su{g:FA}(h:W3 (g δ S) λvs S1=>vs.length<=sizeLine/\QV (AQ vs) S1):W3 (BS g δ S) QV:=W3.bind$ h.mono λ_ _ h=>W3.wh (Qac h.1)$ W3.ok h.2
def MS{g:FA}(h:W3 (g δ S) λvs S1=>vs.length<=sizeLine/\QV (vg vs) S1):W3 (CJ g δ S) QV:=W3.bind$ h.mono λ_ _ h=>W3.wh (Qac h.1)$ W3.ok h.2
def TJ{g:D->D->R D}{fa fb:FX}(h:W3 (fa δ S) λa S1=>W3 (fb δ S1) λb S2=>∃x y d,a= .d x/\b= .d y/\g x y= .ok d/\QV (.d d) S2):W3 (x2 g fa fb δ S) QV:=
 W3.bind (h.mono λ_ _ h=>W3.bind$ h.mono λ_ _ ⟨_,_,_,e1,e2,e3,q⟩=>by subst e1 e2;exact W3.bind$ W3.of e3$ W3.ok q)
def OP{g:D->D->R D}{fa fb:FX}(h:W3 (fa δ S) λa S1=>W3 (fb δ S1) λb S2=>∃x y k,a= .d x/\b= .d y/\g x y= .ok (.bl k)/\QB k S2):W3 (TM g fa fb δ S) QB:=
 W3.bind (TJ$ h.mono λ_ _ h=>h.mono λ_ _ ⟨x,y,k,e1,e2,e3,q⟩=>⟨x,y, .bl k,e1,e2,e3,W3.ok q⟩)
def CB{g:List V3->aP->R3 V3}{fs:FA}(h:W3 (fs δ S) λvs S1=>W3 (g vs S1) QV):W3 (sv g fs δ S) QV:=W3.bind h
def LK{g:List D->R D}{fs:FA}(h:W3 (fs δ S) λvs S1=>∃ds d,vs=ds.map .d/\g ds= .ok d/\QV (.d d) S1):W3 (yo g fs δ S) QV:=
 W3.bind (h.mono λ_ _ ⟨ds,_,e1,e2,q⟩=>by subst e1;rw [vH];exact W3.bind$ W3.of e2$ W3.ok q)
def NQ{it:FA}{own:List Str}{kp:List Nat}(h:W3 (it δ S) λvs S1=>vs.length<=sizeLine/\W3 (pO t c f (qN own kp δ) vs S1) λys S2=>QV (vg ys) S2):W3 (Ac it t c f own kp δ S) QV:=
 W3.bind (h.mono λ_ _ h=>W3.wh (Qac h.1)$ W3.bind$ h.2.mono λ_ _ h=>W3.ok h)
def de{F G:FZ}(h:W3 (F δ S) λo S1=>∃δ1,o= .nx δ1/\W3 (G δ1 S1) QO):W3 (cx F G δ S) QO:=W3.bind (h.mono λ_ _ ⟨_,e,h⟩=>by subst e;exact h)
def g7{i:Nat}{f:FX}(hi:i<δ.length)(h:W3 (f δ S) λv S1=>QO (.nx$ δ.set i$ some v) S1):W3 (lU i f δ S) QO:=W3.bind$ h.mono λ_ _ h=>W3.wh (Qac hi)$ W3.ok h
def qB{f:FX}(h:W3 (f δ S) λv S1=>QO (.rt v) S1):W3 (vt f δ S) QO:=W3.bind$ h.mono λ_ _ h=>W3.ok h
def F7{c:FB}{F G:FZ}(h:W3 (c δ S) λb S1=>if b then W3 (F δ S1) QO else W3 (G δ S1) QO):W3 (uK c F G δ S) QO:=W3.bind (h.mono λb _ h=>by cases b <;> exact h)
def RH{f:FX}{t:FG}(h:W3 (f δ S) λv S1=>∃δ1,t v δ=some δ1/\QO (.nx δ1) S1):W3 (OJ f t δ S) QO:=W3.bind (h.mono λ_ _ ⟨_,e,q⟩=>by rw[e];exact W3.ok q)
def y4(h:QO (.nx δ) S):W3 (oa δ S) QO:=W3.ok h
def Gm{f:au->R (List D)}{ds:List D}(e:f (down δ)= .ok ds)(h:QA (ds.map .d) S):W3 (iP f δ S) QA:=W3.bind$ W3.of e$ W3.ok h
def IX{it:FA}(h:W3 (it δ S) λvs S1=>W3 (iM t F vs δ S1) QO):W3 (yS it t F δ S) QO:=W3.bind h
def M9{i k:Nat}{f:FX}(hk:δ[i]? =some (some$ .loc k))(h0:∃ds,S[k]? =some (.lst ds))(h:W3 (f δ S) λv S1=>∃d ds,v= .d d/\S1[k]? =some (.lst ds)/\ds.length<sizeLine/\QO (.nx δ) (S1.set k$ .lst$ ds++[d])):W3 (Ga i f δ S) QO:=by
 obtain⟨es,h0⟩:=h0;unfold Ga;have e1:lR δ i=some k:=by unfold lR;rw [hk]
 have e2:cf S k=some es:=by unfold cf;simp only[h0]
 rw[e1];show W3 (match cf S k with | none=>_ | some _=>_) _
 rw[e2];refine W3.bind$ h.mono λv S1 ⟨d,ds,e,h1,hl,q⟩=>?_
 subst e;have e3:cf S1 k=some ds:=by unfold cf;simp only[h1]
 show W3 (match cf S1 k with | some ds=>_ | none=>_) _
 rw[e3];exact W3.wh (Qac hl)$ W3.ok q
def Dw{fo fi fe:FX}(h:W3 (fe δ S) λv S1=>W3 (fo δ S1) λo S2=>W3 (fi δ S2) λj S3=>∃d k n ds m,v= .d d/\o= .loc k/\j= .d (.int n)/\S3[k]? =some (.lst ds)/\FU ds.length n=some m/\QO (.nx δ) (S3.set k$ .lst$ ds.set m d)):W3 (Gn fo fi fe δ S) QO:=
 W3.bind (h.mono λ_ _ h=>W3.bind (h.mono λ_ _ h=>W3.bind (h.mono λ_ S3 ⟨d,k,n,ds,m,e1,e2,e3,h1,h2,q⟩=>by
  subst e1 e2 e3;have e3:cf S3 k=some ds:=by unfold cf;simp only[h1]
  show W3 (match cf S3 k with | some ds=>_ | none=>_) _
  rw[e3];show W3 (match FU ds.length n with | some m=>_ | none=>_) _
  rw[h2];exact W3.ok q)))
def ve{t:FG}{body:FZ}:∀(vs:List V3) (n:Nat) (P:Nat->DE->aP->Prop) {δ:DE} {S:aP},P n δ S->
 (∀i v δ S,vs[i]? =some v->P (n+i) δ S->∃δ1,t v δ=some δ1/\W3 (body δ1 S) λo S1=>∃j7,o= .nx j7/\P (n+i+1) j7 S1)->W3 (iM t body vs δ S) λo S1=>∃j7,o= .nx j7/\P (n+vs.length) j7 S1
 | [],n,P,δ,S,h0,_=>W3.ok ⟨δ,rfl,h0⟩
 | v ::vs,n,P,δ,S,h0,hs=>by
   obtain⟨δ1,e1,o,S1,e2,j7,rfl,p2⟩:=hs 0 v δ S rfl h0;have ih:=ve vs (n+1) P p2 (λi v' dh S' hi hp=>by
    have:=hs (i+1) v' dh S' (by simpa using hi) (by rw[show n+(i+1)=n+1+i by omega];exact hp)
    rw[show n+(i+1)+1=n+1+i+1 by omega] at this
    exact this)
   rw[show n+1+vs.length=n+(v ::vs).length by rw[QaI];omega] at ih
   unfold iM;rw[e1];refine W3.bind ⟨_,_,e2,?_⟩;exact ih
def tw{t:FG}{body:FZ}{vs:List V3}(P:Nat->DE->aP->Prop){δ:DE}{S:aP}(h0:P 0 δ S)
 (hs:∀i v δ S,vs[i]? =some v->P i δ S->∃δ1,t v δ=some δ1/\W3 (body δ1 S) λo S1=>∃j7,o= .nx j7/\P (i+1) j7 S1):W3 (iM t body vs δ S) λo S1=>∃j7,o= .nx j7/\P vs.length j7 S1:=by
 have:=ve (t:=t) (body:=body) vs 0 P h0 (λi v δ S hi hp=>by simpa using hs i v δ S hi (by simpa using hp))
 simpa using this
def vC{t:FG}{c:FB}{f:FX}{δ:DE}:∀(vs:List V3) (n:Nat) (P:Nat->List V3->aP->Prop) {ys:List V3} {S:aP},P n ys S->
 (∀i v ys S,vs[i]? =some v->P (n+i) ys S->∃δ1,t v δ=some δ1/\W3 (c δ1 S) λb S1=>if b then W3 (f δ1 S1) λy S2=>P (n+i+1) (ys++[y]) S2 else P (n+i+1) ys S1)->W3 (pO t c f δ vs S) λzs S1=>P (n+vs.length) (ys++zs) S1
 | [],n,P,ys,S,h0,_=>W3.ok (by rw[Qbj];exact h0)
 | v ::vs,n,P,ys,S,h0,hs=>by
   obtain⟨δ1,e1,b,S1,e2,h2⟩:=hs 0 v ys S rfl h0;have ih:∀{Ue S'},P (n+1) Ue S'->W3 (pO t c f δ vs S') λzs S1=>P (n+(v ::vs).length) (Ue++zs) S1:=fun {Ue S'} p=>by
    have:=vC (t:=t) (c:=c) (f:=f) (δ:=δ) vs (n+1) P p (λi v' Ue S' hi hp=>by
     have:=hs (i+1) v' Ue S' (by simpa using hi) (by rw[show n+(i+1)=n+1+i by omega];exact hp)
     rw[show n+(i+1)+1=n+1+i+1 by omega] at this
     exact this)
    rw[show n+1+vs.length=n+(v ::vs).length by rw[QaI];omega] at this
    exact this
   unfold pO;rw[e1];refine W3.bind ⟨b,S1,e2,?_⟩;cases b with
   | true=>
     rw[Qap rfl] at h2 ⊢;exact W3.bind (h2.mono λy S2 p=>W3.bind$ (ih p).mono λzs S3 q=>W3.ok$ by rw[QaE] at q;exact q)
   | false=>rw [Qaj$ by decide] at h2 ⊢;exact ih h2
def EV{t:FG}{c:FB}{f:FX}{δ:DE}{vs:List V3}(P:Nat->List V3->aP->Prop){S:aP}(h0:P 0 [] S)
 (hs:∀i v ys S,vs[i]? =some v->P i ys S->∃δ1,t v δ=some δ1/\W3 (c δ1 S) λb S1=>if b then W3 (f δ1 S1) λy S2=>P (i+1) (ys++[y]) S2 else P (i+1) ys S1):W3 (pO t c f δ vs S) λzs S1=>P vs.length zs S1:=by
 have:=vC (t:=t) (c:=c) (f:=f) (δ:=δ) vs 0 P h0 (λi v ys S hi hp=>by simpa using hs i v ys S hi (by simpa using hp))
 simpa using this
def RK{QB:Bool->aP->Prop}(h:QB true S):W3 (Oi δ S) QB:=W3.ok h
def UU{N:List Str}{F:FZ}{vs:List V3}{δ:DE}(e:fm N vs=δ)(h:W3 (F δ S) λo S1=>∃v,o= .rt v/\QV v S1):W3 (uu N F vs S) QV:=by
 subst e;exact W3.bind (h.mono λ_ _ ⟨_,e,q⟩=>by subst e;exact W3.ok q)
def Z2(S:aP):Prop:=∀o∈S,∃ds,o=SO.lst ds
end
section
variable {S:aP}{δ:DE}{QV:V3->aP->Prop}
def LS{it:FA}{t:FG}{c:FB}{f:FX}{own:List Str}{kp:List Nat}(P:Nat->List D->aP->Prop)(h:W3 (it δ S) λvs S1=>vs.length<=sizeLine/\P 0 [] S1/\
 (∀i v ds S2,vs[i]? =some v->P i ds S2->∃δ1,t v (qN own kp δ)=some δ1/\W3 (c δ1 S2) λb S3=>if b then W3 (f δ1 S3) λy S4=>∃d,y= .d d/\P (i+1) (ds++[d]) S4 else P (i+1) ds S3)/\
 ∀ds S2,P vs.length ds S2->QV (.d$ .lst ds) S2):W3 (Ac it t c f own kp δ S) QV:=by
 refine NQ$ h.mono λvs S1 ⟨hl,h0,hs,hq⟩=>⟨hl,?_⟩
 refine(EV (λi ys S=>∃ds,ys=ds.map V3.d/\P i ds S) ⟨[],rfl,h0⟩ ?_).mono λzs S2 ⟨ds,e,p⟩=>?_
 .rintro i v ys S2 hv ⟨ds,rfl,p⟩;obtain⟨δ1,e1,h1⟩:=hs i v ds S2 hv p;refine⟨δ1,e1,h1.mono λb S3 h3=>?_⟩
  cases b with
  | true=>
    rw[Qap rfl] at h3 ⊢;exact h3.mono λy S4 ⟨d,e,p⟩=>by subst e;exact⟨ds++[d],by simp,p⟩
  | false=>rw [Qaj$ by decide] at h3 ⊢;exact⟨ds,rfl,h3⟩
 .subst e;unfold vg;rw[vH];exact hq ds S2 p
structure yb (n:Nat) (d:D):Prop where
 pl:dX d=true
 ly:(toPy d).canLay0=true
 dp:(toPy d).depth<=n
def yb.bl(b:Bool):yb 0 (.bl b):=⟨by unfold dX;rfl,by unfold toPy PyData.canLay0;rfl,by unfold toPy PyData.depth;omega⟩
theorem yb.all{n:Nat}:∀{ds:List D},(∀d∈ds,yb n d)->ie ds=true/\PyData.canLayAll0 (lp ds)=true/\PyData.depthAll (lp ds)<=n
 | [],_=>⟨by unfold ie;rfl,by unfold lp PyData.canLayAll0;rfl,by unfold lp PyData.depthAll;omega⟩
 | d ::ds,h=>by
   obtain⟨h1,h2,h3⟩:=yb.all (ds:=ds) λx hx=>h x$ Qab _ hx
   have f:=h d Qai;refine⟨by unfold ie;rw [f.pl,h1];rfl,by unfold lp PyData.canLayAll0;rw [f.ly,h2];rfl,?_⟩
   unfold lp PyData.depthAll;have:=f.dp;omega
def yb.lst{n:Nat}{ds:List D}(h:∀d∈ds,yb n d):yb (n+1) (.lst ds):=by
 obtain⟨h1,h2,h3⟩:=yb.all h;exact⟨by unfold dX;exact h1,by unfold toPy PyData.canLay0;exact h2,by unfold toPy PyData.depth;omega⟩
def yb.sh{n:Nat}{d:D}(h:yb n d)(hn:n<=64):SeqAt.shaped (toPy d)=true:=by
 unfold SeqAt.shaped;rw[h.ly,Qac$ QaK h.dp hn];rfl
def OX{d e:List D}:MA (.lst d) (.lst e)=R.aX (dX (.lst d) && dX (.lst e) && SeqAt.shaped (toPy$ .lst d) && SeqAt.shaped (toPy$ .lst e)) (.ok$ PyData.eqv (toPy$ .lst d)$ toPy$ .lst e):=rfl
def yb.eqL{n:Nat}{ds:List D}(h:yb n (.lst ds))(hn:n<=64):MA (.lst ds) (.lst ds)= .ok true:=by
 rw[OX,h.pl,h.sh hn,SeqAt.eqv_refl _ h.ly];rfl
end
end L3
end
section
namespace L2
open PySem PySem.Spec PyProof.Rows
section
variable {X:Cx}
def MQ:D->Bool | .cM=>true | _=>false
def dIs(d e:D):R D:=match e with | .cM=> .ok (.bl$ MQ d) | _=> .no
def abm(d e:D):R D:=match e with | .cM=> .ok (.bl$ !MQ d) | _=> .no
def ER:kL X (.type "int") (λxs H Q=>∃x n,xs=[.str x]/\PySem.intText? x=some n/\x.length<=640/\Q (.int n) H):=by
 intro pins s σ H xs us Q I r h;obtain⟨x,n,rfl,h1,h2,q⟩:=h;obtain⟨u,rfl,ru⟩:=vals1 r;obtain⟨t,rfl⟩:=ru;exact PySem.W.KIN.call_text h1 h2 ⟨.int n,H,I.tok _,⟨_,rfl⟩,q⟩
def Ic:List D->R D
 | [.str x]=>R.aX (decide$ x.length<=640)$ match PySem.intText? x with | some n=> .ok (.int n) | none=> .no
 | _=> .no
def Od:cO X (.type "int") Ic:=cO.of ER λB H ds d xs Q _ rs hg q=>by
 unfold Ic at hg;split at hg
 .obtain⟨h1,h2⟩:=R.aL hg;split at h2
  .rename_i e;cases h2;obtain⟨x,rfl,r⟩:=rs.one;exact⟨_,_,by rw[Rep.str.mp r],e,Qae h1,q _ H (aR.refl H)$ Rep.int.mpr rfl⟩
  .cases h2
 .cases hg
def Al(ds:List D):R D:=match ds with | [.str _]=>Ic ds | _=>cInt ds
def CI:cO X (.type "int") Al:=cO.or Od Td λa d h=>by
 unfold Al at h;split at h
 .exact .inl h
 .exact .inr h
def RZ(f:FD):FD:=λδ=>(f δ).bind λd=>match d with | .int i=> .ok (.int (-i)) | _=> .no
def Ks(h:QD X a f):QD X (.UnaryOp .USub a pos) (RZ f):=⟨(RP Pa h.1).imp λσ H Q ⟨Z,B,δ,d,E,hf,q⟩=>by
 obtain⟨d1,h1,h2⟩:=R.aj hf;split at h2
 .cases h2;exact⟨Z,B,δ,_,E,h1,λv H1 s1 r1=>⟨_,Rep.int.mp r1,q _ H1 s1$ Rep.int.mpr rfl⟩⟩
 .cases h2⟩
def Z4(d:D)(ds:List D):R D:=match d,ds with
 | .str x,[.str y]=> .ok$ .int$ Txt.find x y
 | _,_=> .no
def aaX(aD:List (Str × Str)):D:= .dct (aD.map λp=>Sum.inr p.1) (aD.map λp=> .str p.2)
def kvV(aD:List (Str × Str)):List (Key × V):=aD.map λp=>((Sum.inr p.1:Key),V.str p.2)
def aaV(d k:D):R D:=match d,k with
 | .dct ks ds, .str x=>(match (ks.zip ds).find? λp=>decide (p.1=Sum.inr x) with | some p=> .ok p.2 | none=> .no)
 | _,_=> .no
end
end L2
namespace L3
open PySem PySem.Spec PyProof.Rows L2
section
variable {X:Cx}{cl:Aag}
def Zp(f:FX):FB:=λδ S=>(f δ S).bind λv S=>match v with | .d (.bl b)=> .ok b S | _=> .no
def abR(f g:FX):FX:=λδ S=>(Zp f δ S).bind λb S=>if b then g δ S else .ok (.d$ .bl false) S
def xOr(f g:FX):FX:=λδ S=>(Zp f δ S).bind λb S=>if b then .ok (.d$ .bl true) S else g δ S
def Fi(i:Nat)(F:FZ):FZ:=λδ S=>match lR δ i with
 | some k=>(match cf S k with | some ds=>F (δ.set i$ some$ .d$ .lst ds) (S.set k .mq) | none=> .no)
 | none=> .no
def DS(i:Nat)(h:D1 X cl Nm F):D1 X cl Nm (Fi i F):=⟨h.1.imp λD σ H ⟨ρ,S,δ,o,S',E,hf,q⟩=>by
 unfold Fi at hf;split at hf
 .rename_i k hk;split at hf
  .rename_i ds hds;obtain⟨v,v1,v2⟩:=E.val i _$ qV hk;unfold aS at v2;obtain⟨a,a1,rfl⟩:=v2;obtain⟨w,p,r⟩:=E.sw.mq a1$ cw hds;have E1:eg X.K cl ⟨ρ.r,ρ.z,a ::ρ.f⟩ H (S.set k .mq) σ (δ.set i$ some$ .d$ .lst ds):=⟨by rw[QaM];exact E.len,w,λj d e=>by
    by_cases h:i=j
    .subst h;rw[Qam (by obtain⟨h1,_⟩:=Qah.mp$ qV hk;exact h1)] at e
     cases e;exact⟨_,v1,by unfold aS;exact r⟩
    .rw [Qao h] at e;obtain⟨u,u1,u2⟩:=E.val j d e;exact⟨u,u1,u2.pre p⟩⟩
   exact⟨_,_,_,o,S',E1,hf,q.pre p⟩
  .cases hf
 .cases hf⟩
def M5{i k:Nat}{ds:List D}{F:FZ}{δ:DE}{S:aP}{QO:Ou->aP->Prop}(hk:δ[i]? =some (some$ .loc k))(hS:S[k]? =some (.lst ds))(h:W3 (F (δ.set i$ some$ .d$ .lst ds)$ S.set k .mq) QO):W3 (Fi i F δ S) QO:=by
 unfold Fi;have e1:lR δ i=some k:=by unfold lR;rw [hk]
 have e2:cf S k=some ds:=by unfold cf;simp only[hS]
 simp only[e1,e2];exact h
end
def Flat(S:aP):Prop:=∀o∈S,∀n,z0 n o=true
def Flat.nil:Flat []:=λo ho=>by cases ho
end L3
end
section
namespace PySem
open Sem (wp)
open AutoSeq1 (wpAny_loadPart')
end PySem
namespace L2
open PySem PySem.Spec PyProof.Rows
section
def U0(f:FD):FD:=λδ=>(f δ).bind λd=>match d with
 | .int j=>R.aX (decide (-(2 ^ 62)<=j/\j<16777216))$ .ok$ .tup$ uD 0 j.toNat
 | _=> .no
end
end L2
end
section
namespace PySem
open Sem (wp)
open AutoSeq1 (wpAny_loadPart')
end PySem
namespace L2
open PySem PySem.Spec PyProof.Rows
def abJ(K:QcQ)(a:Addr):It:=
 ⟨λi H=>∃xs x,sR K H a xs/\xs[i]? =some x,λi H v H'=>∃p x,H p=none/\v= .ref p/\(∀xs,sR K H a xs->xs[i]? =some x)/\H'=upd H p (.tup [.int i,x]),λi H=>∃xs,sR K H a xs/\xs.length<=i⟩
section
def UO(f:FD):au->R (List D):=λδ=>(f δ).bind λd=>match d with | .tup ds=> .ok (qA ds) | _=> .no
end
section
variable {X:Cx}
abbrev ZG:D->D->R D:=JV (fun _ j=>decide$ 0<j/\j.natAbs.log2<9000) fun i j=>i / j
def abG(f:au->R (List D))(g:FD):au->R (List D):=λδ=>(f δ).bind λds=>(g δ).bind λd=>match d with
 | .int k=>R.aX (decide$ 0<=k/\k<1000000/\ds.length*k.toNat<=sizeLine)$ .ok (List.replicate k.toNat ds).flatten
 | _=> .no
def Ij(ns:List Int):List Int:=ns.mergeSort λa b=>decide$ a<=b
def UH:List D->R D
 | [.lst ds]=>(match ints? ds with | some ns=>R.aX (decide$ ns.length<64) (.ok$ .lst$ (Ij ns).map .int) | none=> .no)
 | _=> .no
def getD_in{l:List Int}{i:Nat}(h:i<l.length):l.getD i 0∈l:=by
 have e:l.getD i 0=l[i]:=by simp [h]
 rw[e];exact QbL h
theorem fold_min:∀(ns:List Int) (n:Int),ns.foldl min n∈n ::ns/\∀a∈n ::ns,ns.foldl min n<=a
 | [],n=>⟨by simp,λa ha=>by simp at ha;subst ha;exact Int.le_refl _⟩
 | x ::ns,n=>by
   obtain⟨h1,h2⟩:=fold_min ns$ min n x;rw[List.foldl_cons];refine⟨?_,λa ha=>?_⟩
   .rcases QaF.mp h1 with z | z
    .rw [z];by_cases hc:n<=x
     .rw [Int.min_eq_left hc];simp
     .rw [Int.min_eq_right$ by omega];simp
    .exact Qab _ (Qab _ z)
   .have hm:=h2 _ Qai;rcases QaF.mp ha with z | z
    .subst z;omega
    .rcases QaF.mp z with z | z
     .subst z;omega
     .exact h2 a (Qab _ z)
def DL:List D->R D
 | [.lst ds]=>(match ints? ds with | some (n ::ns)=> .ok (.int$ ns.foldl min n) | _=> .no)
 | ds=>IA ds
def Zf:List D->R D
 | [.lst ds]=>(match ints? ds with | some (n ::ns)=> .ok (.int$ ns.foldl max n) | _=> .no)
 | ds=>Xe ds
def Qg(hc:X.calm=true):cO X (.builtin "min") DL:=by
 intro pins s σ H B ds d xs us I hb rx rs hg;unfold DL at hg;split at hg
 .split at hg
  .rename_i es n ns e;cases hg;obtain⟨x,rfl,r⟩:=rs.one;obtain⟨a,ys,rfl,l,r⟩:=Rep.lst.mp r;obtain⟨u,rfl,ru⟩:=vals1 rx;cases ru;obtain⟨its,k,rv,e1,hz⟩:=I.Pq l;rw[gM r e] at rv;obtain⟨ps,rfl,hps⟩:=jz rv;have hl:s.heap.IsList a (intItems ps.toArray):=⟨_,e1,rfl,k,by simp [intItems]⟩
   have hlp:ps.length=ns.length+1:=by have:=Qbs List.length hps;simpa using this
   refine min_intList (I.ok.hd hc) hl (by simp;omega) λv h' tk hv hk=>?_
   obtain⟨t,rfl⟩:=intItems_at hv;obtain⟨b1,b2⟩:=argBest_lt (numAt ps.toArray)$ ps.toArray.size - 1;refine⟨.int _,H,I.kept hk,⟨t,rfl⟩,aR.refl H,Rep.int.mpr ?_⟩;obtain⟨m1,m2⟩:=fold_min ns n;have hge:∀j,j<ps.length->numAt ps.toArray j=(n ::ns).getD j 0:=λj hj=>by rw[numAt_eq,<-hps]
   have hin:numAt ps.toArray (argBest (λi j=>decide$ numAt ps.toArray i<numAt ps.toArray j)$ ps.toArray.size - 1)∈n ::ns:=by
    rw[hge _$ by simp at b1 ⊢;omega];exact getD_in (by simp at b1 ⊢;omega)
   have hle:=m2 _ hin;obtain⟨j,hj,ej⟩:=List.getElem_of_mem m1;have hj':j<ns.length+1:=by simpa using hj
   have h3:=b2 j (by simp;omega)
   rw[hge j$ by omega] at h3
   have h4:(n ::ns).getD j 0=ns.foldl min n:=by rw[<-ej,Qaz,Qag hj];rfl
   rw[h4] at h3;congr 1;omega
  .cases hg
 .exact R1 hc pins s σ H B _ d xs us I hb rx rs hg
end
end L2
namespace L3
open PySem PySem.Spec PyProof.Rows L2
def F_(S:aP):V3->Option (List D)
 | .d (.lst ds)=>some ds
 | .loc k=>cf S k
 | _=>none
def IV{K:QcQ}{cl:Aag}{ρ:P3}{S:aP}{v:V3}{x:V}{ds:List D}(w:SW K cl ρ H S)(h:F_ S v=some ds)(r:aS K ρ H v x):∃a xs,x= .ref a/\yG K [] H a xs/\aA K ρ.b H ds xs:=by
 unfold F_ at h;split at h
 .cases h;unfold aS Rep at r;obtain⟨a,xs,e,l,rs⟩:=r;exact⟨a,xs,e,l.br (λb o e _=>⟨e,by simp⟩),rs⟩
 .unfold aS at r;obtain⟨a,a1,rfl⟩:=r;obtain⟨xs,e,rs⟩:=w.ob _ a _ a1$ cw h;exact⟨a,xs,rfl, .inl ⟨by simp, .inl e⟩,rs⟩
 .cases h
section
variable {X:Cx}{cl:Aag}
def NH(fa fb:FX):FX:=λδ S=>(fa δ S).bind λa S1=>(fb δ S1).bind λb S2=>match F_ S2 a,F_ S2 b with
 | some ds,some es=>R3.aX (decide$ ds.length+es.length<=sizeLine)$ .ok (.loc S2.length)$ S2++[.lst$ ds++es]
 | _,_=> .no
def Qh(ha:PX X cl a fa)(hb:PX X cl b fb):PX X cl (.BinOp a .Add b pos) (NH fa fb):=⟨(IW DG ha.1 hb.1).imp λσ H Q ⟨ρ,S,δ,v,S',E,hf,q⟩=>by
 obtain⟨a,S1,h1,h2⟩:=R3.aj hf;obtain⟨b,S2,h3,h4⟩:=R3.aj h2;split at h4
 .rename_i ds es e1 rH;obtain⟨hl,h5⟩:=R3.aL h4;cases h5;refine⟨ρ,S,δ,a,S1,E,h1,λu1 bL H1 p1 w1 r1=>⟨bL,S1,δ,b,S2,E.to p1 w1,h3,λu2 qp H2 p2 w2 r2=>?_⟩⟩
  obtain⟨la,xs,rfl,l1,rs1⟩:=IV w2 e1$ r1.pre p2;obtain⟨lb,ys,rfl,l2,rs2⟩:=IV w2 rH r2;refine⟨[],la,lb,xs,ys,rfl,rfl,l1,l2,by rw[<-rs1.length,<-rs2.length];exact Qae hl,λp hp=>?_⟩
  obtain⟨w3,p3⟩:=w2.new (a:=p) (o:= .lst$ ds++es) (bA (o:= .lst$ xs++ys) hp) hp ⟨xs++ys,aZ,(rs1.append rs2).br (λb o e nb=>⟨by rw[bb$ bC e hp];exact e,λhb=>by
   rcases P3.mem_push hb with z | z
   .exact nb z
   .exact bC e hp z⟩)⟩
  exact q _ _ _ (p1.trans$ p2.trans p3) w3 (by unfold aS;exact⟨p,by show(qp.r++[p])[_]? =_;rw [<-w2.len,Qal$ Qak _,QbA];rfl,rfl⟩)
 .cases h4⟩
def SU{fa fb:FX}{δ:DE}{S:aP}{Q:V3->aP->Prop}(h:W3 (fa δ S) λa S1=>W3 (fb δ S1) λb S2=>∃ds es,F_ S2 a=some ds/\F_ S2 b=some es/\ds.length+es.length<=sizeLine/\Q (.loc S2.length) (S2++[.lst$ ds++es])):W3 (NH fa fb δ S) Q:=
 W3.bind (h.mono λ_ _ h=>W3.bind (h.mono λ_ _ ⟨ds,es,e1,rH,hl,q⟩=>by
  simp only[e1,rH];exact W3.wh (Qac hl)$ W3.ok q))
def aci(i:Nat):FZ:=λδ S=>match lR δ i with
 | none=> .no
 | some k=>(match cf S k with | some _=> .ok (.nx δ) (S.set k$ .lst []) | none=> .no)
end
def m_(S:aP)(c k:Nat):Option (List$ Str × V3):=match S[k]? with | some (.ins c' fs)=>(if c'=c then some fs else none) | _=>none
def nW{S:aP}{c k:Nat}{fs:List (Str × V3)}(h:m_ S c k=some fs):S[k]? =some (.ins c fs):=by
 unfold m_ at h;split at h
 .rename_i c' Ru e;split at h
  .rename_i hc;cases h;rw [e,hc]
  .cases h
 .cases h
theorem Ej{K:QcQ}{v:V3}:∀{fs:List (Str × V3)} {ys:List (Str × V)},ys.map (·.1)=fs.map (·.1)->aE K ρ H (fs.map (·.2)) (ys.map (·.2))->fs.lookup f=some v->∃x,ys.lookup f=some x/\aS K ρ H v x
 | [],ys,_,_,h=>by simp at h
 | (g,w) ::fs,[],e,_,_=>by simp at e
 | (g,w) ::fs,(g',y) ::ys,e,r,h=>by
   obtain⟨e1,rH⟩:=Qbc e;have e1:g'=g:=e1;subst e1;obtain⟨x,xs,ex,r1,r2⟩:=r.b7;cases ex;rw[QaB] at h ⊢;cases hq:f==g' with
   | true=>rw [hq] at h;cases h;exact⟨y,rfl,r1⟩
   | false=>rw [hq] at h;exact Ej rH r2 h
theorem Bm:∀{fs:List (Str × V3)} {ys:List (Str × V)},ys.map (·.1)=fs.map (·.1)->fs.lookup f=none->ys.lookup f=none
 | [],[],_,_=>rfl
 | [],_ ::_,e,_=>by simp at e
 | _ ::_,[],e,_=>by simp at e
 | (g,w) ::fs,(g',y) ::ys,e,h=>by
   obtain⟨e1,rH⟩:=Qbc e;have e1:g'=g:=e1;subst e1;rw[QaB] at h ⊢;cases hq:f==g' with
   | true=>rw [hq] at h;cases h
   | false=>rw [hq] at h;exact Bm rH h
def yD(f:Str)(v:V3):List (Str × V3)->List (Str × V3)
 | []=>[(f,v)]
 | (g,x) ::r=>if g=f then(g,v) ::r else(g,x) ::yD f v r
def DM{K:QcQ}{f:Str}{v:V3}{u:V}(rv:aS K ρ H v u):∀{fs:List (Str × V3)} {ys:List (Str × V)},ys.map (·.1)=fs.map (·.1)->aE K ρ H (fs.map (·.2)) (ys.map (·.2))->
 (mK f u ys).map (·.1)=(yD f v fs).map (·.1)/\aE K ρ H ((yD f v fs).map (·.2)) ((mK f u ys).map (·.2))
 | [],[],_,_=>⟨rfl,aE.cons rv aE.nil⟩
 | [],_ ::_,e,_=>by simp at e
 | _ ::_,[],e,_=>by simp at e
 | (g,w) ::fs,(g',y) ::ys,e,r=>by
   obtain⟨e1,rH⟩:=Qbc e;have e1:g'=g:=e1;subst e1;obtain⟨x,xs,ex,r1,r2⟩:=r.b7;cases ex;unfold yD mK;by_cases hg:g'=f
   .rw [Qap hg,Qap hg];exact⟨by rw[Qay,Qay,rH],aE.cons rv r2⟩
   .rw [Qaj hg,Qaj hg];obtain⟨h1,h2⟩:=DM rv rH r2;exact⟨by rw[Qay,Qay,h1],aE.cons r1 h2⟩
section
variable {X:Cx}{cl:Aag}
def fk(c:Nat)(f:Str)(g:FX):FX:=λδ S=>(g δ S).bind λv S1=>match v with
 | .loc k=>(match m_ S1 c k with | some fs=>(match fs.lookup f with | some v=> .ok v S1 | none=> .no) | none=> .no)
 | _=> .no
def cA{c:Nat}{pos:Pos}(hC:Am X.K (cl c))(hn:di X.K (cl c) f)(he:PX X cl e g)(hb:attributeBase e f X.env (eval e X.env)=eval e X.env:=by rfl):PX X cl (.Attribute e f pos) (fk c f g):=⟨(NW he.1 hb).imp λσ H Q ⟨ρ,S,δ,v,S',E,hf,q⟩=>by
 obtain⟨o,S1,h1,h2⟩:=R3.aj hf;split at h2
 .rename_i k;split at h2
  .rename_i fs e1;split at h2
   .rename_i w rH;cases h2;refine⟨ρ,S,δ, .loc k,_,E,h1,λu bL H1 p1 w1 r1=>?_⟩
    unfold aS at r1;obtain⟨a,a1,rfl⟩:=r1;obtain⟨dx,ys,ey,ek,rs⟩:=w1.ob k a _ a1$ nW e1;obtain⟨x,hx,rx⟩:=Ej ek rs rH;exact⟨a,cl c,dx,ys,x,rfl,ey,hC,hn,hx,q x bL H1 p1 w1 rx⟩
   .cases h2
  .cases h2
 .cases h2⟩
def w_fld{c k:Nat}{g:FX}{δ:DE}{S:aP}{Q:V3->aP->Prop}(h:W3 (g δ S) λv S1=>∃fs w,v= .loc k/\S1[k]? =some (.ins c fs)/\fs.lookup f=some w/\Q w S1):W3 (fk c f g δ S) Q:=
 W3.bind (h.mono λv S1 ⟨fs,w,e1,rH,e3,q⟩=>by
  subst e1;have e4:m_ S1 c k=some fs:=by unfold m_;simp only[rH,QbU]
  simp only[e4,e3];exact W3.ok q)
def Y8(P:Program)(w:World)(K:QcQ)(mg:Aaf)(base:Heap)(cl:Aag)(k c:Nat)(m:Str)(n:Nat)(g:List V3->aP->R3 V3):Prop:=
 ∃(f:Addr) (fd:FuncData) (ps:List Str),Am K (cl c)/\Meth K (cl c) m f/\jH P w K mg base wM k f fd ps (KG K cl (n+1) g)/\Binds K fd ps []
def rL(c:Nat)(m:Str)(g:List V3->aP->R3 V3)(fo:FX)(fs:FA):FX:=λδ S=>(fo δ S).bind λo S1=>match o with
 | .loc k=>(match m_ S1 c k with | some ys=>(match ys.lookup m with | none=>(fs δ S1).bind λvs S2=>g (.loc k ::vs) S2 | some _=> .no) | none=> .no)
 | _=> .no
def GZ(P:Program)(w:World)(K:QcQ)(mg:Aaf)(base:Heap)(cl:Aag)(k c:Nat)(x:Str)(n:Nat)(g:List V3->aP->R3 V3):Prop:=
 ∃(f:Addr) (fd:FuncData) (ps:List Str),Mk K (cl c) f/\jH P w K mg base wM k f fd ps (KG K cl (n+1) g)/\mg x=some (.ref$ cl c)/\Binds K fd ps []
def HY(c:Nat)(g:List V3->aP->R3 V3)(fs:FA):FX:=λδ S=>(fs δ S).bind λvs S1=>(g (.loc S1.length ::vs)$ S1++[.ins c []]).bind λv S2=>match v with
 | .d .cM=> .ok (.loc S1.length) S2
 | _=> .no
def AF(c:Nat)(f:Str)(fo fe:FX):FZ:=λδ S=>(fe δ S).bind λv S1=>(fo δ S1).bind λo S2=>match o with
 | .loc k=>(match m_ S2 c k with | some fs=>R3.aX (decide$ fs.length<1000) (.ok (.nx δ)$ S2.set k$ .ins c$ yD f v fs) | none=> .no)
 | _=> .no
def tP{c:Nat}{pos pos':Pos}(hC:Am X.K (cl c))(hn:di X.K (cl c) f)(ho:PX X cl o fo)(he:PX X cl value fe)(hs:swapsWith value (some$ .Attribute o f pos') pos.line X.env=pure false:=by rfl) :
 PZ X cl (.Assign [.Attribute o f pos'] value pos) (AF c f fo fe):=⟨(OI ho.1 he.1 hs).imp λD σ H ⟨ρ,S,δ,ou,S',E,hf,q⟩=>by
 obtain⟨v,S1,h1,h2⟩:=R3.aj hf;obtain⟨vo,S2,h3,h4⟩:=R3.aj h2;split at h4
 .rename_i k;split at h4
  .rename_i fs e1;obtain⟨hl,h5⟩:=R3.aL h4;cases h5;refine⟨ρ,S,δ,v,S1,E,h1,λu bL H1 p1 w1 r1=>⟨bL,S1,δ, .loc k,S2,E.to p1 w1,h3,λu2 qp H2 p2 w2 r2=>?_⟩⟩
   unfold aS at r2;obtain⟨a,a1,rfl⟩:=r2;obtain⟨dx,ys,ey,ek,rs⟩:=w2.ob k a _ a1$ nW e1;have hlen:ys.length=fs.length:=by have:=Qbs List.length ek;simpa using this
   obtain⟨k1,k2⟩:=DM (f:=f) (r1.pre p2) ek rs;obtain⟨w3,p3⟩:=w2.put (o:= .ins c$ yD f v fs) (u:= .ins (cl c) dx$ mK f u ys) a1 (w2.fz k a a1$ by rw[nW e1];intro h;cases h) ⟨dx,_,rfl,k1,k2⟩
   exact⟨a,cl c,dx,ys,rfl,ey,hC,hn,by rw[hlen];exact Qae hl,q σ qp _ (p1.trans$ p2.trans p3)$ E.to (p1.trans$ p2.trans p3) w3⟩
  .cases h4
 .cases h4⟩
def ni{c k:Nat}{fo fe:FX}{δ:DE}{S:aP}{QO:Ou->aP->Prop}(h:W3 (fe δ S) λv S1=>W3 (fo δ S1) λo S2=>∃fs,o= .loc k/\S2[k]? =some (.ins c fs)/\fs.length<1000/\QO (.nx δ) (S2.set k$ .ins c$ yD f v fs)):W3 (AF c f fo fe δ S) QO:=
 W3.bind (h.mono λv S1 h=>W3.bind (h.mono λo S2 ⟨fs,e1,rH,hl,q⟩=>by
  subst e1;have e4:m_ S2 c k=some fs:=by unfold m_;simp only[rH,QbU]
  simp only[e4];exact W3.wh (Qac hl)$ W3.ok q))
def N0{c:Nat}{g:List V3->aP->R3 V3}{fs:FA}{δ:DE}{S:aP}{Q:V3->aP->Prop}(h:W3 (fs δ S) λvs S1=>W3 (g (.loc S1.length ::vs)$ S1++[.ins c []]) λv S2=>v= .d .cM/\Q (.loc S1.length) S2):W3 (HY c g fs δ S) Q:=
 W3.bind (h.mono λvs S1 h=>W3.bind$ h.mono λv S2 ⟨e,q⟩=>by subst e;exact W3.ok q)
end
end L3
end
section
namespace PySem
open Sem (wp)
def abg(t:Bool)(h:Heap)(i l:Addr)(k:Nat):Prop:=cond t (h.IsTupleIter i l k)$ h.IsListIter i l k
def aa_(t:Bool)(h:Heap)(l:Addr)(xs:Array Value):Prop:=cond t (h.IsTuple l xs)$ h.IsList l xs
def Hw(t:Bool):String:=cond t "tuple_iterator" "list_iterator"
abbrev Y4(t:Bool)(h:Heap)(l1:Addr):Heap:=h.push {cls:= .type$ Hw t,data:= .fields #[.ref l1, .int 0 0]}
abbrev Zs(t u:Bool)(h:Heap)(l1 l2:Addr):Heap:=(Y4 t h l1).push {cls:= .type$ Hw u,data:= .fields #[.ref l2, .int 0 0]}
abbrev Zu(t u:Bool)(h:Heap)(l1 l2:Addr):Heap:=(Zs t u h l1 l2).push {cls:= .type "tuple",data:= .seq #[.ref h.objs.size, .ref (Y4 t h l1).objs.size]}
abbrev zs4(t u:Bool)(h:Heap)(l1 l2:Addr):Heap:=(Zu t u h l1 l2).push {cls:= .type "tuple",data:= .seq #[.none, .none]}
abbrev zs5(t u:Bool)(h:Heap)(l1 l2:Addr):Heap:=(zs4 t u h l1 l2).push {cls:= .type "zip",data:= .fields #[.none, .bool false, .bool false, .ref (Zs t u h l1 l2).objs.size, .ref (Zu t u h l1 l2).objs.size]}
end PySem
namespace L2
open PySem PySem.Spec PyProof.Rows
def QY(t:Bool)(K:QcQ)(H:Hp)(a:Addr)(xs:List V):Prop:=cond t (sR K H a xs)$ oZ K H a xs
def Itz(K:QcQ)(t u:Bool)(a b:Addr):It:=
 ⟨λi H=>∃xs ys x y,QY t K H a xs/\QY u K H b ys/\xs[i]? =some x/\ys[i]? =some y,
  λi H v H'=>∃p x y,H p=none/\v= .ref p/\(∀xs,QY t K H a xs->xs[i]? =some x)/\(∀ys,QY u K H b ys->ys[i]? =some y)/\H'=upd H p (.tup [x,y]),
  λi H=>∃xs ys,QY t K H a xs/\QY u K H b ys/\(xs.length<=i\/ys.length<=i)⟩
section
variable {X:Cx}
def RI(ds es:List D):List D:=(ds.zip es).map λp=> .tup [p.1,p.2]
def seqD?:D->Option (List D)
 | .lst ds=>some ds
 | .tup ds=>some ds
 | _=>none
def Zw(f g:FD):au->R (List D):=λδ=>(f δ).bind λd=>(g δ).bind λe=>match seqD? d,seqD? e with | some ds,some es=> .ok (RI ds es) | _,_=> .no
def ZK(T U:String)(f:FD):FD:=λδ=>(f δ).bind λd=>match d with | .dct _ _=> .no | _=> .ok$ .bl (OB (tyName d) T || OB (tyName d) U)
def Itd(lo:Int)(n:Nat):It:=⟨λi _=>i<n,λi H x H'=>H'=H/\x= .int (lo - i),λi _=>n<=i⟩
def VO(lo:Int)(n:Nat):List D:=(List.range n).map λ(i:Nat)=>D.int$ lo - i
def Zz(f g h:FD):au->R (List D):=λδ=>(f δ).bind λd=>(g δ).bind λe=>(h δ).bind λk=>match d,e,k with
 | .int i, .int j, .int m=>R.aX (decide$ m= -1/\ -(2 ^ 60)<=i/\i<2 ^ 60/\ -(2 ^ 60)<=j/\j<2 ^ 60) (.ok$ VO i (i - j).toNat) | _,_,_=> .no
def bls?:List D->Option (List Bool)
 | []=>some []
 | .bl b ::ds=>(bls? ds).map (b ::·)
 | _ ::_=>none
theorem Ah{K:QcQ}{B:List Addr}:∀{ds:List D} {xs:List V} {bs:List Bool},aA K B H ds xs->bls? ds=some bs->xs=bs.map V.bl
 | [],xs,bs,r,h=>by unfold aA at r;subst r;cases h;rfl
 | d ::ds,xs,bs,r,h=>by
   obtain⟨x,q,rfl,r1,r2⟩:=r.b7;cases d with
   | bl b=>
     have h:(bls? ds).map (b ::·)=some bs:=h
     cases e:bls? ds with
     | none=>rw [e] at h;cases h
     | some cs=>
       rw[e] at h;cases h;rw[Rep.bl.mp r1,Ah r2 e];rfl
   | _=>cases h
theorem DX:∀bs:List Bool,bls? (bs.map D.bl)=some bs
 | []=>rfl
 | b ::bs=>by show(bls?$ bs.map D.bl).map (b ::·)=_;rw [DX bs];rfl
theorem wm:∀{bs:List Bool} {us:List Value},Vals (bs.map V.bl) us->us=bs.map Value.bool
 | [],us,h=>by cases h;rfl
 | b ::bs,us,h=>by
   cases h with
   | cons r t=>rw [wm t,show _=Value.bool b from r];rfl
def range_all(bs:List Bool):(List.range bs.length).all (λi=>bs.getD i false)=bs.all id:=by
 rw[Qbp];simp only[QaJ,Qbm,id];constructor
 .intro h b hb;obtain⟨i,hi,rfl⟩:=List.getElem_of_mem hb;have:=h i hi;rw[Qaz,Qag hi] at this;exact this
 .intro h i hi;rw[Qaz,Qag hi];exact h _$ QbL hi
def Hf:List D->R D
 | [.lst ds]=>(match bls? ds with | some bs=> .ok (.bl$ bs.all id) | none=> .no)
 | _=> .no
def abk:List D->R D
 | [.lst ds]=>(match bls? ds with | some bs=> .ok (.bl$ bs.any id) | none=> .no)
 | _=> .no
def SS{bs:List Bool}{i:Nat}{v:Value}(h:((bs.map Value.bool).toArray)[i]? =some v):v= .bool (bs.getD i false):=by
 rw[List.getElem?_toArray,Qad] at h;rw[Qaz];cases e:bs[i]? with
 | none=>rw [e] at h;cases h
 | some b=>rw [e] at h;cases h;rfl
def MJ(hc:X.calm=true):cO X (.builtin "all") Hf:=by
 intro pins s σ H B ds d xs us I hb rx rs hg;unfold Hf at hg;split at hg
 .split at hg
  .rename_i es bs e;cases hg;obtain⟨x,rfl,r⟩:=rs.one;obtain⟨a,ys,rfl,l,r⟩:=Rep.lst.mp r;obtain⟨u,rfl,ru⟩:=vals1 rx;cases ru;obtain⟨its,n,rv,e1,hz⟩:=I.Pq l;rw[Ah r e] at rv;obtain rfl:=wm rv;have hl:s.heap.IsList a (bs.map Value.bool).toArray:=⟨_,e1,rfl,n,rfl⟩;have hlt:a<s.heap.objs.size:=QaA e1;refine call_all_walk$ wpAny_pyIter_list hl ?_;refine⟨_,_,_,_,_,_,λi=>bs.getD i false,rfl,Walks.list (A:=X.A.in1) (I.ok.hd hc) _ a (QaR hlt) _,⟨⟨_,QaY _ rfl,rfl,rfl⟩,hl.push _⟩,?_,λh' tk hk=>?_⟩
   .intro i v s Q E hP hQ;rw[SS hP];exact Qbx hQ
   .refine⟨.bl$ bs.all id,H,I.kept$ old_kept hk,?_,aR.refl H,Rep.bl.mpr rfl⟩;show Value.bool _=Value.bool _;rw[<-range_all];simp
  .cases hg
 .cases hg
end
section
def sNo:FS:=λ_=> .no
def ZA(f:FD):FS:=λδ=>(f δ).bind λ_=> .ok$ .nx δ
end
end L2
namespace L3
open PySem PySem.Spec PyProof.Rows L2
section
variable {X:Cx}{cl:Aag}
def zNo:FZ:=λ_ _=> .no
def OY{K:QcQ}{f:au->R (List D)}{σ:L2.St}{Q:V->Hp->Prop}(h:tX K cl (zl f) σ H Q):tN K f σ H Q:=by
 obtain⟨ρ,S,δ,v,S',E,hf,q⟩:=h;obtain⟨ds,S1,h1,h2⟩:=R3.aj hf;obtain⟨h3,e3⟩:=R3.of_ok h1;cases h2;subst e3;refine⟨[],ρ.b,down δ,ds,E.down,h3,λa xs H' s n e r=>?_⟩
 have r':aA K (ρ.push a).b H' ds xs:=r.br λb o e nb=>⟨e,λhb=>nb (by
  rcases P3.mem_push hb with z | z
  .exact Qab _ z
  .subst z;exact Qai)⟩
 obtain⟨w,p⟩:=E.sw.new (o:= .lst ds) s n ⟨xs,e,r'⟩;exact q _ _ H' p w (by unfold aS;exact⟨a,by show(ρ.r++[a])[_]? =_;rw [<-E.sw.len,Qal (by omega),QbA];rfl,rfl⟩)
def Zg(f:au->R (List D)):FX:=λδ S=>(R3.of (f$ mz S δ) S).bind λds S=>R3.aX (A9 ds)$ .ok (.loc S.length)$ S++[.lst ds]
def Ad{i:Nat}{pos' oW:Pos}{own:List Str}{kp:List Nat}{it:au->R (List D)}{c:au->R Bool}(hi:KH X tg iter it)(hg:∀fp s H,O6 (bB X scope (own++(qu kp X.N)) fp s H) tg t)(Dq:∀fp s H,IP (bB X scope (own++(qu kp X.N)) fp s H) ifs c)(he:∀fp s H,QD (bB X scope (own++(qu kp X.N)) fp s H) elt f)(zN:swapsWith (.ListComp elt [⟨tg,iter,ifs,0⟩] scope pos) (some$ .Name x pos') oW.line X.env=pure true:=by rfl)(hs:∀x,foldedSetIterable iter X.env x=pure x:=by intro _;rfl)(hc:X.calm=true:=by rfl)(hN:X.N.Nodup:=by first | assumption | exact Nf (by kernel_rfl))(hx:X.N[i]? =some x:=by rfl)(Dl:X.env.scope.names.lookup x=some .local:=by rfl)(C:f6 X scope own kp (qu kp X.N):=by exact UP (by kernel_rfl)):PZ X cl (.Assign [.Name x pos'] (.ListComp elt [⟨tg,iter,ifs,0⟩] scope pos) oW) (lU i$ zl$ dq it t c f own kp):=
 ⟨(vn hc hN hx Dl C hi.1 (λfp s H=>(hg fp s H).1) (λfp s H=>(Dq fp s H).1) (λfp s H=>(he fp s H).1) zN hs).imp λD σ H h=>yA$ OY$ N5 h⟩
def ab5(i:Nat)(f:FX):FZ:=λδ S=>match lR δ i with
 | none=> .no
 | some k=>match cf S k with
   | none=> .no
   | some _=>(f δ S).bind λv S1=>match v with
     | .d (.lst es)=>(match cf S1 k with
       | some ds=>R3.aX (decide$ ds.length+es.length<=sizeLine)$ .ok (.nx δ)$ S1.set k$ .lst$ ds++es
       | none=> .no)
     | _=> .no
end
end L3
end
section
namespace L2
open PySem PySem.Spec PyProof.Rows
section
def Z6(d e:D):R D:=match d,e with
 | .tup a, .tup b=>R.aX (decide$ a.length+b.length<=sizeLine)$ .ok$ .tup$ a++b
 | d,e=>bu d e
def UJ(f:FD):au->R (List D):=λδ=>(f δ).bind λd=>match d with | .lst ds=> .ok (qA ds) | .tup ds=> .ok (qA ds) | _=> .no
def Itv(K:QcQ)(a:Addr)(n:Nat):It:=
 ⟨λi H=>∃xs x,oZ K H a xs/\xs.length=n/\i<n/\xs[n - 1 - i]? =some x,λi H v H'=>H'=H/\∀xs,oZ K H a xs->xs[n - 1 - i]? =some v,λi H=>(∃xs,oZ K H a xs)/\i=n⟩
def Zq(f:FD):au->R (List D):=λδ=>(f δ).bind λd=>match d with | .lst ds=> .ok ds.reverse | _=> .no
def uw(K:QcQ)(C:Addr)(m qual:Str)(st:Stmt):Prop:=∃f fd,Cz K m qual st f fd/\Meth K C m f
def NO(K:QcQ)(C:Addr)(m qual:Str)(st:Stmt):Prop:=∃f fd,Cz K m qual st f fd/\Mk K C f
end
end L2
namespace L3
open PySem PySem.Spec PyProof.Rows L2
end L3
end
section
namespace L2
open PySem PySem.Spec PyProof.Rows
section
def acp(f:FD):au->R (List D):=λδ=>(f δ).bind λd=>match d with | .int j=>R.aX (decide (-(2 ^ 62)<=j/\j<16777216)) (.ok$ uD 0 j.toNat) | _=> .no
def abj(f:FD):FD:=λδ=>(f δ).bind λd=>match d with | .lst ds=> .ok (.lst ds.reverse) | _=> .no
end
section
def acu(K:QcQ)(n:Nat)(t:Jr):TG:=λv σ H Q=>∃a xs,v= .ref a/\oZ K H a xs/\xs.length=n/\t xs σ H Q
end
end L2
namespace L3
open PySem PySem.Spec PyProof.Rows L2
section
def gLs(n:Nat)(t:Kn):FG:=λd δ=>match d with
 | .d (.lst ds)=>if ds.length=n then t (ds.map .d) δ else none
 | .lst vs=>if vs.length=n then t vs δ else none
 | _=>none
def aa7(f g:FX):FA:=λδ S=>(bf f (bf g dG) δ S).bind λvs S1=>match vs with
 | [.d d, .d e]=>(match seqD? d,seqD? e with | some ds,some es=> .ok ((RI ds es).map .d) S1 | _,_=> .no)
 | _=> .no
def Mi(S:aP):Prop:=∀o∈S,z0 S.length o=true
def Flat.clo{S:aP}(h:Flat S):Mi S:=λo ho=>h o ho _
def RA{N:List Str}{vs:List V3}{S:aP}{QV:V3->aP->Prop}(h:W3 (uu N F vs S) λv S1=>(∀o∈S1.take S.length,z0 S.length o=true)/\oS S.length v=true/\∃d,res S1 v=some d/\QV (.d d) (S1.take S.length)):W3 (zR N F vs S) QV:=
 W3.bind (h.mono λv S1 ⟨hl,hg,d,e,q⟩=>by
  rw[e];exact W3.wh (by rw[QaJ.mpr hl,hg];rfl)$ W3.ok q)
def IU{N:List Str}{vs:List V3}{S:aP}{QV:V3->aP->Prop}(hS:Mi S)(h:W3 (uu N F vs S) λv S1=>oS S.length v=true/\(∃T,S1=S++T)/\∃d,res S1 v=some d/\QV (.d d) S):W3 (zR N F vs S) QV:=
 RA (h.mono λv S1 ⟨hg,⟨T,e1⟩,d,e,q⟩=>by
  subst e1;rw[QbS$ Qak _,Qba];exact⟨hS,hg,d,e,q⟩)
end
end L3
end
section
namespace L2
open PySem PySem.Spec PyProof.Rows
section
def ois?:List D->Option (List$ Option Int)
 | []=>some []
 | .int i ::ds=>(ois? ds).map (some i ::·)
 | .cM ::ds=>(ois? ds).map (none ::·)
 | _ ::_=>none
def oiV:Option Int->V | some i=> .int i | none=> .cM
def inN(d e:D):R Bool:=match d,e with
 | .cM, .lst ds=>(match ois? ds with | some ss=> .ok (ss.any (·.isNone)) | none=> .no)
 | _,_=> .no
def aaY(d e:D):R D:=(inN d e).bind λb=> .ok$ .bl b
end
section
def Vs(d:D)(ds:List D):R D:=match d,ds with
 | .lst es,[.int k]=>(match ints? es with | some ss=> .ok (.int (ss.count k:Nat)) | none=> .no)
 | _,_=> .no
end
section
abbrev abX:D->D->R D:=JV (fun i j=>decide$ 0<=j/\j<1000/\ -1000<i/\i<1000) fun i j=>i*2 ^ j.toNat
def Z0(d e:D):R D:=match d,e with | .bl a, .bl b=> .ok (.bl$ a !=b) | _,_=> .no
end
end L2
namespace L3
open PySem PySem.Spec PyProof.Rows L2
section
variable {X:Cx}{cl:Aag}
def oK(fo f:FX):FZ:=λδ S=>(fo δ S).bind λo S0=>match o with
 | .loc k=>(match cf S0 k with
   | none=> .no
   | some _=>(f δ S0).bind λv S1=>match v with
     | .d d=>(match cf S1 k with | some ds=>R3.aX (decide$ ds.length<sizeLine) (.ok (.nx δ)$ S1.set k$ .lst$ ds++[d]) | none=> .no)
     | _=> .no)
 | _=> .no
def L4{o e:Expr}{fo f:FX}{apos aW pos:Pos}(ho:PX X cl o fo)(he:PX X cl e f)
 (hs:starEach [e] X.env=(false,eval e X.env) ::starEach [] X.env:=by rfl) (dO:(apos.endLine==aW.line)=true:=by rfl)
 (i_:((backTo aW$ starEach [e] X.env).all (λx=>!x.1) && (backToKw aW$ keywordEach [] X.env).all (λx=>x.1.isSome)
   && decide (([e]:List Expr).length+([]:List Keyword).length+(if([]:List Keyword).isEmpty then 0 else 1)<30))=true:=by rfl)
 (zN:swapsWith (.Call (.Attribute o "append" apos) [e] [] aW) none pos.line X.env=pure false:=by rfl)
 (dM:attributeBase o "append" X.env (eval o X.env)=eval o X.env:=by rfl) :
 PZ X cl (.Expr (.Call (.Attribute o "append" apos) [e] [] aW) pos) (oK fo f):=by
 refine⟨(rK (xO (X:=X) QbM QbJ QbK m5 ho.1 (fS he.1 lA hs) dM i_ dO hs) zN).imp λD σ H ⟨ρ,S,δ,oo,S',E,hf,q⟩=>?_⟩
 unfold oK at hf;obtain⟨vo,S0,g1,g2⟩:=R3.aj hf;split at g2
 .rename_i k;split at g2
  .cases g2
  .rename_i GP h0;obtain⟨v,S1,h1,h2⟩:=R3.aj g2;split at h2
   .rename_i d;split at h2
    .rename_i ds h3;obtain⟨hl,h4⟩:=R3.aL h2;cases h4;refine⟨ρ,S,δ, .loc k,S0,E,g1,λu XG H0 p0 w0 r0=>?_⟩
     unfold aS at r0;obtain⟨a,a1,rfl⟩:=r0;obtain⟨Uy,x0,_⟩:=w0.ob k a _ a1$ cw h0;refine⟨.inl ⟨rfl,Uy,oZ.of x0⟩,⟨XG,S0,δ, .d d,S1,E.to p0 w0,h1,λy bL H1 p1 w1 r1=>?_⟩⟩
     have b1:=p1.ext k a a1;obtain⟨xs,x1,x2⟩:=w1.ob k a _ b1$ cw h3;refine⟨a,xs,y,rfl,rfl,x1,by rw[<-x2.length];exact Qae hl,?_⟩
     unfold aS at r1;obtain⟨w2,p2⟩:=w1.put (o:= .lst$ ds++[d]) (u:= .lst$ xs++[y]) b1 (w1.fz k a b1$ by rw[cw h3];intro h;cases h) ⟨xs++[y],rfl,x2.append$ aA.cons r1 aA.nil⟩
     exact q σ bL _ (p0.trans$ p1.trans p2)$ E.to (p0.trans$ p1.trans p2) w2
    .cases h2
   .cases h2
 .cases g2
def Pc{fo f:FX}{δ:DE}{S:aP}{k:Nat}{QO:Ou->aP->Prop}(h:W3 (fo δ S) λo S0=>o= .loc k/\(∃ds,S0[k]? =some (.lst ds))/\W3 (f δ S0) λv S1=>∃d ds,v= .d d/\S1[k]? =some (.lst ds)/\ds.length<sizeLine/\QO (.nx δ) (S1.set k$ .lst$ ds++[d])):W3 (oK fo f δ S) QO:=by
 unfold oK;refine W3.bind$ h.mono λo S0 ⟨e,⟨GP,h0⟩,h⟩=>?_
 subst e;have e0:cf S0 k=some GP:=by unfold cf;rw [h0]
 simp only[e0];refine W3.bind$ h.mono λv S1 ⟨d,ds,e1,rH,hl,q⟩=>?_
 subst e1;have e3:cf S1 k=some ds:=by unfold cf;rw [rH]
 simp only[e3];exact W3.wh (Qac hl)$ W3.ok q
def Y7(f:FX):FA:=λδ S=>(bf f dG δ S).bind λvs S1=>match vs with
 | [.d (.lst ds)]=> .ok ((qA ds).map .d) S1
 | _=> .no
end
end L3
end
section
namespace L2
open PySem PySem.Spec PyProof.Rows
end L2
end
section
namespace L3
open PySem PySem.Spec PyProof.Rows L2
section
def Wm(it:FA)(t:FG)(c:FB)(f:FX)(own:List Str)(kp:List Nat):FX:=λδ S=>(it δ S).bind λvs S1=>R3.aX (decide$ vs.length<=sizeLine)$ (pO t c f (qN own kp δ) vs S1).bind λys S2=>match tF ys with | some ds=> .ok (.loc S2.length) (S2++[.lst ds]) | none=> .no
end
section
def Wg(g:List D->R D)(fs:FA):FX:=λδ S=>(fs δ S).bind λvs S1=>match A4 S1 vs with
 | some ds=>(R3.of (g ds) S1).bind λd S=>R3.aX (A3 d)$ .ok (.d d) S
 | none=> .no
end
end L3
end
section
namespace L2
open PySem PySem.Spec PyProof.Rows
section
def abT(f:FD):FD:=λδ=>(f δ).bind λd=>match d with | .int i=> .ok (.int (-i - 1)) | _=> .no
def slT(d:D)(lo hi:Option Int):R D:=match d with
 | .tup ds=>R.aX (decide (¬(HT.t9 ds.length 0 lo=0/\HT.t9 ds.length ds.length hi=ds.length)))$ .ok$ .tup$ cutD ds lo hi
 | _=> .no
def ab6(f:FD)(fl fh:FO):FD:=λδ=>(f δ).bind λd=>(fl δ).bind λlo=>(fh δ).bind λhi=>slT d lo hi
end
end L2
namespace L3
open PySem PySem.Spec PyProof.Rows L2
section
variable {X:Cx}{cl:Aag}
structure PZc (X:Cx) (cl:Aag) (st:List Stmt) (F:FZ):Prop where
 go:yI X st (fun D σ H=>D.ct=D.nx/\sX X.K cl F D σ H)
end
end L3
end
section
namespace L2
open PySem PySem.Spec PyProof.Rows
end L2
namespace L3
open PySem PySem.Spec PyProof.Rows L2
section
def abC(i:Nat)(f:FX):FX:=λδ S=>match lR δ i with
 | none=> .no
 | some k=>match cf S k with
   | none=> .no
   | some _=>(f δ S).bind λv S1=>match v with
     | .d (.int j)=>(match cf S1 k with
       | some ds=>(match FU ds.length j with
         | some p=>(match ds[p]? with | some d=>R3.aX (decide (-(2 ^ 63)<=j/\j<2 ^ 63)) (.ok (.d d)$ S1.set k$ .lst$ ds.eraseIdx p) | none=> .no)
         | none=> .no)
       | none=> .no)
     | _=> .no
end
section
def abn(f:FX)(fl fh:Rk):FX:=λδ S=>(f δ S).bind λv S1=>(fl δ S1).bind λlo S2=>(fh δ S2).bind λhi S3=>match v with
 | .lst vs=> .ok (.lst$ L2.cutD vs lo hi) S3
 | _=> .no
end
end L3
end
section
namespace L2
open PySem PySem.Spec PyProof.Rows
section
def Vk:List V->Hp->VK->Prop:=λxs H Q=>∃a aD ns,xs=[V.ref a]/\H a=some (.dK aD)/\aD.map (·.1)=ns.map Sum.inl/\ns.length<64/\∀p,H p=none->Q (.ref p) (upd H p$ .lst$ (Ij ns).map V.int)
end
end L2
end
section
namespace L3
open PySem PySem.Spec PyProof.Rows L2
section
variable {X:Cx}{cl:Aag}
def qU(aD:List (Key × D))(k:Key)(d:D):List (Key × D):=if(aD.any λkv=>decide$ kv.1=k)=true then aD.map (λkv=>if kv.1=k then(kv.1,d) else kv) else aD++[(k,d)]
def sP(S:aP)(k:Nat):Option (List$ Key × D):=match S[k]? with | some (.dct aD)=>some aD | _=>none
def vI{S:aP}{k:Nat}{aD:List (Key × D)}(h:sP S k=some aD):S[k]? =some (.dct aD):=by
 unfold sP at h;split at h
 .rename_i e;cases h;exact e
 .cases h
theorem Ex{α β:Type}(k:Key):∀{a:List (Key × α)} {b:List (Key × β)},a.map (·.1)=b.map (·.1)->(a.any λkv=>decide$ kv.1=k)=b.any λkv=>decide (kv.1=k)
 | [],[],_=>rfl
 | [],_ ::_,h=>by simp at h
 | _ ::_,[],h=>by simp at h
 | x ::a,y ::b,h=>by
   rw[Qay,Qay] at h;obtain⟨h1,h2⟩:=Qbc h;rw[Qby,Qby,Ex k h2,h1]
def Ed{K:QcQ}{B:List Addr}{k:Key}{d:D}{v:V}(rv:Rep K B H d v):∀{aD:List (Key × D)} {ys:List (Key × V)},ys.map (·.1)=aD.map (·.1)->aA K B H (aD.map (·.2)) (ys.map (·.2))->
 (ys.map λkv=>if kv.1=k then(kv.1,v) else kv).map (·.1)=(aD.map λkv=>if kv.1=k then(kv.1,d) else kv).map (·.1)/\aA K B H ((aD.map λkv=>if kv.1=k then(kv.1,d) else kv).map (·.2)) ((ys.map λkv=>if kv.1=k then(kv.1,v) else kv).map (·.2))
 | [],[],_,_=>⟨rfl,aA.nil⟩
 | [],_ ::_,h,_=>by simp at h
 | _ ::_,[],h,_=>by simp at h
 | (k1,d1) ::aD,(k2,v2) ::ys,h,r=>by
   obtain⟨h1,h2⟩:=Qbc h;have h1:k2=k1:=h1;subst h1;obtain⟨x,r',e,q1,q2⟩:=aA.b7 r;cases e;obtain⟨i1,i2⟩:=Ed rv h2 q2;simp only[Qay];by_cases hk:k2=k
   .rw [Qap hk,Qap hk];exact⟨by rw[i1],aA.cons rv i2⟩
   .rw [Qaj hk,Qaj hk];exact⟨by rw[i1],aA.cons q1 i2⟩
def Tu{K:QcQ}{B:List Addr}{k:Key}{d:D}{v:V}(rv:Rep K B H d v){aD:List (Key × D)}{ys:List (Key × V)}(h:ys.map (·.1)=aD.map (·.1))(r:aA K B H (aD.map (·.2)) (ys.map (·.2))) :
 (putK ys k v).map (·.1)=(qU aD k d).map (·.1)/\aA K B H ((qU aD k d).map (·.2)) ((putK ys k v).map (·.2)):=by
 unfold putK qU;rw[Ex k h];split
 .exact Ed rv h r
 .rw [QaN,QaN,QaN,QaN,h];exact⟨rfl,r.append$ aA.cons rv aA.nil⟩
def Ak:FX:=λδ S=> .ok (.loc S.length)$ S++[.dct []]
def yM:PX X cl (.Dict [] [] pos) Ak:=⟨Hs.imp λσ H Q ⟨ρ,S,δ,v,S',E,hf,q⟩=>by
 cases hf;intro p hp;obtain⟨w,pr⟩:=E.sw.new (a:=p) (o:= .dct []) (bA (o:= .dK []) hp) hp ⟨[],aZ,rfl,aA.nil⟩;exact q _ _ _ pr w$ by unfold aS;exact⟨p,by show(ρ.r++[p])[_]? =_;rw [<-E.sw.len,Qal (by omega),QbA];rfl,rfl⟩⟩
def ZP(fo fi fe:FX):FZ:=λδ S=>(fe δ S).bind λv S1=>(fo δ S1).bind λo S2=>(fi δ S2).bind λj S3=>match v,o,j with
 | .d d, .loc k, .d (.int n)=>(match sP S3 k with | some aD=>R3.aX (decide$ aD.length<sizeLine) (.ok (.nx δ)$ S3.set k$ .dct$ qU aD (Sum.inl n) d) | none=> .no)
 | _,_,_=> .no
def acv(fa fo:FX):FX:=λδ S=>(fa δ S).bind λj S1=>(fo δ S1).bind λo S2=>match j,o with
 | .d (.int n), .loc k=>(match sP S2 k with | some aD=> .ok (.d$ .bl$ aD.any λkv=>decide$ kv.1=Sum.inl n) S2 | none=> .no)
 | _,_=> .no
def intK?:List Key->Option (List Int)
 | []=>some []
 | .inl n ::ks=>(intK? ks).map (n ::·)
 | .inr _ ::_=>none
def Wx(f:FX):FX:=λδ S=>(f δ S).bind λo S1=>match o with
 | .loc k=>(match sP S1 k with
   | some aD=>(match intK? (aD.map (·.1)) with | some ns=>R3.aX (decide$ ns.length<64) (.ok (.d$ .lst$ (Ij ns).map .int) S1) | none=> .no)
   | none=> .no)
 | _=> .no
def CP{δ:DE}{S:aP}{QV:V3->aP->Prop}(h:QV (.loc S.length) (S++[.dct []])):W3 (Ak δ S) QV:=W3.ok h
end
end L3
end
section
namespace L2
open PySem PySem.Spec PyProof.Rows
section
def UK:V->List V->Hp->VK->Prop:=λx vs H Q=>∃(l:Addr) (xs:List V) (j:Int) (i:Nat) (y:V),x= .ref l/\vs=[.int j,y]/\H l=some (.lst xs)/\j=i/\i<=xs.length/\xs.length<sizeLine/\Q .cM (upd H l$ .lst (xs.take i++y ::xs.drop i))
end
end L2
namespace L3
open PySem PySem.Spec PyProof.Rows L2
section
def abF(i:Nat)(f g:FX):FZ:=λδ S=>match lR δ i with
 | none=> .no
 | some k=>match cf S k with
   | none=> .no
   | some _=>(f δ S).bind λv S1=>match v with
     | .d (.int j)=>(g δ S1).bind λw S2=>(match w with
       | .d d=>(match cf S2 k with
         | some ds=>R3.aX (decide$ 0<=j/\j.toNat<=ds.length/\ds.length<sizeLine)$ .ok (.nx δ)$ S2.set k$ .lst (ds.take j.toNat++d ::ds.drop j.toNat)
         | none=> .no)
       | _=> .no)
     | _=> .no
end
section
variable {X:Cx}
structure QPr (X:Cx) (pos:Pos) (keys:List (Option Expr)) (values:List Expr) (ks:List Str) (g:au->R (List D)):Prop where
 h:∃yk,Oz X pos keys values yk/\∀(σ:L2.St) (H:Hp) (Q:List (V × V)->Hp->Prop),(∃Z B δ ds,dn X.K Z B H σ δ/\g δ= .ok ds/\∀vs H',aR H H'->aA X.K B H' ds vs->Q ((ks.zip vs).map fun p=>(V.str p.1,p.2)) H')->tK yk σ H Q
def P2(ks:List Str)(ns:List Int):List (Key × D):=(ks.zip ns).foldl (λacc p=>qU acc (Sum.inr p.1)$ .int p.2) []
def Vm(ks:List Str)(g:au->R (List D)):FX:=λδ S=>(R3.of (g$ down δ) S).bind λds S=>match ints? ds with
 | some ns=>R3.aX (decide$ ns.length=ks.length/\ks.length<=15)$ .ok (.loc S.length)$ S++[.dct$ P2 ks ns]
 | none=> .no
def VW(aD:List (Key × D))(k:Key):Option D:=(aD.find? λkv=>decide$ kv.1=k).map (·.2)
def ZV(i:Nat)(f g:FD):FX:=λδ S=>match lR δ i with
 | none=> .no
 | some k=>match sP S k with
   | none=> .no
   | some aD=>(R3.of (f$ down δ) S).bind λkd S=>(R3.of (g$ down δ) S).bind λd S=>match kd with
     | .str x=> .ok (.d$ (VW aD$ Sum.inr x).getD d) S
     | _=> .no
end
end L3
end
section
namespace L2
open PySem PySem.Spec PyProof.Rows
section
variable {X:Cx}
def A7:List D->R D
 | [.tup ds]=>(match ints? ds with | some ns=> .ok (.int ns.sum) | none=> .no)
 | ds=>P9 ds
def Ql(hc:X.calm=true):cO X (.builtin "sum") A7:=by
 intro pins s σ H B ds d xs us I hb rx rs hg;unfold A7 at hg;split at hg
 .split at hg
  .rename_i es ns e;cases hg;obtain⟨x,rfl,r⟩:=rs.one;obtain⟨a,ys,rfl,l,r⟩:=Rep.tup.mp r;obtain⟨u,rfl,ru⟩:=vals1 rx;cases ru;obtain⟨its,rv,ht,hz⟩:=I.tuple l.sq;rw[gM r e] at rv;obtain⟨ps,rfl,rfl⟩:=jz rv;have hl:s.heap.IsTuple a (intItems ps.toArray):=by
    have ht:s.heap.IsTuple a (ps.map λp=>Value.int p.1 p.2).toArray:=ht
    simpa [intItems] using ht
   refine PySem.W.ktm_sumG (I.ok.hd hc) hl λh' tk t' k=>⟨.int _,H,I.kept k,⟨t',rfl⟩,aR.refl H,Rep.int.mpr ?_⟩
   rw[preSum_eq,QaP$ by simp]
  .cases hg
 .exact Tg hc pins s σ H B ds d xs us I hb rx rs hg
end
section
def Zv(d e:D):R D:=match d,e with
 | .tup a, .int k=>R.aX (decide$ 2<=k/\k<1000/\a≠[]/\a.length*k.toNat<=sizeLine)$ .ok$ .tup (List.replicate k.toNat a).flatten
 | d,e=>jK d e
end
def zQ(P:Program)(w:World):GH:=λouter H s E e s'=>
 ∃(a:Addr) (B:Heap) (cls a0:Value) (H':Hp),e= .ref a/\s'.os=s.os/\AllBare s'.gens/\Un (qZ outer) [] H H' s.heap s'.heap/\oU P w H' s'.heap/\Heap.FlyingW B outer a cls a0 s'.heap/\
  (∀b o,s'.heap.get? b=some o->b ∉ qZ outer->((∃u,s.heap.get? b=some u)\/∃u,H' b=some u)->B.get? b=some o)/\E cls none H'
section
variable {X:Cx}{pins:Aaa}{σ:St}{H1 H':Hp}{s1 s':QcR}{B Rr:Heap}{a:Addr}{cls a0:Value}{E:XK}
def zr{H:Hp}{h:Heap}{b:Addr}{o:HO}(k:oU P w H h)(e:H b=some o):∃u,h.get? b=some u:=by
 have hx:=k b o e
 induction o with
 | lst xs=>obtain⟨_,_,_,_,e⟩:=hx;exact⟨_,e⟩
 | tup xs=>obtain⟨_,_,_,o,e,_⟩:=hx;exact⟨_,e⟩
 | dK aD=>obtain⟨_,_,_,_,o,_,_,e,_⟩:=hx;exact⟨_,e⟩
 | dT aD=>obtain⟨_,_,_,_,o,_,_,e,_⟩:=hx;exact⟨_,e⟩
 | set S n=>obtain⟨o,_,_,_,e,_⟩:=hx;exact⟨_,e⟩
 | ins C dx fs=>obtain⟨_,_,_,e,_⟩:=hx;exact⟨_,e⟩
 | own y=>exact hx
 | xd fs=>obtain⟨_,⟨o,_,_,e,_⟩,_⟩:=hx;exact⟨_,e⟩
 | rng lo hi=>obtain⟨_,_,_,e⟩:=hx;exact⟨_,e⟩
 | mq o u _=>exact⟨_,hx.1⟩
 | tbl ps=>exact⟨_,hx⟩
 | met f x=>exact⟨_,hx⟩
 | ext φ=>exact hx.2.1
def IK(I:Inv X pins σ H1 s1)(xA:X.stack=X.env ::X.outer)(hf:X.env.frame=some X.env.locals)(hex:X.ex=[])(os:s'.os=s1.os)(bare:AllBare s'.gens)(un:Un (qZ X.stack) [] H1 H' s1.heap s'.heap)(hok:oU X.prog X.w H' s'.heap)
 (zO:∀b o,s'.heap.get? b=some o->b ∉ qZ X.stack->((∃u,s1.heap.get? b=some u)\/∃u,H' b=some u)->B.get? b=some o) (fl:Heap.FlyingW B X.outer a cls a0 Rr) (up:s'.heap.UpToSlots Rr) (e:E cls none H') :
 zQ X.prog X.w X.outer X.H₀ X.s₀ E (.ref a) {s' with heap:=Rr}:=by
 have GO:∀b,b∈qZ X.stack↔b=X.env.locals\/b∈qZ X.outer:=λb=>by
  rw[xA];unfold qZ;rw [Qb9,hf];exact QaF
 have hfree:∀b,b∈qZ X.stack->H' b=none:=λb hb=>by
  obtain⟨_,o,ho,_⟩:=I.stack.mem hb;exact un.free b o ho (I.p9 b hb) (by simp)
 have old:∀b o,X.s₀.heap.get? b=some o->b≠X.env.locals:=λb o q=>QaR$ Qas (QaA q) I.ok.above
 have thr:∀b o,X.s₀.heap.get? b=some o->∃u,s1.heap.get? b=some u:=λb o q=>I.base.there b o q (by rw[hex];simp)
 have thr2:∀b o,s1.heap.get? b=some o->∃u,s'.heap.get? b=some u:=λb o q=>un.there b o q (by simp)
 have stB:∀b o,B.get? b=some o->Rr.get? b=some o:=fl.1;have J0:∀b o,H' b=some o->∀u,s'.heap.get? b=some u->Rr.get? b=some u:=λb o q u hu=>stB b u (zO b u hu (λhb=>by rw[hfree b hb] at q;cases q) (.inr ⟨o,q⟩))
 refine⟨a,B,cls,a0,H',rfl,os.trans I.os,bare,⟨λb o q n hb _=>?_,λb o q n hb _=>?_,λb o q n _=>?_,λb o q _=>?_,λb xs q=>un.tups b xs$ I.base.tups b xs q,λb o u q=>un.frzs b o u$ I.base.frzs b o u q,λb ps q=>?_⟩,λb o q=>?_,fl,λb o q hb U5=>?_,e⟩
 .have h1:=I.base.keep b o q n hb (by rw[hex];simp)
  have n1:=I.base.free b o q n (by rw[hex];simp)
  have uo:b ∉ qZ X.stack:=λz=>((GO b).mp z).elim (old b o q) hb
  have h2:=un.keep b o h1 n1 uo (by simp)
  exact stB b o$ zO b o h2 uo$ .inl ⟨o,h1⟩
 .obtain⟨sl,h1⟩:=I.base.slot b o q n hb (by rw[hex];simp)
  have n1:=I.base.free b o q n (by rw[hex];simp)
  obtain⟨XN,h2⟩:=un.slot b _ h1 n1 ((GO b).mpr$ .inr hb) (by simp)
  obtain⟨_,o',xu,hd⟩:=I.ok.r9.mem hb;rw[q] at xu;cases xu;obtain⟨QM,h3⟩:=up b _ h2 hd;exact⟨QM,h3⟩
 .obtain⟨u,h1⟩:=thr b o q;exact un.free b u h1 (I.base.free b o q n$ by rw[hex];simp) (by simp)
 .obtain⟨u,h1⟩:=thr b o q;obtain⟨u2,h2⟩:=thr2 b u h1;by_cases hb:b∈qZ X.outer
  .obtain⟨_,o',xu,hd⟩:=I.stack.mem$ (GO b).mpr$ .inr hb;obtain⟨sl,h3⟩:=un.slot b o' xu (I.p9 b$ (GO b).mpr$ .inr hb) ((GO b).mpr$ .inr hb) (by simp)
   obtain⟨QM,h4⟩:=up b _ h3 hd;exact⟨_,h4⟩
  .exact⟨u2,stB b u2$ zO b u2 h2 (λz=>((GO b).mp z).elim (old b o q) hb)$ .inl ⟨u,h1⟩⟩
 .obtain⟨m1,e1⟩:=I.base.tbls b ps q;obtain⟨m2,e2⟩:=un.tbls b _ e1;exact⟨m1++m2,by rw[e2,Array.append_assoc]⟩
 .refine(hok b o q).yZ (λc u hc hu=>?_) (λc z=>z) (λc xs z=>z)
  rcases hc with rfl | hc
  .exact J0 c o q u hu
  .exact J0 c _ hc u hu
 .have uo:b≠X.env.locals:=λz=>by
   subst z;rcases U5 with⟨u,hu⟩ | ⟨u,hu⟩
   .exact old _ u hu rfl
   .rw [hfree _$ (GO _).mpr$ .inl rfl] at hu;cases hu
  have hb2:b ∉ qZ X.stack:=λz=>((GO b).mp z).elim uo hb
  have:(∃u,s1.heap.get? b=some u)\/∃u,H' b=some u:=U5.imp (λ⟨u,hu⟩=>thr b u hu) id
  obtain⟨u,hu⟩:∃u,s'.heap.get? b=some u:=this.elim (λ⟨u,hu⟩=>thr2 b u hu) λ⟨u,hu⟩=>zr hok hu
  have h3:=zO b u hu hb2 this;have h4:=stB b u h3;rw[q] at h4;cases h4;exact h3
end
section
variable {P:Program}{w:World}{K:QcQ}{mg:Aaf}{base:Heap}{N:List Str}{qual:Str}{scope:Scope}{f:Addr}{cd:Value}{A:Around}{outer:List Env}{s:QcR}{H:Hp}{E:XK}
def Tr:Passes (zQ P w) (mn (zQ P w) P w K mg base N qual scope f cd A outer s H E) E:=by
 intro pins σ H1 s1 e s' I hc;obtain⟨a,B,cls,a0,H',rfl,os,bare,un,hok,fl,zO,hE⟩:=hc;exact wpAny_leaves_onW (env:=envOfC qual scope s.heap.objs.size f cd) (outer:=outer) (L:=s.heap.objs.size) I.ok.frames rfl fl λh' f1 up=>IK I rfl rfl rfl os bare un hok zO f1 up hE
def Pk{pins:Aaa}{s1:QcR}{a:Addr}{cls:Value}{vs:List Value}(I:Inv (mn (zQ P w) P w K mg base N qual scope f cd A outer s H E) pins σ H1 s1)(hx:Heap.MadeExcOf s1.heap h' a cls vs)(hE:E cls none H1) :
 (mn (zQ P w) P w K mg base N qual scope f cd A outer s H E).xe (.ref a) {s1 with heap:=h'}:=by
 have hin:∀env∈(envOfC qual scope s.heap.objs.size f cd ::outer),∀b,env.frame=some b->b∈qZ (envOfC qual scope s.heap.objs.size f cd ::outer):=λenv he b hb=>Qcd.mpr ⟨env,he,hb⟩
 have ff:s1.heap.FunFrames base (envOfC qual scope s.heap.objs.size f cd ::outer):=I.stack;refine wpAny_leaves_madeW (env:=envOfC qual scope s.heap.objs.size f cd) (outer:=outer) (L:=s.heap.objs.size) (base:=PySem.W.hideAll s1.heap$ qZ (envOfC qual scope s.heap.objs.size f cd ::outer)) (h:=s1.heap) (s:={s1 with heap:=h'}) I.ok.frames rfl (λb o q=>PySem.W.of_hideAll _ q) (PySem.W.funFrames_hide ff hin) hx λRr t x1 x2 x3 x4=>?_
 exact IK (s':={s1 with heap:=h'}) I rfl rfl rfl rfl I.bare (Un.kept hx.keeps) (I.hok.kept hx.keeps) (λb o q hb U5=>by
  obtain⟨u,hu⟩:∃u,s1.heap.get? b=some u:=U5.elim id λ⟨u,hu⟩=>zr I.hok hu
  have h2:=hx.keeps b u hu;have q:h'.get? b=some o:=q;rw[q] at h2;cases h2;exact Qcu _ hu hb) x1 x4 hE
end
def Hb:List Value:=[.type "ValueError", .type "Exception", .type "BaseException", .type "object"]
structure XC (K:QcQ) (C:Addr):Prop where
 ex:PySem.W.excIn K C Hb "ValueError.__new__"=true
 ga:PySem.W.findIn K (.ref C) "__getattribute__"=some (some (.builtin "BaseException.__getattribute__"))
 gt:PySem.W.findIn K (.ref C) "__getattr__"=some none
 co:PySem.W.findIn K (.ref C) "__class__"=some (some (.builtin "object.__class__"))
 gs:PySem.W.specialIn K (.builtin "object.__class__") "__get__"=some (some (.builtin "getset_descriptor.__get__"))
 tk:PySem.W.takesIn K (.builtin "object.__class__")=some true
 mo:PySem.W.mroIn K C (.type "object")=some true
 mb:PySem.W.mroIn K C (.type "BaseException")=some true
 ic:(PySem.W.clsIn K C).isSome=true
def yt(x C:Addr)(h:Heap):Prop:=∃o,h.get? x=some o/\o.cls= .ref C
def yt.ty{M:Model}{x C:Addr}(I:yt x C h):PySem.W.Looks M h (typeOf$ .ref x) (.ref C):=by
 obtain⟨o,e,c⟩:=I;exact c▸(PySem.W.Looks.ld e).andThen .now
section
variable {prog:Program}{w:World}{A:Around}{E:Aab}{s:QcR}{K:QcQ}{x C:Addr}
def HF{M:Model}(T:XC K C)(X:K.In h):PySem.W.Looks M h (Builtin.ObjectAttr.find (.ref x) (.ref C) "__class__") (.bind (.builtin "getset_descriptor.__get__")$ .builtin "object.__class__"):=by
 have a1:=QbX (M:=M) X T.co;have a2:PySem.W.Looks M h (Builtin.ObjectAttr.getOf$ some$ .builtin "object.__class__") (some$ .builtin "getset_descriptor.__get__"):=PySem.W.looks_specialIn X T.gs;have a3:=PySem.W.looks_takesIn (M:=M) X T.tk;exact a1.andThen$ a2.andThen$ (show PySem.W.Looks M h (Builtin.ObjectAttr.dataDescriptor? (some$ .builtin "object.__class__")$ some$ .builtin "getset_descriptor.__get__") (some (.builtin "getset_descriptor.__get__", .builtin "object.__class__")) from a3.andThen .now).andThen (PySem.W.Looks.tag .now)
def K3{tp:Value}{R:Result->QcR->Prop}(T:XC K C)(X:K.In s.heap)(I:yt x C s.heap)(h:R (.ok$ .ret$ .ref C) s) :
 codeAny (model prog w) A (.call (.builtin "getset_descriptor.__get__") ⟨[.builtin "object.__class__", .ref x,tp],[]⟩) R s:=by
 obtain⟨hp,gn,dr,tk,oo⟩:=s;have b0:=I.ty (M:=model prog w);have b1:=PySem.W.looks_mroIn (M:=model prog w) X T.mo;refine codeAny_call_builtin PySem.W.KF.slot_gs.plain PySem.W.KF.entry_gs (PySem.W.KF.slot_gs.check _ _ _ _ _ _ _ _ PySem.W.KF.type_class (PySem.W.KF.args_gs _ _ _) ?_);unfold Builtin.«getset_descriptor.__get__» PySem.Builtin.Getset_descriptor.descrGet;rw[PySem.W.dga_obj];refine Qaw (QaX ?_);unfold PySem.Builtin.Getset_descriptor.descrGetter PySem.Builtin.Getset_descriptor.descrCheckInstance PySem.Builtin.Getset_descriptor.descrNameAndClass isInstance;simp only[PySem.W.KF.owner_class]
 repeat lk
 refine⟨Code.quiet_builtin _ (by decide+kernel),codeAny_builtin PySem.W.KF.entry_class ?_⟩
 unfold Builtin.«object.__class__» shownTypeOf
 repeat lk
 exact h
def OM{tk:Tok}{R:Result->QcR->Prop}(T:XC K C)(X:K.In s.heap)(I:yt x C s.heap)(h:R (.ok$ .ret$ .ref C) s) :
 codeAny (model prog w) A (.call (.builtin "BaseException.__getattribute__") ⟨[.ref x, .str "__class__" tk],[]⟩) R s:=by
 have L0:=I.ty (M:=model prog w);have L1:=HF (M:=model prog w) (x:=x) T X;have LM:=PySem.W.looks_mroIn (M:=model prog w) X T.mb;have LI:PySem.W.Looks (model prog w) s.heap (isInstance (.ref x)$ .type "BaseException") true:=L0.andThen LM;have hk:builtinKind "BaseException.__getattribute__"=some .slot:=by decide+kernel
 have GC:splitId "BaseException.__getattribute__"=some ("BaseException","__getattribute__"):=by decide+kernel
 have ha:=PySem.F.args_bexc_ga (.ref x)$ .str "__class__" tk;refine codeAny_call_builtin QcH.ga.plain PySem.F.entry_bexc_ga ?_;obtain⟨hh,g,d,t,os⟩:=s;simp only[checkBuiltinCall,hk,GC];refine Qaw$ LI.at ?_;simp only[Bool.not_true,Qbl,Qb0];refine wpAny_of_eq ha ?_;refine Qaw$ QaX$ Qaw$ QaX$ Qaw$ L0.at$ Qaw$ L1.at ?_;show wpAny _ _ (holding [Value.builtin "object.__class__"] (call (.builtin "getset_descriptor.__get__") [.builtin "object.__class__", .ref x, .ref C]) >>=ret) _ _ _;refine Qaw$ Qb6$ wpAny_call$ K3 (s:=⟨hh,g,d,t,os⟩) T X I ?_;exact QaX h
def F8{Q:Option Value->QcR->Prop}(T:XC K C)(X:K.In s.heap)(I:yt x C s.heap)(h:Q (some$ .ref C) {s with toks:=s.toks+1}):wpAny (model prog w) A (getAttr? (.ref x) "__class__") Q E s:=by
 obtain⟨hh,g,d,t,os⟩:=s;have L0:=I.ty (M:=model prog w);have L1:=QbX (M:=model prog w) X T.ga;have L2:=QbX (M:=model prog w) X T.gt;have hb:=QcH.ga.bind$ .ref x;unfold getAttr? getAttrBy? getAttrBy;refine Qaw$ wpAny_mkText$ Qaw$ wpAny_attempt$ Qb6$ Qaw$ L0.at$ Qaw$ L1.at ?_;have rE:(onTheHeap (Value.ref C) && Value.builtin "BaseException.__getattribute__"==Value.builtin "object.__getattribute__")=false:=by
  have z:(Value.builtin "BaseException.__getattribute__"==Value.builtin "object.__getattribute__")=false:=by decide+kernel
  rw[z];exact Bool.and_false _
 dsimp only;rw[rE,Qaj QaG];unfold getAttrByItsOwn hookBefore;refine Qaw$ L2.at ?_;refine Qaw$ wpAny_attempt$ Qb6 ?_;show wpAny _ _ (boundAndCalled _ _ _) _ _ _;unfold boundAndCalled;rw[hb];refine Qaw$ QaX ?_;refine wpAny_call$ OM (s:=⟨hh,g,d,t+1,os⟩) T X I ?_;show wpAny _ _ (handedOut$ .ref C) _ _ _;exact PySem.W.handed_on rfl$ QaX h
def Jx(T:XC K C):PySem.W.KitX K (.ref x) (.ref C) (yt x C) where
 ty:=λ_ _ _ I=>I.ty
 it:=λM h X _=>by
  obtain⟨cd,hc⟩:=Qbk.mp T.ic;unfold PySem.W.clsIn at hc;split at hc
  .rename_i ho;intro A' Q' E' s' k q;unfold isType loadHead;exact Qaw$ wpAny_loadPart (k _ _$ X _ _ ho)$ QaX q
  .cases hc
 ne:=λh tp dd its n sl X htp=>by
  obtain⟨cd,hc⟩:=Qbk.mp T.ic;refine Bool.eq_false_iff.mpr λq=>?_
  cases Value.ref.inj (Qa3.mp q);unfold PySem.W.clsIn at hc;split at hc
  .rename_i ho;have z:=(X _ _ ho).symm.trans htp;cases z
  .cases hc
 ca:=λX I k=>F8 T X I k
def Lu(X:K.In h)(q:PySem.W.excIn K C Hb "ValueError.__new__"=true):∃bm N nm qn bs hdct sn sub ab col dd k0 k1 k2 k3 k5 mN,
 h.get? C=some (excClassObj nm qn C N bs bm hdct sn sub ab col dd k0 k1 k2 k3 k5 "ValueError.__new__")/\h.Ns N mN/\mN "__init__"=none/\OwnTail h Hb bm:=by
 unfold PySem.W.excIn at q;split at q
 .rename_i dd cd sl ho;split at q
  .rename_i C' bm k0 k1 k2 k3 n k5 hm hs;simp only[QaL,Qa3,Qcj] at q;obtain⟨⟨⟨⟨⟨q1,q2⟩,q3⟩,q4⟩,q5⟩,q6⟩:=q;subst q1 q2;obtain⟨nm,bs,mro,ns,qn,hd,sn,sub,ab,col,del⟩:=cd;obtain⟨l⟩:=sl;dsimp only at hm hs q3 q5 q6;subst hm hs q3;exact⟨bm,ns,nm,qn,bs,hd,sn,sub,ab,col,dd,k0,k1,k2,k3,k5,_,X _ _ ho,Heap.Ns.of_isNs$ PySem.W.isNs_of_in X q5,PySem.W.nsMap_none_of_in X q5 q6,PySem.W.tail_of_in X q4⟩
  .cases q
 .cases q
end
end L2
end
section
namespace L3
open PySem PySem.Spec PyProof.Rows L2
def R3.fT{α β:Type}{r:R3 α}{f:α->aP->R3 β}{c:Nat}{S':aP}(h:r.bind f= .ex c S'):r= .ex c S'\/∃a S,r= .ok a S/\f a S= .ex c S':=by
 cases r with
 | ok a S=>exact .inr ⟨a,S,rfl,h⟩
 | ex c' S=>cases h;exact .inl rfl
 | no=>cases h
def JY{α:Type}(r:R3 α):R3 α:=match r with | .ex _ _=> .no | .ok a S=> .ok a S | .no=> .no
def jV{α:Type}{r:R3 α}{a:α}{S:aP}(h:JY r= .ok a S):r= .ok a S:=by
 cases r with
 | ok b S=>exact h
 | ex c S=>cases h
 | no=>cases h
def q9{α:Type}{r:R3 α}{c:Nat}{S:aP}(h:JY r= .ex c S):False:=by
 cases r <;> cases h
def DP(K:QcQ)(cl:Aag)(E:XK)(ρ:P3)(H:Hp)(S':aP)(c:Nat):Prop:=∀bK H',Pre ρ H bK H'->SW K cl bK H' S'->E (.ref$ cl c) none H'
def DP.pre{K:QcQ}{cl:Aag}{E:XK}{S':aP}{c:Nat}(q:DP K cl E ρ H S' c)(p:Pre ρ H bL H1):DP K cl E bL H1 S' c:=λbK H' p' w=>q bK H' (p.trans p') w
def tXe(K:QcQ)(cl:Aag)(E:XK)(f:FX):TE:=λσ H Q=>∃ρ S δ,eg K cl ρ H S σ δ/\((∃v S',f δ S= .ok v S'/\∀u bK H',Pre ρ H bK H'->SW K cl bK H' S'->aS K bK H' v u->Q u H')\/∃c S',f δ S= .ex c S'/\DP K cl E ρ H S' c)
def Ve(K:QcQ)(cl:Aag)(E:XK)(f:FA):TA:=λσ H Q=>∃ρ S δ,eg K cl ρ H S σ δ/\((∃vs S',f δ S= .ok vs S'/\∀us bK H',Pre ρ H bK H'->SW K cl bK H' S'->aE K bK H' vs us->Q us H')\/∃c S',f δ S= .ex c S'/\DP K cl E ρ H S' c)
def UR(K:QcQ)(cl:Aag)(E:XK)(F:FZ):TS:=λD σ H=>∃ρ S δ,eg K cl ρ H S σ δ/\((∃o S',F δ S= .ok o S'/\za K cl ρ H D S' o)\/∃c S',F δ S= .ex c S'/\DP K cl E ρ H S' c)
structure PV (X:Cx) (cl:Aag) (E:XK) (e:Expr) (f:FX):Prop where
 go:PE X e (tXe X.K cl E f)
structure CN (X:Cx) (cl:Aag) (E:XK) (es:List Expr) (f:FA):Prop where
 go:PA X es (Ve X.K cl E f)
structure Nj (X:Cx) (cl:Aag) (E:XK) (st:Stmt) (F:FZ):Prop where
 go:PS X st (UR X.K cl E F)
structure xb (X:Cx) (cl:Aag) (E:XK) (st:List Stmt) (F:FZ):Prop where
 go:yI X st (UR X.K cl E F)
section
variable {X:Cx}{cl:Aag}{E:XK}
def wZ(f:FX):FX:=λδ S=>JY$ f δ S
def fW(f:FA):FA:=λδ S=>JY$ f δ S
def GJ(f:FZ):FZ:=λδ S=>JY$ f δ S
def Di(h:PX X cl e f):PV X cl E e (wZ f):=⟨h.1.imp λσ H Q ⟨ρ,S,δ,En,z⟩=>by
 rcases z with⟨v,S',hf,q⟩ | ⟨c,S',hf,q⟩
 .exact⟨ρ,S,δ,v,S',En,jV hf,q⟩
 .exact(q9 hf).elim⟩
def eA(h:KW X cl es f):CN X cl E es (fW f):=⟨h.1.imp λσ H Q ⟨ρ,S,δ,En,z⟩=>by
 rcases z with⟨v,S',hf,q⟩ | ⟨c,S',hf,q⟩
 .exact⟨ρ,S,δ,v,S',En,jV hf,q⟩
 .exact(q9 hf).elim⟩
def BR{st:Stmt}(h:PZ X cl st F):Nj X cl E st (GJ F):=⟨h.1.imp λD σ H ⟨ρ,S,δ,En,z⟩=>by
 rcases z with⟨v,S',hf,q⟩ | ⟨c,S',hf,q⟩
 .exact⟨ρ,S,δ,v,S',En,jV hf,q⟩
 .exact(q9 hf).elim⟩
def sg{st:List Stmt}(h:D1 X cl st F):xb X cl E st (GJ F):=⟨h.1.imp λD σ H ⟨ρ,S,δ,En,z⟩=>by
 rcases z with⟨v,S',hf,q⟩ | ⟨c,S',hf,q⟩
 .exact⟨ρ,S,δ,v,S',En,jV hf,q⟩
 .exact(q9 hf).elim⟩
def A5(K:QcQ)(cl:Aag)(n:Nat)(g:List V3->aP->R3 V3):Sp:=λvs H Q E=>vs.length=n/\∃ρ S xs,SW K cl ρ H S/\aE K ρ H xs vs/\
 ((∃v S',g xs S= .ok v S'/\∀u bK H',Pre ρ H bK H'->SW K cl bK H' S'->aS K bK H' v u->Q u H')\/∃c S',g xs S= .ex c S'/\DP K cl E ρ H S' c)
def fQ(P:Program)(w:World)(K:QcQ)(mg:Aaf)(base:Heap)(cl:Aag)(k:Nat)(x:Str)(n:Nat)(g:List V3->aP->R3 V3):Prop:=
 ∃(f:Addr) (fd:FuncData) (ps:List Str),jH P w K mg base (zQ P w) k f fd ps (A5 K cl n g)/\mg x=some (.ref f)/\PySem.W.keepIn K (.ref f)=true/\Binds K fd ps []
def AV{g:List V3->aP->R3 V3}{k j n:Nat}{x:Str}{p pos:Pos}{e:Expr}{es:List Expr}{fs:FA}(hp:Passes (zQ X.prog X.w) X E)(C:fQ X.prog X.w X.K X.mg X.base cl k x n g)(hr:dW j X.A)(JK:k<=j)(hg:Gl X x)(ha:CN X cl E (e ::es) fs)
 (hn:∀δ S ds S',fs δ S= .ok ds S'->ds.length=n) (me:(x==("__debug__":Str))=false:=by decide) (he:starEach (e ::es) X.env=(false,eval e X.env) ::starEach es X.env:=by rfl) (oB:(backTo pos$ starEach es X.env).any (·.1)=false:=by rfl) :
 PV X cl E (.Call (.Name x p) (e ::es) [] pos) (sv g fs):=by
 obtain⟨f,fd,ps,F,hm,hk,hb⟩:=C;refine⟨(yn F (hr.mono JK) hg hm hk hb .nil hp ha.1 me he oB).imp λσ H Q ⟨ρ,S,δ,En,z⟩=>⟨ρ,S,δ,En,?_⟩⟩
 have go:∀vs S1,fs δ S= .ok vs S1->((∃v S',g vs S1= .ok v S'/\∀u bK H',Pre ρ H bK H'->SW X.K cl bK H' S'->aS X.K bK H' v u->Q u H')\/∃c S',g vs S1= .ex c S'/\DP X.K cl E ρ H S' c)->
  (∃vs S',fs δ S= .ok vs S'/\∀us bK H',Pre ρ H bK H'->SW X.K cl bK H' S'->aE X.K bK H' vs us->(λvs H1=>A5 X.K cl n g (vs++[]) H1 Q E) us H')\/∃c S',fs δ S= .ex c S'/\DP X.K cl E ρ H S' c:=λvs S1 h1 h2=>by
  refine .inl ⟨vs,S1,h1,λus bL H1 p1 w1 r1=>?_⟩
  show A5 X.K cl n g (us++[]) H1 Q E;rw[Qbj];refine⟨by rw[<-r1.length];exact hn δ S vs S1 h1,bL,S1,vs,w1,r1,?_⟩
  rcases h2 with⟨v,S',h3,q⟩ | ⟨c,S',h3,q⟩
  .exact .inl ⟨v,S',h3,λu qp H2 p2 w2 r2=>q u qp H2 (p1.trans p2) w2 r2⟩
  .exact .inr ⟨c,S',h3,q.pre p1⟩
 rcases z with⟨v,S',hf,q⟩ | ⟨c,S',hf,q⟩
 .obtain⟨vs,S1,h1,h2⟩:=R3.aj hf;exact go vs S1 h1$ .inl ⟨v,S',h2,q⟩
 .rcases R3.fT hf with h1 | ⟨vs,S1,h1,h2⟩
  .exact .inr ⟨c,S',h1,q⟩
  .exact go vs S1 h1 (.inr ⟨c,S',h2,q⟩)
def oX{pos:Pos}(he:PV X cl E e f)(zN:swapsWith e none pos.line X.env=pure false:=by rfl):Nj X cl E (.Expr e pos) (vE f):=⟨(rK he.1 zN).imp λD σ H ⟨ρ,S,δ,En,z⟩=>by
 refine⟨ρ,S,δ,En,?_⟩;rcases z with⟨o,S',hf,q⟩ | ⟨c,S',hf,q⟩
 .obtain⟨v,S1,h1,h2⟩:=R3.aj hf;cases h2;exact .inl ⟨v,_,h1,λu bL H1 p1 w1 r1=>q _ bL H1 p1$ En.to p1 w1⟩
 .rcases R3.fT hf with h1 | ⟨v,S1,h1,h2⟩
  .exact .inr ⟨c,S',h1,q⟩
  .cases h2⟩
def zY(f:FB):FB:=λδ S=>JY$ f δ S
def gY(hc:Gu X cl c fc)(ha:xb X cl E a F)(hb:xb X cl E b G):Nj X cl E (.If c a b pos) (uK (zY fc) F G):=⟨(IM hc.1 ha.1 hb.1).imp λD σ H ⟨ρ,S,δ,En,z⟩=>by
 have fin:∀k S1,fc δ S= .ok k S1->((∃o S',(if k then F δ S1 else G δ S1)= .ok o S'/\za X.K cl ρ H D S' o)\/∃c S',(if k then F δ S1 else G δ S1)= .ex c S'/\DP X.K cl E ρ H S' c)->TQ (Q_ X.K cl fc) (UR X.K cl E F) (UR X.K cl E G) D σ H:=λk S1 h1 h2=>by
  refine⟨ρ,S,δ,k,S1,En,h1,λbL H1 p1 w1=>?_⟩
  cases k with
  | true=>
    refine HC ⟨bL,S1,δ,En.to p1 w1,?_⟩;rcases h2 with⟨o,S',h3,q⟩ | ⟨c,S',h3,q⟩
    .rw [Qap rfl] at h3;exact .inl ⟨o,S',h3,q.pre p1⟩
    .rw [Qap rfl] at h3;exact .inr ⟨c,S',h3,q.pre p1⟩
  | false=>
    refine Hx ⟨bL,S1,δ,En.to p1 w1,?_⟩;rcases h2 with⟨o,S',h3,q⟩ | ⟨c,S',h3,q⟩
    .rw [Qaj$ by decide] at h3;exact .inl ⟨o,S',h3,q.pre p1⟩
    .rw [Qaj$ by decide] at h3;exact .inr ⟨c,S',h3,q.pre p1⟩
 rcases z with⟨o,S',hf,q⟩ | ⟨c,S',hf,q⟩
 .obtain⟨k,S1,h1,h2⟩:=R3.aj hf;exact fin k S1 (jV h1)$ .inl ⟨o,S',h2,q⟩
 .rcases R3.fT hf with h1 | ⟨k,S1,h1,h2⟩
  .exact(q9 h1).elim
  .exact fin k S1 (jV h1) (.inr ⟨c,S',h2,q⟩)⟩
def eD:xb X cl E [] oa:=⟨zg.imp λD σ H ⟨ρ,S,δ,En,z⟩=>by
 rcases z with⟨o,S',hf,q⟩ | ⟨c,S',hf,q⟩
 .cases hf;exact q σ ρ H (Pre.refl ρ H) En
 .cases hf⟩
def bX{st:Stmt}(h:Nj X cl E st F):xb X cl E [st] F:=⟨yF h.1⟩
def b6{st:Stmt}{rest:List Stmt}(h1:Nj X cl E st F)(h2:xb X cl E rest G):xb X cl E (st ::rest) (cx F G):=⟨(v_ h1.1 h2.1).imp λD σ H ⟨ρ,S,δ,En,z⟩=>by
 refine⟨ρ,S,δ,En,?_⟩;rcases z with⟨o,S',hf,q⟩ | ⟨c,S',hf,q⟩
 .obtain⟨o1,S1,h1,h2⟩:=R3.aj hf;refine .inl ⟨o1,S1,h1,?_⟩;cases o1 with
  | nx δ1=>exact λQQ bL H1 p1 E1=>⟨bL,S1,δ1,E1, .inl ⟨o,S',h2,q.pre p1⟩⟩
  | rt d=>cases h2;exact q
 .rcases R3.fT hf with h1 | ⟨o1,S1,h1,h2⟩
  .exact .inr ⟨c,S',h1,q⟩
  .refine .inl ⟨o1,S1,h1,?_⟩;cases o1 with
   | nx δ1=>exact λQQ bL H1 p1 E1=>⟨bL,S1,δ1,E1, .inr ⟨c,S',h2,q.pre p1⟩⟩
   | rt d=>cases h2⟩
def BC(X:Cx)(E:XK):Prop:=∀(pins:Aaa) (σ:L2.St) (H:Hp) (s:QcR) (h':Heap) (a:Addr) (cls:Value) (vs:List Value),Inv X pins σ H s->Heap.MadeExcOf s.heap h' a cls vs->E cls none H->X.xe (.ref a) {s with heap:=h'}
def fY(c:Nat)(fs:FA):FZ:=λδ S=>(fs δ S).bind λvs S=>R3.aX (decide$ vs.length<=sizeLine)$ .ex c S
def Hm{C:Addr}{t:TA}{x:Str}{e:Expr}{es:List Expr}{np aW pos:Pos}(hf:BC X E)(hc:X.calm=true)(T:XC X.K C)(hg:Gl X x)(hm:X.mg x=some (.ref C))(ha:PA X (e ::es) t)(me:(x==("__debug__":Str))=false:=by decide)
 (he:starEach (e ::es) X.env=(false,eval e X.env) ::starEach es X.env:=by rfl) (oB:(backTo aW$ starEach es X.env).any (·.1)=false:=by rfl) :
 PS X (.Raise (some$ .Call (.Name x np) (e ::es) [] aW) none pos) (λD σ H=>t σ H λvs H1=>vs.length<=sizeLine/\E (.ref C) none H1):=by
 intro pins s σ H D I h;obtain⟨bm,N,nm,qn,bs,hdct,sn,sub,ab,col,dd,k0,k1,k2,k3,k5,mN,hC,hN,hni,OT⟩:=Lu (C:=C) I.mod.kin T.ex;refine wpAny_Raise_call_subT (C:=C) (nm:=nm) (q:=qn) (N:=N) (bs:=bs) (bm:=bm) (hdct:=hdct) (sn:=sn) (sub:=sub) (ab:=ab) (col:=col) (dd:=dd) (k0:=k0) (k1:=k1) (k2:=k2) (k3:=k3) (k5:=k5) (bmB:=Hb) QcI (mN:=mN) (OT.hasType QcI.hasBase) (I.ok.hd hc)
  (by rw[he];show(false || (backTo aW$ starEach es X.env).any (·.1))=false;rw [oB];rfl) hni (rR I hg hm ⟨rfl,?_⟩ me)
 have hA:=ha aW pins s σ H _ I h;rw[he] at hA ⊢;refine QbY (QbP hA (λus s2 ⟨vs,H1,I1,r,hl,hE⟩=>⟨rfl,by rw[<-r.length];exact hl,I1.bk _ _ hC,hN.keeps I1.bk,OT.keeps I1.bk,λh' a hx=>hf pins σ H1 s2 h' a _ _ I1 hx hE⟩) λ_ _ y=>y)
def cZ{c:Nat}{fs:FA}{x:Str}{e:Expr}{es:List Expr}{np aW pos:Pos}(hf:BC X E)(hc:X.calm=true)(T:XC X.K (cl c))(hg:Gl X x)(hm:X.mg x=some (.ref$ cl c))(ha:CN X cl E (e ::es) fs)(me:(x==("__debug__":Str))=false:=by decide)
 (he:starEach (e ::es) X.env=(false,eval e X.env) ::starEach es X.env:=by rfl) (oB:(backTo aW$ starEach es X.env).any (·.1)=false:=by rfl) :
 Nj X cl E (.Raise (some$ .Call (.Name x np) (e ::es) [] aW) none pos) (fY c fs):=⟨(Hm hf hc T hg hm ha.1 me he oB).imp λD σ H ⟨ρ,S,δ,En,z⟩=>by
 refine⟨ρ,S,δ,En,?_⟩;rcases z with⟨o,S',hf,q⟩ | ⟨c',S',hf,q⟩
 .obtain⟨vs,S1,h1,h2⟩:=R3.aj hf;unfold R3.aX at h2;split at h2 <;> cases h2
 .rcases R3.fT hf with h1 | ⟨vs,S1,h1,h2⟩
  .exact .inr ⟨c',S',h1,q⟩
  .unfold R3.aX at h2;split at h2
   .rename_i hl;cases h2;exact .inl ⟨vs,_,h1,λus bL H1 p1 w1 r1=>⟨by rw[<-r1.length];exact Qae hl,q bL H1 p1 w1⟩⟩
   .cases h2⟩
end
def nC{P:Program}{w:World}{K:QcQ}{mg:Aaf}{base:Heap}{cl:Aag}{x qual:Str}{st:Stmt}{f:Addr}{fd:FuncData}{N ps:List Str}{k:Nat}{F:FZ}{b:List Stmt}{sc:Scope}(hb:aQ st=b)(hs:aC st=sc)(Fn:Cz K x qual st f fd)(S:bp N ps sc)
 (fj:∀(fu:Value) (A:Around) (outer:List Env) (s:QcR) (H:Hp) (E:XK),dW k (A.deeper$ envOfC qual sc s.heap.objs.size f fu)->
   xb (mn (zQ P w) P w K mg base N qual sc f fu A outer s H E) cl E b F):jH P w K mg base (zQ P w) (k+1) f fd ps (A5 K cl ps.length$ uu N F):=by
 subst hb hs;obtain⟨oc,od,kV,doc,pm,an,fu,ct,JJ,rfl,lk,rJ⟩:=Fn.ex;refine M_ lk rJ S (λvs H Q E h=>h.1) λA outer s H vs Q E hr GC=>⟨_,(fj fu A outer s H E hr).1,?_⟩
 obtain⟨_,ρ,S,ds,w,r,z⟩:=GC;refine⟨ρ,S,fm N ds,Ae w r,?_⟩;rcases z with⟨v,S',hg,q⟩ | ⟨c,S',hg,q⟩
 .obtain⟨o,S1,h1,h2⟩:=R3.aj hg;refine .inl ⟨o,S1,h1,?_⟩;cases o with
  | nx dh=>
    cases h2;exact λcu bK H' p' E'=>q _ bK H' p' E'.sw (by unfold aS Rep;rfl)
  | rt d'=>
    cases h2;exact λu bK H' p' w' r'=>q u bK H' p' w' r'
 .rcases R3.fT hg with h1 | ⟨o,S1,h1,h2⟩
  .exact .inr ⟨c,S',h1,q⟩
  .cases o with
   | nx dh=>cases h2
   | rt d'=>cases h2
def k_{P:Program}{w:World}{K:QcQ}{mg:Aaf}{base:Heap}{N:List Str}{qual:Str}{scope:Scope}{f:Addr}{cd:Value}{A:Around}{outer:List Env}{s:QcR}{H:Hp}{E:XK} :
 Passes (zQ P w) (mn (zQ P w) P w K mg base N qual scope f cd A outer s H E) E:=Tr
def c6{P:Program}{w:World}{K:QcQ}{mg:Aaf}{base:Heap}{N:List Str}{qual:Str}{scope:Scope}{f:Addr}{cd:Value}{A:Around}{outer:List Env}{s:QcR}{H:Hp}{E:XK} :
 BC (mn (zQ P w) P w K mg base N qual scope f cd A outer s H E) E:=λpins σ H1 s1 h' a cls vs I hx hE=>Pk I hx hE
end L3
end
section
namespace L2
open PySem PySem.Spec PyProof.Rows
abbrev Cx.alt(X:Cx)(A:Around)(calm:Bool)(pn:Aaa)(xe:Aab):Cx:={X with A:=A,calm:=calm,pn:=pn,xe:=xe}
def Cx.Ok.alt{X:Cx}(ok:X.Ok){A:Around}{calm:Bool}{pn:Aaa}{xe:Aab}(hd:calm=true->A.handled=none)(hf:A.frames=X.A.frames):(X.alt A calm pn xe).Ok:=
 ⟨ok.mod,ok.kind,ok.glob,ok.blt,ok.above,ok.inj,ok.has,ok.cab,hd,hf.trans ok.frames,ok.stk,ok.exf,ok.bs,ok.bsz,ok.noex,ok.exfs,ok.r9,ok.frf⟩
section
variable {X:Cx}{pins nK:Aaa}{σ:St}{H H1 H':Hp}{s s1 s':QcR}
def Inv.alt{A:Around}{calm:Bool}{pn:Aaa}{xe:Aab}(I:Inv X pins σ H s)(hd:calm=true->A.handled=none)(hf:A.frames=X.A.frames)(hp:∀p∈pn++nK,p∈X.pn++pins):Inv (X.alt A calm pn xe) nK σ H s:=
 ⟨I.ok.alt hd hf,I.os,I.bare,I.base,I.loc,I.cell,I.free,I.freeC,λp hq=>I.pin p$ hp p hq,I.hok,I.len⟩
def Inv.SE{calm:Bool}{pn:Aaa}{xe:Aab}(ok:X.Ok)(I:Inv (X.alt A calm pn xe) nK σ H s)(hp:∀p∈X.pn++pins,p∈pn++nK):Inv X pins σ H s:=
 ⟨ok,I.os,I.bare,I.base,I.loc,I.cell,I.free,I.freeC,λp hq=>I.pin p$ hp p hq,I.hok,I.len⟩
def D4{M:Model}{A:Around}{E:Aab}{i:Nat}{x:Str}{pos:Pos}{Q:Unit->QcR->Prop}(I:Inv X pins σ H s)(hN:X.N.Nodup)(hi:X.N[i]? =some x)(hk:X.env.kindOf x=some .local)
 (h:∀s',Inv X pins (σ.set i none) H s'->Q () s'):wpAny M A (do bindName X.env x .none;unbindBehindTheSuite X.env x pos) Q E s:=by
 obtain⟨m,hn,hl⟩:=id I.loc;have hcls:(X.env.scope.kind== .class || (X.env.scope.kind== .module && X.env.locals !=X.env.globals))=false:=by rw[I.ok.kind];rfl
 have hiσ:i<σ.length:=by rw[I.len];exact(Qah.mp hi).1
 have Jv:=I.Jv;refine wpAny_nameGoes_keeps hk hn hcls λh' v Yx hs=>?_
 refine h _ ⟨I.ok,I.os,I.bare,⟨λb o e n hb hx=>?_,λb o e n hb hx=>?_,I.base.free,λb o e hx=>?_,I.base.tups,I.base.frzs,I.base.tbls⟩,⟨_,Yx,λj y v' e1 e2 e3=>?_⟩,λy c e=>?_,I.free,I.freeC,λp hp=>?_,λb ob e=>?_,by simpa using I.len⟩
 .exact(hs.2 b$ QaR$ Qas (QaA e) I.ok.above).trans (I.base.keep b o e n hb hx)
 .obtain⟨sl,e1⟩:=I.base.slot b o e n hb hx;exact⟨sl,(hs.2 b$ QaR$ Qas (QaA e) I.ok.above).trans e1⟩
 .obtain⟨o',e1⟩:=I.base.there b o e hx;exact⟨o',(hs.2 b$ QaR$ Qas (QaA e) I.ok.above).trans e1⟩
 .by_cases hj:j=i
  .subst hj;rw[Qam hiσ] at e2;cases e2
  .rw [Qao$ Qbz hj] at e2;obtain⟨u',r',q⟩:=hl j y v' e1 e2 e3;refine⟨u',r',?_⟩;rcases q with⟨k,e⟩ | ⟨k,c,e,z⟩
   .refine .inl ⟨k,?_⟩;have:y≠x:=λe=>hj (jB hN e1$ e▸hi)
    simp [this,e]
   .exact .inr ⟨k,c,e,z.sameBut hs$ Jv y c e⟩
 .obtain⟨w',z⟩:=I.cell y c e;exact⟨w',z.sameBut hs$ Jv y c e⟩
 .obtain⟨e,n,ne,nf,d⟩:=I.pin p hp;exact⟨(hs.2 p.1 ne).trans e,n,ne,nf,d⟩
 .refine(I.hok b ob e).yZ (λc w' hc q=>(hs.2 c ?_).trans q) (λ_ q=>q) λ_ _ q=>q
  rintro rfl;rcases hc with rfl | hc
  .have z:=I.free;rw [z] at e;cases e
  .have z:=I.free;rw [z] at hc;cases hc
def wa{B h5:Heap}{a:Addr}{C:Addr}{a0:Value}(I:Inv X pins σ H1 s1)(xA:X.stack=X.env ::X.outer)(os:s'.os=s1.os)(bare:AllBare s'.gens)(un:Un (qZ X.stack) [] H1 H' s1.heap s'.heap)(hok:oU X.prog X.w H' s'.heap)
 (zO:∀b o,s'.heap.get? b=some o->b ∉ qZ X.stack->((∃u,s1.heap.get? b=some u)\/∃u,H' b=some u)->B.get? b=some o) (fl:Heap.FlyingW B X.stack a (.ref C) a0 h5) (up:s'.heap.UpToSlots h5) :
 H' a=none/\yt a C h5/\Inv X pins σ (upd H' a$ .ext$ L3.isExc C a) {s' with heap:=h5}:=by
 have hfree:∀b,b∈qZ X.stack->H' b=none:=λb hb=>by
  obtain⟨_,o,ho,_⟩:=I.stack.mem hb;exact un.free b o ho (I.p9 b hb) (by simp)
 have stB:∀b o,B.get? b=some o->h5.get? b=some o:=fl.1;have J0:∀b o,H' b=some o->∀u,s'.heap.get? b=some u->h5.get? b=some u:=λb o q u hu=>stB b u (zO b u hu (λhb=>by rw[hfree b hb] at q;cases q) (.inr ⟨o,q⟩))
 obtain⟨oe,vs,he,hec,hed,_⟩:=fl.first
 have nst:a ∉ qZ X.stack:=λhb=>by
  obtain⟨_,o,ho,hd⟩:=fl.2.2.1.mem hb;rw[he] at ho;cases ho;exact hd _ hed
 have n0:∀u,s1.heap.get? a≠some u:=λu hu=>by
  obtain⟨u2,h2⟩:=un.there a u hu (by simp)
  have:=zO a u2 h2 nst$ .inl ⟨u,hu⟩;rw[fl.2.1] at this;cases this
 have n1:H' a=none:=by
  cases q:H' a with
  | none=>rfl
  | some u=>
    obtain⟨u2,h2⟩:=zr hok q;have:=zO a u2 h2 nst$ .inr ⟨u,q⟩;rw[fl.2.1] at this;cases this
 have n2:H1 a=none:=by
  cases q:H1 a with
  | none=>rfl
  | some u=>
    obtain⟨u2,h2⟩:=zr I.hok q;exact absurd h2$ n0 u2
 refine⟨n1,⟨oe,he,hec⟩,?_⟩;have un2:Un (qZ X.stack) [] H1 (upd H' a$ .ext$ L3.isExc C a) s1.heap h5:=by
  refine⟨λb o q n hb _=>?_,λb o q n hb _=>?_,λb o q n _=>?_,λb o q _=>?_,λb xs q=>?_,λb o u q=>?_,λb ps q=>?_⟩
  .exact stB b o (zO b o (un.keep b o q n hb$ by simp) hb$ .inl ⟨o,q⟩)
  .obtain⟨XN,h2⟩:=un.slot b o q n hb (by simp)
   obtain⟨_,o',xu,hd⟩:=I.stack.mem hb;rw[q] at xu;cases xu;obtain⟨QM,h3⟩:=up b _ h2 hd;exact⟨QM,h3⟩
  .rw [bb$ λz=>by subst z;exact n0 o q];exact un.free b o q n (by simp)
  .obtain⟨u2,h2⟩:=un.there b o q (by simp)
   by_cases hb:b∈qZ X.stack
   .obtain⟨_,o',xu,hd⟩:=I.stack.mem hb;obtain⟨sl,h3⟩:=un.slot b o' xu (I.p9 b hb) hb (by simp)
    obtain⟨QM,h4⟩:=up b _ h3 hd;exact⟨_,h4⟩
   .exact⟨u2,stB b u2$ zO b u2 h2 hb$ .inl ⟨o,q⟩⟩
  .rw [bb$ bC q n2];exact un.tups b xs q
  .rw [bb$ bC q n2];exact un.frzs b o u q
  .rw [bb$ bC q n2];exact un.tbls b ps q
 have hok2:oU X.prog X.w (upd H' a$ .ext$ L3.isExc C a) h5:=λb o q=>by
  by_cases hb:b=a
  .subst hb;rw[aZ] at q;cases q;refine⟨⟨oe,he,hec⟩,⟨oe,he⟩,λh1 h2 p k=>?_⟩
   obtain⟨o,h3,h4⟩:=p;exact⟨o,k o h3,h4⟩
  .rw [bb hb] at q;refine(hok b o q).yZ (λc u hc hu=>?_) (λc z=>by rw[bb$ bC z n1];exact z) (λc xs z=>by rw[bb$ bC z n1];exact z)
   rcases hc with rfl | hc
   .exact J0 c o q u hu
   .exact J0 c _ hc u hu
 exact I.Nb (s':={s' with heap:=h5}) os un2 hok2 bare (λb z=>absurd z$ by simp)
end
end L2
namespace L3
open PySem PySem.Spec PyProof.Rows L2
section
variable {X:Cx}{cl:Aag}
def xo(F:FZ)(ok:Nat->Bool)(i:Nat)(G:FZ):FZ:=λδ S=>match F δ S with
 | .ok o S'=> .ok o S'
 | .ex c S'=>R3.aX (ok c)$ (JY$ G ((List.replicate δ.length none).set i$ some$ .loc S'.length)$ S'++[.exc c]).bind λo S2=>match o with | .nx dh=> .ok (.nx$ dh.set i none) S2 | .rt v=> .ok (.rt v) S2
 | .no=> .no
def PU{F G:FZ}{ok:Nat->Bool}{i:Nat}{n fx:Str}{Cf:Addr}{body JI:List Stmt}{b0:Stmt}{np UC pos:Pos}(xA:X.stack=X.env ::X.outer)(GO:X.env.frame=some X.env.locals)(aat:X.calm=true)
 (hC:∀c,ok c=true->PySem.W.exmOne X.K (.ref$ cl c) (.ref Cf)=some true) (hg:Gl X fx) (hm:X.mg fx=some (.ref Cf)) (hN:X.N.Nodup) (hi:X.N[i]? =some n) (hk:X.env.kindOf n=some .local)
 (fj:∀(pn:Aaa) (xe:Aab) (E:XK),Passes (zQ X.prog X.w) (X.alt X.A X.calm pn xe) E->xb (X.alt X.A X.calm pn xe) cl E body F)
 (Uk:∀(a:Addr) (pn:Aaa),D1 (X.alt (X.A.mark$ some$ .ref a) false pn λ_ _=>False) cl (b0 ::JI) G) (me:(fx==("__debug__":Str))=false:=by decide) :
 PZ X cl (.Try body [.ExceptHandler (some$ .Name fx np) (some n) (b0 ::JI) UC] [] [] pos) (xo F ok i G):=⟨by
 intro pins s σ H D I ⟨ρ,S,δ,o,S',En,hf,q⟩;refine wpAny_Try_except ?_;have I1:∀xe,Inv (X.alt X.A X.calm (X.pn++pins) xe) [] σ H s:=λxe=>I.alt I.ok.hd rfl λp hp=>by simpa using hp
 have back:∀{cu H' s'} {xe} {A calm nK},Inv (X.alt A calm (X.pn++pins) xe) nK cu H' s'->Inv X pins cu H' s':=λJ=>Inv.SE I.ok J λp hp=>Qa7 _ hp
 have nxt:∀{xe f s1},SP (X.alt X.A X.calm (X.pn++pins) xe) [] D f s1->(match f with | .next=>wpAny (model X.prog X.w) X.A (execs [] X.env) (SP X pins D) X.xe s1 | f=>SP X pins D f s1):=fun {xe f s1} z=>by
  cases f with
  | next=>obtain⟨cu,H',J,w⟩:=z;exact Qcr ⟨cu,H',back J,w⟩
  | brk=>obtain⟨cu,H',J,w⟩:=z;exact⟨cu,H',back J,w⟩
  | cont=>obtain⟨cu,H',J,w⟩:=z;exact⟨cu,H',back J,w⟩
  | ret u=>obtain⟨v,cu,H',J,r,w⟩:=z;exact⟨v,cu,H',back J,r,w⟩
 cases hF:F δ S with
 | no=>simp only[xo,hF] at hf;cases hf
 | ok o1 S1=>
   simp only[xo,hF] at hf;cases hf;exact cH ((fj (X.pn++pins) _ E0 λ_ _ _ _ _ _ _ ⟨_,_,_,_,_,_,_,_,_,_,_,_,z⟩=>z.elim).1 [] s σ H D (I1 _) ⟨ρ,S,δ,En, .inl ⟨_,_,hF,q⟩⟩) λf s1 z=>nxt z
 | ex c S1=>
   simp only[xo,hF] at hf;obtain⟨hok,hf⟩:=R3.aL hf;obtain⟨o2,S2,hG,hf⟩:=R3.aj hf;have hG:=jV hG;refine cH ((fj (X.pn++pins) (λe s₁=>wpAny (model X.prog X.w) X.A (noteFrame e X.env) (λ_ xx=>wpAny (model X.prog X.w) X.A (setFlight e none) (λ_ My=>wpAny (model X.prog X.w) X.A (handleBy e X.env [.ExceptHandler (some$ .Name fx np) (some n) (b0 ::JI) UC]) (SP X pins D) X.xe My) X.xe xx) X.xe s₁)
    (λcls d H'=>cls= .ref (cl c)/\∃bK,Pre ρ H bK H'/\SW X.K cl bK H' S1) ?_).1 [] s σ H D (I1 _) ⟨ρ,S,δ,En, .inr ⟨c,S1,hF,λbK H' p w=>⟨rfl,bK,p,w⟩⟩⟩) λf s1 z=>nxt z
   intro nK cu H1 s1 e s' J hc;obtain⟨a,B,cls,a0,H',rfl,os,bare,un,hokH,fl,zO,rfl,bK,p',w'⟩:=hc;have fl:Heap.FlyingW B (X.env ::X.outer) a (.ref$ cl c) a0 s'.heap:=by rw[<-xA];exact fl
   refine wpAny_looks_onW (by rw[I.ok.frames,xA]) GO fl λh4 held up4=>?_
   refine wpAny_landsW held λh5 fl5 up5=>?_
   have C5:=wa (X:=X.alt X.A X.calm (X.pn++pins) _) (s':=s') J xA os bare un hokH zO (by rw[show Cx.stack (X.alt X.A X.calm (X.pn++pins) _)=X.env ::X.outer from xA];exact fl5) (up4.trans up5)
   have J5:Inv (X.alt (X.A.mark$ some$ .ref a) false (X.pn++pins) λ_ _=>False) nK cu _ {s' with heap:=h5}:=Inv.alt (X:=X.alt X.A X.calm (X.pn++pins) _) C5.2.2 (λz=>by cases z) rfl λp hp=>hp
   refine wpAny_handleBy_cons (codeAny_handlers_test$ rR J5 hg hm ?_ me) (by intro q;cases q)
   refine(PySem.W.exm_one J5.yd (yt.ty C5.2.1)$ hC c hok).here ?_;refine codeAny_handlers_suite_as ?_;refine PyProof.Rows.lands_againW fl5 λh6 fl6 up6=>?_
   have C6:=wa (X:=X.alt X.A X.calm (X.pn++pins) _) (s':=s') J xA os bare un hokH zO (by rw[show Cx.stack (X.alt X.A X.calm (X.pn++pins) _)=X.env ::X.outer from xA];exact fl6) ((up4.trans up5).trans up6)
   have J6:Inv (X.alt (X.A.mark$ some$ .ref a) false (X.pn++pins) λ_ _=>False) nK cu _ {s' with heap:=h6}:=Inv.alt (X:=X.alt X.A X.calm (X.pn++pins) _) C6.2.2 (λz=>by cases z) rfl λp hp=>hp
   have sm:aR H' (upd H' a$ .ext$ isExc (cl c) a):=bA C6.1;obtain⟨w6,p6⟩:=w'.new (o:= .exc c) sm C6.1$ show GI X.K cl (bK.push a) _ (.exc c) _ from⟨a,aZ⟩
   have la:(bK.push a).r[S1.length]? =some a:=by
    show(bK.r++[a])[S1.length]? =some a;rw[<-w'.len,Qal$ Qak _,QbA];rfl
   refine vF (X:=X.alt (X.A.mark$ some$ .ref a) false (X.pn++pins) λ_ _=>False) J6 hN hi (.inl hk) (v:= .ref a) rfl (λs7 J7=>?_) (.inr hk)
   have En7:eg X.K cl (bK.push a) (upd H' a$ .ext$ isExc (cl c) a) (S1++[.exc c]) (cu.set i$ some$ .ref a) ((List.replicate δ.length none).set i$ some$ .loc S1.length):=by
    refine⟨?_,w6,λj d e=>?_⟩
    .rw [QaM,QaM,QaV,En.len,I.len];exact J.len.symm
    .by_cases hj:i=j
     .subst hj;have hlt:i<(List.replicate δ.length (none:Option V3)).length:=by
       rw[QaV,En.len,I.len];exact(Qah.mp hi).1
      rw[Qam hlt] at e;cases e;refine⟨.ref a,?_,by unfold aS;exact⟨a,la,rfl⟩⟩
      rw[Qam];have:cu.length=X.N.length:=J.len;rw[this];exact(Qah.mp hi).1
     .rw [Qao hj,QaS] at e;split at e <;> cases e
   have q7:za X.K cl (bK.push a) (upd H' a$ .ext$ isExc (cl c) a) {nx:=λQE H8=>D.nx (QE.set i none) H8,rt:=D.rt} S2 o2:=by
    cases o2 with
    | nx j7=>
      cases hf;intro QE YY H8 p8 E8;refine q (QE.set i none) YY H8 ((p'.trans p6).trans p8) ⟨?_,E8.sw,λj d e=>?_⟩
      .rw [QaM,QaM];exact E8.len
      .by_cases hj:i=j
       .subst hj;by_cases hlt:i<j7.length
        .rw [Qam hlt] at e;cases e
        .rw [QbV$ by rw[QaM];omega] at e;cases e
       .rw [Qao hj] at e ⊢;exact E8.val j d e
    | rt v=>
      cases hf;exact λu YY H8 p8 w8 r8=>q u YY H8 ((p'.trans p6).trans p8) w8 r8
   refine QbP ((Uk a$ X.pn++pins).1 nK s7 _ _ _ J7 ⟨bK.push a,S1++[.exc c],_,o2,S2,En7,hG,q7⟩) (λf s8 z=>?_) λ_ _ z=>z.elim
   cases f with
   | next=>
     obtain⟨QE,H8,J8,z⟩:=z;exact D4 (back J8) hN hi hk λs9 J9=>⟨_,H8,J9,z⟩
   | brk=>obtain⟨QE,H8,J8,z⟩:=z;exact z.elim
   | cont=>obtain⟨QE,H8,J8,z⟩:=z;exact z.elim
   | ret u=>
     obtain⟨v,QE,H8,J8,r8,z⟩:=z;exact D4 (back J8) hN hi hk λs9 J9=>⟨v,_,H8,J9,r8,z⟩⟩
end
end L3
end
section
namespace L2
open PySem PySem.Spec PyProof.Rows
def O8{H:Hp}{a b C:Addr}(k:oU P w H h)(e:H a=some (.ext$ L3.isExc C b)):yt a C h:=by
 obtain⟨p,⟨o,ho⟩,st⟩:=(show eu P w H h a (.ext$ L3.isExc C b) from k a _ e)
 by_cases hab:a=b
 .subst hab;exact p
 .exfalso
  obtain⟨o2,h2,_⟩:=st h (PySem.W.hideAll h [b]) p λo q=>Qcu [b] q (by simpa using hab)
  rw[PySem.W.hideAll_none [b]$ QaC.mpr rfl] at h2;cases h2
def vz:V->Bool | .ref _=>true | .ty _=>true | _=>false
def Fo:V->Value | .ref a=> .ref a | .ty n=> .type n | _=> .none
def EG{v:V}{u:Value}(h:vz v=true)(r:RelV v u):u=Fo v:=by
 cases v with
 | ref a=>exact r
 | ty n=>exact r
 | _=>cases h
section
variable {X:Cx}
def Pb(K:QcQ):List V->Hp->VK->Prop:=λxs H Q=>∃a b C cv k,xs=[V.ref a,cv]/\H a=some (.ext$ L3.isExc C b)/\XC K C/\vz cv=true/\PySem.W.kitOne K (.ref C) (Fo cv)=some k/\Q (.bl k) H
def O3(K:QcQ):List V->Hp->VK->Prop:=λxs H Q=>∃cv k,xs=[V.cM,cv]/\vz cv=true/\PySem.W.kitOne K (.type "NoneType") (Fo cv)=some k/\Q (.bl k) H
def abl(K:QcQ):List V->Hp->VK->Prop:=λxs H Q=>∃a b C tp Uu k,xs=[V.ref a,V.ref tp]/\H a=some (.ext$ L3.isExc C b)/\XC K C/\H tp=some (.tup Uu)/\Uu.all vz=true/\PySem.W.kitAny K (.ref C) (Uu.map Fo)=some k/\Q (.bl k) H
def IJ:kL X (.builtin "isinstance") (Pb X.K):=by
 intro pins s σ H xs us Q I r h;obtain⟨a,b,C,cv,k,rfl,e,T,hc,hk,q⟩:=h;obtain⟨u,w',rfl,ru,Bv⟩:=vals2 r;cases ru;rw[EG hc Bv];exact PySem.W.kia_one (Jx T) I.yd (O8 I.hok e) hk (λz=>nomatch z) λtk=>⟨.bl k,H,I.tok _,rfl,q⟩
def II:kL X (.builtin "isinstance") (O3 X.K):=by
 intro pins s σ H xs us Q I r h;obtain⟨cv,k,rfl,hc,hk,q⟩:=h;obtain⟨u,w',rfl,ru,Bv⟩:=vals2 r;cases ru;rw[EG hc Bv];exact PySem.W.kia_one PySem.W.kitx_none I.yd True.intro hk (λz=>nomatch z) λtk=>⟨.bl k,H,I.tok _,rfl,q⟩
end
end L2
namespace L3
open PySem PySem.Spec PyProof.Rows L2
section
variable {X:Cx}{cl:Aag}
def mO(f:FX)(tb:Nat->Option Bool):FX:=λδ S=>(f δ S).bind λv S1=>match v with
 | .loc k=>(match S1[k]? with | some (.exc c)=>(match tb c with | some b=> .ok (.d$ .bl b) S1 | none=> .no) | _=> .no)
 | .d .cM=> .ok (.d$ .bl false) S1
 | _=> .no
def gW{e c:Expr}{f:FX}{tb:Nat->Option Bool}{cv:V}{p pos:Pos}(he:PX X cl e f)(hc:PE X c (tC cv))(Z8:vz cv=true)(hg:Gl X "isinstance")(hm:X.mg "isinstance"=none)
 (ht:∀c b,tb c=some b->XC X.K (cl c)/\PySem.W.kitOne X.K (.ref$ cl c) (Fo cv)=some b) (hn:PySem.W.kitOne X.K (.type "NoneType") (Fo cv)=some false)
 (hs:starEach [e,c] X.env=(false,eval e X.env) ::starEach [c] X.env:=by rfl) (hs2:starEach [c] X.env=(false,eval c X.env) ::starEach [] X.env:=by rfl) (oB:(backTo pos$ starEach [c] X.env).any (·.1)=false:=by rfl) :
 PX X cl (.Call (.Name "isinstance" p) [e,c] [] pos) (mO f tb):=⟨by
 have both:kL X (.builtin "isinstance") (λxs H Q=>Pb X.K xs H Q\/O3 X.K xs H Q):=λpins s σ H xs us Q I r h=>h.elim (IJ pins s σ H xs us Q I r)$ II pins s σ H xs us Q I r
 refine(vM both hg hm boot_isinstance (fS he.1 (fS hc lA hs2) hs) (by decide) (by decide) hs oB).imp λσ H Q ⟨ρ,S,δ,v,S',En,hf,q⟩=>?_
 obtain⟨v1,S1,h1,h2⟩:=R3.aj hf;refine⟨ρ,S,δ,v1,S1,En,h1,λu bL H1 p1 w1 r1=>?_⟩
 show Pb X.K [u,cv] H1 Q\/O3 X.K [u,cv] H1 Q;split at h2
 .rename_i k;split at h2
  .rename_i cc hS;split at h2
   .rename_i b hb;cases h2;unfold aS at r1;obtain⟨a,ha,rfl⟩:=r1;obtain⟨b',hH⟩:=w1.ob k a _ ha hS;exact .inl ⟨a,b',cl cc,cv,b,rfl,hH,(ht cc b hb).1,Z8,(ht cc b hb).2,q _ bL H1 p1 w1$ by unfold aS;exact Rep.bl.mpr rfl⟩
   .cases h2
  .cases h2
 .cases h2;unfold aS at r1;cases Rep.cM.mp r1;exact .inr ⟨cv,false,rfl,Z8,hn,q _ bL H1 p1 w1$ by unfold aS;exact Rep.bl.mpr rfl⟩
 .cases h2⟩
def ack(f:FX)(tb:Nat->Option Bool):FX:=λδ S=>(f δ S).bind λv S1=>match v with
 | .loc k=>(match S1[k]? with | some (.exc c)=>(match tb c with | some b=> .ok (.d$ .bl b) S1 | none=> .no) | _=> .no)
 | _=> .no
def tCs(Uu:List V):TA:=λ_ H Q=>Q Uu H
def DT{fs:FA}{n:Nat}(h:∀δ S ds S',fs δ S= .ok ds S'->ds.length=n):∀δ S ds S',fW fs δ S= .ok ds S'->ds.length=n:=λδ S ds S' e=>h δ S ds S'$ jV e
end
section
variable {α:Type}{S S':aP}{δ:DE}{c:Nat}
def EU{r:R3 α}{Q:α->aP->Prop}(h:W3 r Q):W3 (JY r) Q:=by
 obtain⟨a,S,e,q⟩:=h;rw[e];exact⟨a,S,rfl,q⟩
def Ih{f:FX}{Q:V3->aP->Prop}(h:W3 (f δ S) Q):W3 (wZ f δ S) Q:=EU h
def Cy{f:FA}{Q:List V3->aP->Prop}(h:W3 (f δ S) Q):W3 (fW f δ S) Q:=EU h
def RV{f:FZ}{Q:Ou->aP->Prop}(h:W3 (f δ S) Q):W3 (GJ f δ S) Q:=EU h
def T4{f:FB}{Q:Bool->aP->Prop}(h:W3 (f δ S) Q):W3 (zY f δ S) Q:=EU h
def Nq{F G:FZ}{ok:Nat->Bool}{i:Nat}{Q:Ou->aP->Prop}(h:W3 (F δ S) Q):W3 (xo F ok i G δ S) Q:=by
 obtain⟨o,S1,e,q⟩:=h;unfold xo;rw[e];exact W3.ok q
def Pu{F G:FZ}{ok:Nat->Bool}{i:Nat}{Q:Ou->aP->Prop}(h:F δ S= .ex c S')(hc:ok c=true)(hg:W3 (G ((List.replicate δ.length none).set i$ some$ .loc S'.length)$ S'++[.exc c]) λo S2=>∃δ1,o= .nx δ1/\Q (.nx$ δ1.set i none) S2):W3 (xo F ok i G δ S) Q:=by
 unfold xo;rw[h];refine W3.wh hc$ W3.bind$ EU$ hg.mono λo S2 ⟨δ1,e,q⟩=>?_
 subst e;exact W3.ok q
def SI{f:FX}{tb:Nat->Option Bool}{Q:V3->aP->Prop}(h:W3 (f δ S) λv S1=>∃k c b,v= .loc k/\S1[k]? =some (.exc c)/\tb c=some b/\Q (.d$ .bl b) S1):W3 (mO f tb δ S) Q:=W3.bind (h.mono λv S1 ⟨k,c,b,e,e1,e2,q⟩=>by
 subst e;simp only[e1,e2];exact W3.ok q)
end
def FnV(K:QcQ)(mg:Aaf)(x:Str):Prop:=∃f,PySem.W.nsIn K mainGlobals x=some (some$ .ref f)/\mg x=some (.ref f)
section
variable {cl:Aag}
def xFn(x:Str):FX:=λ_ S=> .ok (.fn x) S
abbrev GT:=List$ Str × (List V3->aP->R3 V3)
def Ft(P:Program)(w:World)(K:QcQ)(mg:Aaf)(base:Heap)(cl:Aag)(j n:Nat)(l:GT):Prop:=∀x g,l.lookup x=some g->∃k,k<=j/\fQ P w K mg base cl k x n g
def Va(i:Nat)(l:GT)(fs:FA):FX:=λδ S=>match δ[i]? with
 | some (some (.fn x))=>(match l.lookup x with | some g=>(fs δ S).bind g | none=> .no)
 | _=> .no
end
end L3
end
section
namespace HT
open PySem PySem.Spec PyProof.Rows
end HT
namespace L2
open PySem PySem.Spec PyProof.Rows
def vB:D->Option Key
 | .int n=>some$ Sum.inl n
 | .str x=>some$ Sum.inr x
 | _=>none
def AW{K:QcQ}{B:List Addr}{d:D}{k:Key}{v:V}(h:vB d=some k)(r:Rep K B H d v):v=kV k:=by
 cases d with
 | int n=>cases h;exact Rep.int.mp r
 | str x=>cases h;exact Rep.str.mp r
 | cM=>cases h
 | bl b=>cases h
 | lst ds=>cases h
 | tup ds=>cases h
 | dct ks ds=>cases h
def RM(ks:List Key)(k:Key):Bool:=ks.any λx=>decide$ x=k
def WK(ks:List Key)(ds:List D)(k:Key):Option D:=((ks.zip ds).find? λp=>decide$ p.1=k).map (·.2)
def aby(a b:D):R D:=match b with
 | .dct ks _=>(match vB a with | some k=> .ok (.bl$ RM ks k) | none=> .no)
 | _=> .no
def acC(a b:D):R D:=match b with
 | .dct ks _=>(match vB a with | some k=> .ok (.bl$ !RM ks k) | none=> .no)
 | _=> .no
def ZC(d k:D):R D:=match d with
 | .dct ks ds=>(match vB k with | some k=>(match WK ks ds k with | some x=> .ok x | none=> .no) | none=> .no)
 | _=> .no
section
def Y3(f:FD):FD:=λδ=>(f δ).bind λd=>match d with | .tup ds=> .ok (.tup ds.reverse) | _=> .no
def ZI(i:Nat)(f:FD):FS:=λδ=>(f δ).bind λd=>match seqD? d with
 | some es=>(u_ δ i).bind λds=>R.aX (decide$ ds.length+es.length<=sizeLine)$ .ok$ .nx$ δ.set i$ .bld$ ds++es
 | none=> .no
def Zd(f g:FD):au->R (List D):=λδ=>(f δ).bind λd=>(g δ).bind λe=>match d,e with
 | .int i, .int j=>R.aX (decide (-(2 ^ 62)<=i/\i<2 ^ 62/\ -(2 ^ 62)<=j/\j<2 ^ 62/\j - i<16777216))$ .ok$ uD i (j - i).toNat
 | _,_=> .no
end
end L2
namespace L3
open PySem PySem.Spec PyProof.Rows L2
section
variable {X:Cx}{cl:Aag}
def ZU(i:Nat)(f:FX):FZ:=λδ S=>match lR δ i with
 | none=> .no
 | some k=>match cf S k with
   | none=> .no
   | some _=>(f δ S).bind λv S1=>match v with
     | .d d=>(match seqD? d with
       | some es=>(match cf S1 k with
         | some ds=>R3.aX (decide$ ds.length+es.length<=sizeLine)$ .ok (.nx δ)$ S1.set k$ .lst$ ds++es
         | none=> .no)
       | none=> .no)
     | _=> .no
def qR(fo fi fe:FX):FZ:=λδ S=>(fe δ S).bind λv S1=>(fo δ S1).bind λo S2=>(fi δ S2).bind λj S3=>match v,o,j with
 | .d d, .loc k, .d n=>(match sP S3 k,vB n with | some aD,some key=>R3.aX (decide$ aD.length<sizeLine) (.ok (.nx δ)$ S3.set k$ .dct$ qU aD key d) | _,_=> .no)
 | _,_,_=> .no
def pL{pos pos':Pos}(hu:X.A.units+1<cLine)(hv:PX X cl value fe)(ho:PX X cl o fo)(hi:PX X cl i fi)(hs:swapsWith value (some$ .Subscript o i pos') pos.line X.env=pure false:=by rfl):PZ X cl (.Assign [.Subscript o i pos'] value pos) (qR fo fi fe):=
 ⟨(Lv hu ho.1 hi.1 hv.1 hs).imp λD σ H ⟨ρ,S,δ,ou,S',E,hf,q⟩=>by
   obtain⟨v,S1,h1,h2⟩:=R3.aj hf;obtain⟨o,S2,h3,h4⟩:=R3.aj h2;obtain⟨j,S3,h5,h6⟩:=R3.aj h4;refine⟨ρ,S,δ,v,S1,E,h1,λu1 bL H1 p1 w1 r1=>⟨bL,S1,δ,o,S2,E.to p1 w1,h3,λu2 qp H2 p2 w2 r2=>⟨qp,S2,δ,j,S3,(E.to p1 w1).to p2 w2,h5,λu3 Dm H3 p3 w3 r3=>?_⟩⟩⟩
   split at h6
   .rename_i d k n;split at h6
    .rename_i aD key hd hn;obtain⟨hl,h7⟩:=R3.aL h6;cases h7;have r2':=r2.pre p3;unfold aS at r2';obtain⟨a,a1,rfl⟩:=r2';unfold aS at r3;have:=AW hn r3;subst this;obtain⟨ys,y1,y2,y3⟩:=w3.ob k a _ a1$ vI hd;have Bu:=(r1.pre p2).pre p3;unfold aS at Bu;obtain⟨e1,rH⟩:=Tu (k:=key) Bu y2 y3;have hll:ys.length=aD.length:=by have:=Qbs List.length y2;simpa using this
     refine⟨a,_,rfl,Gh.k (k:=key) y1 (by rw[hll];exact Qae hl),?_⟩
     obtain⟨w4,p4⟩:=w3.put (o:= .dct$ qU aD key d) (u:= .dK$ putK ys key u1) a1 (w3.fz k a a1$ by rw[vI hd];intro h;cases h) ⟨_,rfl,e1,rH⟩
     exact q σ Dm _ (p1.trans$ p2.trans$ p3.trans p4)$ E.to (p1.trans$ p2.trans$ p3.trans p4) w4
    .cases h6
   .cases h6⟩
def sL{fo fi fe:FX}{δ:DE}{S:aP}{QO:Ou->aP->Prop}(h:W3 (fe δ S) λv S1=>W3 (fo δ S1) λo S2=>W3 (fi δ S2) λj S3=>∃d k n key aD,v= .d d/\o= .loc k/\j= .d n/\vB n=some key/\S3[k]? =some (.dct aD)/\aD.length<sizeLine/\QO (.nx δ) (S3.set k$ .dct$ qU aD key d)):W3 (qR fo fi fe δ S) QO:=
 W3.bind (h.mono λ_ _ h=>W3.bind (h.mono λ_ _ h=>W3.bind (h.mono λ_ S3 ⟨d,k,n,key,aD,e1,e2,e3,e6,e4,hl,q⟩=>by
  subst e1 e2 e3;have e5:sP S3 k=some aD:=by unfold sP;simp only[e4]
  simp only[e5,e6];exact W3.wh (Qac hl)$ W3.ok q)))
end
end L3
end
section
namespace PySem.W
open PySem PySem.Calls PyProof.Rows
def MX{α:Type}(n:Nat)(lt:Nat->Nat->Bool):KasT α->Option α
 | .ret a=>some a
 | .ask i j k=>if i<n/\j<n then MX n lt (k$ lt i j) else none
section
variable {a:Addr}{vs:List Value}
abbrev acy(h:Heap)(a:Addr)(vs:List Value):Heap:=((h.update a$ Obj.mapSeq fun _=>(#[]:Array Value)).push (seqObj "tuple" vs.toArray 0)).push (seqObj "list" #[] 0)
end
end PySem.W
namespace L2
open PySem PySem.Spec PyProof.Rows
def prZ:D->Option (Int × List Int)
 | .tup [.int a, .tup zs]=>(ints? zs).map λns=>(a,ns)
 | _=>none
def RB:List D->Option (List$ Int × List Int)
 | []=>some []
 | d ::ds=>(prZ d).bind λp=>(RB ds).map (p ::·)
def ltP(x y:Int × List Int):Bool:=if x.1=y.1 then(if x.2=y.2 then false else HT.lexLt x.2 y.2) else decide (x.1<y.1)
def VJ(ps:List (Int × List Int)):Option (Array Nat):=PySem.W.MX ps.length (λi j=>ltP (ps.getD i (0,[]))$ ps.getD j (0,[]))$ PySem.W.kas_sort ps.length
def Wf:List D->R D
 | [.lst ds]=>(match RB ds with
   | some ps=>R.aX (decide$ 2<=ps.length/\ps.length<64)$ match VJ ps with | some p=>R.aX (p.toList.all (λi=>decide$ i<ps.length) && decide (p.toList.length<64)) (.ok$ .lst$ p.toList.map λi=>ds.getD i .cM) | none=> .no
   | none=> .no)
 | _=> .no
def aaH(h:Heap)(v:Value)(p:Int × List Int):Prop:=
 ∃(x b:Addr) (t:Tok) (n:Nat) (o:Obj) (its:Array Value),v= .ref x/\h.get? x=some o/\o.cls= .type "tuple"/\o.data= .seq #[.int p.1 t, .ref b] n/\IsTup h b its/\IntsAre its.toList p.2
def To(d a:D):Bool:=PyData.eqv (toPy d)$ toPy a
def ZN(d:D):Bool:=dX d && (toPy d).canLay0 && decide ((toPy d).depth<=8)
def Zh(a b:D):R Bool:=match seqD? b with
 | some ds=>R.aX (ZN a && ds.all ZN)$ .ok$ ds.any λd=>To d a
 | none=> .no
def abM(a b:D):R D:=(Zh a b).bind λx=> .ok$ .bl x
def ace(a b:D):R D:=(Zh a b).bind λx=> .ok$ .bl$ !x
section
open Classical in
def Zi(h:Heap)(a:D)(y:Value):Bool:=decide (∃d as,Reads h y (toPy d) as/\(toPy d).canLay0=true/\To d a=true)
open Classical in
def V6{a d:D}{y:Value}{as:List Addr}(r:Reads h y (toPy d) as)(hl:(toPy d).canLay0=true):Zi h a y=To d a:=by
 unfold Zi;cases q:To d a with
 | true=>exact Qac ⟨d,as,r,hl,q⟩
 | false=>
   refine Qaf λ⟨d',as',r',hl',q'⟩=>?_
   have:=SeqAt.Reads.unique _ _ y as as' hl r r';unfold To at q q';rw[<-this,q] at q';cases q'
end
end L2
end
section
set_option maxHeartbeats 1000000
namespace L3
open PySem PySem.Spec PyProof.Rows L2
section
def ZO(i:Nat)(F:FZ):FZ:=λδ S=>match lR δ i with
 | some k=>(match S[k]? with | some (.dct aD)=>F (δ.set i$ some$ .d$ .dct (aD.map (·.1))$ aD.map (·.2)) (S.set k .mq) | _=> .no)
 | none=> .no
end
end L3
end
section
set_option maxHeartbeats 3200000
namespace PySem.W
open PySem PySem.Calls PyProof.Rows
namespace F2
end F2
section
variable {prog:Program}{w:World}{K:Type}[DecidableEq K]{knd:KeyKind prog w K}
def Xb(knd:KeyKind prog w K)(h:Heap)(v:Value)(q:K × Value):Prop:=
 ∃(x:Addr) (n:Nat) (o:Obj) (kv:Value),v= .ref x/\h.get? x=some o/\o.cls= .type "tuple"/\o.data= .seq #[kv,q.2] n/\knd.is q.1 kv=true
def fills(qs:List (K × Value))(aD:List (K × Value)):List (K × Value):=qs.foldl (λacc q=>stored acc q.1 q.2) aD
end
end PySem.W
namespace L2
open PySem PySem.Spec PyProof.Rows
def kvD:D->Option (Key × D)
 | .tup [a,b]=>(vB a).map λk=>(k,b)
 | _=>none
def SH:List D->Option (List$ Key × D)
 | []=>some []
 | d ::ds=>(kvD d).bind λp=>(SH ds).map (p ::·)
def MO(qs:List (Key × D))(aD:List (Key × D)):List (Key × D):=qs.foldl (λacc q=>L3.qU acc q.1 q.2) aD
def VQ:List D->R D
 | [.lst ds]=>(match SH ds with
   | some qs=>R.aX (decide$ ds.length<=1000000)$ .ok$ .dct ((MO qs []).map (·.1))$ (MO qs []).map (·.2)
   | none=> .no)
 | _=> .no
end L2
end
section
set_option maxHeartbeats 1000000
namespace L3
open PySem PySem.Spec PyProof.Rows L2
def JU(g:List V3->aP->R3 V3):List V3->aP->R3 V3:=λvs S=>match g vs S with
 | .ok v S'=>(match res S' v with
   | some d=>R3.aX ((S'.take S.length).all (z0 S.length) && oS S.length v)$ .ok (.d d)$ S'.take S.length
   | none=> .no)
 | .ex c S'=>R3.aX ((S'.take S.length).all$ z0 S.length)$ .ex c$ S'.take S.length
 | .no=> .no
def Qd{K:QcQ}{cl:Aag}{g:List V3->aP->R3 V3}{n:Nat}{vs:List V}{Q:VK}{E:XK}(h:A5 K cl n (JU g) vs H Q E):A5 K cl n g vs H Q E:=by
 obtain⟨hl,ρ,S,xs,w,r,z⟩:=h;refine⟨hl,ρ,S,xs,w,r,?_⟩;have pc:∀{bL H1},Pre ρ H bL H1->Pre ρ H (bL.cut S.length) H1:=λp1=>SW.Im (K:=K) (cl:=cl) (by rw[w.len];exact Qak _) p1
 rcases z with⟨v,S',hg,q⟩ | ⟨c,S',hg,q⟩
 .unfold JU at hg;split at hg
  .rename_i v1 S1 h1;split at hg
   .rename_i d e;obtain⟨ok,h3⟩:=R3.aL hg;obtain⟨ok,hk⟩:=Qa8.mp ok;cases h3;refine .inl ⟨v1,S1,h1,λu bL H1 p1 w1 r1=>q u _ H1 (pc p1) (w1.cut ok) ?_⟩
    unfold aS;refine r1.resB w1 (jO _) (λk a hk a1 ha=>?_) hk e
    rcases P3.dD.mp ha with⟨z,_⟩ | z
    .obtain⟨j,hj⟩:=Qbf z;have hj:(bL.r.take S.length)[j]? =some a:=hj;rw[Qa2] at hj;split at hj
     .rename_i hjl;have:=w1.nd j k a hj a1;omega
     .cases hj
    .exact(w1.zb a z).2 (Qan a1)
   .cases hg
  .rename_i c1 S1 h1;unfold R3.aX at hg;split at hg <;> cases hg
  .cases hg
 .unfold JU at hg;split at hg
  .rename_i v1 S1 h1;split at hg
   .unfold R3.aX at hg;split at hg <;> cases hg
   .cases hg
  .rename_i c1 S1 h1;unfold R3.aX at hg;split at hg
   .rename_i ok;cases hg;exact .inr ⟨_,S1,h1,λbL H1 p1 w1=>q _ H1 (pc p1)$ w1.cut ok⟩
   .cases hg
  .cases hg
def fQ.q{K:QcQ}{mg:Aaf}{cl:Aag}{k:Nat}{n:Nat}{g:List V3->aP->R3 V3}(C:fQ P w K mg base cl k x n g):fQ P w K mg base cl k x n (JU g):=
 let⟨f,fd,ps,F,h⟩:=C;⟨f,fd,ps,F.imp λ_ _ _ _ h=>Qd h,h⟩
section
variable {X:Cx}{cl:Aag}{E:XK}
def Qu(f:FX):FX:=λδ S=>(f δ S).bind λv S1=>match v with | .d (.bl b)=> .ok (.d$ .bl$ !b) S1 | _=> .no
def O0(ha:PX X cl a f):PX X cl (.UnaryOp .Not a pos) (Qu f):=⟨(OO ha.1).imp λσ H Q ⟨ρ,S,δ,v,S',En,hf,q⟩=>by
 obtain⟨v1,S1,h1,h2⟩:=R3.aj hf;split at h2
 .rename_i b;cases h2;refine⟨ρ,S,δ,_,_,En,h1,λu bL H1 p1 w1 r1=>⟨b,?_,q _ bL H1 p1 w1$ by unfold aS;exact Rep.bl.mpr rfl⟩⟩
  unfold aS at r1;exact Rep.bl.mp r1
 .cases h2⟩
def P1{f:FX}{δ:DE}{S:aP}{Q:V3->aP->Prop}(h:W3 (f δ S) λv S1=>∃b,v= .d (.bl b)/\Q (.d$ .bl$ !b) S1):W3 (Qu f δ S) Q:=W3.bind (h.mono λv S1 ⟨b,e,q⟩=>by subst e;exact W3.ok q)
def WO(K:QcQ)(cl:Aag)(E:XK)(ρ:P3)(H:Hp)(D:Ends)(r:R3 Ou):Prop:=match r with
 | .ok o S'=>za K cl ρ H D S' o
 | .ex c S'=>DP K cl E ρ H S' c
 | .no=>False
def UT(f:FA):FA:=λδ S=>JY$ f δ S
def D_{tg iter:Expr}{body:List Stmt}{it:FA}{t:FG}{F:FZ}{pos:Pos}(hp:PassesOwn (model X.prog X.w) X.A X.env X.xe)(hc:X.calm=true)(hi:UN X cl tg iter it)(hg:Ox X cl tg t)(hb:xb X cl E body F)
 (hs:∀x,foldedSetIterable iter X.env x=pure x:=by intro _;rfl):Nj X cl E (.For tg iter body [] pos) (yS (UT it) t F):=⟨(BK hp hc hi.1 hg.1 hb.1 hs).imp λD σ H ⟨ρ,S,δ,En,z⟩=>by
 have key:∃ds S0,it δ S= .ok ds S0/\WO X.K cl E ρ H D (iM t F ds δ S0):=by
  rcases z with⟨o,S',hf,q⟩ | ⟨c,S',hf,q⟩
  .obtain⟨ds,S0,h1,h2⟩:=R3.aj hf;exact⟨ds,S0,jV h1,by rw[h2];exact q⟩
  .rcases R3.fT hf with h1 | ⟨ds,S0,h1,h2⟩
   .exact(q9 h1).elim
   .exact⟨ds,S0,jV h1,by rw[h2];exact q⟩
 obtain⟨ds,S0,h1,wi⟩:=key;obtain⟨r,hr⟩:∃r,iM t F ds δ S0=r:=⟨_,rfl⟩;rw[hr] at wi;refine⟨ρ,S,δ,ds,S0,En,h1,λJ bL H1 p1 w1 ir=>?_⟩
 refine⟨λi m cu H'=>m=ds.length - i/\i<=ds.length/\∃bK S1 dh,Pre bL H1 bK H'/\eg X.K cl bK H' S1 cu dh/\iM t F (ds.drop i) dh S1=r,⟨ds.length,rfl,Qa9 _,bL,S0,δ,Pre.refl bL H1,En.to p1 w1,by simpa using hr⟩,?_⟩
 rintro i m cu H' ⟨rfl,hi,bK,S1,dh,pv,E',hl⟩;obtain⟨go,stop⟩:=ir bK H' pv.pw E'.sw.bs;by_cases hlt:i<ds.length
 .have hd:ds[i]? =some ds[i]:=Qag hlt;have hdrop:ds.drop i=ds[i] ::ds.drop (i+1):=Qbu hlt;rw[hdrop] at hl;unfold iM at hl;split at hl
  .rw [<-hl] at wi;exact wi.elim
  .rename_i δ1 h3;obtain⟨g1,g2⟩:=go i _ hd;refine .inr ⟨g1,λwK H2=>∃qp S2 j7,Pre bL H1 qp H2/\eg X.K cl qp H2 S2 wK j7/\iM t F (ds.drop$ i+1) j7 S2=r,λwK H2 n=>⟨ds.length - (i+1),by omega,rfl,hlt,n⟩,λx qP y=>?_⟩
   obtain⟨ss,rr⟩:=g2 x qP y;refine⟨bK,S1,dh,ds[i],δ1,E'.same ss,rr,h3,λwK H2 s2 E2=>⟨bK,S1,δ1,E2,?_⟩⟩
   have pv2:Pre bL H1 bK H2:=pv.trans$ Pre.same$ ss.trans s2;cases hF:F δ1 S1 with
   | no=>rw [hF] at hl;rw [<-hl] at wi;exact wi.elim
   | ex c S2=>
     rw[hF] at hl;have hl:R3.ex c S2=r:=hl;rw[<-hl] at wi;exact .inr ⟨c,S2,rfl,DP.pre wi$ p1.trans pv2⟩
   | ok o1 S2=>
     rw[hF] at hl;refine .inl ⟨o1,S2,rfl,?_⟩;cases o1 with
     | nx j7=>exact λJ_ Dm H3 p3 E3=>⟨Dm,S2,j7,pv2.trans p3,E3,hl⟩
     | rt d=>
       have hl:R3.ok (Ou.rt d) S2=r:=hl;rw[<-hl] at wi;exact λv Dm H3 p3 w r=>wi v Dm H3 (p1.trans$ pv2.trans p3) w r
 .have e:i=ds.length:=by omega
  subst e;rw[Qb1] at hl;have hl:R3.ok (Ou.nx dh) S1=r:=hl;rw[<-hl] at wi;exact .inl ⟨stop,wi cu bK H' (p1.trans pv) E'⟩⟩
def B4{P:Program}{w:World}{K:QcQ}{mg:Aaf}{base:Heap}{N:List Str}{qual:Str}{scope:Scope}{f:Addr}{cd:Value}{A:Around}{outer:List Env}{s:QcR}{H:Hp}{E:XK} :
 PassesOwn (model P w) (mn (zQ P w) P w K mg base N qual scope f cd A outer s H E).A (mn (zQ P w) P w K mg base N qual scope f cd A outer s H E).env (mn (zQ P w) P w K mg base N qual scope f cd A outer s H E).xe:=PassesOwn.leaving
def mD(P:Program)(w:World)(K:QcQ)(mg:Aaf)(base:Heap)(cl:Aag)(k c:Nat)(m:Str)(n:Nat)(g:List V3->aP->R3 V3):Prop:=
 ∃(f:Addr) (fd:FuncData) (ps:List Str),Am K (cl c)/\Meth K (cl c) m f/\jH P w K mg base (zQ P w) k f fd ps (A5 K cl (n+1) g)/\Binds K fd ps []
def pH{g:List V3->aP->R3 V3}{k j n c:Nat}{m:Str}{o e:Expr}{es:List Expr}{fo:FX}{fs:FA}{apos pos:Pos}{pl:Sem Bool}(hp:Passes (zQ X.prog X.w) X E)(M:mD X.prog X.w X.K X.mg X.base cl k c m n g)(hr:dW j X.A)(JK:k<=j)(ho:PX X cl o fo)(ha:KW X cl (e ::es) fs)(hn:∀δ S ds S',fs δ S= .ok ds S'->ds.length=n)
 (xA:starEach (e ::es) X.env=(false,eval e X.env) ::starEach es X.env:=by rfl) (oB:(backTo pos$ starEach es X.env).any (·.1)=false:=by rfl)
 (ht:eval (.Call (.Attribute o m apos) (e ::es) [] pos) X.env=(do
   let ov <-eval o X.env
   standAt apos.atName
   let(f,first) <-holding [ov] (getMethod ov m pl)
   callWith pos f first (backTo pos$ starEach (e ::es) X.env) (backToKw pos$ keywordEach [] X.env)):=by rfl) :
 PV X cl E (.Call (.Attribute o m apos) (e ::es) [] pos) (rL c m g (wZ fo)$ fW fs):=by
 obtain⟨f,fd,ps,hC,hm,F,hb⟩:=M;refine⟨(KC ho.1 hC hm F (hr.mono JK) hb .nil hp ha.1 xA oB ht).imp λσ H Q ⟨ρ,S,δ,En,z⟩=>?_⟩
 have key:∃kk ys S1 vs S2,fo δ S= .ok (.loc kk) S1/\m_ S1 c kk=some ys/\ys.lookup m=none/\fs δ S1= .ok vs S2/\((∃v S',g (.loc kk ::vs) S2= .ok v S'/\∀u bK H',Pre ρ H bK H'->SW X.K cl bK H' S'->aS X.K bK H' v u->Q u H')\/∃c S',g (.loc kk ::vs) S2= .ex c S'/\DP X.K cl E ρ H S' c):=by
  have go:∀{r:R3 V3},rL c m g (wZ fo) (fW fs) δ S=r->r≠ .no->∃kk ys S1 vs S2,fo δ S= .ok (.loc kk) S1/\m_ S1 c kk=some ys/\ys.lookup m=none/\fs δ S1= .ok vs S2/\g (.loc kk ::vs) S2=r:=fun {r} hr rE=>by
   unfold rL at hr;cases hfo:fo δ S with
   | no=>unfold wZ at hr;rw [hfo] at hr;exact absurd hr.symm rE
   | ex c' S'=>unfold wZ at hr;rw [hfo] at hr;exact absurd hr.symm rE
   | ok o S1=>
     unfold wZ at hr;rw[hfo] at hr;simp only[JY,R3.aK] at hr;split at hr
     .rename_i kk;split at hr
      .rename_i ys e1;split at hr
       .rename_i rH;cases hfs:fs δ S1 with
        | no=>unfold fW at hr;rw [hfs] at hr;exact absurd hr.symm rE
        | ex c' S'=>unfold fW at hr;rw [hfs] at hr;exact absurd hr.symm rE
        | ok vs S2=>
          unfold fW at hr;rw[hfs] at hr;exact⟨kk,ys,S1,vs,S2,rfl,e1,rH,hfs,hr⟩
       .exact absurd hr.symm rE
      .exact absurd hr.symm rE
     .exact absurd hr.symm rE
  rcases z with⟨v,S',hf,q⟩ | ⟨c',S',hf,q⟩
  .obtain⟨kk,ys,S1,vs,S2,a1,a2,a3,a4,a5⟩:=go hf (λh=>by cases h)
   exact⟨kk,ys,S1,vs,S2,a1,a2,a3,a4, .inl ⟨v,S',a5,q⟩⟩
  .obtain⟨kk,ys,S1,vs,S2,a1,a2,a3,a4,a5⟩:=go hf (λh=>by cases h)
   exact⟨kk,ys,S1,vs,S2,a1,a2,a3,a4, .inr ⟨c',S',a5,q⟩⟩
 obtain⟨kk,ys,S1,vs,S2,h1,e1,rH,h3,z⟩:=key;refine⟨ρ,S,δ, .loc kk,S1,En,h1,λu bL H1 p1 w1 r1=>?_⟩
 have Bu:=r1;unfold aS at r1;obtain⟨a,a1,rfl⟩:=r1;obtain⟨dx,zs,ey,ek,rs⟩:=w1.ob kk a _ a1$ nW e1;refine⟨a,dx,zs,rfl,ey,Bm ek rH,bL,S1,δ,vs,S2,En.to p1 w1,h3,λus qp H2 p2 w2 r2=>?_⟩
 show A5 X.K cl (n+1) g (V.ref a ::(us++[])) H2 Q E;rw[Qbj];refine⟨by rw[QaI,<-r2.length,hn δ S1 vs S2 h3],qp,S2, .loc kk ::vs,w2,aE.cons (Bu.pre p2) r2,?_⟩
 rcases z with⟨v,S',h4,q⟩ | ⟨c',S',h4,q⟩
 .exact .inl ⟨v,S',h4,λz Dm H3 p3 w3 r3=>q z Dm H3 (p1.trans$ p2.trans p3) w3 r3⟩
 .exact .inr ⟨c',S',h4,q.pre$ p1.trans p2⟩
def w_Q{g:List V3->aP->R3 V3}{vs:List V3}{S:aP}{QV:V3->aP->Prop}(hS:Mi S)(h:W3 (g vs S) λv S1=>oS S.length v=true/\(∃T,S1=S++T)/\∃d,res S1 v=some d/\QV (.d d) S):W3 (JU g vs S) QV:=by
 obtain⟨v,S1,e,hg,⟨T,rfl⟩,d,hd,q⟩:=h;unfold JU;rw[e];simp only[hd];rw[QbS$ Qak _,Qba];exact W3.wh (by rw[QaJ.mpr hS,hg];rfl)$ W3.ok q
def x_Q{g:List V3->aP->R3 V3}{vs:List V3}{S T:aP}{c:Nat}(hS:Mi S)(h:g vs S= .ex c (S++T)):JU g vs S= .ex c S:=by
 unfold JU;rw[h];simp only;rw[QbS$ Qak _,Qba];unfold R3.aX;rw[QaJ.mpr hS];rfl
def WE{α:Type}(r:R3 α)(Q:α->aP->Prop)(Y:Nat->aP->Prop):Prop:=(∃a S,r= .ok a S/\Q a S)\/∃c S,r= .ex c S/\Y c S
section
variable {α β:Type}{S:aP}{δ:DE}{Y:Nat->aP->Prop}
def WE.bind{r:R3 α}{f:α->aP->R3 β}{Q:β->aP->Prop}(h:WE r (λa S1=>WE (f a S1) Q Y) Y):WE (r.bind f) Q Y:=by
 rcases h with⟨a,S1,rfl,q⟩ | ⟨c,S1,rfl,q⟩
 .exact q
 .exact .inr ⟨c,S1,rfl,q⟩
def WE.mono{r:R3 α}{Q Q':α->aP->Prop}{Y':Nat->aP->Prop}(h:WE r Q Y)(m:∀a S,Q a S->Q' a S)(n:∀c S,Y c S->Y' c S):WE r Q' Y':=by
 rcases h with⟨a,S1,e,q⟩ | ⟨c,S1,e,q⟩
 .exact .inl ⟨a,S1,e,m _ _ q⟩
 .exact .inr ⟨c,S1,e,n _ _ q⟩
def WE.ok{a:α}{Q:α->aP->Prop}(h:Q a S):WE (.ok a S) Q Y:= .inl ⟨a,S,rfl,h⟩
def jP{F G:FZ}{Q:Ou->aP->Prop}(h:WE (F δ S) (λo S1=>∃δ1,o= .nx δ1/\WE (G δ1 S1) Q Y) Y):WE (cx F G δ S) Q Y:=WE.bind (h.mono (λo S1 ⟨δ1,e,q⟩=>by subst e;exact q) λ_ _ q=>q)
def Az{F:FZ}{Q:Ou->aP->Prop}(h:W3 (F δ S) Q):WE (GJ F δ S) Q Y:= .inl$ RV h
def sx{fc:FB}{F G:FZ}{Q:Ou->aP->Prop}(h:W3 (fc δ S) λb S1=>if b then WE (F δ S1) Q Y else WE (G δ S1) Q Y):WE (uK (zY fc) F G δ S) Q Y:=WE.bind (.inl (T4 (h.mono λb S1 q=>by
 show WE (if b=true then F δ S1 else G δ S1) Q Y
 cases b with
 | true=>rw [Qap rfl] at q ⊢;exact q
 | false=>rw [Qaj$ by decide] at q ⊢;exact q)))
def wg{f:FX}{Q:Ou->aP->Prop}(h:WE (f δ S) (λv S1=>Q (.nx δ) S1) Y):WE (vE f δ S) Q Y:=WE.bind$ h.mono (λv S1 q=>WE.ok q) λ_ _ q=>q
def Jy{f:FX}{Q:V3->aP->Prop}(h:W3 (f δ S) Q):WE (wZ f δ S) Q Y:= .inl$ Ih h
def IY{g:List V3->aP->R3 V3}{fs:FA}{Q:V3->aP->Prop}(h:W3 (fs δ S) λvs S1=>WE (g vs S1) Q Y):WE (sv g (fW fs) δ S) Q Y:=WE.bind$ .inl$ Cy h
def vj{c k:Nat}{g:List V3->aP->R3 V3}{fo:FX}{fs:FA}{Q:V3->aP->Prop}(h:W3 (fo δ S) λv S1=>∃ys,v= .loc k/\S1[k]? =some (.ins c ys)/\ys.lookup m=none/\W3 (fs δ S1) λvs S2=>WE (g (.loc k ::vs) S2) Q Y):WE (rL c m g (wZ fo) (fW fs) δ S) Q Y:=
 WE.bind (.inl (Ih (h.mono λv S1 ⟨ys,e1,rH,e3,q⟩=>by
  subst e1;have e4:m_ S1 c k=some ys:=by unfold m_;simp only[rH,QbU]
  simp only[e4,e3];exact WE.bind$ .inl$ Cy q)))
def uS{c:Nat}{fs:FA}{Q:Ou->aP->Prop}(h:W3 (fs δ S) λvs S1=>vs.length<=sizeLine/\Y c S1):WE (fY c (fW fs) δ S) Q Y:=WE.bind (.inl (Cy (h.mono λvs S1 ⟨h1,h2⟩=>by
 unfold R3.aX;rw[Qac h1];exact .inr ⟨c,S1,rfl,h2⟩)))
def pC{Q:Ou->aP->Prop}(h:Q (.nx δ) S):WE (oa δ S) Q Y:=WE.ok h
def Rm{N:List Str}{F:FZ}{vs:List V3}{Q:V3->aP->Prop}(e:fm N vs=δ)(h:WE (F δ S) (λo S1=>match o with | .rt v=>Q v S1 | .nx _=>Q (.d .cM) S1) Y):WE (uu N F vs S) Q Y:=by
 unfold uu;rw[e];refine WE.bind$ h.mono (λo S1 q=>?_) λ_ _ q=>q
 cases o with
 | nx δ1=>exact WE.ok q
 | rt v=>exact WE.ok q
def e_Q{g:List V3->aP->R3 V3}{vs:List V3}{QV:V3->aP->Prop}(hS:Mi S)(h:WE (g vs S) (λv S1=>oS S.length v=true/\(∃T,S1=S++T)/\∃d,res S1 v=some d/\QV (.d d) S) (λc S1=>(∃T,S1=S++T)/\Y c S)):WE (JU g vs S) QV Y:=by
 rcases h with h | ⟨c,S1,e,⟨T,rfl⟩,q⟩
 .exact .inl (w_Q hS h)
 .exact .inr ⟨c,S,x_Q hS e,q⟩
def ND{t:FG}{F:FZ}(I:Nat->DE->aP->Prop){vs:List V3}(h0:I 0 δ S)(step:∀i v δ1 S1,vs[i]? =some v->I i δ1 S1->∃j7,t v δ1=some j7/\WE (F j7 S1) (λo S2=>∃U3,o= .nx U3/\I (i+1) U3 S2) Y) :
 WE (iM t F vs δ S) (λo S1=>∃δ1,o= .nx δ1/\I vs.length δ1 S1) Y:=by
 induction vs generalizing I δ S with
 | nil=>exact .inl ⟨_,_,rfl,δ,rfl,h0⟩
 | cons v vs ih=>
   obtain⟨j7,e,h⟩:=step 0 v δ S rfl h0;unfold iM;rw[e];refine WE.bind$ h.mono (λo S2 ⟨U3,e3,q⟩=>?_) λ_ _ q=>q
   subst e3;exact ih (λi=>I$ i+1) q λi w δ1 S1 hw hi=>step (i+1) w δ1 S1 hw hi
def MB{it:FA}{Q:Ou->aP->Prop}(h:W3 (it δ S) λvs S1=>WE (iM t F vs δ S1) Q Y):WE (yS (UT it) t F δ S) Q Y:=WE.bind$ .inl$ EU h
def Ub{F G:FZ}{ok:Nat->Bool}{i:Nat}{Q:Ou->aP->Prop}(h:WE (F δ S) Q λc S1=>ok c=true/\W3 (G ((List.replicate δ.length none).set i$ some$ .loc S1.length)$ S1++[.exc c]) λo S2=>∃δ1,o= .nx δ1/\Q (.nx$ δ1.set i none) S2):W3 (xo F ok i G δ S) Q:=by
 rcases h with h | ⟨c,S1,e,h1,h2⟩
 .exact Nq h
 .exact Pu e h1 h2
end
end
end L3
end
section
namespace L2
open PySem PySem.Spec PyProof.Rows
def gK(ks:List (Str × Int)):List (Key × V):=ks.map λp=>(Sum.inr p.1,V.int p.2)
def pf(P:Program)(w:World)(K:QcQ)(mg:Aaf)(x:Str)(ks:List (Str × Int)):Prop:=∃a,mg x=some (.ref a)/\∀(H:Hp) (h:Heap),K.In h->eu P w H h a (.dK$ gK ks)
theorem zd(x:Str):∀ks:List (Str × Int),lK (gK ks) (Sum.inr x)=(ks.lookup x).map V.int
 | []=>rfl
 | (y,i) ::ks=>by
   have ih:=zd x ks;unfold lK gK at ih ⊢;rw[Qay,Qbq,QaB];by_cases h:x=y
   .subst h;simp
   .have h1:decide ((Sum.inr y:Key)=Sum.inr x)=false:=Qaf λq=>h (Sum.inr.inj q).symm
    have h2:(x==y)=false:=QaQ.mpr h;simp only[h1,h2];exact ih
def Tz(w:World)(es:List (Str × Tok × Int × Tok)):List DictEntry:=es.map λe=>⟨hashStr w e.1, .str e.1 e.2.1, .int e.2.2.1 e.2.2.2⟩
def Bc{P:Program}{w:World}{K:QcQ}{h:Heap}{mg:Aaf}(X:K.In h)(G:h.Ns mainGlobals mg){x:Str}{a:Addr}{es:Array DictEntry}{n:Nat}(ts:List (Str × Tok × Int × Tok)){ks:List (Str × Int)}
 (e:PySem.W.nsIn K mainGlobals x=some (some$ .ref a)) (l:K.lookup a=some {cls:= .type "dict",data:= .dict es n}) (hs:es.toList=Tz w ts) (hk:ks=ts.map λe=>(e.1,e.2.2.1)) (hd:(ks.map (·.1)).Nodup) (hm:(a==sysModules)=false) (hz:ks.length<=1000):pf P w K mg x ks:=by
 subst hk;refine⟨a,QaZ X G e,λH h2 X2=>⟨?_,hm,ts.map λe=>(Sum.inr e.1, .int e.2.2.1 e.2.2.2),?_,_,es,n,X2 a _ l,⟨rfl,rfl,?_⟩,rfl,λq hq=>?_,?_,?_⟩⟩
 .unfold gK;rw [Qaa,Qav];omega
 .unfold gK;rw[Qa5]
  clear hs hd hz
  induction ts with
  | nil=>exact .nil
  | cons t ts ih=>exact .cons ⟨rfl,⟨_,rfl⟩⟩ ih
 .rfl
 .have:q∈Tz w ts:=by rw[<-hs];exact Array.mem_toList_iff.mpr hq
  obtain⟨t,_,rfl⟩:=QaT.mp this;exact⟨Sum.inr t.1,pQ P w _ _,rfl⟩
 .rw [hs]
  clear hs hd hz
  induction ts with
  | nil=>exact .nil
  | cons t ts ih=>exact .cons (pQ P w _ _) rfl ih
 .rw [Qa5] at hd ⊢;have:(ts.map ((λx:Key × Value=>x.1) ∘ λe:Str × Tok × Int × Tok=>(Sum.inr e.1, .int e.2.2.1 e.2.2.2)))=(ts.map ((λx:Str × Int=>x.1) ∘ λe:Str × Tok × Int × Tok=>(e.1,e.2.2.1))).map Sum.inr:=by
   rw[Qa5];rfl
  rw[this];exact hd.map _ λ_ _ z q=>z$ Sum.inr.inj q
section
variable {X:Cx}
def yQ{ks:List (Str × Int)}{p:Pos}(g:pf X.prog X.w X.K X.mg x ks)(hg:Gl X x)(me:(x==("__debug__":Str))=false:=by decide):∃a,PE X (.Name x p) (tC$ .ref a)/\∀(H:Hp) (h:Heap),X.K.In h->eu X.prog X.w H h a (.dK$ gK ks):=by
 obtain⟨a,hm,ok⟩:=g;exact⟨a,dS (v:= .ref a) hg hm rfl me,ok⟩
def Q2(ks:List (Str × Int))(d:D):R Bool:=match d with | .str x=> .ok (ks.lookup x).isSome | _=> .no
def OV(ks:List (Str × Int))(f:FD):FD:=λδ=>(f δ).bind λd=>(Q2 ks d).bind λb=> .ok$ .bl b
def abE(ks:List (Str × Int))(f:FD):FD:=λδ=>(f δ).bind λd=>(Q2 ks d).bind λb=> .ok$ .bl$ !b
def ach(ks:List (Str × Int))(f:FD):au->R Bool:=λδ=>(f δ).bind λd=>Q2 ks d
def OD(ks:List (Str × Int))(f:FD):au->R Bool:=λδ=>(f δ).bind λd=>(Q2 ks d).bind λb=> .ok$ !b
def AX(ks:List (Str × Int))(f:FD):FD:=λδ=>(f δ).bind λd=>match d with | .str x=>(match ks.lookup x with | some i=> .ok (.int i) | none=> .no) | _=> .no
def Si(ks:List (Str × Int))(neg:Bool)(t:TE):TE:=λσ H Q=>t σ H λy H1=>∃x,y= .str x/\Q (.bl$ neg !=(ks.lookup x).isSome) H1
def N9{ks:List (Str × Int)}{p:Pos}{t:TE}(hu:X.A.units+1<cLine)(hi:PE X i t)(g:pf X.prog X.w X.K X.mg x ks)(hg:Gl X x)(me:(x==("__debug__":Str))=false:=by decide):PC X .In i (.Name x p) (Si ks false t):=by
 obtain⟨a,ho,ok⟩:=yQ (p:=p) g hg me;intro pins s σ H Q I h;refine cH (hi pins s σ H _ I h) λiv s1 ⟨y,H1,I1,ry,z,ey,q1⟩=>cH (ho pins s1 σ H1 (λu H2=>u= .ref a/\H2=H1) I1 ⟨rfl,rfl⟩) λu s2 ⟨uv,H2,I2,rx,e1,e2⟩=>?_
 subst ey e1 e2;obtain rfl:u=Value.ref a:=rx;obtain⟨hz,hd,vs,rel,dd⟩:=ok H2 s2.heap I2.yd;refine wpAny_in_of (qH (k:=Sum.inr z) ry) hd dd.mapOf ?_;rw[<-(rel.val$ Sum.inr z).iU,zd,QbT];refine⟨.bl _,H2,I2.tok _,rfl,?_⟩;simpa using q1
def Nr{ks:List (Str × Int)}{p:Pos}{t:TE}(hu:X.A.units+1<cLine)(hi:PE X i t)(g:pf X.prog X.w X.K X.mg x ks)(hg:Gl X x)(me:(x==("__debug__":Str))=false:=by decide):PC X .NotIn i (.Name x p) (Si ks true t):=by
 obtain⟨a,ho,ok⟩:=yQ (p:=p) g hg me;intro pins s σ H Q I h;refine cH (hi pins s σ H _ I h) λiv s1 ⟨y,H1,I1,ry,z,ey,q1⟩=>cH (ho pins s1 σ H1 (λu H2=>u= .ref a/\H2=H1) I1 ⟨rfl,rfl⟩) λu s2 ⟨uv,H2,I2,rx,e1,e2⟩=>?_
 subst ey e1 e2;obtain rfl:u=Value.ref a:=rx;obtain⟨hz,hd,vs,rel,dd⟩:=ok H2 s2.heap I2.yd;refine wpAny_notIn_of (qH (k:=Sum.inr z) ry) hd dd.mapOf ?_;rw[<-(rel.val$ Sum.inr z).iU,zd,QbT];refine⟨.bl _,H2,I2.tok _,rfl,?_⟩;simpa using q1
def Ha{ks:List (Str × Int)}{d:D}{b:Bool}(h:Q2 ks d= .ok b):∃x,d= .str x/\b=(ks.lookup x).isSome:=by
 unfold Q2 at h;split at h
 .cases h;exact⟨_,rfl,rfl⟩
 .cases h
def Lb{ks:List (Str × Int)}{p pos:Pos}(hu:X.A.units+1<cLine)(hi:QD X i f)(g:pf X.prog X.w X.K X.mg x ks)(hg:Gl X x)(me:(x==("__debug__":Str))=false:=by decide)(hm:behindInMarks .In (.Name x p)=false:=by with_unfolding_all rfl):QD X (.Compare i [.In] [.Name x p] pos) (OV ks f):=
 ⟨(Qx (N9 hu hi.1 g hg me) hm).imp λσ H Q ⟨Z,B,δ,d,E,hf,q⟩=>by
   obtain⟨d1,h1,h2⟩:=R.aj hf;obtain⟨b,h3,h4⟩:=R.aj h2;cases h4;obtain⟨z,rfl,rfl⟩:=Ha h3;exact⟨Z,B,δ,_,E,h1,λv H1 s1 r1=>⟨z,Rep.str.mp r1,q _ H1 s1$ by rw[Qcz];exact Rep.bl.mpr rfl⟩⟩⟩
def Ko{ks:List (Str × Int)}{p pos:Pos}(hu:X.A.units+1<cLine)(hi:QD X i f)(g:pf X.prog X.w X.K X.mg x ks)(hg:Gl X x)(me:(x==("__debug__":Str))=false:=by decide)(hm:behindInMarks .NotIn (.Name x p)=false:=by with_unfolding_all rfl):QB X (.Compare i [.NotIn] [.Name x p] pos) (OD ks f):=
 ⟨(BP (Nr hu hi.1 g hg me) hm).imp λσ H Q ⟨Z,B,δ,b,E,hf,q⟩=>by
   obtain⟨d1,h1,h2⟩:=R.aj hf;obtain⟨b,h3,h4⟩:=R.aj h2;cases h4;obtain⟨z,rfl,rfl⟩:=Ha h3;exact⟨Z,B,δ,_,E,h1,λv H1 s1 r1=>⟨z,Rep.str.mp r1,_,rfl,by rw[Bool.true_bne];exact q H1 s1⟩⟩⟩
def AR{ks:List (Str × Int)}{p pos:Pos}(hi:QD X i f)(g:pf X.prog X.w X.K X.mg x ks)(hg:Gl X x)(hs:L6 i)(me:(x==("__debug__":Str))=false:=by decide):QD X (.Subscript (.Name x p) i pos) (AX ks f):=⟨by
 obtain⟨a,ho,ok⟩:=yQ (p:=p) g hg me;intro pins s σ H Q I ⟨Z,B,δ,d,E,hf,q⟩;obtain⟨d1,h1,h2⟩:=R.aj hf;have key:∃z n,d1= .str z/\ks.lookup z=some n/\d= .int n:=by
  split at h2
  .split at h2
   .rename_i e;cases h2;exact⟨_,_,rfl,e,rfl⟩
   .cases h2
  .cases h2
 obtain⟨z,n,rfl,hl,rfl⟩:=key;refine Ee QcL.lookup hs$ cH (ho pins s σ H (λu H2=>u= .ref a/\H2=H) I ⟨rfl,rfl⟩) λu s1 ⟨uv,H1,I1,rx,e1,e2⟩=>?_
 subst e1 e2;obtain rfl:u=Value.ref a:=rx;refine cH (hi.1 pins s1 σ H1 (λv H'=>aR H1 H'/\Rep X.K B H' (.str z) v) I1 ⟨Z,B,δ,_,E,h1,λv H' s1 r1=>⟨s1,r1⟩⟩) λiv s2 ⟨y,H2,I2,ry,ss,r2⟩=>?_
 cases Rep.str.mp r2;obtain⟨hz,hd,vs,rel,dd⟩:=ok H2 s2.heap I2.yd;obtain⟨w',hw,Bv⟩:=nV.some_of (v:= .int n) (o:=valueAt vs$ Sum.inr z) (by rw[show some (V.int n)=lK (gK ks) (Sum.inr z) by rw[zd,hl];rfl];exact rel.val$ Sum.inr z)
 refine⟨dd.typeIs,wpAny_getItem_of (qH (k:=Sum.inr z) ry) dd.mapOf hw ?_⟩;exact⟨.int n,H2,I2.tok _,Bv,q _ H2 ss$ Rep.int.mpr rfl⟩⟩
end
end L2
namespace L3
open PySem PySem.Spec PyProof.Rows L2
section
variable {X:Cx}{cl:Aag}
def mJ(S:aP)(k:Nat):Option Nat:=match S[k]? with | some (.lst ds)=>some ds.length | some (.dct aD)=>some aD.length | _=>none
def BM(f:FX):FX:=λδ S=>(f δ S).bind λv S1=>match v with | .loc k=>(match mJ S1 k with | some n=> .ok (.d$ .int n) S1 | none=> .no) | _=> .no
def Jf{K:QcQ}{ρ:P3}{H:Hp}{S:aP}(w:SW K cl ρ H S){k n:Nat}{a:Addr}(ha:ρ.r[k]? =some a)(h:mJ S k=some n):(∃xs,H a=some (.lst xs)/\xs.length=n)\/∃ys,H a=some (.dK ys)/\ys.length=n:=by
 unfold mJ at h;split at h
 .rename_i ds e;cases h;obtain⟨xs,e1,r⟩:=w.ob k a _ ha e;exact .inl ⟨xs,e1,r.length.symm⟩
 .rename_i aD e;cases h;obtain⟨ys,e1,e2,r⟩:=w.ob k a _ ha e;refine .inr ⟨ys,e1,?_⟩;have:=Qbs List.length e2
  rwa [Qaa,Qaa] at this
 .cases h
def su{p pos:Pos}(he:PX X cl e f)(hg:Gl X "len")(hm:X.mg "len"=none)(hs:starEach [e] X.env=(false,eval e X.env) ::starEach [] X.env:=by rfl)(oB:(backTo pos$ starEach [] X.env).any (·.1)=false:=by rfl):PX X cl (.Call (.Name "len" p) [e] [] pos) (BM f):=⟨by
 have both:kL X (.builtin "len") (λxs H Q=>(∃p ys,xs=[.ref p]/\(oZ X.K H p ys\/sR X.K H p ys)/\Q (.int ys.length) H)\/(∃a aD,xs=[V.ref a]/\H a=some (.dK aD)/\Q (.int aD.length) H)):=λpins s σ H xs us Q I r h=>h.elim (zc pins s σ H xs us Q I r)$ Gb pins s σ H xs us Q I r
 refine(vM both hg hm boot_len (fS he.1 lA hs) (by decide) (by decide) hs oB).imp λσ H Q ⟨ρ,S,δ,v,S',En,hf,q⟩=>?_
 obtain⟨v1,S1,h1,h2⟩:=R3.aj hf;refine⟨ρ,S,δ,v1,S1,En,h1,λu bL H1 p1 w1 r1=>?_⟩
 split at h2
 .rename_i k;split at h2
  .rename_i n hn;cases h2;unfold aS at r1;obtain⟨a,ha,rfl⟩:=r1;rcases Jf w1 ha hn with⟨xs,e1,rfl⟩ | ⟨ys,e1,rfl⟩
   .exact .inl ⟨a,xs,rfl, .inl$ oZ.of e1,q _ bL H1 p1 w1$ by unfold aS;exact Rep.int.mpr rfl⟩
   .exact .inr ⟨a,ys,rfl,e1,q _ bL H1 p1 w1$ by unfold aS;exact Rep.int.mpr rfl⟩
  .cases h2
 .cases h2⟩
def Bg{f:FX}{δ:DE}{S:aP}{Q:V3->aP->Prop}(h:W3 (f δ S) λv S1=>∃k n,v= .loc k/\mJ S1 k=some n/\Q (.d$ .int n) S1):W3 (BM f δ S) Q:=W3.bind (h.mono λv S1 ⟨k,n,e,e1,q⟩=>by subst e;simp only[e1];exact W3.ok q)
def o7(f:FX):FB:=λδ S=>(f δ S).bind λv S1=>match v with | .loc k=>(match mJ S1 k with | some n=> .ok (decide$ n≠0) S1 | none=> .no) | _=> .no
def pN{a:Expr}(ha:PX X cl a f)(he:∀whole,isTrue a X.env whole=(do let v <-whole;standAt a.pos;holding [v] (truthy v)):=by intro _;rfl):Gu X cl a (o7 f):=⟨(AM ha.1 he).imp λσ H Q ⟨ρ,S,δ,b,S',En,hf,q⟩=>by
 obtain⟨v1,S1,h1,h2⟩:=R3.aj hf;refine⟨ρ,S,δ,v1,S1,En,h1,λu bL H1 p1 w1 r1=>?_⟩
 split at h2
 .rename_i k;split at h2
  .rename_i n hn;cases h2;unfold aS at r1;obtain⟨a,ha,rfl⟩:=r1;refine⟨_,?_,q bL H1 p1 w1⟩;rcases Jf w1 ha hn with⟨xs,e1,rfl⟩ | ⟨ys,e1,rfl⟩
   .exact .inl ⟨xs,oZ.of e1,by cases xs <;> simp⟩
   .exact .inr (.inr ⟨ys,e1,by cases ys <;> simp⟩)
  .cases h2
 .cases h2⟩
def vV{f:FX}{δ:DE}{S:aP}{Q:Bool->aP->Prop}(h:W3 (f δ S) λv S1=>∃k n,v= .loc k/\mJ S1 k=some n/\Q (decide$ n≠0) S1):W3 (o7 f δ S) Q:=W3.bind (h.mono λv S1 ⟨k,n,e,e1,q⟩=>by subst e;simp only[e1];exact W3.ok q)
def sY(v o:V3)(S:aP):Option (Option D):=match v,o with
 | .d x, .loc k=>(match vB x,S[k]? with | some key,some (.dct aD)=>some ((aD.find? λkv=>decide$ kv.1=key).map (·.2)) | _,_=>none)
 | _,_=>none
def abf(neg:Bool)(fa fb:FX):FX:=λδ S=>(fa δ S).bind λv S1=>(fb δ S1).bind λo S2=>match sY v o S2 with | some r=> .ok (.d$ .bl$ neg !=r.isSome) S2 | none=> .no
def CM(neg:Bool)(fa fb:FX):FB:=λδ S=>(fa δ S).bind λv S1=>(fb δ S1).bind λo S2=>match sY v o S2 with | some r=> .ok (neg !=r.isSome) S2 | none=> .no
def Ja(fo fi:FX):FX:=λδ S=>(fo δ S).bind λo S1=>(fi δ S1).bind λv S2=>match sY v o S2 with | some (some d)=> .ok (.d d) S2 | _=> .no
def Ew{K:QcQ}{B:List Addr}(key:Key):∀{aD:List (Key × D)} {ys:List (Key × V)},ys.map (·.1)=aD.map (·.1)->aA K B H (aD.map (·.2)) (ys.map (·.2))->
 (lK ys key=none/\aD.find? (λkv=>decide$ kv.1=key)=none)\/∃v kv,lK ys key=some v/\aD.find? (λkv=>decide$ kv.1=key)=some kv/\Rep K B H kv.2 v
 | [],[],_,_=> .inl ⟨rfl,rfl⟩
 | [],_ ::_,e,_=>by simp at e
 | _ ::_,[],e,_=>by simp at e
 | (k1,d) ::aD,(k2,y) ::ys,e,r=>by
   obtain⟨e1,e2⟩:=Qbc e;have e1:k2=k1:=e1;subst e1;obtain⟨z,zs,ez,r1,r2⟩:=r.b7;obtain⟨ez1,ez2⟩:=Qbc ez;subst ez1 ez2;unfold lK;by_cases h:k2=key
   .refine .inr ⟨_,(k2,d),?_,?_,r1⟩
    .rw [List.find?_cons_of_pos$ by simpa using h];rfl
    .rw [List.find?_cons_of_pos$ by simpa using h]
   .rw [List.find?_cons_of_neg (by simpa using h),List.find?_cons_of_neg$ by simpa using h]
    exact Ew key e2 r2
def CQ{K:QcQ}{ρ:P3}{S:aP}(w:SW K cl ρ H S){v o:V3}{r:Option D}{u y:V}(h:sY v o S=some r)(rv:aS K ρ H v y)(ro:aS K ρ H o u):∃a z,u= .ref a/\qx H a y z/\((z=none/\r=none)\/∃v d,z=some v/\r=some d/\Rep K ρ.b H d v):=by
 unfold sY at h;split at h
 .rename_i x k;split at h
  .rename_i key aD hk hS;cases h;unfold aS at ro rv;obtain⟨a,ha,rfl⟩:=ro;obtain⟨ys,e1,e2,q⟩:=w.ob k a _ ha hS;have:=AW hk rv;subst this;refine⟨a,_,rfl,qx.k (k:=key) e1,?_⟩;rcases Ew key e2 q with⟨z1,z2⟩ | ⟨v,kv,z1,z2,z3⟩
   .rw [z1,z2];exact .inl ⟨rfl,rfl⟩
   .rw [z1,z2];exact .inr ⟨v,kv.2,rfl,rfl,z3⟩
  .cases h
 .cases h
def yw{pos:Pos}(hu:X.A.units+1<cLine)(ha:PX X cl a fa)(hb:PX X cl b fb)(hm:behindInMarks .In b=false:=by with_unfolding_all rfl):Gu X cl (.Compare a [.In] [b] pos) (CM false fa fb):=⟨(BP (NF hu ha.1 hb.1) hm).imp λσ H Q ⟨ρ,S,δ,v,S',En,hf,q⟩=>by
 obtain⟨j,S1,h1,h2⟩:=R3.aj hf;obtain⟨o,S2,h3,h4⟩:=R3.aj h2;refine⟨ρ,S,δ,j,S1,En,h1,λu1 bL H1 p1 w1 r1=>⟨bL,S1,δ,o,S2,En.to p1 w1,h3,λu2 qp H2 p2 w2 r2=>?_⟩⟩
 split at h4
 .rename_i r hd;cases h4;obtain⟨ad,z,rfl,g,c⟩:=CQ w2 hd (r1.pre p2) r2;refine⟨ad,z,rfl,g,_,rfl,?_⟩;have:=q qp H2 (p1.trans p2) w2;rcases c with⟨rfl,rfl⟩ | ⟨v,d,rfl,rfl,_⟩ <;> exact this
 .cases h4⟩
def LL{pos:Pos}(hu:X.A.units+1<cLine)(ha:PX X cl a fa)(hb:PX X cl b fb)(hm:behindInMarks .NotIn b=false:=by with_unfolding_all rfl):Gu X cl (.Compare a [.NotIn] [b] pos) (CM true fa fb):=⟨(BP (F6 hu ha.1 hb.1) hm).imp λσ H Q ⟨ρ,S,δ,v,S',En,hf,q⟩=>by
 obtain⟨j,S1,h1,h2⟩:=R3.aj hf;obtain⟨o,S2,h3,h4⟩:=R3.aj h2;refine⟨ρ,S,δ,j,S1,En,h1,λu1 bL H1 p1 w1 r1=>⟨bL,S1,δ,o,S2,En.to p1 w1,h3,λu2 qp H2 p2 w2 r2=>?_⟩⟩
 split at h4
 .rename_i r hd;cases h4;obtain⟨ad,z,rfl,g,c⟩:=CQ w2 hd (r1.pre p2) r2;refine⟨ad,z,rfl,g,_,rfl,?_⟩;have:=q qp H2 (p1.trans p2) w2;rcases c with⟨rfl,rfl⟩ | ⟨v,d,rfl,rfl,_⟩ <;> exact this
 .cases h4⟩
def KL(hu:X.A.units+1<cLine)(ho:PX X cl o fo)(hi:PX X cl i fi)(hs:L6 i):PX X cl (.Subscript o i pos) (Ja fo fi):=⟨(LG hu ho.1 hi.1 hs).imp λσ H Q ⟨ρ,S,δ,v,S',En,hf,q⟩=>by
 obtain⟨o,S1,h1,h2⟩:=R3.aj hf;obtain⟨j,S2,h3,h4⟩:=R3.aj h2;refine⟨ρ,S,δ,o,S1,En,h1,λu1 bL H1 p1 w1 r1=>⟨bL,S1,δ,j,S2,En.to p1 w1,h3,λu2 qp H2 p2 w2 r2=>?_⟩⟩
 split at h4
 .rename_i d hd;cases h4;obtain⟨ad,z,rfl,g,c⟩:=CQ w2 hd r2$ r1.pre p2;rcases c with⟨_,e⟩ | ⟨v,d',rfl,e,r⟩
  .cases e
  .cases e;exact⟨ad,v,rfl,g,q _ qp H2 (p1.trans p2) w2$ by unfold aS;exact r⟩
 .cases h4⟩
def zi{neg:Bool}{fa fb:FX}{δ:DE}{S:aP}{Q:Bool->aP->Prop}(h:W3 (fa δ S) λv S1=>W3 (fb δ S1) λo S2=>∃r,sY v o S2=some r/\Q (neg !=r.isSome) S2):W3 (CM neg fa fb δ S) Q:=W3.bind (h.mono λv S1 h2=>W3.bind$ h2.mono λo S2 ⟨r,e,q⟩=>by simp only[e];exact W3.ok q)
def Nv{fo fi:FX}{δ:DE}{S:aP}{Q:V3->aP->Prop}(h:W3 (fo δ S) λo S1=>W3 (fi δ S1) λv S2=>∃d,sY v o S2=some (some d)/\Q (.d d) S2):W3 (Ja fo fi δ S) Q:=W3.bind (h.mono λv S1 h2=>W3.bind$ h2.mono λo S2 ⟨r,e,q⟩=>by simp only[e];exact W3.ok q)
def HV{g:List V3->aP->R3 V3}{k j c:Nat}{p pos:Pos}(M:GZ X.prog X.w X.K X.mg X.base cl k c x 0 g)(hr:dW j X.A)(JK:k+1<=j)(hg:Gl X x)(me:(x==("__debug__":Str))=false:=by decide):PX X cl (.Call (.Name x p) [] [] pos) (HY c g dG):=by
 obtain⟨f,fd,ps,M,F,hm,hb⟩:=M;refine⟨(Jh M F (hr.mono JK) hg hm hb .nil HG me).imp λσ H Q ⟨ρ,S,δ,v,S',En,hf,q⟩=>?_⟩
 obtain⟨vs,S1,h1,h2⟩:=R3.aj hf;cases h1;obtain⟨v0,S2,h3,h4⟩:=R3.aj h2;split at h4
 .cases h4;intro xa dx hx hdx rE;have Uv:upd H dx (.own xa) xa=none:=by rw[bb$ λz=>rE z.symm];exact hx
  have sm:aR H (upd (upd H dx$ .own xa) xa$ .ins (cl c) dx []):=(bA hdx).trans$ bA Uv;obtain⟨w2,p2⟩:=En.sw.new (a:=xa) (o:= .ins c []) sm hx ⟨dx,[],aZ,rfl,aE.nil⟩;have rl:aS X.K (ρ.push xa) (upd (upd H dx$ .own xa) xa$ .ins (cl c) dx []) (.loc S.length) (.ref xa):=by
   unfold aS;exact⟨xa,by show(ρ.r++[xa])[_]? =_;rw [<-En.sw.len,Qal$ Qak _,QbA];rfl,rfl⟩
  exact⟨rfl,_,_,[.loc S.length], .d .cM,_,w2,aE.cons rl aE.nil,h3,λz Dm H3 p3 w3 r3=>⟨by unfold aS Rep at r3;exact r3,q _ Dm H3 (p2.trans p3) w3$ rl.pre p3⟩⟩
 .cases h4
end
end L3
end
section
namespace L2
open PySem PySem.Spec PyProof.Rows
section
variable {X:Cx}
def MP(f:FD):FD:=λδ=>(f δ).bind λd=>match d with | .str x=>R.aX (decide$ (reprText x).length<=sizeLine) (.ok$ .str$ reprText x) | _=> .no
def Io(h:QD X e f):QD X (.FormattedValue e 114 none pos) (MP f):=⟨by
 intro pins s σ H Q I ⟨Z,B,δ,d,E,hf,q⟩;obtain⟨d1,h1,h2⟩:=R.aj hf;refine wpAny_FormattedValue_repr$ cH (h.1 pins s σ H (λv H'=>aR H H'/\Rep X.K B H' d1 v) I ⟨Z,B,δ,d1,E,h1,λv H' s1 r1=>⟨s1,r1⟩⟩) λv s1 ⟨xv,H1,I1,r1,QC,e1⟩=>?_
 split at h2
 .obtain⟨h3,h4⟩:=R.aL h2;cases h4;rw[Rep.str.mp e1] at r1;obtain⟨t,rfl⟩:=r1;have h3:=Qae h3;exact pyReprObj_str (formatField_str (λt' tk=>⟨.str _,H1,I1.tok _,⟨_,rfl⟩,q _ H1 QC$ Rep.str.mpr rfl⟩) h3) h3
 .cases h2⟩
end
end L2
end
section
namespace L3
open PySem PySem.Spec PyProof.Rows L2
section
variable {X:Cx}{cl:Aag}{E:XK}
def Ap:CN X cl E [] dG:=⟨lA.imp λσ H Q ⟨ρ,S,δ,En,z⟩=>by
 rcases z with⟨vs,S',hf,q⟩ | ⟨c,S',hf,q⟩
 .cases hf;exact q _ ρ H (Pre.refl ρ H) En.sw aE.nil
 .cases hf⟩
def nh(h:PV X cl E e f)(t:CN X cl E es g)(hs:starEach (e ::es) X.env=(false,eval e X.env) ::starEach es X.env:=by rfl):CN X cl E (e ::es) (bf f g):=
 ⟨(fS h.1 t.1 hs).imp λσ H Q ⟨ρ,S,δ,En,z⟩=>by
   refine⟨ρ,S,δ,En,?_⟩;rcases z with⟨v,S',hf,q⟩ | ⟨c,S',hf,q⟩
   .obtain⟨v1,S1,h1,h2⟩:=R3.aj hf;obtain⟨vs,S2,h3,h4⟩:=R3.aj h2;cases h4;exact .inl ⟨v1,S1,h1,λu bL H1 p1 w1 r1=>⟨bL,S1,δ,En.to p1 w1, .inl ⟨vs,_,h3,λus qp H2 p2 w2 r2=>q _ qp H2 (p1.trans p2) w2$ aE.cons (r1.pre p2) r2⟩⟩⟩
   .rcases R3.fT hf with h1 | ⟨v1,S1,h1,h2⟩
    .exact .inr ⟨c,S',h1,q⟩
    .rcases R3.fT h2 with h3 | ⟨vs,S2,h3,h4⟩
     .exact .inl ⟨v1,S1,h1,λu bL H1 p1 w1 r1=>⟨bL,S1,δ,En.to p1 w1, .inr ⟨c,S',h3,q.pre p1⟩⟩⟩
     .cases h4⟩
def DW{x1 pos}(h:CN X cl E es g):PV X cl E (.Tuple es x1 pos) (BS g):=⟨(Cc h.1).imp λσ H Q ⟨ρ,S,δ,En,z⟩=>by
 refine⟨ρ,S,δ,En,?_⟩;rcases z with⟨v,S',hf,q⟩ | ⟨c,S',hf,q⟩
 .obtain⟨vs,S1,h1,h2⟩:=R3.aj hf;obtain⟨hl,h3⟩:=R3.aL h2;cases h3;refine .inl ⟨vs,_,h1,λus bL H1 p1 w1 r1=>⟨by rw[<-r1.length];exact Qae hl,λp hp=>q _ bL _ (p1.trans$ qk hp) (w1.same$ bA hp) ?_⟩⟩
  refine xM (.inl ⟨λha=>?_, .inl aZ⟩)$ r1.pre$ qk hp
  obtain⟨o,ho⟩:=w1.bs p ha;rw[hp] at ho;cases ho
 .rcases R3.fT hf with h1 | ⟨vs,S1,h1,h2⟩
  .exact .inr ⟨c,S',h1,q⟩
  .unfold R3.aX at h2;split at h2 <;> cases h2⟩
def z6{o e:Expr}{fo f:FX}{apos aW pos:Pos}(ho:PX X cl o fo)(he:PV X cl E e f)
 (hs:starEach [e] X.env=(false,eval e X.env) ::starEach [] X.env:=by rfl) (dO:(apos.endLine==aW.line)=true:=by rfl)
 (i_:((backTo aW$ starEach [e] X.env).all (λx=>!x.1) && (backToKw aW$ keywordEach [] X.env).all (λx=>x.1.isSome)
   && decide (([e]:List Expr).length+([]:List Keyword).length+(if([]:List Keyword).isEmpty then 0 else 1)<30))=true:=by rfl)
 (zN:swapsWith (.Call (.Attribute o "append" apos) [e] [] aW) none pos.line X.env=pure false:=by rfl)
 (dM:attributeBase o "append" X.env (eval o X.env)=eval o X.env:=by rfl) :
 Nj X cl E (.Expr (.Call (.Attribute o "append" apos) [e] [] aW) pos) (oK (wZ fo) f):=by
 refine⟨(rK (xO (X:=X) QbM QbJ QbK m5 ho.1 (fS he.1 lA hs) dM i_ dO hs) zN).imp λD σ H ⟨ρ,S,δ,En,z⟩=>?_⟩
 have key:∃k S0 GP,fo δ S= .ok (.loc k) S0/\cf S0 k=some GP/\((∃v S1 ds,f δ S0= .ok (.d v) S1/\cf S1 k=some ds/\ds.length<sizeLine/\za X.K cl ρ H D (S1.set k$ .lst$ ds++[v]) (.nx δ))\/∃c S',f δ S0= .ex c S'/\DP X.K cl E ρ H S' c):=by
  rcases z with⟨oo,S',hf,q⟩ | ⟨c,S',hf,q⟩
  .unfold oK at hf;obtain⟨vo,S0,g1,g2⟩:=R3.aj hf;split at g2
   .rename_i k;split at g2
    .cases g2
    .rename_i GP h0;obtain⟨v,S1,h1,h2⟩:=R3.aj g2;split at h2
     .rename_i d;split at h2
      .rename_i ds h3;obtain⟨hl,h4⟩:=R3.aL h2;cases h4;exact⟨k,S0,GP,jV g1,h0, .inl ⟨d,S1,ds,h1,h3,Qae hl,q⟩⟩
      .cases h2
     .cases h2
   .cases g2
  .unfold oK at hf;rcases R3.fT hf with g1 | ⟨vo,S0,g1,g2⟩
   .exact(q9 g1).elim
   .split at g2
    .rename_i k;split at g2
     .cases g2
     .rename_i GP h0;rcases R3.fT g2 with h1 | ⟨v,S1,h1,h2⟩
      .exact⟨k,S0,GP,jV g1,h0, .inr ⟨c,S',h1,q⟩⟩
      .split at h2
       .split at h2
        .unfold R3.aX at h2;split at h2 <;> cases h2
        .cases h2
       .cases h2
    .cases g2
 obtain⟨k,S0,GP,g1,h0,z⟩:=key;refine⟨ρ,S,δ, .loc k,S0,En,g1,λu XG H0 p0 w0 r0=>?_⟩
 unfold aS at r0;obtain⟨a,a1,rfl⟩:=r0;obtain⟨Uy,x0,_⟩:=w0.ob k a _ a1$ cw h0;refine⟨.inl ⟨rfl,Uy,oZ.of x0⟩,⟨XG,S0,δ,En.to p0 w0,?_⟩⟩;rcases z with⟨d,S1,ds,h1,h3,hl,q⟩ | ⟨c,S',h1,q⟩
 .refine .inl ⟨.d d,S1,h1,λy bL H1 p1 w1 r1=>?_⟩
  have b1:=p1.ext k a a1;obtain⟨xs,x1,x2⟩:=w1.ob k a _ b1$ cw h3;refine⟨a,xs,y,rfl,rfl,x1,by rw[<-x2.length];exact hl,?_⟩
  unfold aS at r1;obtain⟨w2,p2⟩:=w1.put (o:= .lst$ ds++[d]) (u:= .lst$ xs++[y]) b1 (w1.fz k a b1$ by rw[cw h3];intro h;cases h) ⟨xs++[y],rfl,x2.append$ aA.cons r1 aA.nil⟩
  exact q σ bL _ (p0.trans$ p1.trans p2)$ En.to (p0.trans$ p1.trans p2) w2
 .exact .inr ⟨c,S',h1,q.pre p0⟩
section
variable {S:aP}{δ:DE}{Y:Nat->aP->Prop}
def vq{f:FX}{g:FA}{Q:List V3->aP->Prop}(h:WE (f δ S) (λv S1=>WE (g δ S1) (λvs S2=>Q (v ::vs) S2) Y) Y):WE (bf f g δ S) Q Y:=WE.bind$ h.mono (λv S1 q=>WE.bind$ q.mono (λvs S2 q=>WE.ok q) λ_ _ q=>q) λ_ _ q=>q
def Jt{Q:List V3->aP->Prop}(h:Q [] S):WE (dG δ S) Q Y:=WE.ok h
def ME{g:FA}{Q:V3->aP->Prop}(h:WE (g δ S) (λvs S1=>vs.length<=sizeLine/\Q (AQ vs) S1) Y):WE (BS g δ S) Q Y:=WE.bind (h.mono (λvs S1 ⟨hl,q⟩=>by
 unfold R3.aX;rw[Qac hl];exact WE.ok q) λ_ _ q=>q)
def Iw{fo f:FX}{k:Nat}{Q:Ou->aP->Prop}(h:W3 (fo δ S) λo S0=>o= .loc k/\(∃ds,S0[k]? =some (.lst ds))/\WE (f δ S0) (λv S1=>∃d ds,v= .d d/\S1[k]? =some (.lst ds)/\ds.length<sizeLine/\Q (.nx δ) (S1.set k$ .lst$ ds++[d])) Y):WE (oK (wZ fo) f δ S) Q Y:=by
 unfold oK;refine WE.bind$ .inl$ Ih$ h.mono λo S0 ⟨e,⟨GP,h0⟩,h⟩=>?_
 subst e;have e0:cf S0 k=some GP:=by unfold cf;rw [h0]
 simp only[e0];refine WE.bind$ h.mono (λv S1 ⟨d,ds,e1,e2,hl,q⟩=>?_) λ_ _ q=>q
 subst e1;have e3:cf S1 k=some ds:=by unfold cf;rw [e2]
 simp only[e3];unfold R3.aX;rw[Qac hl];exact WE.ok q
end
end
section
def abO(g:D->List D->R D)(fo:FX)(fs:FA):FX:=λδ S=>(fo δ S).bind λo S1=>match o with
 | .d (.str z)=>(fs δ S1).bind λvs S2=>(match tF vs with | some ds=>(R3.of (g (.str z) ds) S2).bind λd S=> .ok (.d d) S | none=> .no)
 | _=> .no
end
end L3
end
section
namespace L2
open PySem PySem.Spec PyProof.Rows Builtin Builtin.Str
section
variable {prog:Program}{w:World}{A:Around}{E:Aab}{s:QcR}{x:Str}{t:Tok}{Q:Aab}
def Ag{y:Str}{u:Tok}(hy:(y.length==0)=false)
 (hq:∀l k,l.map (·.1)=Txt.split x y->Q (.ref s.heap.objs.size) {s with toks:=k,heap:=s.heap.push {cls:= .type "list",data:= .seq (strValues l).toArray}})
 (hsz:x.length<=sizeLine) (hsz2:(partsBetween x (occurrences x y 0 x.length$ x.length+1) y.length).length<=sizeLine) :
 wpAny (model prog w) A (call (.builtin "str.split") [.str x t, .str y u]) Q E s:=by
 cases h1:(decide (x.length<y.length) || decide (strKind x<strKind y))
 .cases hf:(occurrences x y 0 x.length$ x.length+1).isEmpty
  .refine call_meets Qb4 (QbZ _ _ _) QcK (QcC _ _) (meets_str_split_sep x y t u h1 hy hf hsz hsz2) ?_;show wants Q E _ {s with toks:=_,heap:=s.heap.push {cls:= .type "list",data:= .seq (strsFrom s.toks$ partsBetween x (occurrences x y 0 x.length$ x.length+1) y.length).toArray}}
   rw[strsFrom_eq];exact hq (numbered s.toks _) _$ (numbered_texts _ _).trans ((Qaj$ Qcw h1).trans$ Qaj$ Qcw hf).symm
  .exact call_meets Qb4 (QbZ _ _ _) QcK (QcC _ _) (meets_str_split_not_found x y t u h1 hy hf)
    (hq [(x,t)] s.toks ((Qaj$ Qcw h1).trans$ Qap hf).symm)
 .exact call_meets Qb4 (QbZ _ _ _) QcK (QcC _ _) (meets_str_split_cannot_occur x y t u h1)
   (hq [(x,t)] s.toks (Qap h1).symm)
def iO(x y:Str):List Str:=match occurrences x y 0 x.length 1 with
 | i ::_=>[strSub x 0 i,y,strSub x (i+y.length) x.length]
 | []=>[x,Str.empty,Str.empty]
def Mm{y:Str}{u:Tok}(hy:(y.length==0)=false)
 (hq:∀l k,l.map (·.1)=iO x y->Q (.ref s.heap.objs.size) {s with toks:=k,heap:=s.heap.push {cls:= .type "tuple",data:= .seq (strValues l).toArray}}) (hsz:x.length<=sizeLine) :
 wpAny (model prog w) A (call (.builtin "str.partition") [.str x t, .str y u]) Q E s:=by
 refine call_meets F.slot_str_partition (QbZ _ _ _) F.entry_str_partition (F.args_str_partition_2 _ _) (meets_str_partition x y t u hy hsz) ?_;show wants Q E _ _;unfold iO at hq;split
 .rename_i i r e;rw[e] at hq;exact hq [(strSub x 0 i,_),(y,u),(strSub x (i+y.length) x.length,_)] _ rfl
 .rename_i e;rw[e] at hq;exact hq [(x,t),(Str.empty,_),(Str.empty,_)] _ rfl
end
section
variable {X:Cx}
def sT(d:D)(ds:List D):R D:=match d,ds with
 | .str x,[.str y]=>R.aX (decide$ (y.length==0)=false/\x.length<=sizeLine/\(Txt.split x y).length<=sizeLine/\(partsBetween x (occurrences x y 0 x.length$ x.length+1) y.length).length<=sizeLine)$ .ok$ .lst$ (Txt.split x y).map .str
 | _,_=> .no
def AZ(d:D)(ds:List D):R D:=match d,ds with
 | .str x,[.str y]=>R.aX (decide$ (y.length==0)=false/\x.length<=sizeLine)$ .ok$ .tup$ (iO x y).map .str
 | _,_=> .no
theorem qd:∀(l:List (Str × Tok)),Vals ((l.map (·.1)).map V.str) (strValues l)
 | []=> .nil
 | p ::l=> .cons ⟨p.2,rfl⟩$ qd l
def m_split:Rb X "str.split" sT:=by
 intro pins s σ H B da d ds x xs v us I hb rx rxs ra rs hg;unfold sT at hg;split at hg
 .rename_i z y;obtain⟨h1,h2⟩:=R.aL hg;obtain⟨hy,hz,hn,hp⟩:=Qae h1;cases h2;rw[Rep.str.mp ra] at rx;obtain⟨t,rfl⟩:=rx;obtain⟨q,rfl,r⟩:=rs.one;rw[Rep.str.mp r] at rxs;obtain⟨u,rfl,ru⟩:=vals1 rxs;obtain⟨tu,rfl⟩:=ru;refine Ag hy (λl k hl=>?_) hz hp
  have hf:H s.heap.objs.size=none:=I.hok.fresh$ Qak _;refine⟨.ref s.heap.objs.size,upd H s.heap.objs.size$ .lst$ (l.map (·.1)).map V.str,I.laid (a:=s.heap.objs.size) (λb o q=>Qau _ q) (Qak _) ⟨?_,strValues l,0,qd l,QaY _ rfl⟩,rfl,bA hf,?_⟩
  .rw [Qaa,hl];exact hn
  .rw [hl];refine Rep.lst.mpr ⟨_,_,rfl, .inl ⟨λha=>?_, .inl aZ⟩,pk _⟩
   obtain⟨o,ho⟩:=hb _ ha;rw[hf] at ho;cases ho
 .cases hg
def Pj:Rb X "str.partition" AZ:=by
 intro pins s σ H B da d ds x xs v us I hb rx rxs ra rs hg;unfold AZ at hg;split at hg
 .rename_i z y;obtain⟨h1,h2⟩:=R.aL hg;obtain⟨hy,hz⟩:=Qae h1;cases h2;rw[Rep.str.mp ra] at rx;obtain⟨t,rfl⟩:=rx;obtain⟨q,rfl,r⟩:=rs.one;rw[Rep.str.mp r] at rxs;obtain⟨u,rfl,ru⟩:=vals1 rxs;obtain⟨tu,rfl⟩:=ru;refine Mm hy (λl k hl=>?_) hz
  have hf:H s.heap.objs.size=none:=I.hok.fresh$ Qak _;refine⟨.ref s.heap.objs.size,upd H s.heap.objs.size$ .tup$ (l.map (·.1)).map V.str,I.laid (a:=s.heap.objs.size) (λb o q=>Qau _ q) (Qak _) ⟨?_,strValues l,qd l,_,QaY _ rfl,rfl,0,rfl⟩,rfl,bA hf,?_⟩
  .rw [Qaa,hl];have:(iO z y).length=3:=by unfold iO;split <;> rfl
   rw[this];decide
  .rw [hl];refine Rep.tup.mpr ⟨_,_,rfl, .inl ⟨λha=>?_, .inl aZ⟩,pk _⟩
   obtain⟨o,ho⟩:=hb _ ha;rw[hf] at ho;cases ho
 .cases hg
def ye{o e:Expr}{f:FD}{fs:au->R (List D)}{apos aW:Pos}(ho:QD X o f)(ha:Fe X [e] fs)(dM:attributeBase o "split" X.env (eval o X.env)=eval o X.env:=by rfl)(i_:((backTo aW$ starEach [e] X.env).all (λx=>!x.1) && (backToKw aW$ keywordEach [] X.env).all (λx=>x.1.isSome)
 && decide (([e]:List Expr).length+([]:List Keyword).length+(if([]:List Keyword).isEmpty then 0 else 1)<30))=true:=by rfl) (dO:(apos.endLine==aW.line)=true:=by rfl) (hs:starEach [e] X.env=(false,eval e X.env) ::starEach [] X.env:=by rfl):QD X (.Call (.Attribute o "split" apos) [e] [] aW) (xH "str" sT f fs):=⟨Ia Qb2 Qb4 F.type_str_split m_split ho.1 ha.1 (.inl rfl) dM i_ dO hs⟩
def xi{o e:Expr}{f:FD}{fs:au->R (List D)}{apos aW:Pos}(ho:QD X o f)(ha:Fe X [e] fs)(dM:attributeBase o "partition" X.env (eval o X.env)=eval o X.env:=by rfl)(i_:((backTo aW$ starEach [e] X.env).all (λx=>!x.1) && (backToKw aW$ keywordEach [] X.env).all (λx=>x.1.isSome)
 && decide (([e]:List Expr).length+([]:List Keyword).length+(if([]:List Keyword).isEmpty then 0 else 1)<30))=true:=by rfl) (dO:(apos.endLine==aW.line)=true:=by rfl) (hs:starEach [e] X.env=(false,eval e X.env) ::starEach [] X.env:=by rfl):QD X (.Call (.Attribute o "partition" apos) [e] [] aW) (xH "str" AZ f fs):=⟨Ia Qb2 F.slot_str_partition F.type_str_partition Pj ho.1 ha.1 (.inl rfl) dM i_ dO hs⟩
end
end L2
end
section
namespace L2
open PySem PySem.Spec PyProof.Rows
section
def ab7(aD:List (Str × Int)):D:= .dct (aD.map λp=>Sum.inr p.1) (aD.map λp=> .int p.2)
def kvI(aD:List (Str × Int)):List (Key × V):=aD.map λp=>((Sum.inr p.1:Key),V.int p.2)
end
end L2
namespace L3
open PySem PySem.Spec PyProof.Rows L2
def um(l:List (Nat × Bool))(c:Nat):Option Bool:=l.lookup c
def Sz(P:Nat->Bool->Prop):List (Nat × Bool)->Prop | []=>True | p ::l=>P p.1 p.2/\Sz P l
def g9{P:Nat->Bool->Prop}:Sz P []:=trivial
def av{P:Nat->Bool->Prop}{c:Nat}{b:Bool}{l:List (Nat × Bool)}(h:P c b)(t:Sz P l):Sz P ((c,b) ::l):=⟨h,t⟩
theorem lS{P:Nat->Bool->Prop}:∀{l:List (Nat × Bool)},Sz P l->∀c b,um l c=some b->P c b
 | [],_,c,b,h=>by cases h
 | (c1,b1) ::l,t,c,b,h=>by
   unfold um at h;rw[QaB] at h;cases e:c==c1 with
   | true=>rw [e] at h;cases h;rw [eq_of_beq e];exact t.1
   | false=>rw [e] at h;exact lS t.2 c b h
def Q8(P:Nat->Prop):List Nat->Prop | []=>True | c ::l=>P c/\Q8 P l
def O_{P:Nat->Prop}:Q8 P []:=trivial
def nU{P:Nat->Prop}{c:Nat}{l:List Nat}(h:P c)(t:Q8 P l):Q8 P (c ::l):=⟨h,t⟩
theorem Jk{P:Nat->Prop}:∀{l:List Nat},Q8 P l->∀c∈l,P c
 | [],_,c,h=>by cases h
 | d ::l,t,c,h=>by
   rcases QaF.mp h with rfl | z
   .exact t.1
   .exact Jk t.2 c z
def Sd{P:Nat->Prop}{l:List Nat}(t:Q8 P l):∀c,l.contains c=true->P c:=λc h=>Jk t c$ QaH.mp h
end L3
namespace L2
open PySem PySem.Spec PyProof.Rows
section
def UM(d:D)(ds:List D):R D:=match d,ds with
 | .lst es,[.str k]=>(match strs? es with | some ss=> .ok (.int (ss.count k:Nat)) | none=> .no)
 | _,_=> .no
end
section
def Zn(n:Nat)(t:GK):FT:=λd δ=>match d with | .lst ds=>R.aX (decide$ ds.length=n) (t ds δ) | _=> .no
end
section
def ZW(d e:D):R D:=match d,e with
 | .lst ds, .int k=>R.aX (decide$ 0<=k/\k<1000000/\ds.length*k.toNat<=sizeLine)$ .ok$ .lst (List.replicate k.toNat ds).flatten
 | _,_=> .no
end
section
def V1(d:D)(ds:List D):R D:=match d,ds with
 | .lst es,[.str k]=>(match strs? es with | some ss=>(match ss.findIdx? (·==k) with | some j=>R.aX (decide$ j<1000000) (.ok$ .int (j:Nat)) | none=> .no) | none=> .no)
 | _,_=> .no
end
end L2
end
section
namespace HT
open PySem PySem.Spec PyProof.Rows
end HT
namespace L2
open PySem PySem.Spec PyProof.Rows
section
def abZ(K:QcQ):V->Option Int->Option Int->Hp->VK->Prop:=λx lo hi H Q=>∃a xs,x= .ref a/\sR K H a xs/\HT.t9 xs.length 0 lo=0/\HT.t9 xs.length xs.length hi=xs.length/\Q (.ref a) H
def slW(d:D)(lo hi:Option Int):R D:=match d with
 | .tup ds=> .ok$ .tup$ cutD ds lo hi
 | _=> .no
def abY(f:FD)(fl fh:FO):FD:=λδ=>(f δ).bind λd=>(fl δ).bind λlo=>(fh δ).bind λhi=>slW d lo hi
end
end L2
end
section
namespace L2
open PySem PySem.Spec PyProof.Rows Builtin Builtin.Str
section
variable {X:Cx}
def Iu{pins:Aaa}{s:QcR}{σ:St}{H:Hp}{i:Nat}{x:Str}{pos:Pos}{v:V}{Q:Aab}(I:Inv X pins σ H s)(e:σ[i]? =some (some v))(hN:X.N[i]? =some x)(hv:HM X.env.scope x)(q:∀u,RelV v u->Q u s)
 (hd:(x==("__debug__":Str))=false:=by decide) (rJ:(x==("__classdict__":Str))=false:=by decide):wpAny (model X.prog X.w) X.A (eval (.Name x pos) X.env) Q X.xe s:=by
 obtain⟨m,hn,hl⟩:=I.loc;obtain⟨u,r,l⟩:=hl i x v hN e hv;rcases l with⟨hk,hm⟩ | ⟨hk,c,hc,hcell⟩
 .exact Qcq (wpAny_loadName_local I.ok.kind hk hn hm$ q u r) hd
 .rcases hk with hk | hk
  .exact Qcq (wpAny_loadName_cell I.ok.kind hk hc hcell$ q u r) hd
  .exact Qcq (wpAny_loadName_free I.ok.kind hk hc hcell (q u r) rJ) hd
def FR{s:QcR}{x y:Str}{t u:Tok}{Q:Aab}(hsz:x.length+y.length<=sizeLine)(h:∀t' k,s.toks<=k->Q (.str (x++y) t') {s with toks:=k}) :
 (if x.length==0 then Made.val (.str y u) else if y.length==0 then Made.val (.str x t) else Made.str (x++y)).post Q s:=by
 by_cases hx:(x.length==0)=true
 .rw [Qap hx];have h':=h u s.toks$ Qak _;rw [Str.append_left_empty hx] at h';exact h'
 .rw [Qaj hx];by_cases hy:(y.length==0)=true
  .rw [Qap hy];have h':=h t s.toks$ Qak _;rw [Str.append_right_empty hy] at h';exact h'
  .rw [Qaj hy];exact⟨by rw[size_cat];exact hsz,h _ _$ Nat.le_succ _⟩
def xG(v c y z:Str):Bool:=decide (v.length<=1000000) && (decide (c.length<=10) && (decide (z.length<=14) && !(y==z)))
def Vw(i:Nat)(c y z:Str):TA:=λσ H Q=>∃v:Str,σ[i]? =some (some$ .str v)/\xG v c y z=true/\Q [.str$ v++c, .str$ Txt.replace v y z] H
def Px{i:Nat}{x c y z:Str}{k k1 k2:Nat}{p1 p2 p3 p4 p5 p6 apos aW:Pos}(hN:X.N[i]? =some x)(hv:HM X.env.scope x)
 (hd:(x==("__debug__":Str))=false:=by decide) (rJ:(x==("__classdict__":Str))=false:=by decide)
 (dM:attributeBase (.Name x p4) "replace" X.env (eval (.Name x p4) X.env)=eval (.Name x p4) X.env:=by rfl)
 (i_:((backTo aW$ starEach [.Constant (.str y) k1 p5, .Constant (.str z) k2 p6] X.env).all (λx=>!x.1) && (backToKw aW$ keywordEach [] X.env).all (λx=>x.1.isSome)
   && decide (([.Constant (.str y) k1 p5, .Constant (.str z) k2 p6]:List Expr).length+([]:List Keyword).length+(if([]:List Keyword).isEmpty then 0 else 1)<30))=true:=by rfl)
 (dO:(apos.endLine==aW.line)=true:=by rfl)
 (XD:starEach [.BinOp (.Name x p1) .Add (.Constant (.str c) k p2) p3, .Call (.Attribute (.Name x p4) "replace" apos) [.Constant (.str y) k1 p5, .Constant (.str z) k2 p6] [] aW] X.env
   =[(false,eval (.BinOp (.Name x p1) .Add (.Constant (.str c) k p2) p3) X.env),(false,eval (.Call (.Attribute (.Name x p4) "replace" apos) [.Constant (.str y) k1 p5, .Constant (.str z) k2 p6] [] aW) X.env)]:=by rfl)
 (hs2:starEach [.Constant (.str y) k1 p5, .Constant (.str z) k2 p6] X.env=[(false,eval (.Constant (.str y) k1 p5) X.env),(false,eval (.Constant (.str z) k2 p6) X.env)]:=by rfl) :
 PA X [.BinOp (.Name x p1) .Add (.Constant (.str c) k p2) p3, .Call (.Attribute (.Name x p4) "replace" apos) [.Constant (.str y) k1 p5, .Constant (.str z) k2 p6] [] aW] (Vw i c y z):=by
 intro pos pins s σ H Q I ⟨v,e,hok,q⟩;unfold xG at hok;simp only[QaL,Qa6,Qcj] at hok;obtain⟨l1,l2,l3,hyz⟩:=hok;have hz:=Qav;rw[XD];show wpAny _ _ (spliced ((false,eval (.BinOp (.Name x p1) .Add (.Constant (.str c) k p2) p3) X.env) ::[(false,eval (.Call (.Attribute (.Name x p4) "replace" apos) [.Constant (.str y) k1 p5, .Constant (.str z) k2 p6] [] aW) X.env)])) _ _ s;refine Qbt$ wpAny_BinOp$ Iu I e hN hv (λu ru=>?_) hd rJ
 obtain⟨t,rfl⟩:=ru;refine Qcc (P.add_str$ FR (by omega) λt' n hn=>?_)
 have hn:s.toks+1<=n:=hn;refine Qbt$ wpAny_Call_method_late dM i_ dO rfl$ Iu (I.tok n) e hN hv (λu ru=>?_) hd rJ
 obtain⟨t2,rfl⟩:=ru;refine⟨"str","str.replace",Qb2,F.slot_str_replace,F.type_str_replace,QbZ _ _ _,(λ_ e=>by cases e),?_⟩
 rw[hs2];refine Qck (by rfl)$ QbY ?_
 show wpAny _ _ (spliced ((false,eval (.Constant (.str y) k1 p5) X.env) ::(false,eval (.Constant (.str z) k2 p6) X.env) ::[])) _ _ _;refine Qbt$ Qcc$ Qbt$ Qcc$ Qci ?_;refine SC.replaceW (by show n≠0;omega) (by show n+1≠0;omega) (by show n≠n+1;omega) hyz (by omega) l3 λt3 n3=>?_
 exact Qci ⟨[.str$ v++c, .str$ Txt.replace v y z],H,I.tok _, .cons ⟨_,rfl⟩$ .cons ⟨_,rfl⟩ .nil,q⟩
def Hl(i:Nat)(c y z:Str):au->R (List D):=λδ=>match δ[i]? with | some (.val$ .str v)=>R.aX (xG v c y z) (.ok [.str$ v++c, .str$ Txt.replace v y z]) | _=> .no
def IE(i:Nat){x c y z:Str}{k k1 k2:Nat}{p1 p2 p3 p4 p5 p6 apos aW:Pos}(hN:X.N[i]? =some x:=by rfl)(hv:HM X.env.scope x:=by first | exact Or.inl rfl | exact Or.inr QcN | exact Or.inr (Or.inr rfl))
 (hd:(x==("__debug__":Str))=false:=by decide) (rJ:(x==("__classdict__":Str))=false:=by decide)
 (dM:attributeBase (.Name x p4) "replace" X.env (eval (.Name x p4) X.env)=eval (.Name x p4) X.env:=by rfl)
 (i_:((backTo aW$ starEach [.Constant (.str y) k1 p5, .Constant (.str z) k2 p6] X.env).all (λx=>!x.1) && (backToKw aW$ keywordEach [] X.env).all (λx=>x.1.isSome)
   && decide (([.Constant (.str y) k1 p5, .Constant (.str z) k2 p6]:List Expr).length+([]:List Keyword).length+(if([]:List Keyword).isEmpty then 0 else 1)<30))=true:=by rfl)
 (dO:(apos.endLine==aW.line)=true:=by rfl)
 (XD:starEach [.BinOp (.Name x p1) .Add (.Constant (.str c) k p2) p3, .Call (.Attribute (.Name x p4) "replace" apos) [.Constant (.str y) k1 p5, .Constant (.str z) k2 p6] [] aW] X.env
   =[(false,eval (.BinOp (.Name x p1) .Add (.Constant (.str c) k p2) p3) X.env),(false,eval (.Call (.Attribute (.Name x p4) "replace" apos) [.Constant (.str y) k1 p5, .Constant (.str z) k2 p6] [] aW) X.env)]:=by rfl)
 (hs2:starEach [.Constant (.str y) k1 p5, .Constant (.str z) k2 p6] X.env=[(false,eval (.Constant (.str y) k1 p5) X.env),(false,eval (.Constant (.str z) k2 p6) X.env)]:=by rfl) :
 Fe X [.BinOp (.Name x p1) .Add (.Constant (.str c) k p2) p3, .Call (.Attribute (.Name x p4) "replace" apos) [.Constant (.str y) k1 p5, .Constant (.str z) k2 p6] [] aW] (Hl i c y z):=
 ⟨(Px hN hv hd rJ dM i_ dO XD hs2).imp λσ H Q ⟨Z,B,δ,d,E,hf,q⟩=>by
   unfold Hl at hf;split at hf
   .rename_i v e;obtain⟨h1,h2⟩:=R.aL hf;cases h2;obtain⟨u,h3,h4⟩:=E.val i _ e;rw[Rep.str.mp h4] at h3;exact⟨v,h3,h1,q _ H (aR.refl H)$ aA.cons (Rep.str.mpr rfl)$ aA.cons (Rep.str.mpr rfl) aA.nil⟩
   .cases hf⟩
def zk(f:FD)(fs:au->R (List D)):au->R (List D):=λδ=>(f δ).bind λd=>(fs δ).bind λds=>match d,ds with
 | .str x,[.str y]=>R.aX (decide$ (y.length==0)=false/\x.length<=sizeLine/\(Txt.split x y).length<=sizeLine/\(partsBetween x (occurrences x y 0 x.length$ x.length+1) y.length).length<=sizeLine)$ .ok$ (Txt.split x y).map .str
 | _,_=> .no
def HZ:Vo X "str.split" (λx xs H Q=>∃a y,x= .str a/\xs=[.str y]/\((y.length==0)=false/\a.length<=sizeLine/\(Txt.split a y).length<=sizeLine/\(partsBetween a (occurrences a y 0 a.length$ a.length+1) y.length).length<=sizeLine)/\∀p H',aR H H'->H p=none->H' p=some (.lst$ (Txt.split a y).map V.str)->Q (.ref p) H'):=by
 intro pins s σ H x xs v us Q I rx rxs ⟨a,y,e1,e2,⟨hy,hz,hn,hp⟩,q⟩;subst e1;subst e2;obtain⟨t,rfl⟩:=rx;obtain⟨u,rfl,ru⟩:=vals1 rxs;obtain⟨tu,rfl⟩:=ru;refine Ag hy (λl k hl=>?_) hz hp
 have hf:H s.heap.objs.size=none:=I.hok.fresh$ Qak _;refine⟨.ref s.heap.objs.size,upd H s.heap.objs.size$ .lst$ (l.map (·.1)).map V.str,I.laid (a:=s.heap.objs.size) (λb o q=>Qau _ q) (Qak _) ⟨?_,strValues l,0,qd l,QaY _ rfl⟩,rfl,?_⟩
 .rw [Qaa,hl];exact hn
 .rw [hl];exact q _ _ (bA hf) hf aZ
def Ff{o e:Expr}{f:FD}{fs:au->R (List D)}{apos aW:Pos}(ho:QD X o f)(ha:Fe X [e] fs)
 (dM:attributeBase o "split" X.env (eval o X.env)=eval o X.env:=by rfl)
 (i_:((backTo aW$ starEach [e] X.env).all (λx=>!x.1) && (backToKw aW$ keywordEach [] X.env).all (λx=>x.1.isSome)
   && decide (([e]:List Expr).length+([]:List Keyword).length+(if([]:List Keyword).isEmpty then 0 else 1)<30))=true:=by rfl)
 (dO:(apos.endLine==aW.line)=true:=by rfl) (hs:starEach [e] X.env=(false,eval e X.env) ::starEach [] X.env:=by rfl) :
 QN X (.Call (.Attribute o "split" apos) [e] [] aW) (zk f fs):=
 ⟨(xO Qb2 Qb4 F.type_str_split HZ ho.1 ha.1 dM i_ dO hs rfl).imp λσ H Q ⟨Z,B,δ,ds,E,hf,q⟩=>by
   obtain⟨d1,h1,h2⟩:=R.aj hf;obtain⟨d2,h3,h4⟩:=R.aj h2;split at h4
   .rename_i x y;obtain⟨h5,h6⟩:=R.aL h4;cases h6;refine⟨Z,B,δ, .str x,E,h1,λv1 H1 s1 r1=>⟨?_,Z,B,δ,[.str y],E.same s1,h3,λvs H2 s2 r2=>?_⟩⟩
    .rw [Rep.str.mp r1];rfl
    .obtain⟨z,rfl,r⟩:=r2.one;refine⟨x,y,Rep.str.mp r1,by rw[Rep.str.mp r],Qae h5,λp H' s3 n e=>q p _ H' (s1.trans$ s2.trans s3) ?_ e$ pk _⟩
     cases e1:H p with
     | none=>rfl
     | some o=>rw [(s1.trans s2) p o e1] at n;cases n
   .cases h4⟩
end
end L2
end
section
set_option maxHeartbeats 4000000
namespace NT
def mx(f:Nat->Nat)(w:List Nat):Nat:=(w.map f).foldl max 0
structure BA (f:Nat->Nat) (M:Nat) (bs:List Int):Prop where
 a:∀(z:Nat) (v:Int),bs[z]? =some v->v= -1\/(0<=v/\v+f z<=M)
def BB(f:Nat->Nat)(M:Nat)(bs:List Int)(n:Nat):Prop:=∃(z:Nat) (v:Int),z<n/\bs[z]? =some v/\0<=v/\(M:Int)<=v+f z
def Up(bs bs':List Int):Prop:=bs'.length=bs.length/\∀(z:Nat) (v:Int),bs[z]? =some v->∃v',bs'[z]? =some v'/\v<=v'
end NT
namespace NT
open PySem PySem.Spec PyProof.Rows L2 L3
structure Gt where
 k:Str
 w:List Nat
 s:Bool
def nN(z:Nat):D:= .int z
def wN(w:List Nat):D:= .tup$ w.map nN
def gN(g:Gt):D:= .tup [.str g.k,wN g.w, .bl g.s]
def iN(x:Str × Nat):D:= .tup [.str x.1, .int x.2]
def oN(x:Str × List Nat):D:= .tup [.str x.1,wN x.2]
structure Net where
 i:Aac
 g:List Gt
 o:Aad
def Net.d(n:Net):D:= .tup [.lst$ n.i.map iN, .lst$ n.g.map gN, .lst$ n.o.map oN]
def Net.first(n:Net):Nat:=(n.i.map (·.2)).sum
structure Z3 (n:Nat) (w:List Nat):Prop where
 ne:w≠[]
 le:w.length<=3
 lt:∀z∈w,z<n
structure Net.Ok (n:Net):Prop where
 i1:1<=n.i.length
 i6:n.i.length<=6
 iw:∀x∈n.i,1<=x.2/\x.2<=3
 is:∀x∈n.i,yb 0 (.str x.1)
 g60:n.g.length<=60
 gw:∀(p:Nat) (g:Gt),n.g[p]? =some g->Z3 (n.first+p) g.w
 gs:∀g∈n.g,yb 0 (.str g.k)
 o1:1<=n.o.length
 o6:n.o.length<=6
 ow:∀x∈n.o,Z3 (n.first+n.g.length) x.2
 os:∀x∈n.o,yb 0 (.str x.1)
theorem BX:∀{l:Aac},(∀x∈l,1<=x.2/\x.2<=3)->l.length<=(l.map (·.2)).sum/\(l.map (·.2)).sum<=3*l.length
 | [],_=>by simp
 | x ::l,h=>by
   have ih:=BX (l:=l) λy hy=>h y$ Qab _ hy
   have:=h x Qai;rw[Qay,Qb7,QaI];omega
inductive Sm:Nat->D->Prop where
 | int (n:Nat) (i:Int):Sm n (.int i)
 | bl (n:Nat) (b:Bool):Sm n (.bl b)
 | str (n:Nat) (s:Str):Sm n (.str s)
 | lst {n:Nat} {ds:List D} (h:∀d∈ds,Sm n d) (hl:ds.length<=1000000):Sm (n+1) (.lst ds)
 | tup {n:Nat} {ds:List D} (h:∀d∈ds,Sm n d) (hl:ds.length<=1000000):Sm (n+1) (.tup ds)
def uO{F G:FS}{δ:au}{d:D}(h:F δ= .ok (.rt d)):bD F G δ= .ok (.rt d):=by unfold bD;rw [h];rfl
def Ib(S:aP)(x:SO):(S++[x])[S.length]? =some x:=by rw[Qal$ Qak _,QbA];rfl
def wq{α:Type}{l:List α}{f:α->D}{i:Nat}{v:V3}(h:((l.map f).map V3.d)[i]? =some v):∃x,l[i]? =some x/\v= .d (f x):=by
 rw[Qad,Qad] at h;cases q:l[i]? with
 | none=>rw [q] at h;cases h
 | some x=>rw [q] at h;cases h;exact⟨x,rfl,rfl⟩
def oq{α:Type}{l:List α}{f:α->D}{i:Nat}{v:D}(h:(l.map f)[i]? =some v):∃x,l[i]? =some x/\v=f x:=by
 rw[Qad] at h;cases q:l[i]? with
 | none=>rw [q] at h;cases h
 | some x=>rw [q] at h;cases h;exact⟨x,rfl,rfl⟩
theorem cT{α:Type}{t:FT}{c:au->R Bool}{f:FD}{δ:au}(a b:α->D):∀{xs:List α},(∀x∈xs,∃δ1,t (a x) δ= .ok δ1/\c δ1= .ok true/\f δ1= .ok (b x))->sj t c f δ (xs.map a)= .ok (xs.map b)
 | [],_=>rfl
 | x ::xs,h=>by
   obtain⟨δ1,h1,h2,h3⟩:=h x Qai;have ih:=cT (t:=t) (c:=c) (f:=f) (δ:=δ) a b (xs:=xs) λy hy=>h y$ Qab _ hy
   rw[Qay];unfold sj;rw[h1,R.aK,h2,R.aK,Qap rfl,h3,R.aK,ih];rfl
theorem q_{α:Type}{t:FT}{c:au->R Bool}{f:FD}{δ:au}(p:α->Bool)(a b:α->D):∀{xs:List α},(∀x∈xs,∃δ1,t (a x) δ= .ok δ1/\c δ1= .ok (p x)/\(p x=true->f δ1= .ok (b x)))->sj t c f δ (xs.map a)= .ok ((xs.filter p).map b)
 | [],_=>rfl
 | x ::xs,h=>by
   obtain⟨δ1,h1,h2,h3⟩:=h x Qai;have ih:=q_ (t:=t) (c:=c) (f:=f) (δ:=δ) p a b (xs:=xs) λy hy=>h y$ Qab _ hy
   rw[Qay];unfold sj;rw[h1,R.aK,h2,R.aK];cases e:p x with
   | true=>rw [Qap rfl,h3 e,R.aK,ih,List.filter_cons,Qap e];rfl
   | false=>rw [Qaj (by decide),ih,List.filter_cons,Qaj$ by rw[e];decide]
def rT{n z:Nat}(h:z<n):FU n (z:Int)=some z:=by
 unfold FU;rw[Qap (by omega),Qap$ by omega]
 simp
def G0{α:Type}{xs:List α}{z:Nat}{x:α}(h:xs[z]? =some x):zj xs (z:Int)=some x:=by
 have hl:=(Qah.mp h).1;unfold zj;rw[rT hl];exact h
def cm{ds:List D}{z:Nat}{x:D}(h:ds[z]? =some x):du (.lst ds) (.int z)= .ok x:=P_$ G0 h
end NT
end
section
namespace MT
open PySem PySem.Spec PyProof.Rows L2 L3
abbrev M:=Nat->Bool
def Wn{N:List Str}{F:FZ}{vs:List V3}{δ:DE}{S:aP}{QV:V3->aP->Prop}(e:fm N vs=δ)(h:W3 (F δ S) λo S1=>∃dh,o= .nx dh/\QV (.d .cM) S1):W3 (uu N F vs S) QV:=by
 subst e;exact W3.bind (h.mono λ_ _ ⟨_,e,q⟩=>by subst e;exact W3.ok q)
def Y0:Nat->M->Nat
 | 0,_=>0
 | N+1,f=>(if f 0 then 1 else 0)+2*Y0 N (λi=>f$ i+1)
def mI(N:Nat)(f:M):D:= .int (Y0 N f:Nat)
def one:M:=λ_=>true
def bI(b:Bool):D:= .int$ if b then 1 else 0
def mkL:List Bool->Nat
 | []=>0
 | b ::bs=>(if b then 1 else 0)+2*mkL bs
def nI(n:Nat):D:= .int (n:Int)
def kS:Nat->Str | 0=>"not" | 1=>"and" | 2=>"or" | 3=>"xor" | _=>"vote"
def ar:Nat->Nat | 0=>1 | 4=>3 | _=>2
def Bo(k:Nat):ar k<=3:=by unfold ar;split <;> omega
def gv:Nat->List Bool->Bool
 | 0,[a]=>!a
 | 1,[a,b]=>a && b
 | 2,[a,b]=>a || b
 | 3,[a,b]=>a !=b
 | 4,[a,b,c]=>(a && b) || (a && c) || (b && c)
 | _,_=>false
def Y2(ws:List M)(n:Nat):M:=ws.getD n λ_=>false
abbrev Gt:=Nat × List Nat × Bool
def qw(g:Gt):D:= .tup [.str$ kS g.1, .tup$ g.2.1.map nI, .bl g.2.2]
def KN(n:Nat)(g:Gt):Prop:=g.1<=4/\g.2.1.length=ar g.1/\∀w∈g.2.1,w<n
def inD(x:Str × Nat):D:= .tup [.str x.1,nI x.2]
def xj(x:Str × List Nat):D:= .tup [.str x.1, .tup$ x.2.map nI]
def qt(ins:Aac)(gs:List Gt)(os:Aad):D:= .tup [.lst$ ins.map inD, .lst$ gs.map qw, .lst$ os.map xj]
def pE(ins:Aac):Nat:=(ins.map (·.2)).sum
def gF(g:Gt)(ws:List M):M:=λp=>gv g.1$ g.2.1.map λn=>Y2 ws n p
def G4(bad:List Int)(b:M):Nat->List M->List M
 | 0,ws=>ws
 | n+1,ws=>G4 bad b n ws++[λp=>b p !=bad.contains ((G4 bad b n ws).length:Int)]
def Pg(ins:Aac)(bits:List M)(bad:List Int):Nat->List M
 | 0=>[]
 | i+1=>match ins[i]?,bits[i]? with | some x,some b=>G4 bad b x.2 (Pg ins bits bad i) | _,_=>Pg ins bits bad i
def UW(gs:List Gt)(turned:List Int)(w0:List M):Nat->List M
 | 0=>w0
 | i+1=>match gs[i]? with | some g=>UW gs turned w0 i++[λp=>gF g (UW gs turned w0 i) p !=turned.contains (i:Int)] | none=>UW gs turned w0 i
structure ZS (ins:Aac) (gs:List Gt) (os:Aad):Prop where
 hi:ins.length<100
 hw:∀x∈ins,x.2<100
 hg:gs.length<1000
 g:∀(i:Nat) (x:Gt),gs[i]? =some x->KN (pE ins+i) x
 ho:os.length<1000
 o:∀x∈os,x.2.length<1000/\∀w∈x.2,w<pE ins+gs.length
def aaF(ins:Aac)(gs:List Gt)(bits:List M)(turned bad:List Int):List M:=UW gs turned (Pg ins bits bad ins.length) gs.length
def tell(ws:List M)(x:Str × List Nat):List M:=x.2.map$ Y2 ws
def rd2:List Bool->Bool × Bool
 | [a]=>(!a,a)
 | [a,b]=>(!(a || b),a && b)
 | [a,b,c]=>let v:=(a && b) || (a && c) || (b && c);(!v,v)
 | _=>(false,false)
def brk(safe:Bool)(x y:Bool × Bool):Bool:=if safe then(x.1 && y.2) || (x.2 && y.1) else(x.1 !=y.1) || (x.2 !=y.2)
def chs:List Nat->Nat->Aae
 | _,0=>[[]]
 | ps,s+1=>(List.range ps.length).flatMap λa=>(chs (ps.drop$ a+1) s).map (ps.getD a 0 ::·)
theorem we:∀{l:List Nat} {m:Nat},(∀x∈l,x<=m)->l.sum<=l.length*m
 | [],_,_=>by simp
 | x ::l,m,h=>by
   have:=we (l:=l) (m:=m) λy hy=>h y$ Qab _ hy
   have h0:=h x Qai;rw[Qb7,QaI,Nat.add_mul];omega
def BL{F G:FZ}{δ:DE}{S:aP}{QO:Ou->aP->Prop}(h:W3 (F δ S) λo S1=>match o with | .nx δ1=>W3 (G δ1 S1) QO | .rt v=>QO (.rt v) S1):W3 (cx F G δ S) QO:=
 W3.bind (h.mono λo S1 q=>by cases o with | nx δ1=>exact q | rt v=>exact W3.ok q)
end MT
end
section
set_option maxHeartbeats 1000000
namespace JT
open PySem PySem.Spec PyProof.Rows L2 L3 MT
def gB(g:Gt)(ws:List Bool):Bool:=gv g.1$ g.2.1.map λn=>ws.getD n false
def yC:List Gt->(Nat->Bool)->List Bool->List Bool
 | [],_,ws=>ws
 | g ::gs,T,ws=>yC gs (λi=>T$ i+1)$ ws++[gB g ws !=T 0]
def Sy(f:Nat->Nat)(g:Gt):Gt:=(g.1,g.2.1.map f,g.2.2)
def abD(f:Nat->Nat)(x:Str × List Nat):Str × List Nat:=(x.1,x.2.map f)
def Sh(f:Nat->Nat)(v ws:List Bool):Prop:=∀w,w<v.length->f w<ws.length/\ws.getD (f w) false=v.getD w false
def atP(p:Nat)(ws:List M):List Bool:=ws.map (· p)
def zO:List (Str × Nat)->List Bool->List Bool
 | x ::ins,b ::bits=>List.replicate x.2 b++zO ins bits
 | _,_=>[]
def JC(k:Nat)(bad:Nat->Bool):List Bool->List Bool
 | []=>[]
 | b ::bs=>(b !=bad k) ::JC (k+1) bad bs
def Xc(ins:Aac)(gs:List Gt)(bits:List Bool)(T bad:Nat->Bool):List Bool:=yC gs T$ JC 0 bad$ zO ins bits
def zU(ws:List Bool)(ns:List Nat):List Bool:=ns.map λn=>ws.getD n false
def Hj(f:Nat->List Bool):List (Option Nat × Nat)->List Bool->List Bool
 | [],_=>[]
 | (some o,_) ::r,l=>f o++Hj f r l
 | (none,w) ::r,l=>l.take w++Hj f r (l.drop w)
def Md(f1:Nat->Nat)(os:Nat->List Nat):List (Option Nat × Nat)->Nat->List Nat
 | [],_=>[]
 | (some o,_) ::r,free=>(os o).map f1++Md f1 os r free
 | (none,w) ::r,free=>List.range' free w++Md f1 os r (free+w)
def wu:List (Option Nat × Nat)->Nat
 | []=>0
 | (some _,_) ::r=>wu r
 | (none,w) ::r=>w+wu r
def WM(n1 l w:Nat):Nat:=if w<n1 then w else w+l
def Z1(L:List Nat)(top w:Nat):Nat:=if w<L.length then L.getD w 0 else top+(w - L.length)
section
variable {gs1 Rp:List Gt}{φ:List (Option Nat × Nat)}{os:Nat->List Nat}{n1:Nat}
def gJ(gs1 Rp:List Gt)(φ:List (Option Nat × Nat))(os:Nat->List Nat)(n1:Nat):List Gt:=
 gs1.map (Sy$ WM n1$ wu φ)++Rp.map (Sy$ Z1 (Md (WM n1$ wu φ) os φ n1)$ n1+wu φ+gs1.length)
end
def Rg(bits:List Bool):List Bool:=bits.flatMap$ List.replicate 3
def ZF:List Bool->Bool
 | [a,b,c]=>(a && b) || (a && c) || (b && c)
 | _=>false
def Zt:List Bool->Bool
 | [a,b,c]=>(a !=b) || (a !=c)
 | _=>false
def dif(xs ys:List Bool):List Bool:=List.zipWith (· !=·) xs ys
def lst(xs ys:List Bool):Bool:=ZF$ dif xs ys
def RX:List Bool->List Bool->Prop
 | [],r=>r=[]
 | b ::bs,r=>∃x y z r',r=x ::y ::z ::r'/\ZF [b !=x,b !=y,b !=z]=false/\RX bs r'
def no:Nat->Bool:=λ_=>false
structure aaA (c:Nat) (gs:List Gt) (os:Aad):Prop where
 a:∀bits:List Bool,bits.length=c->∀x∈os,Zt (zU (yC gs no (Rg bits)) x.2)=false
 b:∀bits:List Bool,bits.length=c->∀i g,gs[i]? =some g->g.2.2=false->∀x∈os,lst (zU (yC gs no (Rg bits)) x.2) (zU (yC gs (fun j=>j==i) (Rg bits)) x.2)=false
 c:∀bits row:List Bool,bits.length=c->RX bits row->∀x∈os,lst (zU (yC gs no (Rg bits)) x.2) (zU (yC gs no row) x.2)=false
def EB(v:Nat->Bool):List (Option Nat × Nat)->List Bool->List Bool
 | [],_=>[]
 | (some o,_) ::r,l=>v o ::EB v r l
 | (none,_) ::r,l=>l.headD false ::EB v r l.tail
def many:List (Option Nat × Nat)->Nat
 | []=>0
 | (some _,_) ::r=>many r
 | (none,_) ::r=>many r+1
structure Jnd (c1:Nat) (gs1 Rp:List Gt) (Um U2:Aad) (φ:List (Option Nat × Nat)) (os:Nat->List Nat):Prop where
 h3:∀x∈φ,x.2=3
 g1:∀i g,gs1[i]? =some g->∀w∈g.2.1,w<3*c1+i
 g2:∀i g,Rp[i]? =some g->∀w∈g.2.1,w<3*φ.length+i
 o1:∀x∈Um,x.2.length=3/\∀n∈x.2,n<3*c1+gs1.length
 o2:∀x∈U2,x.2.length=3/\∀n∈x.2,n<3*φ.length+Rp.length
 ho:∀o w,(some o,w)∈φ->∃x∈Um,x.2=os o
section
variable {c1:Nat}{gs1:List Gt}{Um U2 osJ:Aad}{φ:List (Option Nat × Nat)}{os:Nat->List Nat}
abbrev ZR(c1:Nat)(φ:List (Option Nat × Nat)):Nat->Nat:=WM (3*c1)$ wu φ
abbrev Jf2(c1:Nat)(gs1:List Gt)(φ:List (Option Nat × Nat))(os:Nat->List Nat):Nat->Nat:=Z1 (Md (ZR c1 φ) os φ$ 3*c1)$ 3*c1+wu φ+gs1.length
def Y6(c1:Nat)(gs1:List Gt)(Um U2 osJ:Aad)(φ:List (Option Nat × Nat))(os:Nat->List Nat):Prop:=
 ∀x∈osJ,(∃y∈Um,x.2=y.2.map (ZR c1 φ))\/∃y∈U2,x.2=y.2.map (Jf2 c1 gs1 φ os)
end
def Il:Nat->List (List Bool)
 | 0=>[[]]
 | c+1=>(Il c).flatMap λb=>[b++[false],b++[true]]
def inM(c j:Nat):M:=λp=>((Il c).getD p []).getD j false
def acr(c:Nat):List M:=(List.range c).map$ inM c
def MU(c p:Nat):List Bool:=(Il c).getD p []
def Zy(f e:Nat):Nat->Aae
 | 0=>[[]]
 | m+1=>(List.range' f$ e - f).flatMap λw=>(Zy ((w / 3+1)*3) e m).map (w ::·)
def Ok3(f e:Nat):List Nat->Prop
 | []=>True
 | w ::B=>f<=w/\w<e/\Ok3 ((w / 3+1)*3) e B
def VY(c:Nat)(gs:List Gt):List (List Nat × List Nat):=
 (gs.zipIdx.filter$ λx=>!x.1.2.2).map (λx=>(([]:List Nat),[x.2]))++(List.range' 1 c).flatMap λm=>(Zy 0 (3*c) m).map λB=>(B,([]:List Nat))
def HN(c:Nat)(gs:List Gt)(p:Nat):List Bool:=yC gs no$ Rg$ MU c p
def Of(c:Nat)(gs:List Gt)(f:List Nat × List Nat)(p:Nat):List Bool:=yC gs (λi=>f.2.contains i)$ JC 0 (λn=>f.1.contains n)$ Rg$ MU c p
def Vy(c:Nat)(gs:List Gt)(os:Aad)(p:Nat):Bool:=os.any λx=>Zt$ zU (HN c gs p) x.2
def T9(c:Nat)(gs:List Gt)(os:Aad)(f:List Nat × List Nat)(p:Nat):Bool:=os.any λx=>lst (zU (HN c gs p) x.2)$ zU (Of c gs f p) x.2
def W9(c:Nat)(gs:List Gt)(os:Aad):Option (List Nat × List Nat × Nat):=
 match (List.range$ 2 ^ c).find? (Vy c gs os) with
 | some p=>some ([],[],p)
 | none=>(VY c gs).findSome? λf=>((List.range$ 2 ^ c).find?$ T9 c gs os f).map λp=>(f.1,f.2,p)
def dZ{a b:Nat}(h:0<b):cX (nI a) (nI b)= .ok (nI$ a % b):=by
 show cX (.int a) (.int b)=_;rw[qX$ by omega];rfl
def rM{a b:Nat}(h:0<b)(h2:b<1073741824):dY (nI a) (nI b)= .ok (nI$ a / b):=by
 show dY (.int a) (.int b)=_;rw[Ef (by omega)$ by omega];rfl
def mC(a b:Nat):bu (nI a) (nI b)= .ok (nI$ a+b):=rfl
def Dz{a b:Nat}(h:b<=a):B0 (nI a) (nI b)= .ok (nI$ a - b):=by
 show R.ok (D.int$ (a:Int) - b)=R.ok (D.int ((a - b:Nat):Int));rw[Int.ofNat_sub h]
def TL{a b:Nat}(h:b<1000000\/a<1000000):jK (nI a) (nI b)= .ok (nI$ a*b):=by
 show R.aX (decide _) (R.ok$ D.int$ (a:Int)*b)=_;have hc:(-(2 ^ 64)<(a:Int)/\(a:Int)<2 ^ 64)\/(-(2 ^ 64)<(b:Int)/\(b:Int)<2 ^ 64):=by
  rcases h with h | h
  .exact .inr ⟨by omega,by omega⟩
  .exact .inl ⟨by omega,by omega⟩
 rw[bG _ hc];rfl
def uq(a b:Nat):sS (nI a) (nI b)= .ok (.bl$ decide$ a=b):=by
 show R.ok (D.bl$ (a:Int)==(b:Int))=_;congr 2;by_cases h:a=b
 .rw [Qac h];exact Qa3.mpr (by omega)
 .rw [Qaf h];exact QaQ.mpr (by omega)
def Kk(a b:Nat):Q0 (nI a) (nI b)= .ok (.bl$ decide$ b<a):=by
 show R.ok (D.bl$ decide$ (a:Int) > (b:Int))=_;congr 2;by_cases h:b<a
 .rw [Qac h,Qac$ by omega]
 .rw [Qaf h,Qaf$ by omega]
def EN(a b:Nat):OR (nI a) (nI b)= .ok (.bl$ decide$ a<b):=by
 show R.ok (D.bl$ decide$ (a:Int)<(b:Int))=_;congr 2;by_cases h:a<b
 .rw [Qac h,Qac$ by omega]
 .rw [Qaf h,Qaf$ by omega]
def PR(a b:Nat):P0 (nI a) (nI b)= .ok (.bl$ decide$ b<=a):=by
 show R.ok (D.bl$ decide$ (a:Int)>=(b:Int))=_;congr 2;by_cases h:b<=a
 .rw [Qac h,Qac$ by omega]
 .rw [Qaf h,Qaf$ by omega]
def WB(a b:Nat):WQ (nI a) (nI b)= .ok (.bl$ decide$ a<=b):=by
 show R.ok (D.bl$ decide$ (a:Int)<=(b:Int))=_;congr 2;by_cases h:a<=b
 .rw [Qac h,Qac$ by omega]
 .rw [Qaf h,Qaf$ by omega]
def Ss{a b:Nat}:DL [nI a,nI b]= .ok (nI$ min a b):=by
 show IA [.int a, .int b]=_;unfold IA;show R.ok (D.int$ if(b:Int)<a then b else a)=_
 unfold nI;congr 2;split <;> omega
def fZ{ds:List D}:kZ [.lst ds]= .ok (nI ds.length):=rfl
def uh{f:FD}{δ:au}{n:Nat}(h:f δ= .ok (nI n))(hn:n<1000000):f7 f δ= .ok ((List.range n).map nI):=by
 rw[LD h hn];unfold uD;congr 1;refine List.map_congr_left λi _=>?_
 show D.int (0+(i:Int))=D.int (i:Int);rw[Int.zero_add]
def tpN(T:List Nat):D:= .tup$ T.map nI
def kdN(r:Nat):Nat:=[1,2,3,4,0].getD (r % 5) 0
def T6{f:FD}{δ:au}{k:Nat}(hk:k<=4)(h:f δ= .ok (.str$ kS k)):G3 [((Sum.inr "not":Key),V.int 1),((Sum.inr "vote":Key),V.int 3)] f (eC$ .int 2) δ= .ok (nI$ ar k):=by
 unfold G3;rw[h,R.aK]
 match k,hk with
 | 0,_=>rfl
 | 1,_=>rfl
 | 2,_=>rfl
 | 3,_=>rfl
 | 4,_=>rfl
end JT
end
section
namespace TX
open PySem PySem.Spec PyProof.Rows L2 Builtin Builtin.Str
abbrev SP:Str:=Str.ofString " "
abbrev NL:Str:=Str.ofString "\n"
abbrev CO:Str:=Str.ofString ":"
def qC:SP=⟨#[32]⟩:=by decide+kernel
def Jl:NL=⟨#[10]⟩:=by decide+kernel
def sG:CO=⟨#[58]⟩:=by decide+kernel
def jn(c:Nat):List (List Nat)->List Nat
 | []=>[]
 | [x]=>x
 | x ::y ::r=>x++c ::jn c (y ::r)
theorem eN(c:Nat):∀l:List Str,(Str.join ⟨#[c]⟩ l).cps.toList=jn c (l.map λs=>s.cps.toList)
 | []=>rfl
 | [x]=>rfl
 | x ::y ::r=>by
   show(x++(⟨#[c]⟩:Str)++Str.join ⟨#[c]⟩ (y ::r)).cps.toList=_;rw[bq,bq,eN c (y ::r),QaE];rfl
theorem Dx{c:Nat}:∀{x x' a b:List Nat},c ∉ x->c ∉ x'->x++c ::a=x'++c ::b->x=x'/\a=b
 | [],[],a,b,_,_,h=>by cases h;exact⟨rfl,rfl⟩
 | [],y ::ys,a,b,_,h2,h=>by
   have:c=y:=(Qbc h).1;exact absurd (by rw[this];exact Qai) h2
 | y ::ys,[],a,b,h1,_,h=>by
   have:y=c:=(Qbc h).1;exact absurd (by rw[this];exact Qai) h1
 | y ::ys,z ::zs,a,b,h1,h2,h=>by
   obtain⟨e1,e2⟩:=Qbc h;obtain⟨e3,e4⟩:=Dx (λq=>h1$ Qab _ q) (λq=>h2$ Qab _ q) e2
   exact⟨by rw[e1,e3],e4⟩
theorem Js{c:Nat}:∀{l l':Aae},l≠[]->l'≠[]->(∀x∈l,c ∉ x)->(∀x∈l',c ∉ x)->jn c l=jn c l'->l=l'
 | [],_,h,_,_,_,_=>absurd rfl h
 | _,[],_,h,_,_,_=>absurd rfl h
 | [x],[y],_,_,_,_,e=>by rw[show x=y from e]
 | [x],y ::z ::r,_,_,h1,_,e=>by
   have e:x=y++c ::jn c (z ::r):=e;exact absurd (by rw[e];simp)$ h1 x Qai
 | y ::z ::r,[x],_,_,_,h2,e=>by
   have e:y++c ::jn c (z ::r)=x:=e;exact absurd (by rw[<-e];simp)$ h2 x Qai
 | x ::x2 ::r,y ::y2 ::s,_,_,h1,h2,e=>by
   obtain⟨e1,e2⟩:=Dx (h1 x Qai) (h2 y Qai) (show x++c ::jn c (x2 ::r)=y++c ::jn c (y2 ::s) from e)
   rw[e1,Js (by simp) (by simp) (λz hz=>h1 z$ Qab _ hz) (λz hz=>h2 z$ Qab _ hz) e2]
theorem map_inj{α β:Type}{f:α->β}(hf:∀a b,f a=f b->a=b):∀{l l':List α},l.map f=l'.map f->l=l'
 | [],[],_=>rfl
 | [],_ ::_,h=>by cases h
 | _ ::_,[],h=>by cases h
 | a ::l,b ::l',h=>by
   obtain⟨e1,e2⟩:=Qbc h;rw[hf a b e1,map_inj hf e2]
def om{c:Nat}{l:List Str}(rE:l≠[])(hf:∀p∈l,c ∉ p.cps.toList):Txt.split (Str.join ⟨#[c]⟩ l) ⟨#[c]⟩=l:=by
 have h1:=StrLaws.join_split (Str.join ⟨#[c]⟩ l) ⟨#[c]⟩;have h2:=StrLaws.split_free (Str.join ⟨#[c]⟩ l) c;have h3:=split_pos (Str.join ⟨#[c]⟩ l) ⟨#[c]⟩;generalize Txt.split (Str.join ⟨#[c]⟩ l) ⟨#[c]⟩=m at h1 h2 h3;have h4:jn c (m.map λs=>s.cps.toList)=jn c (l.map λs=>s.cps.toList):=by rw[<-eN,<-eN,h1]
 refine map_inj (λa b e=>cW e)$ Js ?_ ?_ ?_ ?_ h4
 .intro q;rw [List.map_eq_nil_iff] at q;rw [q] at h3;simp at h3
 .intro q;rw [List.map_eq_nil_iff] at q;exact rE q
 .intro x hx;obtain⟨s,hs,rfl⟩:=QaT.mp hx;exact h2 s hs
 .intro x hx;obtain⟨s,hs,rfl⟩:=QaT.mp hx;exact hf s hs
def uW{x:Str}{c:Nat}(h:x.length<=10000000):sT (.str x) [.str ⟨#[c]⟩]= .ok (.lst$ (Txt.split x ⟨#[c]⟩).map .str):=by
 have hz:=Qav;have h1:=split_le x ⟨#[c]⟩;have h2:=StrLaws.occ_length_le x ⟨#[c]⟩ 0 x.length$ x.length+1;refine bG _ ⟨rfl,by omega,by omega,?_⟩
 unfold partsBetween;simp;omega
abbrev mr:List Str:=[Str.ofString "in",Str.ofString "gate",Str.ofString "sure",Str.ofString "out",Str.ofString "not",Str.ofString "and",Str.ofString "or",Str.ofString "xor",Str.ofString "vote"]
def low(s:Str):Bool:=s.cps.toList.all λc=>decide$ 97<=c/\c<=122
def isNm(s:Str):Bool:=decide (1<=s.length) && (decide (s.length<=8) && (!mr.contains s && low s))
def cD{s:Str}:isNm s=true↔1<=s.length/\s.length<=8/\s ∉ mr/\∀c∈s.cps.toList,97<=c/\c<=122:=by
 unfold isNm low;simp only[QaL,Qa6,Qcj,QaJ];constructor
 .rintro⟨h1,h2,h3,h4⟩;refine⟨h1,h2,λq=>?_,h4⟩
  have h5:=QaH.mpr q;rw[h3] at h5;cases h5
 .rintro⟨h1,h2,h3,h4⟩;refine⟨h1,h2,?_,h4⟩;cases h:mr.contains s with
  | false=>rfl
  | true=>exact absurd (QaH.mp h) h3
abbrev LJ:Str:=Str.ofString "abcdefghijklmnopqrstuvwxyz"
def yi:LJ.cps.toList=(List.range 26).map (97+·):=by decide+kernel
def DK{c:Nat}:c∈LJ.cps.toList↔97<=c/\c<=122:=by
 rw[yi,QaT];constructor
 .rintro⟨i,hi,rfl⟩;have:=Qbm.mp hi;omega
 .intro h;exact⟨c - 97,Qbm.mpr (by omega),by omega⟩
def O9(c:Nat):Ce (.str ⟨#[c]⟩) (.str LJ)= .ok (.bl$ decide$ 97<=c/\c<=122):=by
 show R.ok (D.bl$ !(occurrences LJ ⟨#[c]⟩ 0 LJ.length 1).isEmpty)=_;rw[StrLaws.found_one];congr 2;by_cases h:97<=c/\c<=122
 .rw [Qac h,Qac$ DK.mpr h]
 .rw [Qaf h,Qaf λq=>h$ DK.mp q]
def tG{x:Str}{c:Nat}(h:c ∉ x.cps.toList):iO x ⟨#[c]⟩=[x,Str.empty,Str.empty]:=by
 have h1:=StrLaws.found_one x c;rw[Qaf h] at h1;unfold iO;cases ho:occurrences x ⟨#[c]⟩ 0 x.length 1 with
 | nil=>rfl
 | cons i r=>rw [ho] at h1;cases h1
def ql{x a b:Str}{c:Nat}(h:c ∉ a.cps.toList)(e:x=a++⟨#[c]⟩++b):iO x ⟨#[c]⟩=[a,⟨#[c]⟩,b]:=by
 have Dl:x.cps.toList=a.cps.toList++c ::b.cps.toList:=by rw[e,bq,bq,QaE];rfl
 have hL:x.length=a.length+(b.length+1):=by
  show x.cps.size=a.cps.size+(b.cps.size+1);rw[<-Qa4,<-Qa4,<-Qa4,Dl];simp
 have hat:∀i,StrLaws.At x ⟨#[c]⟩ x.length i↔x.cps.toList[i]? =some c:=λi=>StrLaws.subAt_one x c i
 unfold iO;have ha:x.cps.toList[a.length]? =some c:=by
  rw[Dl,Qal$ by show a.cps.toList.length<=a.cps.size;simp]
  show(c ::b.cps.toList)[a.cps.size - a.cps.toList.length]? =_;simp
 rcases StrLaws.occ_head x ⟨#[c]⟩ 1 (Qak _) with⟨_,h1⟩ | ⟨i,r,e1,h1,h2⟩
 .exact absurd ((hat _).mpr ha) (h1 _)
 .have hi:i=a.length:=by
   have h3:¬a.length<i:=λq=>h2 _ q$ (hat _).mpr ha
   by_cases q:i<a.length
   .have h4:=(hat i).mp h1;rw[Dl,Qat$ by show i<a.cps.toList.length;rw [Qa4];exact q] at h4
    exact absurd (Qan h4) h
   .omega
  rw[e1,hi];have s1:strSub x 0 a.length=a:=cW (by
   show(x.cps.extract 0 a.length).toList=_;rw[Array.toList_extract,Dl];show(List.take (a.cps.size - 0)$ List.drop 0$ a.cps.toList++_)=_;simp)
  have s2:strSub x (a.length+(⟨#[c]⟩:Str).length) x.length=b:=cW (by
   show(x.cps.extract (a.length+1) x.length).toList=_;rw[Array.toList_extract,Dl,hL];show(List.take (a.cps.size+(b.cps.size+1) - (a.cps.size+1))$ List.drop (a.cps.size+1) (a.cps.toList++c ::b.cps.toList))=_;rw[show a.cps.size+1=(a.cps.toList++[c]).length by simp,show a.cps.toList++c ::b.cps.toList=(a.cps.toList++[c])++b.cps.toList by simp,List.drop_left,QaP$ by simp;omega])
  simp only;rw[s1,s2]
abbrev xg:List Str:=[Str.ofString "0",Str.ofString "1",Str.ofString "2",Str.ofString "3",Str.ofString "4",Str.ofString "5",Str.ofString "6",Str.ofString "7",Str.ofString "8",Str.ofString "9"]
def fV(w:Str):Bool:=isNm ((iO w CO).getD 0 Str.empty) && (((iO w CO).getD 1 Str.empty==Str.empty) || xg.contains ((iO w CO).getD 2 Str.empty))
def Ba{s:Str}(h:isNm s=true){c:Nat}(hc:c<97\/122<c):c ∉ s.cps.toList:=λq=>by
 have:=(cD.mp h).2.2.2 c q;omega
def HI(h:isNm s=true):fV s=true:=by
 unfold fV;rw[sG,tG$ Ba h$ by omega]
 show(isNm s && (Str.empty==Str.empty || _))=true
 rw[h];rfl
def NJ{s f:Str}(h:isNm s=true)(hf:f∈xg):fV (s++CO++f)=true:=by
 unfold fV;rw[show iO (s++CO++f) CO=[s,CO,f] by rw[sG];exact ql (Ba h$ by omega) rfl]
 show(isNm s && (_ || xg.contains f))=true
 rw[h,QaH.mpr hf,Bool.or_true];rfl
def HX(w c:Str):∃a b d,iO w c=[a,b,d]:=by
 unfold iO;split
 .exact⟨_,_,_,rfl⟩
 .exact⟨_,_,_,rfl⟩
abbrev Cb:List (Str × Int):=[(Str.ofString "1",1),(Str.ofString "2",2),(Str.ofString "3",3)]
abbrev A1:List (Str × Int):=[(Str.ofString "not",1),(Str.ofString "and",2),(Str.ofString "or",2),(Str.ofString "xor",2),(Str.ofString "vote",3)]
def wd(ws:List Str)(i:Nat):Str:=ws.getD i Str.empty
def uR(ws:List Str):Bool:=decide (ws.length=3) && ((wd ws 0==Str.ofString "in") && (isNm (wd ws 1) && (Cb.lookup$ wd ws 2).isSome))
def wD(ws:List Str):Bool:=(decide (4<=ws.length) && [Str.ofString "gate",Str.ofString "sure"].contains (wd ws 0)) && ((isNm (wd ws 1) && (A1.lookup$ wd ws 2).isSome) && (decide (((ws.drop 3).length:Int)=(A1.lookup$ wd ws 2).getD 0) && (ws.drop 3).all fV))
def wQ(ws:List Str):Bool:=(decide (3<=ws.length) && ((wd ws 0==Str.ofString "out") && isNm (wd ws 1))) && (decide ((ws.drop 2).length<=3) && (ws.drop 2).all fV)
section
variable {f g:FD}{p q:au->R Bool}{δ:au}{a b:Bool}
def n_(h:p δ= .ok a)(h2:a=false->q δ= .ok b):CW p q δ= .ok (a || b):=by
 unfold CW;rw [h,R.aK];cases a with
 | true=>rfl
 | false=>rw [Qaj$ by decide];exact h2 rfl
def uP(h:p δ= .ok a)(h2:a=true->q δ= .ok b):v8 p q δ= .ok (a && b):=by
 unfold v8;rw [h,R.aK];cases a with
 | true=>rw [Qap rfl];exact h2 rfl
 | false=>rfl
def qe(h:f δ= .ok (.bl a))(h2:a=true->g δ= .ok (.bl b)):wV f g δ= .ok (.bl$ a && b):=by
 unfold wV;rw [IB h,R.aK];cases a with
 | true=>rw [Qap rfl];exact h2 rfl
 | false=>rfl
def N4(h:f δ= .ok (.bl a))(h2:a=false->g δ= .ok (.bl b)):Sw f g δ= .ok (.bl (a || b)):=by
 unfold Sw;rw [IB h,R.aK];cases a with
 | true=>rfl
 | false=>rw [Qaj$ by decide];exact h2 rfl
def DJ(h:p δ= .ok a):Gg p δ= .ok (!a):=by unfold Gg;rw [h];rfl
def rN(h:f δ= .ok (.bl a)):yW f δ= .ok a:=by unfold yW;rw [h];rfl
def Du{c:au->R Bool}{G:FS}(h:c δ= .ok a)(h2:a=false->G δ= .ok (.rt$ .bl b)):bD (xB c (iL$ eC$ .bl false) qr) G δ= .ok (.rt$ .bl$ !a && b):=by
 cases a with
 | true=>exact NT.uO$ ug h rfl
 | false=>exact aJ (uk h rfl)$ h2 rfl
def x_{ws:List Str}{i:Nat}(h:i<ws.length):du (.lst$ ws.map .str) (.int i)= .ok (.str$ wd ws i):=by
 refine NT.cm ?_;rw[Qad,Qag h];unfold wd;rw[Qaz,Qag h];rfl
def vQ(x y:Str):sS (.str x) (.str y)= .ok (.bl$ x==y):=rfl
def IZ(x y:Str):Ma (.str x) (.str y)= .ok (.bl$ !(x==y)):=rfl
def Hc(x:Str)(ss:List Str):Ce (.str x) (.tup$ ss.map .str)= .ok (.bl$ ss.contains x):=by
 show((match strs? (ss.map D.str) with | some ss=>R.ok (ss.contains x) | none=> .no).bind _)=_
 rw[L2.strs_map];rfl
def BJ(x:Str)(ss:List Str):Ce (.str x) (.lst$ ss.map .str)= .ok (.bl$ ss.contains x):=by
 show((match strs? (ss.map D.str) with | some ss=>R.ok (ss.contains x) | none=> .no).bind _)=_
 rw[L2.strs_map];rfl
def PH(x:Str)(ss:List Str):mP (.str x) (.tup$ ss.map .str)= .ok (.bl$ !ss.contains x):=by
 show((match strs? (ss.map D.str) with | some ss=>R.ok (ss.contains x) | none=> .no).bind _)=_
 rw[L2.strs_map];rfl
def CS(x:Str)(ss:List Str):mP (.str x) (.lst$ ss.map .str)= .ok (.bl$ !ss.contains x):=by
 show((match strs? (ss.map D.str) with | some ss=>R.ok (ss.contains x) | none=> .no).bind _)=_
 rw[L2.strs_map];rfl
def Je(bs:List Bool):Hf [.lst$ bs.map D.bl]= .ok (.bl$ bs.all id):=by
 show(match bls? (bs.map D.bl) with | some bs=>R.ok (D.bl$ bs.all id) | none=> .no)=_
 rw[DX]
def len_str{x:Str}(h:x.length<=10000000):kZ [.str x]= .ok (MT.nI x.length):=by
 have hz:=Qav;exact bG _ (by omega)
def rY{ds:List D}{k:Nat}(h:k<=ds.length):JS (.lst ds) (some (k:Int)) none= .ok (.lst$ ds.drop k):=by
 show R.ok (D.lst$ L2.cutD ds (some (k:Int)) none)=_;unfold L2.cutD;rw[HT.qb,HT.si,QbR h,QaP$ by rw[Qbd];omega]
end
end TX
end
section
namespace TX
open PySem PySem.Spec PyProof.Rows L2 L3 MT
structure Dr where
 ins:Aac
 gs:List Gt
 os:Aad
 nm:List Str
 nu:List Str
def Dr.on(d:Dr):List Str:=d.os.map (·.1)
def zS(l:List Str):List (Key × D):=l.map λn=>(Sum.inr n, .bl true)
def JX(k:Nat)(l:List Str):List (Key × D):=(l.zipIdx k).map λp=>(Sum.inr p.1,nI p.2)
abbrev Rn(l:List Str):List (Key × D):=JX 0 l
def yV(l:List Str):(zS l).length=l.length:=by unfold zS;simp
def zh(k:Nat)(l:List Str):(JX k l).length=l.length:=by unfold JX;simp
def Ju(k:Nat)(y:Str)(l:List Str):JX k (y ::l)=(Sum.inr y,nI k) ::JX (k+1) l:=rfl
def Eu(y x:Str):decide ((Sum.inr y:Key)=Sum.inr x)=(y==x):=by
 by_cases h:y=x
 .subst h;simp
 .rw [QaQ.mpr h];exact Qaf λq=>h$ Sum.inr.inj q
theorem sM(x:Str):∀l:List Str,((zS l).find? λkv=>decide$ kv.1=Sum.inr x).map (·.2)=if x∈l then some (.bl true) else none
 | []=>rfl
 | y ::l=>by
   show(((Sum.inr y,D.bl true) ::zS l).find? λkv=>decide$ kv.1=Sum.inr x).map (·.2)=_
   rw[Qbq];simp only[Eu];by_cases h:y=x
   .subst h;simp
   .rw [QaQ.mpr h];rw[sM x l];have:x∈y ::l↔x∈l:=by simp [Qbz h]
    simp only[this]
def idx(l:List Str)(x:Str):Option Nat:=l.findIdx? (·==x)
theorem vb(x:Str):∀(k:Nat) (l:List Str),((JX k l).find? λkv=>decide$ kv.1=Sum.inr x).map (·.2)=(idx l x).map λi=>nI (k+i)
 | k,[]=>rfl
 | k,y ::l=>by
   rw[Ju,Qbq];simp only[Eu];unfold idx;rw[List.findIdx?_cons];by_cases h:y=x
   .subst h;simp
   .rw [QaQ.mpr h];rw[vb x (k+1) l];simp;congr 1;funext i;show nI (k+1+i)=nI (k+(i+1));congr 1;omega
def Hv{l:List Str}:(idx l x).isSome=l.contains x:=by
 unfold idx;rw[List.findIdx?_isSome];rw[Qbp,List.any_eq_true,QaH];exact⟨λ⟨y,h1,h2⟩=>by rw[<-Qa3.mp h2];exact h1,λh=>⟨x,h,Qcl x⟩⟩
def Er{aD:List (Key × D)}{d:D}(h:((aD.find? λkv=>decide$ kv.1=Sum.inr x).map (·.2))=none):qU aD (Sum.inr x) d=aD++[(Sum.inr x,d)]:=by
 unfold qU;rw[Qaj];intro q;obtain⟨kv,h1,h2⟩:=List.any_eq_true.mp q;have h3:aD.find? (λkv=>decide$ kv.1=Sum.inr x)=none:=by
  cases hf:aD.find? (λkv=>decide$ kv.1=Sum.inr x) with
  | none=>rfl
  | some z=>rw [hf] at h;cases h
 exact absurd h2 (by have:=List.find?_eq_none.mp h3 kv h1;exact this)
def yP{l:List Str}(h:x ∉ l):qU (zS l) (Sum.inr x) (.bl true)=zS (l++[x]):=by
 rw[Er$ by rw[sM,Qaj h]]
 unfold zS;simp
def Ek{l:List Str}(h:x ∉ l):qU (Rn l) (Sum.inr x) (nI l.length)=Rn (l++[x]):=by
 have h1:idx l x=none:=by
  have:=Hv (l:=l) (x:=x);rw[show l.contains x=false by cases q:l.contains x with | false=>rfl | true=>exact absurd (QaH.mp q) h] at this
  cases q:idx l x with
  | none=>rfl
  | some i=>rw [q] at this;cases this
 rw[Er$ by rw[vb,h1];rfl]
 show JX 0 l++_=JX 0 (l++[x]);unfold JX;rw[List.zipIdx_append,QaN];simp
def jQ:Nat->Str | 0=>Str.ofString "0" | 1=>Str.ofString "1" | _=>Str.ofString "2"
def qY(x:Str)(w:Nat):List Str:=if w=1 then [x] else(List.range w).map λf=>x++CO++jQ f
def base(w:Str):Str:=(iO w CO).getD 0 Str.empty
def sN(h:isNm x=true):base x=x:=by
 unfold base;rw[sG,tG$ Ba h$ by omega];rfl
def Hd{x f:Str}(h:isNm x=true):base (x++CO++f)=x:=by
 unfold base;rw[show iO (x++CO++f) CO=[x,CO,f] by rw[sG];exact ql (Ba h$ by omega) rfl];rfl
def pI(h:isNm x=true){w:Nat}:∀y∈qY x w,base y=x:=λy hy=>by
 unfold qY at hy;split at hy
 .rw [QaC.mp hy];exact sN h
 .obtain⟨f,_,rfl⟩:=QaT.mp hy;exact Hd h
def JF{a b:Nat}(ha:a<3)(hb:b<3)(h:jQ a=jQ b):a=b:=by
 match a,b,ha,hb with
 | 0,0,_,_=>rfl
 | 1,1,_,_=>rfl
 | 2,2,_,_=>rfl
 | 0,1,_,_=>exact absurd h (by decide+kernel)
 | 0,2,_,_=>exact absurd h (by decide+kernel)
 | 1,0,_,_=>exact absurd h (by decide+kernel)
 | 1,2,_,_=>exact absurd h (by decide+kernel)
 | 2,0,_,_=>exact absurd h (by decide+kernel)
 | 2,1,_,_=>exact absurd h (by decide+kernel)
def KZ{a b c:Str}(h:a++b=a++c):b=c:=cW (by
 have:=Qbs (λs:Str=>s.cps.toList) h
 simp only[bq] at this;exact List.append_cancel_left this)
def BU{w:Nat}(hw:w<=3):(qY x w).Nodup:=by
 unfold qY;split
 .simp
 .rw [QbD,List.pairwise_map];refine(QbD.mp$ List.nodup_range).imp_of_mem ?_;intro a b ha hb rE e;exact rE$ JF (Qas (Qbm.mp ha) hw) (Qas (Qbm.mp hb) hw)$ KZ e
def uL{w:Nat}:(qY x w).length=w:=by
 unfold qY;split
 .rename_i h;rw [h];rfl
 .simp
structure nY (d:Dr):Prop where
 li:d.ins.length<=6
 lg:d.gs.length<=60
 lo:d.os.length<=6
 ln:d.nm.length<=66
 lw:d.nu.length<=78
 li3:d.nm.length=d.ins.length+d.gs.length
 lw3:d.nu.length<=3*d.ins.length+d.gs.length
 ok:∀n∈d.nm,isNm n=true
 bs:∀w∈d.nu,base w∈d.nm
 nd:d.nu.Nodup
def nk(d:Dr)(x:Str)(w:Nat):Except Nat Dr:=
 if d.gs≠[]\/d.os≠[] then .error 4 else if x∈d.nm then .error 5 else if 6<=d.ins.length then .error 6 else .ok {d with ins:=d.ins++[(x,w)],nm:=d.nm++[x],nu:=d.nu++qY x w}
def gL(nu:List Str):List Str->Option (List Nat)
 | []=>some []
 | w ::ws=>match idx nu w with | some i=>(gL nu ws).map (i ::·) | none=>none
def addGate(d:Dr)(x:Str)(k:Nat)(ws:List Str)(s:Bool):Except Nat Dr:=
 if d.os≠[] then .error 4 else if x∈d.nm then .error 5 else if 60<=d.gs.length then .error 6 else match gL d.nu ws with
 | none=> .error 7
 | some l=> .ok {d with gs:=d.gs++[(k,l,s)],nm:=d.nm++[x],nu:=d.nu++[x]}
def jU(d:Dr)(x:Str)(ws:List Str):Except Nat Dr:=
 if x∈d.on then .error 5 else if 6<=d.os.length then .error 6 else match gL d.nu ws with
 | none=> .error 7
 | some l=> .ok {d with os:=d.os++[(x,l)]}
def wO(w:Str):Nat:=([Str.ofString "not",Str.ofString "and",Str.ofString "or",Str.ofString "xor",Str.ofString "vote"].findIdx? (·==w)).getD 0
def M3(w:Str):Nat:=((Cb.lookup w).getD 0).toNat
def cE(d:Dr)(ws:List Str):Except Nat Dr:=
 if uR ws=true then nk d (wd ws 1) (M3$ wd ws 2)
 else if wD ws=true then addGate d (wd ws 1) (wO$ wd ws 2) (ws.drop 3) (wd ws 0==Str.ofString "sure")
 else if wQ ws=true then jU d (wd ws 1) (ws.drop 2)
 else .error 3
def dm(d:Dr):List Str->Except Nat Dr
 | []=> .ok d
 | r ::rs=>match cE d (Txt.split r SP) with | .ok d'=>dm d' rs | .error c=> .error c
def d0:Dr:=⟨[],[],[],[],[]⟩
def px(rows:List Str):Except Nat Dr:=
 if 80<rows.length then .error 2 else match dm d0 rows with
 | .error c=> .error c
 | .ok d=>if d.ins=[]\/d.os=[] then .error 8 else .ok d
def TR:nY d0:=⟨by simp [d0],by simp [d0],by simp [d0],by simp [d0],by simp [d0],rfl,by simp [d0],by simp [d0],by simp [d0],by simp [d0]⟩
def HH(h:(Cb.lookup w).isSome=true):1<=M3 w/\M3 w<=3/\Cb.lookup w=some (M3 w:Int):=by
 obtain⟨n,hn⟩:=Qbk.mp h;unfold M3;rw[hn];have:n=1\/n=2\/n=3:=by
  simp only[QaB,Qct] at hn;split at hn
  .cases hn;exact .inl rfl
  .split at hn
   .cases hn;exact .inr$ .inl rfl
   .split at hn
    .cases hn;exact .inr$ .inr rfl
    .cases hn
 rcases this with rfl | rfl | rfl <;> exact⟨by decide,by decide,rfl⟩
def zt(h:(A1.lookup w).isSome=true):kS (wO w)=w/\wO w<=4/\A1.lookup w=some ((ar (wO w):Nat):Int):=by
 obtain⟨n,hn⟩:=Qbk.mp h;simp only[QaB,Qct] at hn;split at hn
 .rename_i q;rw [Qa3.mp q];exact⟨by decide+kernel,by decide+kernel,by decide+kernel⟩
 .split at hn
  .rename_i q;rw [Qa3.mp q];exact⟨by decide+kernel,by decide+kernel,by decide+kernel⟩
  .split at hn
   .rename_i q;rw [Qa3.mp q];exact⟨by decide+kernel,by decide+kernel,by decide+kernel⟩
   .split at hn
    .rename_i q;rw [Qa3.mp q];exact⟨by decide+kernel,by decide+kernel,by decide+kernel⟩
    .split at hn
     .rename_i q;rw [Qa3.mp q];exact⟨by decide+kernel,by decide+kernel,by decide+kernel⟩
     .cases hn
def qi{d:Dr}(D:nY d)(hx:x ∉ d.nm)(hy:base y=x):y ∉ d.nu:=λq=>hx (by rw[<-hy];exact D.bs y q)
def G6{d d':Dr}(D:nY d){w:Nat}(hx:isNm x=true)(hw:w<=3)(h:nk d x w= .ok d'):nY d':=by
 unfold nk at h;split at h
 .cases h
 .rename_i h1;split at h
  .cases h
  .rename_i h2;split at h
   .cases h
   .rename_i h3;cases h;have hg:d.gs=[]:=by
     cases q:d.gs with
     | nil=>rfl
     | cons a b=>exact absurd (.inl$ by rw[q];simp) h1
    have:=D.li;have:=D.lw3;have:=D.li3;have hl:(qY x w).length=w:=uL;have hg0:d.gs.length=0:=by rw[hg];rfl
    refine⟨by simp;omega,D.lg,D.lo,by simp;omega,by simp;omega,by simp;omega,by simp;omega,λn hn=>?_,λy hy=>?_,?_⟩
    .rcases Qaq.mp hn with z | z
     .exact D.ok n z
     .rw [QaC.mp z];exact hx
    .rcases Qaq.mp hy with z | z
     .exact Qa7 _ (D.bs y z)
     .rw [pI hx y z];simp
    .exact QbE.mpr ⟨D.nd,BU hw,λa ha b hb e=>qi D h2 (pI hx b hb)$ by rw[<-e];exact ha⟩
def Cr{d d':Dr}(D:nY d){k:Nat}{ws:List Str}{s:Bool}(hx:isNm x=true)(h:addGate d x k ws s= .ok d'):nY d':=by
 unfold addGate at h;split at h
 .cases h
 .split at h
  .cases h
  .rename_i h2;split at h
   .cases h
   .rename_i h3;split at h
    .cases h
    .rename_i l hl;cases h;have:=D.li;have:=D.lw3;have:=D.li3;have:=D.lg;refine⟨D.li,by simp;omega,D.lo,by simp;omega,by simp;omega,by simp;omega,by simp;omega,λn hn=>?_,λy hy=>?_,?_⟩
     .rcases Qaq.mp hn with z | z
      .exact D.ok n z
      .rw [QaC.mp z];exact hx
     .rcases Qaq.mp hy with z | z
      .exact Qa7 _ (D.bs y z)
      .rw [QaC.mp z,sN hx];simp
     .exact QbE.mpr ⟨D.nd,by simp,λa ha b hb e=>qi D h2 (y:=b) (by rw[QaC.mp hb];exact sN hx)$ by rw[<-e];exact ha⟩
def Fc{d d':Dr}(D:nY d){ws:List Str}(h:jU d x ws= .ok d'):nY d':=by
 unfold jU at h;split at h
 .cases h
 .split at h
  .cases h
  .rename_i h3;split at h
   .cases h
   .rename_i l hl;cases h;have:=D.lo;exact⟨D.li,D.lg,by simp;omega,D.ln,D.lw,D.li3,D.lw3,D.ok,D.bs,D.nd⟩
def LO{d d':Dr}(D:nY d){ws:List Str}(h:cE d ws= .ok d'):nY d':=by
 unfold cE at h;split at h
 .rename_i h1;unfold uR at h1;simp only[QaL] at h1;exact G6 D h1.2.2.1 (HH h1.2.2.2).2.1 h
 .split at h
  .rename_i h1;unfold wD at h1;simp at h1;exact Cr D h1.2.1.1 h
  .split at h
   .exact Fc D h
   .cases h
end TX
end
section
namespace TX
open PySem PySem.Spec PyProof.Rows L2 L3 MT JT
structure Lw (n:Nat) (s:Str):Prop where
 len:s.length<=n
 low:∀c∈s.cps.toList,97<=c/\c<=122
def Lw.mono{n m:Nat}(h:Lw n s)(hm:n<=m):Lw m s:=⟨QaK h.len hm,h.low⟩
def Lw.app{n m:Nat}{a b:Str}(h:Lw n a)(h':Lw m b):Lw (n+m) (a++b):=⟨by rw[Qax];have:=h.len;have:=h'.len;omega,λc hc=>by
 rw[bq] at hc;rcases Qaq.mp hc with z | z
 .exact h.low c z
 .exact h'.low c z⟩
def Lw.slice{n:Nat}(h:Lw n a)(lo hi:Option Int):Lw n (Txt.slice a lo hi):=⟨QaK (Qcf a lo hi) h.len,λc hc=>by
 unfold Txt.slice at hc;split at hc
 .exact h.low c hc
 .rw [List.toList_toArray,Qcd] at hc;obtain⟨i,_,e⟩:=hc;exact h.low c (by have:=Array.mem_of_getElem? e;simpa using this)⟩
def Nw(a:Str):(Txt.slice a none$ some 8).length<=8:=by
 by_cases h:8<=a.length
 .have:=StrLaws.sliceText_to (j:=8) ⟨by omega,by show(8:Int)<=(a.cps.toList.length:Int);rw [Qa4];show(8:Int)<=(a.length:Int);omega⟩
  show(StrLaws.sliceText a none$ some 8).length<=8;rw[this];show(List.toArray _).size<=8;simp;omega
 .exact QaK (Qcf a _ _) (by omega)
def Lw.nm(h:Lw 8 s)(h1:s≠Str.empty)(h2:s ∉ mr):isNm s=true:=by
 refine cD.mpr ⟨?_,h.len,h2,h.low⟩;rcases Nat.lt_or_ge 0 s.length with q | q
 .exact q
 .exfalso
  refine h1$ cW ?_;have:s.cps.toList.length=0:=by rw[Qa4];show s.length=0;omega
  rw[List.length_eq_zero_iff.mp this];rfl
def Na(h:isNm s=true):Lw 8 s:=⟨(cD.mp h).2.1,(cD.mp h).2.2.2⟩
def pz(i:Nat):Str:=⟨#[97+i]⟩
def Kq:LJ.length=26:=by decide+kernel
def uT{i:Nat}(h:i<26):du (.str LJ) (nI i)= .ok (.str$ pz i):=by
 have hz:=Qav;refine lE (by rw[Kq];omega) ?_
 rw[yi,Dh (by omega)$ by simp;omega]
 simp [pz]
def DV{i:Nat}(h:i<26):Lw 1 (pz i):=⟨Qak _,λc hc=>by
 have hc:c∈[97+i]:=hc;rw[QaC] at hc;omega⟩
def Vq{r:Nat}(h:r<7):Lw 6 (Txt.mul (Str.ofString "x") r):=by
 match r,h with
 | 0,_=>exact⟨by decide+kernel,by decide+kernel⟩
 | 1,_=>exact⟨by decide+kernel,by decide+kernel⟩
 | 2,_=>exact⟨by decide+kernel,by decide+kernel⟩
 | 3,_=>exact⟨by decide+kernel,by decide+kernel⟩
 | 4,_=>exact⟨by decide+kernel,by decide+kernel⟩
 | 5,_=>exact⟨by decide+kernel,by decide+kernel⟩
 | 6,_=>exact⟨by decide+kernel,by decide+kernel⟩
def uM{sep:Str}{ss:List Str}(h:(ss.map (·.length)).sum+ss.length*sep.length<=16777216):e_ (.str sep) [.lst$ ss.map .str]= .ok (.str$ Str.join sep ss):=by
 unfold e_;simp only[L2.strs_map];rw[joinOk_of h];rfl
def Tw{n m k:Nat}(ha:Lw n a)(hb:Lw m b)(hc:Lw k c):Lw (n+m+k) (Str.join (Str.ofString "") [a,b,c]):=by
 have he:Lw 0 (Str.ofString ""):=⟨by decide+kernel,by decide+kernel⟩
 have:Str.join (Str.ofString "") [a,b,c]=a++Str.ofString ""++(b++Str.ofString ""++c):=rfl;exact((ha.app he).app$ (hb.app he).app hc).mono (by omega)
def S7{n:Nat}(h:Lw n s):PyData.strOk s=true:=by
 unfold PyData.strOk;rw[Array.all_eq_true'];intro c hc;have:=h.low c (by simpa using hc)
 simp;omega
def Mn{ss:List Str}(h:∀s∈ss,PyData.strOk s=true):MA (.lst$ ss.map .str) (.lst [])= .ok ss.isEmpty:=by
 have hp:∀ss:List Str,ie (ss.map .str)=true:=by
  intro ss
  induction ss with
  | nil=>unfold ie;rfl
  | cons s ss ih=>rw [Qay];unfold ie;rw [ih];unfold dX;rfl
 have ht:∀ss:List Str,lp (ss.map .str)=ss.map PyData.str:=by
  intro ss
  induction ss with
  | nil=>unfold lp;rfl
  | cons s ss ih=>rw [Qay,Qay];unfold lp;rw [ih];unfold toPy;rfl
 have hl:∀ss:List Str,(∀s∈ss,PyData.strOk s=true)->PyData.canLayAll0 (ss.map PyData.str)=true:=by
  intro ss
  induction ss with
  | nil=>intro _;rfl
  | cons s ss ih=>intro h;rw [Qay];unfold PyData.canLayAll0;rw [ih λt ht=>h t$ Qab _ ht];unfold PyData.canLay0;rw [h s Qai];rfl
 have hd:∀ss:List Str,PyData.depthAll (ss.map PyData.str)=0:=by
  intro ss
  induction ss with
  | nil=>rfl
  | cons s ss ih=>rw [Qay];unfold PyData.depthAll;rw [ih];rfl
 have hsh:SeqAt.shaped (toPy$ .lst$ ss.map .str)=true:=by
  unfold toPy SeqAt.shaped;rw[ht];unfold PyData.canLay0 PyData.depth;rw[hl ss h,hd];rfl
 have hpd:dX (.lst$ ss.map .str)=true:=by unfold dX;exact hp ss
 have rE:MA (.lst$ ss.map .str) (.lst [])=R.aX (dX (.lst$ ss.map .str) && dX (.lst []) && SeqAt.shaped (toPy$ .lst$ ss.map .str) && SeqAt.shaped (toPy$ .lst [])) (.ok$ PyData.eqv (toPy$ .lst$ ss.map .str)$ toPy$ .lst []):=rfl;rw[rE,hpd,hsh,show dX (.lst [])=true from rfl,show SeqAt.shaped (toPy$ .lst [])=true from rfl]
 unfold toPy;cases ss with
 | nil=>rfl
 | cons s ss=>rfl
def Lf{ss:List Str}(h:∀s∈ss,PyData.strOk s=true):Ma (.lst$ ss.map .str) (.lst [])= .ok (.bl$ !ss.isEmpty):=by
 unfold Ma;rw [Mn h];rfl
def EZ:List Str:=(List.range 80).map λn=>⟨#[122,122,97+n / 26,97+n % 26]⟩
def MD:List Str:=(List.range 144).map λn=>⟨#[121,97+n / 12,109+n % 12]⟩
def Pf:∀s∈EZ,isNm s=true:=by
 have:EZ.all isNm=true:=by decide+kernel
 exact QaJ.mp this
def Qc:∀s∈MD,isNm s=true:=by
 have:MD.all isNm=true:=by decide+kernel
 exact QaJ.mp this
def cod(s:Str):Nat:=s.cps.toList.foldl (λa c=>a*128+c) 0
def M6{l:List Str}(h:(l.map cod).Pairwise (· < ·)):l.Nodup:=by
 rw[List.pairwise_map] at h;exact h.imp fun {a b} hab e=>by rw[e] at hab;exact absurd hab$ Qbr _
def Qm:EZ.Nodup:=M6 (by decide+kernel)
def NM:MD.Nodup:=M6 (by decide+kernel)
def Bj{sp ss:List Str}(hn:sp.Nodup)(h:ss.length<sp.length):∃w,(sp.filter λs=>!ss.contains s)[0]? =some w/\w∈sp/\w ∉ ss:=by
 cases e:sp.filter λs=>!ss.contains s with
 | cons w r=>
   have:=Qbi.mp (show w∈sp.filter λs=>!ss.contains s by rw[e];exact Qai)
   refine⟨w,rfl,this.1,λq=>?_⟩
   have h2:=this.2;rw[QaH.mpr q] at h2;cases h2
 | nil=>
   exfalso
   have:=Iv sp ss hn λx hx=>by
    by_cases q:x∈ss
    .exact q
    .have:x∈sp.filter λs=>!ss.contains s:=Qbi.mpr ⟨hx,by simp [q]⟩
     rw[e] at this;cases this
   omega
def O7{n:Nat}:Str.ofString "zz"++pz (n / 26)++pz (n % 26)=(⟨#[122,122,97+n / 26,97+n % 26]⟩:Str):=by
 apply cW;rfl
abbrev Z5:Str:=Str.ofString "abcdefghijkl"
abbrev Za:Str:=Str.ofString "mnopqrstuvwx"
def Nu{i:Nat}(h:i<12):du (.str Z5) (nI i)= .ok (.str$ pz i):=by
 have hz:=Qav;refine lE (by rw[hz];decide+kernel) ?_
 rw[show Z5.cps.toList=(List.range 12).map (97+·) by decide+kernel,Dh (by omega)$ by simp;omega]
 simp [pz]
def Qn{i:Nat}(h:i<12):du (.str Za) (nI i)= .ok (.str$ pz$ 12+i):=by
 have hz:=Qav;refine lE (by rw[hz];decide+kernel) ?_
 rw[show Za.cps.toList=(List.range 12).map (109+·) by decide+kernel,Dh (by omega)$ by simp;omega]
 simp [pz];omega
def Qo{n:Nat}:Str.ofString "y"++pz (n / 12)++pz (12+n % 12)=(⟨#[121,97+n / 12,109+n % 12]⟩:Str):=by
 apply cW;show [121,97+n / 12,97+(12+n % 12)]=[121,97+n / 12,109+n % 12];congr 3;omega
structure TN (ins:Aac) (gs:List Gt) (os:Aad):Prop where
 i1:1<=ins.length
 i6:ins.length<=6
 iw:∀x∈ins,1<=x.2/\x.2<=3
 ind:(ins.map (·.1)).Nodup
 inm:∀x∈ins,isNm x.1=true
 g60:gs.length<=60
 gok:∀(i:Nat) (x:Gt),gs[i]? =some x->KN (pE ins+i) x
 o1:1<=os.length
 o6:os.length<=6
 ond:(os.map (·.1)).Nodup
 onm:∀x∈os,isNm x.1=true
 ow:∀x∈os,1<=x.2.length/\x.2.length<=3/\∀w∈x.2,w<pE ins+gs.length
structure GN (ins:Aac) (n:Nat) (gn:List Str):Prop where
 len:gn.length=n
 nd:gn.Nodup
 nm:∀s∈gn,isNm s=true
 dis:∀s∈gn,s ∉ ins.map (·.1)
def mm(ins:Aac):List Str:=ins.flatMap λx=>qY x.1 x.2
theorem g_:∀ins:Aac,(mm ins).length=pE ins
 | []=>rfl
 | x ::ins=>by
   show(qY x.1 x.2++mm ins).length=_;rw[Qar,uL,g_ ins];rfl
def A_{ins:Aac}(h:∀x∈ins,isNm x.1=true):∀y∈mm ins,base y∈ins.map (·.1):=λy hy=>by
 obtain⟨x,hx,hy⟩:=List.mem_flatMap.mp hy;rw[pI (h x hx) y hy];exact Qca hx
theorem Hh:∀{ins:Aac},(ins.map (·.1)).Nodup->(∀x∈ins,isNm x.1=true)->(∀x∈ins,1<=x.2/\x.2<=3)->(mm ins).Nodup
 | [],_,_,_=>Qcy
 | x ::ins,h1,h2,h3=>by
   obtain⟨h4,h5⟩:=QbB.mp h1;refine QbE.mpr ⟨BU (h3 x Qai).2,Hh h5 (λy hy=>h2 y$ Qab _ hy) (λy hy=>h3 y$ Qab _ hy),λa ha b hb e=>h4 ?_⟩
   show x.1∈_;rw[<-pI (h2 x Qai) a ha,e];exact A_ (λy hy=>h2 y$ Qab _ hy) b hb
def AG{ins:Aac}{gs:List Gt}{os:Aad}{gn:List Str}(T:TN ins gs os){n:Nat}(G:GN ins n gn):(mm ins++gn).Nodup:=
 QbE.mpr ⟨Hh T.ind T.inm T.iw,G.nd,λa ha b hb e=>G.dis b hb (by
  have:=A_ T.inm a ha;rw[e,sN$ G.nm b hb] at this;exact this)⟩
def NK{l:List Str}(h:l.Nodup){i n:Nat}(hi:l[i]? =some x)(hn:i<n):idx (l.take n) x=some i:=by
 unfold idx;rw[List.findIdx?_eq_some_iff_getElem];have hl:=(Qah.mp hi).1;have Ry:i<(l.take n).length:=by rw[QaO];omega
 refine⟨Ry,?_,λj hj=>?_⟩
 .rw [List.getElem_take,(Qah.mp hi).2];simp
 .rw [List.getElem_take];intro q;have q:=Qa3.mp q;have:l[j]? =some x:=by rw[Qag (by omega),q]
  have:=jB h this hi;omega
def tx(W:List Str)(l:List Nat):List Str:=l.map λw=>W.getD w Str.empty
theorem Jj{W:List Str}(h:W.Nodup){n:Nat}:∀{l:List Nat},(∀w∈l,w<n/\w<W.length)->gL (W.take n) (tx W l)=some l
 | [],_=>rfl
 | w ::l,hl=>by
   obtain⟨h1,h2⟩:=hl w Qai;show(match idx (W.take n) (W.getD w Str.empty) with | some i=>(gL (W.take n)$ tx W l).map (i ::·) | none=>none)=_
   rw[NK h (by rw[Qaz,Qag h2];rfl) h1,Jj h λy hy=>hl y$ Qab _ hy]
   rfl
def wS:Nat->Str | 1=>Str.ofString "1" | 2=>Str.ofString "2" | _=>Str.ofString "3"
def yL(x:Str × Nat):List Str:=[Str.ofString "in",x.1,wS x.2]
def uF(W:List Str)(g:Gt)(n:Str):List Str:=[if g.2.2 then Str.ofString "sure" else Str.ofString "gate",n,kS g.1]++tx W g.2.1
def uy(W:List Str)(o:Str × List Nat):List Str:=[Str.ofString "out",o.1]++tx W o.2
def FJ(ins:Aac)(gs:List Gt)(os:Aad)(gn:List Str):List (List Str):=ins.map yL++(gs.zip gn).map (λp=>uF (mm ins++gn) p.1 p.2)++os.map (uy$ mm ins++gn)
structure Wo (w:Str):Prop where
 len:w.length<=10
 cps:∀c∈w.cps.toList,33<=c/\c<128
def xV(h:isNm s=true):Wo s:=⟨by have:=(cD.mp h).2.1;omega,λc hc=>by have:=(cD.mp h).2.2.2 c hc;omega⟩
def G2{x:Str}(h:isNm x=true){f:Nat}:Wo (x++CO++jQ f):=by
 have h1:(jQ f).length=1/\∀c∈(jQ f).cps.toList,33<=c/\c<128:=by
  match f with
  | 0=>exact⟨by decide+kernel,by decide+kernel⟩
  | 1=>exact⟨by decide+kernel,by decide+kernel⟩
  | n+2=>exact⟨by show(Str.ofString "2").length=1;decide+kernel,by show ∀c∈(Str.ofString "2").cps.toList,_;decide+kernel⟩
 refine⟨?_,λc hc=>?_⟩
 .rw [Qax,Qax,h1.1];have:=(cD.mp h).2.1;have:CO.length=1:=by decide+kernel
  omega
 .rw [bq,bq] at hc;rcases Qaq.mp hc with z | z
  .rcases Qaq.mp z with y | y
   .have:=(cD.mp h).2.2.2 c y;omega
   .rw [sG] at y;have:c∈[58]:=y;rw[QaC] at this;omega
  .exact h1.2 c z
def O2(h:isNm x=true){w:Nat}:∀y∈qY x w,Wo y/\fV y=true:=λy hy=>by
 unfold qY at hy;split at hy
 .rw [QaC.mp hy];exact⟨xV h,HI h⟩
 .obtain⟨f,_,rfl⟩:=QaT.mp hy;refine⟨G2 h,NJ h ?_⟩
  match f with
  | 0=>decide+kernel
  | 1=>decide+kernel
  | n+2=>show Str.ofString "2"∈xg;decide+kernel
def Lz{ins:Aac}{gs:List Gt}{os:Aad}{gn:List Str}(T:TN ins gs os){n:Nat}(G:GN ins n gn):∀y∈mm ins++gn,Wo y/\fV y=true:=λy hy=>by
 rcases Qaq.mp hy with z | z
 .obtain⟨x,hx,hy⟩:=List.mem_flatMap.mp z;exact O2 (T.inm x hx) y hy
 .exact⟨xV$ G.nm y z,HI$ G.nm y z⟩
def y8{W:List Str}{l:List Nat}(h:∀w∈l,w<W.length):∀y∈tx W l,y∈W:=λy hy=>by
 obtain⟨w,hw,rfl⟩:=QaT.mp hy;rw[Qaz,Qag$ h w hw];exact QbL _
def tm{ws:List Str}(rE:ws≠[])(h:∀w∈ws,Wo w):Txt.split (Str.join SP ws) SP=ws:=by
 exact om rE λp hp q=>by have:=(h p hp).cps 32 q;omega
def M8(k:Nat):Wo (kS k)/\(A1.lookup$ kS k).isSome=true/\(k<=4->wO (kS k)=k/\A1.lookup (kS k)=some ((ar k:Nat):Int)):=by
 match k with
 | 0=>exact⟨⟨by decide+kernel,by decide+kernel⟩,by decide+kernel,λ_=>⟨by decide+kernel,by decide+kernel⟩⟩
 | 1=>exact⟨⟨by decide+kernel,by decide+kernel⟩,by decide+kernel,λ_=>⟨by decide+kernel,by decide+kernel⟩⟩
 | 2=>exact⟨⟨by decide+kernel,by decide+kernel⟩,by decide+kernel,λ_=>⟨by decide+kernel,by decide+kernel⟩⟩
 | 3=>exact⟨⟨by decide+kernel,by decide+kernel⟩,by decide+kernel,λ_=>⟨by decide+kernel,by decide+kernel⟩⟩
 | 4=>exact⟨⟨by decide+kernel,by decide+kernel⟩,by decide+kernel,λ_=>⟨by decide+kernel,by decide+kernel⟩⟩
 | n+5=>exact⟨⟨by show(Str.ofString "vote").length<=10;decide+kernel,by show ∀c∈(Str.ofString "vote").cps.toList,_;decide+kernel⟩,by show(A1.lookup$ Str.ofString "vote").isSome=true;decide+kernel,λh=>by omega⟩
def Ng(w:Nat):Wo (wS w)/\(Cb.lookup$ wS w).isSome=true/\(1<=w->w<=3->M3 (wS w)=w):=by
 match w with
 | 1=>exact⟨⟨by decide+kernel,by decide+kernel⟩,by decide+kernel,λ_ _=>by decide+kernel⟩
 | 2=>exact⟨⟨by decide+kernel,by decide+kernel⟩,by decide+kernel,λ_ _=>by decide+kernel⟩
 | 3=>exact⟨⟨by decide+kernel,by decide+kernel⟩,by decide+kernel,λ_ _=>by decide+kernel⟩
 | 0=>exact⟨⟨by show(Str.ofString "3").length<=10;decide+kernel,by show ∀c∈(Str.ofString "3").cps.toList,_;decide+kernel⟩,by show(Cb.lookup$ Str.ofString "3").isSome=true;decide+kernel,λh=>by omega⟩
 | n+4=>exact⟨⟨by show(Str.ofString "3").length<=10;decide+kernel,by show ∀c∈(Str.ofString "3").cps.toList,_;decide+kernel⟩,by show(Cb.lookup$ Str.ofString "3").isSome=true;decide+kernel,λ_ h=>by omega⟩
def Cn(s:Str)(h:(decide (s.length<=10) && s.cps.toList.all λc=>decide$ 33<=c/\c<128)=true):Wo s:=by
 rw[QaL,QaJ] at h;exact⟨Qae h.1,λc hc=>Qae$ h.2 c hc⟩
def Cj{x:Str × Nat}(h:isNm x.1=true):∀w∈yL x,Wo w:=λw hw=>by
 unfold yL at hw;simp at hw;rcases hw with rfl | rfl | rfl
 .exact Cn _ (by decide+kernel)
 .exact xV h
 .exact(Ng x.2).1
def BZ{W:List Str}{g:Gt}(h:isNm n=true)(hW:∀y∈W,Wo y)(hg:∀w∈g.2.1,w<W.length):∀w∈uF W g n,Wo w:=λw hw=>by
 rcases Qaq.mp hw with z | z
 .simp at z;rcases z with rfl | rfl | rfl
  .split <;> exact Cn _ (by decide+kernel)
  .exact xV h
  .exact(M8 g.1).1
 .exact hW w (y8 hg w z)
def B_{W:List Str}{o:Str × List Nat}(h:isNm o.1=true)(hW:∀y∈W,Wo y)(hg:∀w∈o.2,w<W.length):∀w∈uy W o,Wo w:=λw hw=>by
 rcases Qaq.mp hw with z | z
 .simp at z;rcases z with rfl | rfl
  .exact Cn _ (by decide+kernel)
  .exact xV h
 .exact hW w (y8 hg w z)
def K4{d:Dr}{x:Str × Nat}(h:isNm x.1=true)(hw:1<=x.2/\x.2<=3):cE d (yL x)=nk d x.1 x.2:=by
 obtain⟨_,h2,h3⟩:=Ng x.2;have:uR (yL x)=true:=by
  show(decide _ && ((Str.ofString "in"==Str.ofString "in") && (isNm x.1 && (Cb.lookup$ wS x.2).isSome)))=true;rw[h,h2];rfl
 unfold cE;rw[Qap this];show nk d x.1 (M3$ wS x.2)=_;rw[h3 hw.1 hw.2]
def ED{ws:List Str}(h:(w==Str.ofString "in")=false):uR (w ::ws)=false:=by
 show(decide _ && ((w==Str.ofString "in") && _))=false;rw[h];simp
def Mp{d:Dr}{W:List Str}{g:Gt}(h:isNm n=true)(hk:g.1<=4)(hl:g.2.1.length=ar g.1)(hW:∀y∈tx W g.2.1,fV y=true):cE d (uF W g n)=addGate d n g.1 (tx W g.2.1) g.2.2:=by
 obtain⟨_,h2,h3⟩:=M8 g.1;obtain⟨h3,h4⟩:=h3 hk;have h1:uR (uF W g n)=false:=by
  refine ED ?_;split <;> decide+kernel
 have hg0:[Str.ofString "gate",Str.ofString "sure"].contains (if g.2.2 then Str.ofString "sure" else Str.ofString "gate")=true:=by split <;> decide+kernel
 have ha:1<=ar g.1:=by unfold ar;split <;> omega
 have htl:(tx W g.2.1).length=ar g.1:=by unfold tx;rw [Qaa,hl]
 have h5:wD (uF W g n)=true:=by
  show((decide (4<=(uF W g n).length) && [Str.ofString "gate",Str.ofString "sure"].contains (if g.2.2 then Str.ofString "sure" else Str.ofString "gate")) && ((isNm n && (A1.lookup$ kS g.1).isSome) && (decide (((tx W g.2.1).length:Int)=(A1.lookup$ kS g.1).getD 0) && (tx W g.2.1).all fV)))=true
  rw[hg0,h,h2,h4,htl,QaJ.mpr hW,Qac (by unfold uF;simp [htl];omega:4<=(uF W g n).length)]
  simp
 unfold cE;rw[h1,Qaj (by decide),Qap h5]
 show addGate d n (wO$ kS g.1) (tx W g.2.1) ((if g.2.2 then Str.ofString "sure" else Str.ofString "gate")==Str.ofString "sure")=_
 congr 1;cases g.2.2 <;> decide+kernel
def K5{d:Dr}{W:List Str}{o:Str × List Nat}(h:isNm o.1=true)(hl:1<=o.2.length/\o.2.length<=3)(hW:∀y∈tx W o.2,fV y=true):cE d (uy W o)=jU d o.1 (tx W o.2):=by
 have htl:(tx W o.2).length=o.2.length:=by unfold tx;rw [Qaa]
 have h1:uR (uy W o)=false:=ED (by decide+kernel)
 have h2:wD (uy W o)=false:=by
  show((decide _ && [Str.ofString "gate",Str.ofString "sure"].contains (Str.ofString "out")) && _)=false;rw[show [Str.ofString "gate",Str.ofString "sure"].contains (Str.ofString "out")=false by decide+kernel];simp
 have h3:wQ (uy W o)=true:=by
  show((decide (3<=(uy W o).length) && ((Str.ofString "out"==Str.ofString "out") && isNm o.1)) && (decide ((tx W o.2).length<=3) && (tx W o.2).all fV))=true;rw[h,htl,QaJ.mpr hW,Qac (by unfold uy;simp [htl];omega:3<=(uy W o).length),Qac hl.2]
  simp
 unfold cE;rw[h1,Qaj (by decide),h2,Qaj (by decide),Qap h3]
 rfl
theorem nD:∀(a b:List Str) (d:Dr),dm d (a++b)=match dm d a with | .ok d'=>dm d' b | .error c=> .error c
 | [],b,d=>rfl
 | r ::a,b,d=>by
   show(match cE d (Txt.split r SP) with | .ok d'=>dm d' (a++b) | .error c=> .error c)=_
   show _=(match (match cE d (Txt.split r SP) with | .ok d'=>dm d' a | .error c=>Except.error c) with | .ok d'=>dm d' b | .error c=> .error c)
   cases cE d (Txt.split r SP) with
   | error c=>rfl
   | ok d'=>exact nD a b d'
section
variable {ins:Aac}{gs:List Gt}{os:Aad}{gn:List Str}
theorem AH(hn:(ins.map (·.1)).Nodup)(hm:∀x∈ins,isNm x.1=true)(hw:∀x∈ins,1<=x.2/\x.2<=3)(h6:ins.length<=6):∀i,i<=ins.length->dm d0 ((ins.take i).map λx=>Str.join SP$ yL x)= .ok ⟨ins.take i,[],[],(ins.take i).map (·.1),mm$ ins.take i⟩
 | 0,_=>rfl
 | i+1,hi=>by
   obtain⟨x,hx⟩:∃x,ins[i]? =some x:=⟨_,Qag$ by omega⟩
   have hxm:=Qan hx;rw[Qa1,hx,QaN,nD,AH hn hm hw h6 i$ by omega]
   show(match cE _ (Txt.split (Str.join SP$ yL x) SP) with | .ok d'=>dm d' [] | .error c=> .error c)=_
   rw[tm (by unfold yL;simp) (Cj$ hm x hxm),K4 (hm x hxm)$ hw x hxm]
   have Uv:x.1 ∉ (ins.take i).map (·.1):=λq=>by
    rw[Qb8] at q;obtain⟨j,hj⟩:=Qbf q;rw[Qa2] at hj;split at hj
    .rename_i hji;have:=jB hn hj (show(ins.map (·.1))[i]? =some x.1 by rw[Qad,hx];rfl)
     omega
    .cases hj
   have hl:(ins.take i).length=i:=by rw[QaO];omega
   unfold nk;rw[Qaj (by simp),Qaj Uv,Qaj$ by show ¬6<=(ins.take i).length;omega]
   show Except.ok _=Except.ok _;congr 1;simp [mm]
theorem vT(T:TN ins gs os)(G:GN ins gs.length gn):∀i,i<=gs.length->dm ⟨ins,[],[],ins.map (·.1),mm ins⟩ (((gs.zip gn).take i).map λp=>Str.join SP$ uF (mm ins++gn) p.1 p.2)= .ok ⟨ins,gs.take i,[],ins.map (·.1)++gn.take i,(mm ins++gn).take$ pE ins+i⟩
 | 0,_=>by
   show Except.ok _=Except.ok _;rw[Nat.add_zero,<-g_,List.take_left];simp
 | i+1,hi=>by
   obtain⟨g,hg⟩:∃g,gs[i]? =some g:=⟨_,Qag$ by omega⟩
   have Kc:=G.len;obtain⟨n,hn⟩:∃n,gn[i]? =some n:=⟨_,Qag$ by omega⟩
   have hz:(gs.zip gn)[i]? =some (g,n):=by rw[Qbv];exact⟨hg,hn⟩
   have gok:=T.gok i g hg;have hWl:(mm ins++gn).length=pE ins+gs.length:=by rw[Qar,g_,Kc]
   have xw:∀w∈g.2.1,w<(mm ins++gn).length:=λw hw=>by have:=gok.2.2 w hw;omega
   have hWo:=Lz T G;have hnm:=G.nm n$ Qan hn;rw[Qa1,hz,QaN,nD,vT T G i$ by omega]
   show(match cE _ (Txt.split (Str.join SP$ uF (mm ins++gn) g n) SP) with | .ok d'=>dm d' [] | .error c=> .error c)=_
   rw[tm (by unfold uF;simp) (BZ hnm (λy hy=>(hWo y hy).1) xw),Mp hnm gok.1 gok.2.1 λy hy=>(hWo y$ y8 xw y hy).2]
   have hn1:n ∉ ins.map (·.1)++gn.take i:=λq=>by
    rcases Qaq.mp q with z | z
    .exact G.dis n (Qan hn) z
    .obtain⟨j,hj⟩:=Qbf z;rw[Qa2] at hj;split at hj
     .have:=jB G.nd hj hn;omega
     .cases hj
   have hl:(gs.take i).length=i:=by rw[QaO];omega
   have:=T.g60;unfold addGate;rw[Qaj (by simp),Qaj hn1,Qaj (by show ¬60<=(gs.take i).length;omega),Jj (AG T G) λw hw=>⟨gok.2.2 w hw,xw w hw⟩]
   show Except.ok _=Except.ok _;congr 1;have e1:gs.take i++[(g.1,g.2.1,g.2.2)]=gs.take (i+1):=by rw[Qa1,hg];rfl
   have e2:gn.take i++[n]=gn.take (i+1):=by rw[Qa1,hn];rfl
   have e3:(mm ins++gn).take (pE ins+i)++[n]=(mm ins++gn).take (pE ins+(i+1)):=by
    rw[<-Nat.add_assoc,Qa1,Qal (by rw[g_];omega),g_,Qch,hn];rfl
   rw[QaE,e1,e2,e3]
theorem xE(T:TN ins gs os)(G:GN ins gs.length gn):∀i,i<=os.length->dm ⟨ins,gs,[],ins.map (·.1)++gn,mm ins++gn⟩ ((os.take i).map λo=>Str.join SP$ uy (mm ins++gn) o)= .ok ⟨ins,gs,os.take i,ins.map (·.1)++gn,mm ins++gn⟩
 | 0,_=>rfl
 | i+1,hi=>by
   obtain⟨o,ho⟩:∃o,os[i]? =some o:=⟨_,Qag$ by omega⟩
   have hom:=Qan ho;obtain⟨o1,o2,o3⟩:=T.ow o hom;have hWl:(mm ins++gn).length=pE ins+gs.length:=by rw[Qar,g_,G.len]
   have xw:∀w∈o.2,w<(mm ins++gn).length:=λw hw=>by have:=o3 w hw;omega
   have hWo:=Lz T G;rw[Qa1,ho,QaN,nD,xE T G i$ by omega]
   show(match cE _ (Txt.split (Str.join SP$ uy (mm ins++gn) o) SP) with | .ok d'=>dm d' [] | .error c=> .error c)=_
   rw[tm (by unfold uy;simp) (B_ (T.onm o hom) (λy hy=>(hWo y hy).1) xw),K5 (T.onm o hom) ⟨o1,o2⟩ λy hy=>(hWo y$ y8 xw y hy).2]
   have hn1:o.1 ∉ (os.take i).map (·.1):=λq=>by
    rw[Qb8] at q;obtain⟨j,hj⟩:=Qbf q;rw[Qa2] at hj;split at hj
    .have:=jB T.ond hj (show(os.map (·.1))[i]? =some o.1 by rw[Qad,ho];rfl)
     omega
    .cases hj
   have hl:(os.take i).length=i:=by rw[QaO];omega
   have:=T.o6;unfold jU;rw[Qaj$ show o.1 ∉ (Dr.mk ins gs (os.take i) (ins.map (·.1)++gn)$ mm ins++gn).on from hn1,Qaj$ by show ¬6<=(os.take i).length;omega]
   have hwn:gL (mm ins++gn) (tx (mm ins++gn) o.2)=some o.2:=by
    have:=Jj (AG T G) λw hw=>⟨xw w hw,xw w hw⟩
    rwa [Qba] at this
   simp only[hwn];show Except.ok _=Except.ok _;simp
def ES(T:TN ins gs os)(G:GN ins gs.length gn):px ((FJ ins gs os gn).map$ Str.join SP)= .ok ⟨ins,gs,os,ins.map (·.1)++gn,mm ins++gn⟩:=by
 have h1:=AH T.ind T.inm T.iw T.i6 ins.length$ Qak _;have h2:=vT T G gs.length$ Qak _;have h3:=xE T G os.length$ Qak _;have hz:(gs.zip gn).length=gs.length:=by rw[List.length_zip,G.len];omega
 rw[Qba] at h1 h3;rw[QaP (by rw[hz];exact Qak _),Qba,QaP (by rw[G.len];exact Qak _),QaP$ by rw[Qar,g_,G.len];exact Qak _] at h2
 have hl:((FJ ins gs os gn).map$ Str.join SP).length<=80:=by
  unfold FJ;simp;have:=T.i6;have:=T.g60;have:=T.o6;omega
 unfold px;rw[Qaj$ by omega]
 have:(FJ ins gs os gn).map (Str.join SP)=(ins.map λx=>Str.join SP$ yL x)++((gs.zip gn).map λp=>Str.join SP$ uF (mm ins++gn) p.1 p.2)++(os.map λo=>Str.join SP$ uy (mm ins++gn) o):=by
  unfold FJ;simp;rfl
 rw[this,nD,nD,h1];simp only;rw[h2];simp only;rw[h3];simp only;rw[Qaj];rintro(q | q)
 .have:=T.i1;rw [q] at this;simp at this
 .have:=T.o1;rw [q] at this;simp at this
end
theorem u7{c:Nat}:∀{l:Aae} {d:Nat},d∈jn c l->d=c\/∃x∈l,d∈x
 | [],d,h=>by cases h
 | [x],d,h=> .inr ⟨x,Qai,h⟩
 | x ::y ::r,d,h=>by
   rcases Qaq.mp h with z | z
   .exact .inr ⟨x,Qai,z⟩
   .rcases QaF.mp z with z | z
    .exact .inl z
    .rcases u7 z with z | ⟨w,hw,z⟩
     .exact .inl z
     .exact .inr ⟨w,Qab _ hw,z⟩
theorem CT{c:Nat}:∀(l:Aae),(jn c l).length<=(l.map (·.length)).sum+l.length
 | []=>by simp [jn]
 | [x]=>by simp [jn]
 | x ::y ::r=>by
   have:=CT (c:=c) (y ::r);show(x++c ::jn c (y ::r)).length<=_;rw[Qar,QaI,Qay,Qb7,QaI];omega
def nO(s:Str):s.length=s.cps.toList.length:=by rw[Qa4];rfl
def Bl{c:Nat}{l:List Str}{m:Nat}(h:∀s∈l,s.length<=m):(Str.join ⟨#[c]⟩ l).length<=l.length*(m+1):=by
 rw[nO,eN];have h1:=CT (c:=c)$ l.map λs=>s.cps.toList
 have h2:=we (l:=(l.map λs=>s.cps.toList).map (·.length)) λx hx=>by
  obtain⟨y,hy,rfl⟩:=QaT.mp hx;obtain⟨s,hs,rfl⟩:=QaT.mp hy;rw[<-nO];exact h s hs
 rw[Qaa,Qaa] at h2;rw[Qaa] at h1;rw[Nat.mul_add,Nat.mul_one];omega
def vN{c d:Nat}{l:List Str}(h:d∈(Str.join ⟨#[c]⟩ l).cps.toList):d=c\/∃s∈l,d∈s.cps.toList:=by
 rw[eN] at h;rcases u7 h with z | ⟨x,hx,z⟩
 .exact .inl z
 .obtain⟨s,hs,rfl⟩:=QaT.mp hx;exact .inr ⟨s,hs,z⟩
structure Ro (r:Str):Prop where
 len:r.length<=110
 cps:∀c∈r.cps.toList,32<=c/\c<128
def uU{ws:List Str}(hl:ws.length<=10)(h:∀w∈ws,Wo w):Ro (Str.join SP ws):=by
 rw[qC];refine⟨?_,λc hc=>?_⟩
 .have:=Bl (c:=32) λw hw=>(h w hw).len
  omega
 .rcases vN hc with z | ⟨w,hw,z⟩
  .omega
  .have:=(h w hw).cps c z;omega
section
variable {ins:Aac}{gs:List Gt}{os:Aad}{gn:List Str}
def KU(T:TN ins gs os)(G:GN ins gs.length gn):(FJ ins gs os gn).length=ins.length+gs.length+os.length:=by
 have:=G.len;unfold FJ;simp;omega
def Pr(T:TN ins gs os)(G:GN ins gs.length gn):∀r∈(FJ ins gs os gn).map (Str.join SP),Ro r:=λr hr=>by
 have hWo:=Lz T G;have Kc:=G.len;have hWl:(mm ins++gn).length=pE ins+gs.length:=by rw[Qar,g_,Kc]
 obtain⟨ws,yl,rfl⟩:=QaT.mp hr;rcases Qaq.mp yl with z | z
 .rcases Qaq.mp z with z | z
  .obtain⟨x,hx,rfl⟩:=QaT.mp z;exact uU (by unfold yL;simp) (Cj$ T.inm x hx)
  .obtain⟨⟨g,n⟩,hp,rfl⟩:=QaT.mp z;obtain⟨i,hi⟩:=Qco.mp hp;obtain⟨hg,hn⟩:=Qbv.mp hi;have gok:=T.gok i g hg;have:=(Qah.mp hg).1;have:=Bo g.1;refine uU (by unfold uF tx;simp;rw [gok.2.1];omega) (BZ (G.nm n$ Qan hn) (λy hy=>(hWo y hy).1) λw hw=>?_)
   have:=gok.2.2 w hw;omega
 .obtain⟨o,ho,rfl⟩:=QaT.mp z;obtain⟨o1,o2,o3⟩:=T.ow o ho;exact uU (by unfold uy tx;simp;omega) (B_ (T.onm o ho) (λy hy=>(hWo y hy).1) λw hw=>by have:=o3 w hw;omega)
def rtx(ins:Aac)(gs:List Gt)(os:Aad)(gn:List Str):Str:=Str.join NL$ (FJ ins gs os gn).map$ Str.join SP
inductive Sx:Nat->D->Prop where
 | int (n:Nat) (i:Int):Sx n (.int i)
 | bl (n:Nat) (b:Bool):Sx n (.bl b)
 | str (n:Nat) (s:Str):Sx n (.str s)
 | lst {n:Nat} {ds:List D} (h:∀d∈ds,Sx n d) (hl:ds.length<1000000):Sx (n+1) (.lst ds)
 | tup {n:Nat} {ds:List D} (h:∀d∈ds,Sx n d) (hl:ds.length<1000000):Sx (n+1) (.tup ds)
end
abbrev IN:Str:=Str.ofString "in"
abbrev GA:Str:=Str.ofString "gate"
abbrev OU:Str:=Str.ofString "out"
abbrev BD:Str:=Str.ofString "bad"
structure Rx where
 t:Str
 wd:Str
 nm:Str
 w:Nat
 ws:List Str
def Rx.d(r:Rx):D:= .lst [.str r.t, .str r.wd, .str r.nm,nI r.w, .lst$ r.ws.map .str]
structure Ls where
 wd:List Str
 nm:List Str
 on:List Str
 kn:List Str
def Ls.d(s:Ls):D:= .lst [.lst$ s.wd.map .str, .lst$ s.nm.map .str, .lst$ s.on.map .str, .lst$ s.kn.map .str]
def lim(w:Str):Nat:=if w==GA then 60 else 6
def RC(r:Rx)(s:Ls):Option Nat:=
 if((r.wd==IN && (s.wd.contains GA || s.wd.contains OU)) || (r.wd==GA && s.wd.contains OU))=true then some 2
 else if((r.wd==OU && s.on.contains r.nm) || (r.wd !=OU && s.nm.contains r.nm))=true then some 3
 else if s.wd.count r.wd=lim r.wd then some 4
 else if r.ws.filter (λw=>!s.kn.contains w)=[] then none else some 5
def T8(r:Rx)(s:Ls):Ls:=
 if(r.wd==OU)=true then⟨s.wd++[r.wd],s.nm,s.on++[r.nm],s.kn⟩
 else⟨s.wd++[r.wd],s.nm++[r.nm],s.on,s.kn++(if 1<r.w then qY r.nm r.w else [r.nm])⟩
def VU(s:Ls):List Rx->Option Nat
 | []=>if(!s.wd.contains IN || !s.wd.contains OU)=true then some 6 else none
 | r ::rs=>if(r.wd==BD)=true then some 1 else match RC r s with | some n=>some n | none=>VU (T8 r s) rs
def s0:Ls:=⟨[],[],[],[]⟩
def oD:Option Nat->D | none=> .int (-1) | some n=>nI n
structure Rok (r:Rx):Prop where
 len:r.t.length<=6000
 cps:∀c∈r.t.cps.toList,c≠10/\c<1114112
 nl:r.nm.length<=8
 wl:r.ws.length<=3
 by4:(r.wd=IN/\r.ws=[]/\1<=r.w/\r.w<=3/\∀d,cE d (Txt.split r.t SP)=nk d r.nm r.w)\/
  (r.wd=GA/\r.w=0/\∃k s,∀d,cE d (Txt.split r.t SP)=addGate d r.nm k r.ws s)\/
  (r.wd=OU/\r.w=0/\∀d,cE d (Txt.split r.t SP)=jU d r.nm r.ws)\/
  (r.wd=BD/\∀d,cE d (Txt.split r.t SP)= .error 3)
structure Inv (s:Ls) (d:Dr):Prop where
 ci:s.wd.count IN=d.ins.length
 cg:s.wd.count GA=d.gs.length
 co:s.wd.count OU=d.os.length
 nm:s.nm=d.nm
 on:s.on=d.on
 kn:s.kn=d.nu
 ok:nY d
def woB(w:Str):Bool:=decide (w.length<=10) && w.cps.toList.all (λc=>decide (33<=c) && decide (c<128)) && fV w
def Vh{l:List Str}{i:Nat}(h:i<l.length):∃w∈l,du (.lst$ l.map .str) (nI i)= .ok (.str w):=⟨l[i],QbL h,NT.cm$ by rw[Qad,Qag h];rfl⟩
def D7{ds:List D}{n:Nat}:JS (.lst ds) none (some (n:Int))= .ok (.lst$ ds.take n):=by
 show R.ok (D.lst$ L2.cutD _ none$ some ((n:Nat):Int))=_;unfold L2.cutD;rw[HT.qb,HT.si,List.drop_zero,Nat.sub_zero];by_cases h:n<=ds.length
 .rw [QbR h]
 .rw [Nat.min_eq_right (by omega),QaP$ Qak _,QaP$ by omega]
def Vd(s:Ls):List Rx->Except Nat Ls
 | []=> .ok s
 | r ::rs=>if(r.wd==BD)=true then .error 1 else match RC r s with | some n=> .error n | none=>Vd (T8 r s) rs
def Ie(bs:List Bool):sS (.lst$ bs.map .bl) (.lst$ bs.map .bl)= .ok (.bl true):=by
 have f:yb 1 (.lst$ bs.map .bl):=yb.lst λd hd=>by obtain⟨g,hg,rfl⟩:=QaT.mp hd;exact yb.bl g
 unfold sS;rw [yb.eqL f$ by omega];rfl
def fX(w:Str):Bool:=w.cps.toList.all λc=>decide (c≠32) && (decide (c≠10) && decide (c<1114112))
def cQ(ws:List Str):Bool:=!uR ws && (!wD ws && (!wQ ws && (decide (ws≠[]) && (ws.all fX && decide ((ws.map (·.length)).sum+ws.length<=6000)))))
def Lq{ws:List Str}(h:cQ ws=true):Rok ⟨Str.join SP ws,BD,Str.ofString "",0,[]⟩:=by
 unfold cQ at h;simp only[QaL,Qcj,Qa6] at h;obtain⟨h1,h2,h3,h4,h5,h6⟩:=h;have hc:∀w∈ws,∀c∈w.cps.toList,c≠32/\c≠10/\c<1114112:=λw hw c hc=>by
  have:=QaJ.mp h5 w hw;have:=QaJ.mp this c hc;simpa using this
 have hs:Txt.split (Str.join SP ws) SP=ws:=by
  exact om h4 λw hw q=>(hc w hw 32 q).1 rfl
 refine⟨?_,λc q=>?_,(by show(Str.ofString "").length<=8;decide+kernel),Qa9 _, .inr$ .inr$ .inr ⟨rfl,λd=>?_⟩⟩
 .show(Str.join SP ws).length<=_;rw[qC,nO,eN];refine QaK (CT _) ?_;rw[Qaa,Qa5];have:ws.map ((λx:List Nat=>x.length) ∘ λs:Str=>s.cps.toList)=ws.map (·.length):=List.map_congr_left λs _=>(nO s).symm
  rw[this];exact h6
 .rw [qC] at q;rcases vN q with z | ⟨w,hw,z⟩
  .omega
  .have:=hc w hw c z;exact⟨this.2.1,this.2.2⟩
 .rw [hs];unfold cE;rw[h1,h2,h3];rfl
@[irreducible] noncomputable def X1:Str:=Txt.mul (Str.ofString "1") 5000
@[irreducible] noncomputable def X2:Str:=Txt.mul (Str.ofString "0") 4301
@[irreducible] noncomputable def X3:Str:=Txt.mul (Str.ofString "a") 5000
def WY:X1.cps.toList=List.replicate 5000 49:=by unfold X1;rw [show Str.ofString "1"=(⟨#[49]⟩:Str) by decide+kernel,mul_one_list];rfl
def Zr:X2.cps.toList=List.replicate 4301 48:=by unfold X2;rw [show Str.ofString "0"=(⟨#[48]⟩:Str) by decide+kernel,mul_one_list];rfl
def Zk:X3.cps.toList=List.replicate 5000 97:=by unfold X3;rw [show Str.ofString "a"=(⟨#[97]⟩:Str) by decide+kernel,mul_one_list];rfl
def Tx:X1.length=5000:=by rw[nO,WY,QaV]
def Wu:X2.length=4301:=by rw[nO,Zr,QaV]
def Xg:X3.length=5000:=by rw[nO,Zk,QaV]
def yr{w:Str}{n c:Nat}(h:w.cps.toList=List.replicate n c)(hc:c≠32/\c≠10/\c<1114112):fX w=true:=by
 unfold fX;rw[h,QaJ];intro x hx;rw[(List.mem_replicate.mp hx).2];simp [hc]
def yT{a b:Str}(ha:fX a=true)(hb:fX b=true):fX (a++b)=true:=by
 unfold fX at*;rw[bq,List.all_append,ha,hb];rfl
def Bk{x:Str}(h:x.length≠1):Cb.lookup x=none:=by
 have n1:(x==Str.ofString "1")=false:=QaQ.mpr λe=>h (by rw[e];decide+kernel)
 have n2:(x==Str.ofString "2")=false:=QaQ.mpr λe=>h (by rw[e];decide+kernel)
 have n3:(x==Str.ofString "3")=false:=QaQ.mpr λe=>h (by rw[e];decide+kernel)
 simp only[QaB,n1,n2,n3,Qct]
def Kw{x:Str}(h:8<x.length):isNm x=false:=by
 cases e:isNm x with
 | false=>rfl
 | true=>have:=(cD.mp e).2.1;omega
def AL:∀f∈xg,f.length=1:=by decide+kernel
def LX{x f:Str}(hx:isNm x=true)(h:f.length≠1):fV (x++CO++f)=false:=by
 unfold fV;rw[sG,ql (Ba hx$ by omega) rfl]
 have n:xg.contains f=false:=by
  cases e:xg.contains f with
  | false=>rfl
  | true=>exact absurd (AL f$ QaH.mp e) h
 show(isNm x && (((⟨#[58]⟩:Str)==Str.empty) || xg.contains f))=false
 rw[n,show((⟨#[58]⟩:Str)==Str.empty)=false by decide+kernel]
 simp
def bc:Str.ofString "b:"=Str.ofString "b"++CO:=by decide+kernel
def bnm:isNm (Str.ofString "b")=true:=by decide+kernel
def BE{ws:List Str}(h1:uR ws=false)(h2:wD ws=false)(h3:wQ ws=false)(h4:ws≠[])(h5:∀w∈ws,fX w=true)(h6:(ws.map (·.length)).sum+ws.length<=6000):cQ ws=true:=by
 unfold cQ;rw[h1,h2,h3,Qac h4,Qac h6,QaJ.mpr h5];rfl
def Vb(a b:Str)(h:Cb.lookup w=none):uR [a,b,w]=false:=by
 show(_ && (_ && (_ && (Cb.lookup w).isSome)))=false;rw[h];simp
def Wi(a w:Str)(h:isNm n=false):uR [a,n,w]=false:=by
 show(_ && (_ && (isNm n && _)))=false;rw[h];simp
def WC(b w:Str)(h:(a==Str.ofString "in")=false):uR [a,b,w]=false:=by
 show(_ && ((a==Str.ofString "in") && _))=false;rw[h];simp
def in4(a b c d:Str):uR [a,b,c,d]=false:=rfl
def T5(a b c:Str):wD [a,b,c]=false:=rfl
def Sa(a b c:Str)(h:fV w=false):wD [a,b,c,w]=false:=by
 show(_ && (_ && (_ && (fV w && true))))=false;rw[h];simp
def R8(b c:Str)(h:(a==Str.ofString "out")=false):wQ [a,b,c]=false:=by
 show((_ && ((a==Str.ofString "out") && _)) && _)=false;rw[h];simp
def Vn(b c d:Str)(h:(a==Str.ofString "out")=false):wQ [a,b,c,d]=false:=by
 show((_ && ((a==Str.ofString "out") && _)) && _)=false;rw[h];simp
def Vt(a b:Str)(h:fV w=false):wQ [a,b,w]=false:=by
 show(_ && (_ && (fV w && true)))=false;rw[h];simp
def OG{a b c:Str}(h1:uR [a,b,c]=false)(h3:wQ [a,b,c]=false)(ha:fX a=true)(hb:fX b=true)(hc:fX c=true)(hl:a.length+b.length+c.length<=5900):cQ [a,b,c]=true:=by
 refine BE h1 (T5 _ _ _) h3 (by simp) (λw hw=>?_) (by simp;omega)
 simp at hw;rcases hw with rfl | rfl | rfl <;> assumption
def W4{a b c d:Str}(h2:wD [a,b,c,d]=false)(h3:wQ [a,b,c,d]=false)(ha:fX a=true)(hb:fX b=true)(hc:fX c=true)(hd:fX d=true)(hl:a.length+b.length+c.length+d.length<=5900):cQ [a,b,c,d]=true:=by
 refine BE (in4 _ _ _ _) h2 h3 (by simp) (λw hw=>?_) (by simp;omega)
 simp at hw;rcases hw with rfl | rfl | rfl | rfl <;> assumption
def li:(Str.ofString "in").length=2/\(Str.ofString "a").length=1/\(Str.ofString "gate").length=4/\(Str.ofString "not").length=3/\(Str.ofString "b:").length=2/\(Str.ofString "out").length=3/\(Str.ofString "1").length=1:=by decide+kernel
def JH:fX (Str.ofString "in")=true/\fX (Str.ofString "a")=true/\fX (Str.ofString "gate")=true/\fX (Str.ofString "not")=true/\fX (Str.ofString "b:")=true/\fX (Str.ofString "out")=true/\fX (Str.ofString "1")=true:=by decide+kernel
def Tb{f:Str}(h:f.length≠1):fV (Str.ofString "b:"++f)=false:=by rw[bc];exact LX bnm h
def TF:cQ [Str.ofString "in",Str.ofString "a",X1]=true:=
 OG (Vb _ _$ Bk$ by rw[Tx];decide) (R8 _ _$ by decide+kernel) JH.1 JH.2.1 (yr WY$ by decide) (by rw[Tx,li.1,li.2.1];decide)
def R9:cQ [Str.ofString "gate",Str.ofString "a",Str.ofString "not",Str.ofString "b:"++X1]=true:=
 W4 (Sa _ _ _$ Tb$ by rw[Tx];decide) (Vn _ _ _$ by decide+kernel) JH.2.2.1 JH.2.1 JH.2.2.2.1 (yT JH.2.2.2.2.1$ yr WY$ by decide) (by rw[Qax,Tx,li.2.2.1,li.2.1,li.2.2.2.1,li.2.2.2.2.1];decide)
def TK:cQ [Str.ofString "out",Str.ofString "a",Str.ofString "b:"++X2]=true:=
 OG (WC _ _$ by decide+kernel) (Vt _ _$ Tb$ by rw[Wu];decide) JH.2.2.2.2.2.1 JH.2.1 (yT JH.2.2.2.2.1$ yr Zr$ by decide) (by rw[Qax,Wu,li.2.2.2.2.2.1,li.2.1,li.2.2.2.2.1];decide)
def Tj:cQ [Str.ofString "in",X3,Str.ofString "1"]=true:=
 OG (Wi _ _$ Kw$ by rw[Xg];decide) (R8 _ _$ by decide+kernel) JH.1 (yr Zk$ by decide) JH.2.2.2.2.2.2 (by rw[Xg,li.1,li.2.2.2.2.2.2];decide)
def e7{α:Type}{a b:α}{l m:List α}(h:a=b)(t:l=m):a ::l=b ::m:=by rw[h,t]
def El:(Str.ofString "in").cps.toList=[105,110]:=by decide+kernel
def KD:(Str.ofString "a").cps.toList=[97]:=by decide+kernel
def uQ:(Str.ofString "gate").cps.toList=[103,97,116,101]:=by decide+kernel
def ym:(Str.ofString "not").cps.toList=[110,111,116]:=by decide+kernel
def EE:(Str.ofString "b:").cps.toList=[98,58]:=by decide+kernel
def zD:(Str.ofString "out").cps.toList=[111,117,116]:=by decide+kernel
def Ku:(Str.ofString "1").cps.toList=[49]:=by decide+kernel
def Ze:jK (.str$ Str.ofString "1") (.int 5000)= .ok (.str X1):=by
 unfold X1 jK;exact bG _ (by decide+kernel)
def mX2:jK (.str$ Str.ofString "0") (.int 4301)= .ok (.str X2):=by
 unfold X2 jK;exact bG _ (by decide+kernel)
def mX3:jK (.str$ Str.ofString "a") (.int 5000)= .ok (.str X3):=by
 unfold X3 jK;exact bG _ (by decide+kernel)
def Rh:List (List Str):=[[Str.ofString ""],[Str.ofString "",Str.ofString ""],[Str.ofString "in"],[Str.ofString "in",Str.ofString "a"],[Str.ofString "in",Str.ofString "a",Str.ofString "0"],[Str.ofString "in",Str.ofString "a",Str.ofString "4"],[Str.ofString "in",Str.ofString "a",Str.ofString "01"],[Str.ofString "in",Str.ofString "a",Str.ofString "x"],[Str.ofString "in",Str.ofString "a",Str.ofString "1",Str.ofString "1"],[Str.ofString "in",Str.ofString "A",Str.ofString "1"],[Str.ofString "in",Str.ofString "a1",Str.ofString "1"]]
def be0:[Str.ofString "",Str.ofString " ",Str.ofString "in",Str.ofString "in a",Str.ofString "in a 0",Str.ofString "in a 4",Str.ofString "in a 01",Str.ofString "in a x",Str.ofString "in a 1 1",Str.ofString "in A 1",Str.ofString "in a1 1"]=Rh.map (Str.join SP):=by decide+kernel
def bf0:∀ws∈Rh,cQ ws=true:=by decide+kernel
def QX:List (List Str):=[[Str.ofString "in",Str.ofString "abcdefghi",Str.ofString "1"],[Str.ofString "in",Str.ofString "",Str.ofString "a",Str.ofString "1"],[Str.ofString "in",Str.ofString "a",Str.ofString "1",Str.ofString ""],[Str.ofString "",Str.ofString "in",Str.ofString "a",Str.ofString "1"],[Str.ofString "In",Str.ofString "a",Str.ofString "1"],[Str.ofString "ins",Str.ofString "a",Str.ofString "1"],[Str.ofString "in",Str.ofString "1",Str.ofString "a"]]
def be1:[Str.ofString "in abcdefghi 1",Str.ofString "in  a 1",Str.ofString "in a 1 ",Str.ofString " in a 1",Str.ofString "In a 1",Str.ofString "ins a 1",Str.ofString "in 1 a"]=QX.map (Str.join SP):=by decide+kernel
def bf1:∀ws∈QX,cQ ws=true:=by decide+kernel
def Q6:List (List Str):=[[Str.ofString "in",Str.ofString "gate",Str.ofString "1"],[Str.ofString "in",Str.ofString "in",Str.ofString "1"],[Str.ofString "in",Str.ofString "a",Str.ofString "-1"],[Str.ofString "in",Str.ofString "a",Str.ofString "1."],[Str.ofString "in",Str.ofString "a",Str.ofString "11"],[Str.ofString "in",Str.ofString ":a",Str.ofString "1"],[Str.ofString "in",Str.ofString "a:0",Str.ofString "1"],[Str.ofString "gate"]]
def be2:[Str.ofString "in gate 1",Str.ofString "in in 1",Str.ofString "in a -1",Str.ofString "in a 1.",Str.ofString "in a 11",Str.ofString "in :a 1",Str.ofString "in a:0 1",Str.ofString "gate"]=Q6.map (Str.join SP):=by decide+kernel
def bf2:∀ws∈Q6,cQ ws=true:=by decide+kernel
def Q5:List (List Str):=[[Str.ofString "gate",Str.ofString "a"],[Str.ofString "gate",Str.ofString "a",Str.ofString "not"],[Str.ofString "gate",Str.ofString "a",Str.ofString "and"],[Str.ofString "gate",Str.ofString "a",Str.ofString "not",Str.ofString "b",Str.ofString "c"],[Str.ofString "gate",Str.ofString "a",Str.ofString "and",Str.ofString "b"],[Str.ofString "gate",Str.ofString "a",Str.ofString "and",Str.ofString "b",Str.ofString "c",Str.ofString "d"]]
def be3:[Str.ofString "gate a",Str.ofString "gate a not",Str.ofString "gate a and",Str.ofString "gate a not b c",Str.ofString "gate a and b",Str.ofString "gate a and b c d"]=Q5.map (Str.join SP):=by decide+kernel
def bf3:∀ws∈Q5,cQ ws=true:=by decide+kernel
def Rl:List (List Str):=[[Str.ofString "gate",Str.ofString "a",Str.ofString "or",Str.ofString "b"],[Str.ofString "gate",Str.ofString "a",Str.ofString "xor",Str.ofString "b",Str.ofString "c",Str.ofString "d"],[Str.ofString "gate",Str.ofString "a",Str.ofString "vote",Str.ofString "b",Str.ofString "c"],[Str.ofString "gate",Str.ofString "a",Str.ofString "vote",Str.ofString "b",Str.ofString "c",Str.ofString "d",Str.ofString "e"]]
def be4:[Str.ofString "gate a or b",Str.ofString "gate a xor b c d",Str.ofString "gate a vote b c",Str.ofString "gate a vote b c d e"]=Rl.map (Str.join SP):=by decide+kernel
def bf4:∀ws∈Rl,cQ ws=true:=by decide+kernel
def Ri:List (List Str):=[[Str.ofString "gate",Str.ofString "a",Str.ofString "nand",Str.ofString "b",Str.ofString "c"],[Str.ofString "gate",Str.ofString "a",Str.ofString "NOT",Str.ofString "b"],[Str.ofString "gate",Str.ofString "A",Str.ofString "not",Str.ofString "b"],[Str.ofString "gate",Str.ofString "a1",Str.ofString "not",Str.ofString "b"],[Str.ofString "gate",Str.ofString "not",Str.ofString "not",Str.ofString "b"]]
def be5:[Str.ofString "gate a nand b c",Str.ofString "gate a NOT b",Str.ofString "gate A not b",Str.ofString "gate a1 not b",Str.ofString "gate not not b"]=Ri.map (Str.join SP):=by decide+kernel
def bf5:∀ws∈Ri,cQ ws=true:=by decide+kernel
def Q1:List (List Str):=[[Str.ofString "gate",Str.ofString "a",Str.ofString "not",Str.ofString "B"],[Str.ofString "gate",Str.ofString "a",Str.ofString "not",Str.ofString "1"],[Str.ofString "gate",Str.ofString "a",Str.ofString "not",Str.ofString "b:"],[Str.ofString "gate",Str.ofString "a",Str.ofString "not",Str.ofString "b:00"],[Str.ofString "gate",Str.ofString "a",Str.ofString "not",Str.ofString "b:x"]]
def be6:[Str.ofString "gate a not B",Str.ofString "gate a not 1",Str.ofString "gate a not b:",Str.ofString "gate a not b:00",Str.ofString "gate a not b:x"]=Q1.map (Str.join SP):=by decide+kernel
def bf6:∀ws∈Q1,cQ ws=true:=by decide+kernel
def Rc:List (List Str):=[[Str.ofString "gate",Str.ofString "a",Str.ofString "not",Str.ofString ":0"],[Str.ofString "gate",Str.ofString "a",Str.ofString "not",Str.ofString "b:0:0"],[Str.ofString "gate",Str.ofString "a",Str.ofString "not",Str.ofString "b;0"],[Str.ofString "gate",Str.ofString "a",Str.ofString "and",Str.ofString "b,",Str.ofString "c"],[Str.ofString "gate",Str.ofString "a",Str.ofString "",Str.ofString "not",Str.ofString "b"]]
def be7:[Str.ofString "gate a not :0",Str.ofString "gate a not b:0:0",Str.ofString "gate a not b;0",Str.ofString "gate a and b, c",Str.ofString "gate a  not b"]=Rc.map (Str.join SP):=by decide+kernel
def bf7:∀ws∈Rc,cQ ws=true:=by decide+kernel
def Q3:List (List Str):=[[Str.ofString "gate",Str.ofString "a",Str.ofString "not",Str.ofString "",Str.ofString "b"],[Str.ofString "gate",Str.ofString "a",Str.ofString "not",Str.ofString "b",Str.ofString ""],[Str.ofString "",Str.ofString "gate",Str.ofString "a",Str.ofString "not",Str.ofString "b"],[Str.ofString "Gate",Str.ofString "a",Str.ofString "not",Str.ofString "b"],[Str.ofString "gates",Str.ofString "a",Str.ofString "not",Str.ofString "b"]]
def be8:[Str.ofString "gate a not  b",Str.ofString "gate a not b ",Str.ofString " gate a not b",Str.ofString "Gate a not b",Str.ofString "gates a not b"]=Q3.map (Str.join SP):=by decide+kernel
def bf8:∀ws∈Q3,cQ ws=true:=by decide+kernel
def Q4:List (List Str):=[[Str.ofString "gate",Str.ofString "abcdefghi",Str.ofString "not",Str.ofString "b"],[Str.ofString "gate",Str.ofString "a",Str.ofString "not",Str.ofString "abcdefghi"],[Str.ofString "gate",Str.ofString "vote",Str.ofString "vote",Str.ofString "b",Str.ofString "c",Str.ofString "d"],[Str.ofString "gate",Str.ofString "a",Str.ofString "in",Str.ofString "b"]]
def be9:[Str.ofString "gate abcdefghi not b",Str.ofString "gate a not abcdefghi",Str.ofString "gate vote vote b c d",Str.ofString "gate a in b"]=Q4.map (Str.join SP):=by decide+kernel
def bf9:∀ws∈Q4,cQ ws=true:=by decide+kernel
def FL:List (List Str):=[[Str.ofString "gate",Str.ofString "a",Str.ofString "not",Str.ofString "not"],[Str.ofString "gate",Str.ofString "a",Str.ofString "and",Str.ofString "b",Str.ofString "or"],[Str.ofString "gate",Str.ofString "a",Str.ofString "not",Str.ofString "b:-1"],[Str.ofString "gate",Str.ofString "a",Str.ofString "not",Str.ofString "-b"],[Str.ofString "gate",Str.ofString "a",Str.ofString "not(b)"]]
def Wq:[Str.ofString "gate a not not",Str.ofString "gate a and b or",Str.ofString "gate a not b:-1",Str.ofString "gate a not -b",Str.ofString "gate a not(b)"]=FL.map (Str.join SP):=by decide+kernel
def WV:∀ws∈FL,cQ ws=true:=by decide+kernel
def FH:List (List Str):=[[Str.ofString "gate",Str.ofString "a",Str.ofString "=",Str.ofString "not",Str.ofString "b"],[Str.ofString "sure"],[Str.ofString "sure",Str.ofString "a"],[Str.ofString "sure",Str.ofString "a",Str.ofString "not"],[Str.ofString "sure",Str.ofString "a",Str.ofString "not",Str.ofString "b",Str.ofString "c"],[Str.ofString "sure",Str.ofString "a",Str.ofString "or",Str.ofString "b"]]
def VH:[Str.ofString "gate a = not b",Str.ofString "sure",Str.ofString "sure a",Str.ofString "sure a not",Str.ofString "sure a not b c",Str.ofString "sure a or b"]=FH.map (Str.join SP):=by decide+kernel
def Vf:∀ws∈FH,cQ ws=true:=by decide+kernel
def E6:List (List Str):=[[Str.ofString "sure",Str.ofString "A",Str.ofString "or",Str.ofString "b",Str.ofString "c"],[Str.ofString "sure",Str.ofString "a",Str.ofString "nor",Str.ofString "b",Str.ofString "c"],[Str.ofString "Sure",Str.ofString "a",Str.ofString "not",Str.ofString "b"],[Str.ofString "sures",Str.ofString "a",Str.ofString "not",Str.ofString "b"],[Str.ofString "sure",Str.ofString "",Str.ofString "a",Str.ofString "not",Str.ofString "b"]]
def VC:[Str.ofString "sure A or b c",Str.ofString "sure a nor b c",Str.ofString "Sure a not b",Str.ofString "sures a not b",Str.ofString "sure  a not b"]=E6.map (Str.join SP):=by decide+kernel
def WI:∀ws∈E6,cQ ws=true:=by decide+kernel
def Fy:List (List Str):=[[Str.ofString "sure",Str.ofString "a",Str.ofString "vote",Str.ofString "b",Str.ofString "c"],[Str.ofString "sure",Str.ofString "sure",Str.ofString "not",Str.ofString "b"],[Str.ofString "sure",Str.ofString "a",Str.ofString "not",Str.ofString "b:a"],[Str.ofString "out"],[Str.ofString "out",Str.ofString "a"],[Str.ofString "out",Str.ofString "a",Str.ofString "b",Str.ofString "c",Str.ofString "d",Str.ofString "e"]]
def W2:[Str.ofString "sure a vote b c",Str.ofString "sure sure not b",Str.ofString "sure a not b:a",Str.ofString "out",Str.ofString "out a",Str.ofString "out a b c d e"]=Fy.map (Str.join SP):=by decide+kernel
def WU:∀ws∈Fy,cQ ws=true:=by decide+kernel
def Fq:List (List Str):=[[Str.ofString "out",Str.ofString "A",Str.ofString "b"],[Str.ofString "out",Str.ofString "a",Str.ofString "B"],[Str.ofString "out",Str.ofString "a",Str.ofString "1"],[Str.ofString "out",Str.ofString "a",Str.ofString "b:"],[Str.ofString "out",Str.ofString "a",Str.ofString "b:10"],[Str.ofString "out",Str.ofString "a",Str.ofString "",Str.ofString "b"],[Str.ofString "out",Str.ofString "a",Str.ofString "b",Str.ofString ""]]
def WD:[Str.ofString "out A b",Str.ofString "out a B",Str.ofString "out a 1",Str.ofString "out a b:",Str.ofString "out a b:10",Str.ofString "out a  b",Str.ofString "out a b "]=Fq.map (Str.join SP):=by decide+kernel
def VR:∀ws∈Fq,cQ ws=true:=by decide+kernel
def EW:List (List Str):=[[Str.ofString "",Str.ofString "out",Str.ofString "a",Str.ofString "b"],[Str.ofString "Out",Str.ofString "a",Str.ofString "b"],[Str.ofString "outs",Str.ofString "a",Str.ofString "b"],[Str.ofString "out",Str.ofString "out",Str.ofString "b"],[Str.ofString "out",Str.ofString "a",Str.ofString "out"],[Str.ofString "out",Str.ofString "1",Str.ofString "b"],[Str.ofString "out",Str.ofString "abcdefghi",Str.ofString "b"]]
def VP:[Str.ofString " out a b",Str.ofString "Out a b",Str.ofString "outs a b",Str.ofString "out out b",Str.ofString "out a out",Str.ofString "out 1 b",Str.ofString "out abcdefghi b"]=EW.map (Str.join SP):=by decide+kernel
def Wv:∀ws∈EW,cQ ws=true:=by decide+kernel
def FY:List (List Str):=[[Str.ofString "out",Str.ofString "a",Str.ofString "b,c"],[Str.ofString "out",Str.ofString "a",Str.ofString "b:",Str.ofString "0"],[Str.ofString "not",Str.ofString "a",Str.ofString "b"],[Str.ofString "and",Str.ofString "a",Str.ofString "b",Str.ofString "c"],[Str.ofString "a"],[Str.ofString "1"],[Str.ofString "wire",Str.ofString "a",Str.ofString "b"],[Str.ofString "gate:",Str.ofString "a",Str.ofString "not",Str.ofString "b"]]
def VZ:[Str.ofString "out a b,c",Str.ofString "out a b: 0",Str.ofString "not a b",Str.ofString "and a b c",Str.ofString "a",Str.ofString "1",Str.ofString "wire a b",Str.ofString "gate: a not b"]=FY.map (Str.join SP):=by decide+kernel
def WX:∀ws∈FY,cQ ws=true:=by decide+kernel
def Fp:List (List Str):=[[Str.ofString "#",Str.ofString "in",Str.ofString "a",Str.ofString "1"],[Str.ofString "end"],[Str.ofString "vote",Str.ofString "a",Str.ofString "b",Str.ofString "c"]]
def VM:[Str.ofString "# in a 1",Str.ofString "end",Str.ofString "vote a b c"]=Fp.map (Str.join SP):=by decide+kernel
def WJ:∀ws∈Fp,cQ ws=true:=by decide+kernel
def AD(w:Str):List (List Str):=[[Str.ofString "in",w,Str.ofString "2"],[Str.ofString "gate",w,Str.ofString "not",Str.ofString "b"],[Str.ofString "sure",Str.ofString "q",Str.ofString "not",w]]
def zX(w:Str):List (List Str):=[[Str.ofString "out",w,Str.ofString "b"],[Str.ofString "out",Str.ofString "q",w],[Str.ofString "in",Str.ofString "a",X1],[Str.ofString "gate",Str.ofString "a",Str.ofString "not",Str.ofString "b:"++X1]]
def AY(w:Str):List (List Str):=[[Str.ofString "out",Str.ofString "a",Str.ofString "b:"++X2],[Str.ofString "in",X3,Str.ofString "1"],[Str.ofString "in",Str.ofString "a",Str.ofString "12"],[Str.ofString "in",Str.ofString "a",Str.ofString "23"],[Str.ofString "in",Str.ofString "a",Str.ofString "123"],[Str.ofString "in",Str.ofString "a",Str.ofString ""]]
def zV:List (List Str):=[[Str.ofString "gate",Str.ofString "a",Str.ofString "or",Str.ofString "b",Str.ofString "c",Str.ofString "d"],[Str.ofString "sure",Str.ofString "a",Str.ofString "or",Str.ofString "b",Str.ofString "c",Str.ofString "d"],[Str.ofString "sure",Str.ofString "a",Str.ofString "vote",Str.ofString "b",Str.ofString "c",Str.ofString "d",Str.ofString "e"],[Str.ofString "gate",Str.ofString "a",Str.ofString "not",Str.ofString "b:01"],[Str.ofString "out",Str.ofString "a",Str.ofString "b:12"]]
def Wz:[Str.ofString "gate a or b c d",Str.ofString "sure a or b c d",Str.ofString "sure a vote b c d e",Str.ofString "gate a not b:01",Str.ofString "out a b:12"]=zV.map (Str.join SP):=by decide+kernel
def V0:∀ws∈zV,cQ ws=true:=by decide+kernel
def Wy:(Str.ofString " 1").cps.toList=[32,49]:=by decide+kernel
def VG:(Str.ofString "gate a not b:").cps.toList=[103,97,116,101,32,97,32,110,111,116,32,98,58]:=by decide+kernel
def VX:(Str.ofString "in ").cps.toList=[105,110,32]:=by decide+kernel
def V9:(Str.ofString "in a ").cps.toList=[105,110,32,97,32]:=by decide+kernel
def Vi:(Str.ofString "out a b:").cps.toList=[111,117,116,32,97,32,98,58]:=by decide+kernel
def VI{w:Str}(hw:w∈mr):[Str.ofString "in "++w++Str.ofString " 2",Str.ofString "gate "++w++Str.ofString " not b",Str.ofString "sure q not "++w]=(AD w).map (Str.join SP):=by
 unfold AD;refine(e7 ?_$ e7 ?_$ e7 ?_ rfl)
 .revert w;decide+kernel
 .revert w;decide+kernel
 .revert w;decide+kernel
def V_(hw:w∈mr):∀ws∈AD w,cQ ws=true:=by
 intro ws yl;unfold AD at yl;simp at yl;rcases yl with rfl | rfl | rfl
 .revert w;decide+kernel
 .revert w;decide+kernel
 .revert w;decide+kernel
def Wa{w:Str}(hw:w∈mr):[Str.ofString "out "++w++Str.ofString " b",Str.ofString "out q "++w,Str.ofString "in a "++X1,Str.ofString "gate a not b:"++X1]=(zX w).map (Str.join SP):=by
 unfold zX;refine(e7 ?_$ e7 ?_$ e7 ?_$ e7 ?_ rfl)
 .revert w;decide+kernel
 .revert w;decide+kernel
 .exact cW (by rw[qC,eN];simp only[bq,Qay,QbI,jn,V9,El,KD,uQ,ym,EE,zD,Ku,bq];simp)
 .exact cW (by rw[qC,eN];simp only[bq,Qay,QbI,jn,VG,El,KD,uQ,ym,EE,zD,Ku,bq];simp)
def VF(hw:w∈mr):∀ws∈zX w,cQ ws=true:=by
 intro ws yl;unfold zX at yl;simp at yl;rcases yl with rfl | rfl | rfl | rfl
 .revert w;decide+kernel
 .revert w;decide+kernel
 .exact TF
 .exact R9
def Vu(hw:w∈mr):[Str.ofString "out a b:"++X2,Str.ofString "in "++X3++Str.ofString " 1",Str.ofString "in a 12",Str.ofString "in a 23",Str.ofString "in a 123",Str.ofString "in a "]=(AY w).map (Str.join SP):=by
 unfold AY;refine(e7 ?_$ e7 ?_$ e7 ?_$ e7 ?_$ e7 ?_$ e7 ?_ rfl)
 .exact cW (by rw[qC,eN];simp only[bq,Qay,QbI,jn,Vi,El,KD,uQ,ym,EE,zD,Ku,bq];simp)
 .exact cW (by rw[qC,eN];simp only[bq,Qay,QbI,jn,Wy,VX,El,KD,uQ,ym,EE,zD,Ku,bq];simp)
 .decide+kernel
 .decide+kernel
 .decide+kernel
 .decide+kernel
def Vg(hw:w∈mr):∀ws∈AY w,cQ ws=true:=by
 intro ws yl;unfold AY at yl;simp at yl;rcases yl with rfl | rfl | rfl | rfl | rfl | rfl
 .exact TK
 .exact Tj
 .decide+kernel
 .decide+kernel
 .decide+kernel
 .decide+kernel
def y9(w:Str):Bool:=mr.contains w || ((Cb.lookup w).isSome || fV w)
def ID(h:isNm w=true):y9 w=true:=by unfold y9;rw [HI h];simp
def M7(h:fV w=true):y9 w=true:=by unfold y9;rw [h];simp
def yX(h:w∈mr):y9 w=true:=by unfold y9;rw [QaH.mpr h];rfl
def Ow(h:(Cb.lookup w).isSome=true):y9 w=true:=by unfold y9;rw [h];simp
def Sg(h:(A1.lookup w).isSome=true):y9 w=true:=by
 have h1:=(zt h).1;have h2:=(zt h).2.1;rw[<-h1];rcases(show wO w=0\/wO w=1\/wO w=2\/wO w=3\/wO w=4 by omega) with e | e | e | e | e <;> rw[e] <;> decide+kernel
def PQ{ws:List Str}(h:uR ws=true):∀w∈ws,y9 w=true:=by
 unfold uR at h;simp only[QaL,Qa6,Qa3] at h;obtain⟨h0,h1,h2,h3⟩:=h
 match ws,h0 with
 | [a,b,c],_=>
   intro w hw;simp at hw;rcases hw with rfl | rfl | rfl
   .exact yX (by have:w=Str.ofString "in":=h1;rw [this];decide+kernel)
   .exact ID h2
   .exact Ow h3
def OE{ws:List Str}(h:wD ws=true):∀w∈ws,y9 w=true:=by
 unfold wD at h;simp only[QaL,Qa6] at h;obtain⟨⟨h0,h1⟩,⟨h2,h3⟩,h4,h5⟩:=h
 match ws,h0 with
 | a ::b ::c ::r,_=>
   intro w hw;simp at hw;rcases hw with rfl | rfl | rfl | hw
   .have h1:=QaH.mp h1;simp at h1;rcases h1 with e | e
    .exact yX (by have:w=Str.ofString "gate":=e;rw [this];decide+kernel)
    .exact yX (by have:w=Str.ofString "sure":=e;rw [this];decide+kernel)
   .exact ID h2
   .exact Sg h3
   .exact M7 (QaJ.mp h5 w hw)
def OF{ws:List Str}(h:wQ ws=true):∀w∈ws,y9 w=true:=by
 unfold wQ at h;simp only[QaL,Qa6,Qa3] at h;obtain⟨⟨h0,h1,h2⟩,h4,h5⟩:=h
 match ws,h0 with
 | a ::b ::r,_=>
   intro w hw;simp at hw;rcases hw with rfl | rfl | hw
   .exact yX (by have:w=Str.ofString "out":=h1;rw [this];decide+kernel)
   .exact ID h2
   .exact M7 (QaJ.mp h5 w hw)
def Et{ws:List Str}(hw:w∈ws)(h:y9 w=false):uR ws=false/\wD ws=false/\wQ ws=false:=by
 refine⟨?_,?_,?_⟩
 .cases e:uR ws with
  | false=>rfl
  | true=>rw [PQ e w hw] at h;cases h
 .cases e:wD ws with
  | false=>rfl
  | true=>rw [OE e w hw] at h;cases h
 .cases e:wQ ws with
  | false=>rfl
  | true=>rw [OF e w hw] at h;cases h
def Jm:y9 Str.empty=false:=by decide+kernel
def Es{w:Str}{c:Nat}(h1:1<=w.length)(h2:w.cps.toList.getLast?≠some 58)(hc:¬(97<=c/\c<=122)):y9 (w++⟨#[c]⟩)=false:=by
 have hl:(w++⟨#[c]⟩:Str).cps.toList=w.cps.toList++[c]:=bq _ _;have nlow:∀v:Str,(w++⟨#[c]⟩:Str)=v->¬∀x∈v.cps.toList,97<=x/\x<=122:=λv e h=>hc (h c$ by rw[<-e,hl];simp)
 have a1:mr.contains (w++⟨#[c]⟩:Str)=false:=by
  cases e:mr.contains (w++⟨#[c]⟩:Str) with
  | false=>rfl
  | true=>
    have hb:∀v∈mr,∀x∈v.cps.toList,97<=x/\x<=122:=by decide+kernel
    exact absurd (hb _$ QaH.mp e)$ nlow _ rfl
 have a2:Cb.lookup (w++⟨#[c]⟩:Str)=none:=Bk (by rw[Qax];show w.length+1≠1;omega)
 have a3:fV (w++⟨#[c]⟩:Str)=false:=by
  cases e:fV (w++⟨#[c]⟩:Str) with
  | false=>rfl
  | true=>
    exfalso
    generalize hx:(w++⟨#[c]⟩:Str)=x at e hl nlow;unfold fV at e;by_cases q:58∈x.cps.toList
    .obtain⟨a,b,hab,ha⟩:=List.eq_append_cons_of_mem q;have ex:x=(⟨a.toArray⟩:Str)++⟨#[58]⟩++⟨b.toArray⟩:=cW (by rw[bq,bq,hab];simp)
     rw[sG,ql (by simpa using ha) ex] at e
     have e:(isNm (⟨a.toArray⟩:Str) && (((⟨#[58]⟩:Str)==Str.empty) || xg.contains (⟨b.toArray⟩:Str)))=true:=e
     simp only[QaL,Bool.false_or] at e;have hb:b.length=1:=by
      have:=AL _$ QaH.mp e.2;have h3:(⟨b.toArray⟩:Str).length=b.length:=by show b.toArray.size=_;simp
      omega
     match b,hb with
     | [y],_=>
       have h4:w.cps.toList++[c]=(a++[58])++[y]:=by rw[<-hl,hab];simp
       have h5:w.cps.toList=a++[58]:=(List.append_inj' h4 rfl).1;exact h2 (by rw[h5];simp)
    .rw [sG,tG q] at e;simp only[QaL] at e;exact nlow x rfl (cD.mp e.1).2.2.2
 unfold y9;rw[a1,a2,a3];rfl
structure Gd (w:Str):Prop where
 ne:1<=w.length
 ls:w.cps.toList.getLast?≠some 58
 wo:Wo w
def A2(h:isNm s=true):Gd s:=⟨(cD.mp h).1,λe=>by
 have:=(cD.mp h).2.2.2 58$ List.mem_of_getLast? e;omega,xV h⟩
def Zo(w:Str):Bool:=decide (1<=w.length) && (decide (w.length<=10) && (decide (w.cps.toList.getLast?≠some 58) && w.cps.toList.all λc=>decide$ 33<=c/\c<128))
def AN(h:Zo w=true):Gd w:=by
 unfold Zo at h;simp only[QaL,Qa6,QaJ] at h;exact⟨h.1,h.2.2.1,h.2.1,h.2.2.2⟩
def Oa{x:Str}(h:isNm x=true){f:Nat}:Gd (x++CO++jQ f):=by
 refine⟨by rw[Qax,Qax];have:=(cD.mp h).1;omega,?_,G2 h⟩
 rw[bq,List.getLast?_append]
 match f with
 | 0=>rw [show(jQ 0).cps.toList.getLast? =some 48 by decide+kernel];simp
 | 1=>rw [show(jQ 1).cps.toList.getLast? =some 49 by decide+kernel];simp
 | n+2=>rw [show(jQ$ n+2).cps.toList.getLast? =some 50 by show(Str.ofString "2").cps.toList.getLast? =_;decide+kernel];simp
def PY(h:isNm x=true){w:Nat}:∀y∈qY x w,Gd y:=λy hy=>by
 unfold qY at hy;split at hy
 .rw [QaC.mp hy];exact A2 h
 .obtain⟨f,_,rfl⟩:=QaT.mp hy;exact Oa h
structure Gr (ws:List Str):Prop where
 gd:∀w∈ws,Gd w
 l3:3<=ws.length
 l6:ws.length<=6
 ou:wd ws 0=Str.ofString "out"\/((wd ws 0==Str.ofString "out")=false/\(ws.length=3\/((wd ws 0==Str.ofString "in")=false/\∃k,A1.lookup (wd ws 2)=some ((k:Nat):Int)/\ws.length=3+k)))
def RJ(k:Nat):Gd (kS k):=by unfold kS;split <;> exact AN (by decide+kernel)
def RL{k:Nat}(h:k<=4):A1.lookup (kS k)=some ((ar k:Nat):Int):=by
 rcases(show k=0\/k=1\/k=2\/k=3\/k=4 by omega) with rfl | rfl | rfl | rfl | rfl <;> decide+kernel
section
variable {ins:Aac}{gs:List Gt}{os:Aad}{gn:List Str}
def Nd{W:List Str}(hW:∀y∈W,Gd y){l:List Nat}(h:∀w∈l,w<W.length):∀w∈tx W l,Gd w:=λw hw=>by
 obtain⟨i,hi,rfl⟩:=QaT.mp hw;refine hW _ ?_;rw[Qaz,Qag$ h i hi];exact QbL _
def Pz(T:TN ins gs os)(G:GN ins gs.length gn):∀ws∈FJ ins gs os gn,Gr ws:=λws yl=>by
 have Kc:=G.len;have hWl:(mm ins++gn).length=pE ins+gs.length:=by rw[Qar,g_,Kc]
 have hWg:∀y∈mm ins++gn,Gd y:=λy hy=>by
  rcases Qaq.mp hy with z | z
  .obtain⟨x,hx,hy⟩:=List.mem_flatMap.mp z;exact PY (T.inm x hx) y hy
  .exact A2 (G.nm y z)
 rcases Qaq.mp yl with z | z
 .rcases Qaq.mp z with z | z
  .obtain⟨x,hx,rfl⟩:=QaT.mp z;refine⟨λw hw=>?_,by unfold yL;simp,by unfold yL;simp, .inr ⟨by show(Str.ofString "in"==Str.ofString "out")=false;decide+kernel, .inl rfl⟩⟩
   unfold yL at hw;simp at hw;rcases hw with rfl | rfl | rfl
   .exact AN (by decide+kernel)
   .exact A2 (T.inm x hx)
   .unfold wS;split <;> exact AN (by decide+kernel)
  .obtain⟨⟨g,n⟩,hp,rfl⟩:=QaT.mp z;obtain⟨i,hi⟩:=Qco.mp hp;obtain⟨hg,hn⟩:=Qbv.mp hi;have gok:=T.gok i g hg;have:=(Qah.mp hg).1;have:=Bo g.1;have hl:(uF (mm ins++gn) g n).length=3+ar g.1:=by unfold uF tx;simp [gok.2.1];omega
   refine⟨λw hw=>?_,by rw[hl];omega,by rw[hl];omega, .inr ⟨?_, .inr ⟨?_,ar g.1,RL gok.1,hl⟩⟩⟩
   .unfold uF at hw;rcases Qaq.mp hw with hw | hw
    .simp at hw;rcases hw with rfl | rfl | rfl
     .split <;> exact AN (by decide+kernel)
     .exact A2 (G.nm w$ Qan hn)
     .exact RJ _
    .exact Nd hWg (λw hw=>by have:=gok.2.2 w hw;omega) w hw
   .show((if g.2.2 then Str.ofString "sure" else Str.ofString "gate")==Str.ofString "out")=false
    cases g.2.2 <;> decide+kernel
   .show((if g.2.2 then Str.ofString "sure" else Str.ofString "gate")==Str.ofString "in")=false
    cases g.2.2 <;> decide+kernel
 .obtain⟨o,ho,rfl⟩:=QaT.mp z;obtain⟨o1,o2,o3⟩:=T.ow o ho;have hl:(uy (mm ins++gn) o).length=2+o.2.length:=by unfold uy tx;simp;omega
  refine⟨λw hw=>?_,by rw[hl];omega,by rw[hl];omega, .inl rfl⟩
  rcases Qaq.mp hw with hw | hw
  .simp at hw;rcases hw with rfl | rfl
   .exact AN (by decide+kernel)
   .exact A2 (T.onm o ho)
  .exact Nd hWg (λw hw=>by have:=o3 w hw;omega) w hw
end
def EA(h:Wo w):fX w=true:=by
 unfold fX;rw[QaJ];intro c hc;have:=h.cps c hc;simp;omega
def short{ws:List Str}(h:ws.length<=2):uR ws=false/\wD ws=false/\wQ ws=false:=by
 unfold uR wD wQ;rw[Qaf (show ¬ws.length=3 by omega),Qaf (show ¬4<=ws.length by omega),Qaf$ show ¬3<=ws.length by omega]
 exact⟨rfl,rfl,rfl⟩
def Tn{ws:List Str}{n:Nat}(h:∀w∈ws,w.length<=n):(ws.map (·.length)).sum<=ws.length*n:=by
 have:=we λx hx=>by obtain⟨w,hw,rfl⟩:=QaT.mp hx;exact h w hw
 rwa [Qaa] at this
def G9{ws:List Str}(h:uR ws=false/\wD ws=false/\wQ ws=false)(h0:ws≠[])(hl:ws.length<=100)(hw:∀w∈ws,fX w=true/\w.length<=20):cQ ws=true:=
 BE h.1 h.2.1 h.2.2 h0 (λw q=>(hw w q).1) (by have:=Tn λw q=>(hw w q).2;have:=Nat.mul_le_mul_right 20 hl;omega)
def AS{ws:List Str}(G:Gr ws){k:Nat}(h1:1<=k)(h2:k<ws.length)(h3:wd ws 0=Str.ofString "out"->k<=2):cQ (ws.take k)=true:=by
 have l6:=G.l6;have hl:(ws.take k).length=k:=by rw[QaO];omega
 refine G9 ?_ (λe=>by rw[e] at hl;simp at hl;omega) (by omega) λw hw=>⟨EA (G.gd w$ Qbo hw).wo,by have:=(G.gd w$ Qbo hw).wo.len;omega⟩
 by_cases k2:k<=2
 .exact short (by omega)
 .have w0:∀i,i<k->wd (ws.take k) i=wd ws i:=λi hi=>by
   unfold wd;rw[Qaz,Qaz,Qa2,Qap hi]
  rcases G.ou with e | ⟨e,e1 | ⟨e2,n,e3,e4⟩⟩
  .exact absurd (h3 e) k2
  .omega
  .refine⟨?_,?_,?_⟩
   .unfold uR;rw [w0 0 (by omega),e2];simp
   .unfold wD;rw[w0 2 (by omega),e3]
    have:decide ((((ws.take k).drop 3).length:Int)=(some ((n:Nat):Int)).getD 0)=false:=Qaf (by
     rw[Qbd,hl];show ¬(((k - 3:Nat):Int)=(n:Int));omega)
    rw[this];simp
   .unfold wQ;rw [w0 0 (by omega),e];simp
def TU:Str.empty.length=0:=by decide+kernel
def WR:fX Str.empty=true:=by decide+kernel
def Jc{ws EL:List Str}(G:Gr ws)(h:∀w∈EL,w=Str.empty\/w∈ws)(he:Str.empty∈EL)(hl:EL.length<=100):cQ EL=true:=
 G9 (Et he Jm) (λe=>by rw[e] at he;cases he) hl λw hw=>by
  rcases h w hw with rfl | z
  .exact⟨WR,by rw[TU];omega⟩
  .exact⟨EA (G.gd w z).wo,by have:=(G.gd w z).wo.len;omega⟩
def Bz:List Str->List Str
 | []=>[]
 | [x]=>[x]
 | x ::y ::r=>x ::Str.empty ::Bz (y ::r)
theorem A0:∀ws:List Str,Str.join (Str.ofString "  ") ws=Str.join SP (Bz ws)
 | []=>rfl
 | [x]=>rfl
 | x ::y ::r=>by
   show x++Str.ofString "  "++Str.join (Str.ofString "  ") (y ::r)=Str.join SP (x ::Str.empty ::Bz (y ::r));have h:∀l:List Str,l≠[]->Str.join SP (x ::Str.empty ::l)=x++SP++(Str.empty++SP++Str.join SP l):=λl hl=>by
    cases l with
    | nil=>exact absurd rfl hl
    | cons a l=>rfl
   have rE:Bz (y ::r)≠[]:=by cases r <;> simp [Bz]
   rw[h _ rE,A0 (y ::r)];generalize Str.join SP (Bz (y ::r))=t;refine cW ?_;rw[bq,bq,bq,bq,bq,bq,show(Str.ofString "  ").cps.toList=[32,32] by decide+kernel,qC,show(Str.empty).cps.toList=[] by decide+kernel]
   simp
theorem DQ:∀ws:List Str,∀w∈Bz ws,w=Str.empty\/w∈ws
 | [],_,h=>by cases h
 | [x],w,h=> .inr h
 | x ::y ::r,w,h=>by
   have h:w∈x ::Str.empty ::Bz (y ::r):=h;simp at h;rcases h with rfl | rfl | h
   .exact .inr Qai
   .exact .inl rfl
   .rcases DQ (y ::r) w h with z | z
    .exact .inl z
    .exact .inr (Qab _ z)
theorem DH:∀ws:List Str,(Bz ws).length<=2*ws.length
 | []=>by simp [Bz]
 | [x]=>by simp [Bz]
 | x ::y ::r=>by
   have:=DH (y ::r);simp only[Bz,QaI] at*;omega
theorem Tv:∀{ws:List Str},2<=ws.length->Str.empty∈Bz ws
 | x ::y ::r,_=>by show Str.empty∈x ::Str.empty ::Bz (y ::r);simp
def Ep{ws:List Str}(G:Gr ws):Txt.split (Str.join SP ws) SP=ws:=by
 refine om (λe=>by have:=G.l3;rw [e] at this;simp at this) λw hw q=>?_
 have:=(G.gd w hw).wo.cps 32 q;omega
def NP{ws:List Str}(G:Gr ws):(Str.join SP ws).length<=110:=(uU (by have:=G.l6;omega) λw hw=>(G.gd w hw).wo).len
def IG{ws:List Str}(G:Gr ws):Txt.replace (Str.join SP ws) SP (Str.ofString "  ")=Str.join SP (Bz ws):=by
 have:=Ep G;rw[<-A0,qC] at*;rw[StrLaws.replace_one,this]
def JG{ws:List Str}(h:ws≠[]):SP++Str.join SP ws=Str.join SP (Str.empty ::ws):=by
 cases ws with
 | nil=>exact absurd rfl h
 | cons a l=>
   show SP++Str.join SP (a ::l)=Str.empty++SP++Str.join SP (a ::l);refine cW ?_;rfl
theorem post_join:∀{ws:List Str},ws≠[]->Str.join SP ws++SP=Str.join SP (ws++[Str.empty])
 | [],h=>absurd rfl h
 | [x],_=>by
   show x++SP=x++SP++Str.empty;refine cW ?_;rw[bq,bq,bq,show(Str.empty).cps.toList=[] by decide+kernel]
   simp
 | x ::y ::r,_=>by
   have ih:=post_join (ws:=y ::r) (by simp)
   show x++SP++Str.join SP (y ::r)++SP=x++SP++Str.join SP (y ::r++[Str.empty]);rw[<-ih,xC]
def KP{ws:List Str}(G:Gr ws){i:Nat}(hi:i<ws.length){w:Str}(hw:y9 w=false)(hc:fX w=true)(hl:w.length<=20):cQ (ws.set i w)=true:=by
 have l6:=G.l6;refine G9 (Et (Qco.mpr ⟨i,by rw[Qam hi]⟩) hw) (λe=>by
  have:(ws.set i w).length=0:=by rw[e];rfl
  rw[QaM] at this;omega) (by rw[QaM];omega) λv hv=>?_
 rcases List.mem_or_eq_of_mem_set hv with z | rfl
 .exact⟨EA (G.gd v z).wo,by have:=(G.gd v z).wo.len;omega⟩
 .exact⟨hc,hl⟩
def Hg{w:Str}{c:Nat}:Txt.slice (w++⟨#[c]⟩:Str) (some (-1)) none=⟨#[c]⟩:=by
 show StrLaws.sliceText (w++⟨#[c]⟩:Str) (some (-1)) none=_;have hl:(w++⟨#[c]⟩:Str).length=w.length+1:=by rw[Qax];rfl
 rw[StrLaws.sliceText_from_neg (by omega)$ by rw[hl];omega]
 refine cW ?_;rw[List.toList_toArray,bq,hl,show((-1:Int)+((w.length+1:Nat):Int)).toNat=w.cps.toList.length by rw[Qa4];show _=w.length;omega,List.drop_left,QaP]
 rw[Qar,Qa4];show 1<=(((w.length+1:Nat):Int) - (-1+((w.length+1:Nat):Int))).toNat;omega
end TX
end
section
set_option maxHeartbeats 4000000
namespace K03
open PySem PySem.Spec PyProof.Rows L2 L3
variable {P:Program}{w:World}{K:QcQ}{mg:Aaf}{base:Heap}{cl:Aag}
def top(i:Nat):Stmt:=PySem.Challenge.pw_bearfaults_k03_rows_of_no_form.main.body.getD i$ .Pass ⟨0,0,0,0⟩
def eP:D:=(.int 8)
def o4:D:=(.tup [(.str "in"),(.str "gate"),(.str "sure"),(.str "out"),(.str "not"),(.str "and"),(.str "or"),(.str "xor"),(.str "vote")])
def nB:D:=(.str "abcdefghijklmnopqrstuvwxyz")
def m4:D:=(.tup [(.str "0"),(.str "1"),(.str "2"),(.str "3"),(.str "4"),(.str "5"),(.str "6"),(.str "7"),(.str "8"),(.str "9")])
def dv:D:=(.int 3)
def lB:D:=(.int 6)
def hJ:D:=(.int 60)
def jC:D:=(.int 6)
def jG:D:=(.int 80)
def qm:List (Str × Int):=[("1",1),("2",2),("3",3)]
def jx:List (Str × Int):=[("not",1),("and",2),("or",2),("xor",2),("vote",3)]
structure Tp (P:Program) (w:World) (K:QcQ) (mg:Aaf) (cl:Aag):Prop where
 z_len:mg "len"=none
 z_all:mg "all"=none
 z_range:mg "range"=none
 z_tuple:mg "tuple"=none
 z_min:mg "min"=none
 z_int:mg "int"=none
 z_sum:mg "sum"=none
 z_str:mg "str"=none
 z_enumerate:mg "enumerate"=none
 z_isinstance:mg "isinstance"=none
 z_ValueError:mg "ValueError"=none
 eP:Glob K mg "MOST_LETTERS" eP
 o4:Glob K mg "BARRED" o4
 nB:Glob K mg "LETTERS" nB
 m4:Glob K mg "FIGURES" m4
 dv:Glob K mg "MOST_OUT_WIRES" dv
 lB:Glob K mg "MOST_INS" lB
 hJ:Glob K mg "MOST_GATES" hJ
 jC:Glob K mg "MOST_OUTS" jC
 jG:Glob K mg "MOST_ROWS" jG
 gd_WIDTHS:pf P w K mg "WIDTHS" qm
 gd_KIND_WIRES:pf P w K mg "KIND_WIRES" jx
 C_Draft:Am K (cl 0)
 N_Draft_ins:di K (cl 0) "ins"
 N_Draft_gates:di K (cl 0) "gates"
 N_Draft_outs:di K (cl 0) "outs"
 N_Draft_names:di K (cl 0) "names"
 N_Draft_out_names:di K (cl 0) "out_names"
 N_Draft_numbers:di K (cl 0) "numbers"
 M_Draft:mg "Draft"=some (.ref (cl 0))
 M_FaultError:mg "FaultError"=some (.ref (cl 1))
 M_TooLong:mg "TooLong"=some (.ref (cl 2))
 M_NoForm:mg "NoForm"=some (.ref (cl 3))
 M_NoPlace:mg "NoPlace"=some (.ref (cl 4))
 M_Twice:mg "Twice"=some (.ref (cl 5))
 M_Full:mg "Full"=some (.ref (cl 6))
 M_NoWire:mg "NoWire"=some (.ref (cl 7))
 M_Open:mg "Open"=some (.ref (cl 8))
 M_NotPlain:mg "NotPlain"=some (.ref (cl 9))
 M_NotThree:mg "NotThree"=some (.ref (cl 10))
 M_NotSound:mg "NotSound"=some (.ref (cl 11))
 M_NoFit:mg "NoFit"=some (.ref (cl 12))
 M_NoShape:mg "NoShape"=some (.ref (cl 13))
 M_NoneYet:mg "NoneYet"=some (.ref (cl 14))
 X_TooLong:XC K (cl 2)
 X_NoForm:XC K (cl 3)
 X_NoPlace:XC K (cl 4)
 X_Twice:XC K (cl 5)
 X_Full:XC K (cl 6)
 X_NoWire:XC K (cl 7)
 X_Open:XC K (cl 8)
 I_Open_Twice:PySem.W.kitOne K (.ref (cl 8)) (.ref (cl 5))=some false
 I_NoWire_Twice:PySem.W.kitOne K (.ref (cl 7)) (.ref (cl 5))=some false
 I_Full_Twice:PySem.W.kitOne K (.ref (cl 6)) (.ref (cl 5))=some false
 I_Twice_Twice:PySem.W.kitOne K (.ref (cl 5)) (.ref (cl 5))=some true
 I_NoPlace_Twice:PySem.W.kitOne K (.ref (cl 4)) (.ref (cl 5))=some false
 I_NoForm_Twice:PySem.W.kitOne K (.ref (cl 3)) (.ref (cl 5))=some false
 I_TooLong_Twice:PySem.W.kitOne K (.ref (cl 2)) (.ref (cl 5))=some false
 O_Twice:PySem.W.kitOne K (.type "NoneType") (.ref (cl 5))=some false
 I_Open_NoPlace:PySem.W.kitOne K (.ref (cl 8)) (.ref (cl 4))=some false
 I_NoWire_NoPlace:PySem.W.kitOne K (.ref (cl 7)) (.ref (cl 4))=some false
 I_Full_NoPlace:PySem.W.kitOne K (.ref (cl 6)) (.ref (cl 4))=some false
 I_Twice_NoPlace:PySem.W.kitOne K (.ref (cl 5)) (.ref (cl 4))=some false
 I_NoPlace_NoPlace:PySem.W.kitOne K (.ref (cl 4)) (.ref (cl 4))=some true
 I_NoForm_NoPlace:PySem.W.kitOne K (.ref (cl 3)) (.ref (cl 4))=some false
 I_TooLong_NoPlace:PySem.W.kitOne K (.ref (cl 2)) (.ref (cl 4))=some false
 O_NoPlace:PySem.W.kitOne K (.type "NoneType") (.ref (cl 4))=some false
 I_Open_NoForm:PySem.W.kitOne K (.ref (cl 8)) (.ref (cl 3))=some false
 I_NoWire_NoForm:PySem.W.kitOne K (.ref (cl 7)) (.ref (cl 3))=some false
 I_Full_NoForm:PySem.W.kitOne K (.ref (cl 6)) (.ref (cl 3))=some false
 I_Twice_NoForm:PySem.W.kitOne K (.ref (cl 5)) (.ref (cl 3))=some false
 I_NoPlace_NoForm:PySem.W.kitOne K (.ref (cl 4)) (.ref (cl 3))=some false
 I_NoForm_NoForm:PySem.W.kitOne K (.ref (cl 3)) (.ref (cl 3))=some true
 I_TooLong_NoForm:PySem.W.kitOne K (.ref (cl 2)) (.ref (cl 3))=some false
 O_NoForm:PySem.W.kitOne K (.type "NoneType") (.ref (cl 3))=some false
 I_Open_TooLong:PySem.W.kitOne K (.ref (cl 8)) (.ref (cl 2))=some false
 I_NoWire_TooLong:PySem.W.kitOne K (.ref (cl 7)) (.ref (cl 2))=some false
 I_Full_TooLong:PySem.W.kitOne K (.ref (cl 6)) (.ref (cl 2))=some false
 I_Twice_TooLong:PySem.W.kitOne K (.ref (cl 5)) (.ref (cl 2))=some false
 I_NoPlace_TooLong:PySem.W.kitOne K (.ref (cl 4)) (.ref (cl 2))=some false
 I_NoForm_TooLong:PySem.W.kitOne K (.ref (cl 3)) (.ref (cl 2))=some false
 I_TooLong_TooLong:PySem.W.kitOne K (.ref (cl 2)) (.ref (cl 2))=some true
 O_TooLong:PySem.W.kitOne K (.type "NoneType") (.ref (cl 2))=some false
 I_Open_NotPlain:PySem.W.kitOne K (.ref (cl 8)) (.ref (cl 9))=some false
 I_NoWire_NotPlain:PySem.W.kitOne K (.ref (cl 7)) (.ref (cl 9))=some false
 I_Full_NotPlain:PySem.W.kitOne K (.ref (cl 6)) (.ref (cl 9))=some false
 I_Twice_NotPlain:PySem.W.kitOne K (.ref (cl 5)) (.ref (cl 9))=some false
 I_NoPlace_NotPlain:PySem.W.kitOne K (.ref (cl 4)) (.ref (cl 9))=some false
 I_NoForm_NotPlain:PySem.W.kitOne K (.ref (cl 3)) (.ref (cl 9))=some false
 I_TooLong_NotPlain:PySem.W.kitOne K (.ref (cl 2)) (.ref (cl 9))=some false
 O_NotPlain:PySem.W.kitOne K (.type "NoneType") (.ref (cl 9))=some false
 I_Open_Open:PySem.W.kitOne K (.ref (cl 8)) (.ref (cl 8))=some true
 I_NoWire_Open:PySem.W.kitOne K (.ref (cl 7)) (.ref (cl 8))=some false
 I_Full_Open:PySem.W.kitOne K (.ref (cl 6)) (.ref (cl 8))=some false
 I_Twice_Open:PySem.W.kitOne K (.ref (cl 5)) (.ref (cl 8))=some false
 I_NoPlace_Open:PySem.W.kitOne K (.ref (cl 4)) (.ref (cl 8))=some false
 I_NoForm_Open:PySem.W.kitOne K (.ref (cl 3)) (.ref (cl 8))=some false
 I_TooLong_Open:PySem.W.kitOne K (.ref (cl 2)) (.ref (cl 8))=some false
 O_Open:PySem.W.kitOne K (.type "NoneType") (.ref (cl 8))=some false
 I_Open_NoWire:PySem.W.kitOne K (.ref (cl 8)) (.ref (cl 7))=some false
 I_NoWire_NoWire:PySem.W.kitOne K (.ref (cl 7)) (.ref (cl 7))=some true
 I_Full_NoWire:PySem.W.kitOne K (.ref (cl 6)) (.ref (cl 7))=some false
 I_Twice_NoWire:PySem.W.kitOne K (.ref (cl 5)) (.ref (cl 7))=some false
 I_NoPlace_NoWire:PySem.W.kitOne K (.ref (cl 4)) (.ref (cl 7))=some false
 I_NoForm_NoWire:PySem.W.kitOne K (.ref (cl 3)) (.ref (cl 7))=some false
 I_TooLong_NoWire:PySem.W.kitOne K (.ref (cl 2)) (.ref (cl 7))=some false
 O_NoWire:PySem.W.kitOne K (.type "NoneType") (.ref (cl 7))=some false
 I_Open_Full:PySem.W.kitOne K (.ref (cl 8)) (.ref (cl 6))=some false
 I_NoWire_Full:PySem.W.kitOne K (.ref (cl 7)) (.ref (cl 6))=some false
 I_Full_Full:PySem.W.kitOne K (.ref (cl 6)) (.ref (cl 6))=some true
 I_Twice_Full:PySem.W.kitOne K (.ref (cl 5)) (.ref (cl 6))=some false
 I_NoPlace_Full:PySem.W.kitOne K (.ref (cl 4)) (.ref (cl 6))=some false
 I_NoForm_Full:PySem.W.kitOne K (.ref (cl 3)) (.ref (cl 6))=some false
 I_TooLong_Full:PySem.W.kitOne K (.ref (cl 2)) (.ref (cl 6))=some false
 O_Full:PySem.W.kitOne K (.type "NoneType") (.ref (cl 6))=some false
 I_Open_NoShape:PySem.W.kitOne K (.ref (cl 8)) (.ref (cl 13))=some false
 I_NoWire_NoShape:PySem.W.kitOne K (.ref (cl 7)) (.ref (cl 13))=some false
 I_Full_NoShape:PySem.W.kitOne K (.ref (cl 6)) (.ref (cl 13))=some false
 I_Twice_NoShape:PySem.W.kitOne K (.ref (cl 5)) (.ref (cl 13))=some false
 I_NoPlace_NoShape:PySem.W.kitOne K (.ref (cl 4)) (.ref (cl 13))=some false
 I_NoForm_NoShape:PySem.W.kitOne K (.ref (cl 3)) (.ref (cl 13))=some false
 I_TooLong_NoShape:PySem.W.kitOne K (.ref (cl 2)) (.ref (cl 13))=some false
 O_NoShape:PySem.W.kitOne K (.type "NoneType") (.ref (cl 13))=some false
 I_Open_NoFit:PySem.W.kitOne K (.ref (cl 8)) (.ref (cl 12))=some false
 I_NoWire_NoFit:PySem.W.kitOne K (.ref (cl 7)) (.ref (cl 12))=some false
 I_Full_NoFit:PySem.W.kitOne K (.ref (cl 6)) (.ref (cl 12))=some false
 I_Twice_NoFit:PySem.W.kitOne K (.ref (cl 5)) (.ref (cl 12))=some false
 I_NoPlace_NoFit:PySem.W.kitOne K (.ref (cl 4)) (.ref (cl 12))=some false
 I_NoForm_NoFit:PySem.W.kitOne K (.ref (cl 3)) (.ref (cl 12))=some false
 I_TooLong_NoFit:PySem.W.kitOne K (.ref (cl 2)) (.ref (cl 12))=some false
 O_NoFit:PySem.W.kitOne K (.type "NoneType") (.ref (cl 12))=some false
 I_Open_NotSound:PySem.W.kitOne K (.ref (cl 8)) (.ref (cl 11))=some false
 I_NoWire_NotSound:PySem.W.kitOne K (.ref (cl 7)) (.ref (cl 11))=some false
 I_Full_NotSound:PySem.W.kitOne K (.ref (cl 6)) (.ref (cl 11))=some false
 I_Twice_NotSound:PySem.W.kitOne K (.ref (cl 5)) (.ref (cl 11))=some false
 I_NoPlace_NotSound:PySem.W.kitOne K (.ref (cl 4)) (.ref (cl 11))=some false
 I_NoForm_NotSound:PySem.W.kitOne K (.ref (cl 3)) (.ref (cl 11))=some false
 I_TooLong_NotSound:PySem.W.kitOne K (.ref (cl 2)) (.ref (cl 11))=some false
 O_NotSound:PySem.W.kitOne K (.type "NoneType") (.ref (cl 11))=some false
 I_Open_NotThree:PySem.W.kitOne K (.ref (cl 8)) (.ref (cl 10))=some false
 I_NoWire_NotThree:PySem.W.kitOne K (.ref (cl 7)) (.ref (cl 10))=some false
 I_Full_NotThree:PySem.W.kitOne K (.ref (cl 6)) (.ref (cl 10))=some false
 I_Twice_NotThree:PySem.W.kitOne K (.ref (cl 5)) (.ref (cl 10))=some false
 I_NoPlace_NotThree:PySem.W.kitOne K (.ref (cl 4)) (.ref (cl 10))=some false
 I_NoForm_NotThree:PySem.W.kitOne K (.ref (cl 3)) (.ref (cl 10))=some false
 I_TooLong_NotThree:PySem.W.kitOne K (.ref (cl 2)) (.ref (cl 10))=some false
 O_NotThree:PySem.W.kitOne K (.type "NoneType") (.ref (cl 10))=some false
 I_Open_ValueError:PySem.W.kitOne K (.ref (cl 8)) (.type "ValueError")=some true
 I_NoWire_ValueError:PySem.W.kitOne K (.ref (cl 7)) (.type "ValueError")=some true
 I_Full_ValueError:PySem.W.kitOne K (.ref (cl 6)) (.type "ValueError")=some true
 I_Twice_ValueError:PySem.W.kitOne K (.ref (cl 5)) (.type "ValueError")=some true
 I_NoPlace_ValueError:PySem.W.kitOne K (.ref (cl 4)) (.type "ValueError")=some true
 I_NoForm_ValueError:PySem.W.kitOne K (.ref (cl 3)) (.type "ValueError")=some true
 I_TooLong_ValueError:PySem.W.kitOne K (.ref (cl 2)) (.type "ValueError")=some true
 O_ValueError:PySem.W.kitOne K (.type "NoneType") (.type "ValueError")=some false
 I_Open_NoneYet:PySem.W.kitOne K (.ref (cl 8)) (.ref (cl 14))=some false
 I_NoWire_NoneYet:PySem.W.kitOne K (.ref (cl 7)) (.ref (cl 14))=some false
 I_Full_NoneYet:PySem.W.kitOne K (.ref (cl 6)) (.ref (cl 14))=some false
 I_Twice_NoneYet:PySem.W.kitOne K (.ref (cl 5)) (.ref (cl 14))=some false
 I_NoPlace_NoneYet:PySem.W.kitOne K (.ref (cl 4)) (.ref (cl 14))=some false
 I_NoForm_NoneYet:PySem.W.kitOne K (.ref (cl 3)) (.ref (cl 14))=some false
 I_TooLong_NoneYet:PySem.W.kitOne K (.ref (cl 2)) (.ref (cl 14))=some false
 O_NoneYet:PySem.W.kitOne K (.type "NoneType") (.ref (cl 14))=some false
 E_Open_FaultError:PySem.W.exmOne K (.ref (cl 8)) (.ref (cl 1))=some true
 E_NoWire_FaultError:PySem.W.exmOne K (.ref (cl 7)) (.ref (cl 1))=some true
 E_Full_FaultError:PySem.W.exmOne K (.ref (cl 6)) (.ref (cl 1))=some true
 E_Twice_FaultError:PySem.W.exmOne K (.ref (cl 5)) (.ref (cl 1))=some true
 E_NoPlace_FaultError:PySem.W.exmOne K (.ref (cl 4)) (.ref (cl 1))=some true
 E_NoForm_FaultError:PySem.W.exmOne K (.ref (cl 3)) (.ref (cl 1))=some true
 E_TooLong_FaultError:PySem.W.exmOne K (.ref (cl 2)) (.ref (cl 1))=some true
abbrev nF:Stmt:=top 27
noncomputable abbrev xD:List Str:=["word"]
abbrev QcO(s:Stmt):={b:List Stmt//aQ s=b}
abbrev QcP(s:Stmt):={b:Scope//aC s=b}
noncomputable def BN:QcO nF:=⟨_,by conv=>lhs;whnf⟩
noncomputable def vx:QcP nF:=⟨_,by conv=>lhs;whnf⟩
def Gs:bp xD ["word"] vx.1:={}
def Fv:FS:=(bD (xB (CW (b2 OR (aM kZ$ ag (ai 0) aI)$ eC$ .int 1)$ CW (b2 Q0 (aM kZ$ ag (ai 0) aI)$ eC eP)$ b2 Ce (ai 0)$ eC o4) (iL$ eC$ .bl false) qr)$ iL$ aM Hf$ ag (eNew$ dq (Ho$ ai 0) (bh 0) pj (e2 Ce (ai 0)$ eC nB) ["sign"] []) aI)
def d9:List D->R D:=wR xD Fv
def FK(T:Tp P w K mg cl)(h:Def K mg "is_name" nF):Callee P w K mg base 1 "is_name" 1 d9:=
 Bx h BN.2 vx.2 Gs λ_ _ _ _ _ _ _ hr nd=>(aq (hV (jv$ kO (bH Hk (bF iR rfl T.z_len Qa0$ aa (ae 0) ah) ak)$ kO (bH Li (bF iR rfl T.z_len Qa0$ aa (ae 0) ah)$ ib T.eP rfl)$ nG$ bH BO (ae 0)$ ib T.o4 rfl) (a_$ bQ rf) eJ)$ a_$ bQ$ bF (MJ rfl) rfl T.z_all PyProof.Rows.boot_all$ aa (aN$ fJ (IF$ ae 0) (λ_ _ _=>bz) (λ_ _ _=>dC)$ λ_ _ _=>(fR BO (ae 0)$ ib T.nB rfl)) ah)
abbrev lP:Stmt:=top 28
noncomputable abbrev vR:List Str:=["name","width"]
noncomputable def AU:QcO lP:=⟨_,by conv=>lhs;whnf⟩
noncomputable def uc:QcP lP:=⟨_,by conv=>lhs;whnf⟩
def Cv:bp vR ["name","width"] uc.1:={}
def u6:FS:=(bD (xB (b2 sS (ai 1)$ eC$ .int 1) (iL$ eNew$ ck$ ag (ai 0) aI) qr)$ iL$ eNew$ dq (f7$ ai 1) (bh 0) pj (c_$ b5 (nq$ ai 1)$ b5 (eC$ .str ":")$ b5 (nq$ ai 0) qW) ["figure"] [0])
def ll:List D->R D:=wR vR u6
def Cg(T:Tp P w K mg cl)(h:Def K mg "in_wires" lP):Callee P w K mg base 1 "in_wires" 2 ll:=
 Bx h AU.2 uc.2 Cv λ_ _ _ _ _ _ _ hr nd=>(aq (hV (bH (oT hr.units) (ae 1) ak) (a_$ bQ$ aN$ aO$ aa (ae 0) ah) eJ)$ a_$ bQ$ aN$ fJ (dQ (ae 1) rfl T.z_range) (λ_ _ _=>bz) (λ_ _ _=>dC)$ λ_ _ _=>(cR$ bo (gT$ ae 1)$ bo af$ bo (gT$ ae 0) ia))
abbrev eM:Stmt:=top 29
noncomputable abbrev lC:List Str:=["word","parts"]
noncomputable def uB:QcO eM:=⟨_,by conv=>lhs;whnf⟩
noncomputable def oM:QcP eM:=⟨_,by conv=>lhs;whnf⟩
def vk:bp lC ["word"] oM.1:={}
def pA:FS:=(bD (bU 1$ xH "str" AZ (ai 0)$ ag (eC$ .str ":") aI)$ iL$ wV (aM d9$ ag (e2 du (ai 1)$ eC$ .int 0) aI)$ Sw (e2 sS (e2 du (ai 1)$ eC$ .int 1)$ eC$ .str "")$ e2 Ce (e2 du (ai 1)$ eC$ .int 2)$ eC m4)
def eI:List D->R D:=wR lC pA
def u9(T:Tp P w K mg cl)(h:Def K mg "is_wire_form" eM)(c7:Callee P w K mg base 1 "is_name" 1 d9):Callee P w K mg base 2 "is_wire_form" 1 eI:=
 Bx h uB.2 oM.2 vk λ_ _ _ _ _ _ _ hr nd=>(aq (aF$ xi (ae 0)$ aa af ah)$ a_$ bQ$ qo (aG c7$ aa (bg (ae 1) ak) ah)$ sf$ Qr (fR (oT hr.units) (bg (ae 1) ak) af)$ sf$ fR BO (bg (ae 1) ak)$ ib T.m4 rfl)
abbrev dI:Stmt:=top 30
noncomputable abbrev nH:List Str:=["words"]
noncomputable def rX:QcO dI:=⟨_,by conv=>lhs;whnf⟩
noncomputable def mv:QcP dI:=⟨_,by conv=>lhs;whnf⟩
def tf:bp nH ["words"] mv.1:={}
def tH:FS:=(iL$ aM Hf$ ag (eNew$ dq (dR$ ai 0) (bh 0) pj (aM eI$ ag (ai 0) aI) ["word"] []) aI)
def cJ:List D->R D:=wR nH tH
def sV(T:Tp P w K mg cl)(h:Def K mg "are_wire_forms" dI)(ml:Callee P w K mg base 2 "is_wire_form" 1 eI):Callee P w K mg base 3 "are_wire_forms" 1 cJ:=
 Bx h rX.2 mv.2 tf λ_ _ _ _ _ _ _ hr nd=>(a_$ bQ$ bF (MJ rfl) rfl T.z_all PyProof.Rows.boot_all$ aa (aN$ fJ (cF$ ae 0) (λ_ _ _=>bz) (λ_ _ _=>dC)$ λ_ _ _=>(aG ml$ aa (ae 0) ah)) ah)
abbrev gR:Stmt:=top 31
noncomputable abbrev oi:List Str:=["words"]
noncomputable def wX:QcO gR:=⟨_,by conv=>lhs;whnf⟩
noncomputable def qJ:QcP gR:=⟨_,by conv=>lhs;whnf⟩
def yH:bp oi ["words"] qJ.1:={}
def yB:FS:=(iL$ wV (e2 sS (aM kZ$ ag (ai 0) aI)$ eC$ .int 3)$ wV (e2 sS (e2 du (ai 0)$ eC$ .int 0)$ eC$ .str "in")$ wV (aM d9$ ag (e2 du (ai 0)$ eC$ .int 1) aI)$ OV qm$ e2 du (ai 0)$ eC$ .int 2)
def kW:List D->R D:=wR oi yB
def zC(T:Tp P w K mg cl)(h:Def K mg "is_in_form" gR)(c7:Callee P w K mg base 1 "is_name" 1 d9):Callee P w K mg base 2 "is_in_form" 1 kW:=
 Bx h wX.2 qJ.2 yH λ_ _ _ _ _ _ _ hr nd=>(a_$ bQ$ qo (fR (oT hr.units) (bF iR rfl T.z_len Qa0$ aa (ae 0) ah) ak)$ qo (fR (oT hr.units) (bg (ae 0) ak) af)$ qo (aG c7$ aa (bg (ae 0) ak) ah)$ sf$ Lb (nA hr) (bg (ae 0) ak) T.gd_WIDTHS rfl)
abbrev eK:Stmt:=top 32
noncomputable abbrev gZ:List Str:=["words","wires"]
noncomputable def uE:QcO eK:=⟨_,by conv=>lhs;whnf⟩
noncomputable def oQ:QcP eK:=⟨_,by conv=>lhs;whnf⟩
def wz:bp gZ ["words"] oQ.1:={}
def vY:FS:=(bD (xB (CW (b2 OR (aM kZ$ ag (ai 0) aI)$ eC$ .int 4)$ b2 mP (e2 du (ai 0)$ eC$ .int 0)$ xq$ ag (eC$ .str "gate")$ ag (eC$ .str "sure") aI) (iL$ eC$ .bl false) qr)$ bD (xB (CW (Gg$ yW$ aM d9$ ag (e2 du (ai 0)$ eC$ .int 1) aI)$ OD jx$ e2 du (ai 0)$ eC$ .int 2) (iL$ eC$ .bl false) qr)$ bD (bU 1$ wU (ai 0) (eB$ eC$ .int 3) h_)$ iL$ wV (e2 sS (aM kZ$ ag (ai 1) aI)$ AX jx$ e2 du (ai 0)$ eC$ .int 2)$ aM cJ$ ag (ai 1) aI)
def g6:List D->R D:=wR gZ vY
def wj(T:Tp P w K mg cl)(h:Def K mg "is_gate_form" eK)(c7:Callee P w K mg base 1 "is_name" 1 d9)(cL:Callee P w K mg base 3 "are_wire_forms" 1 cJ):Callee P w K mg base 4 "is_gate_form" 1 g6:=
 Bx h uE.2 oQ.2 wz λ_ _ _ _ _ _ _ hr nd=>(aq (hV (jv$ kO (bH Hk (bF iR rfl T.z_len Qa0$ aa (ae 0) ah) ak)$ nG$ bH uV (bg (ae 0) ak)$ qc$ aa af$ aa af ah) (a_$ bQ rf) eJ)$ aq (hV (jv$ kO (Ea$ sr$ aG c7$ aa (bg (ae 0) ak) ah)$ nG$ Ko (nA hr) (bg (ae 0) ak) T.gd_KIND_WIRES rfl) (a_$ bQ rf) eJ)$ aq (aF$ gQ (ae 0) (cN ak) dH)$ a_$ bQ$ qo (fR (oT hr.units) (bF iR rfl T.z_len Qa0$ aa (ae 1) ah)$ AR (bg (ae 0) ak) T.gd_KIND_WIRES rfl$ λ_ _=>rfl)$ sf$ aG cL$ aa (ae 1) ah)
abbrev fN:Stmt:=top 33
noncomputable abbrev mM:List Str:=["words","wires"]
noncomputable def wF:QcO fN:=⟨_,by conv=>lhs;whnf⟩
noncomputable def o_:QcP fN:=⟨_,by conv=>lhs;whnf⟩
def xt:bp mM ["words"] o_.1:={}
def xr:FS:=(bD (xB (CW (b2 OR (aM kZ$ ag (ai 0) aI)$ eC$ .int 3)$ CW (b2 Ma (e2 du (ai 0)$ eC$ .int 0)$ eC$ .str "out")$ Gg$ yW$ aM d9$ ag (e2 du (ai 0)$ eC$ .int 1) aI) (iL$ eC$ .bl false) qr)$ bD (bU 1$ wU (ai 0) (eB$ eC$ .int 2) h_)$ iL$ wV (e2 WQ (aM kZ$ ag (ai 1) aI)$ eC dv)$ aM cJ$ ag (ai 1) aI)
def jw:List D->R D:=wR mM xr
def wW(T:Tp P w K mg cl)(h:Def K mg "is_out_form" fN)(c7:Callee P w K mg base 1 "is_name" 1 d9)(cL:Callee P w K mg base 3 "are_wire_forms" 1 cJ):Callee P w K mg base 4 "is_out_form" 1 jw:=
 Bx h wF.2 o_.2 xt λ_ _ _ _ _ _ _ hr nd=>(aq (hV (jv$ kO (bH Hk (bF iR rfl T.z_len Qa0$ aa (ae 0) ah) ak)$ kO (bH (Pn hr.units) (bg (ae 0) ak) af)$ nG$ Ea$ sr$ aG c7$ aa (bg (ae 0) ak) ah) (a_$ bQ rf) eJ)$ aq (aF$ gQ (ae 0) (cN ak) dH)$ a_$ bQ$ qo (fR W0 (bF iR rfl T.z_len Qa0$ aa (ae 1) ah)$ ib T.dv rfl)$ sf$ aG cL$ aa (ae 1) ah)
abbrev cb:Stmt:=inClass (top 34) 1
noncomputable abbrev lN:List Str:=["self","name","width","wire"]
noncomputable def uG:QcO cb:=⟨_,by conv=>lhs;whnf⟩
noncomputable def oG:QcP cb:=⟨_,by conv=>lhs;whnf⟩
def pB:bp lN ["self","name","width"] oG.1:={}
def tI:FZ:=(qR (fk 0 "numbers"$ bO 0) (xP$ ai 3)$ BM$ fk 0 "numbers"$ bO 0)
def o9:FZ:=(cx (uK (zY$ SJ (o7$ fk 0 "gates"$ bO 0)$ o7$ fk 0 "outs"$ bO 0) (fY 4$ fW$ bf (xP$ c_$ b5 (eC$ .str "in ")$ b5 (nq$ ai 1)$ b5 (eC$ .str " stands behind a gate or an out") qW) dG) oa)$ cx (uK (zY$ CM false (xP$ ai 1)$ fk 0 "names"$ bO 0) (fY 5$ fW$ bf (xP$ c_$ b5 (eC$ .str "there is an in ") (b5 (nq$ ai 1)$ b5 (eC$ .str " ahead") qW)) dG) oa) (cx (uK (zY$ TM P0 (BM$ fk 0 "ins"$ bO 0)$ xP$ eC lB) (fY 6$ fW$ bf (xP$ c_$ b5 (eC$ .str "in ")$ b5 (nq$ ai 1)$ b5 (eC$ .str " is one too many") qW) dG) oa)$ GJ$ cx (qR (fk 0 "names"$ bO 0) (xP$ ai 1)$ xP$ eC$ .bl true)$ cx (yS (iP$ dR$ aM ll$ ag (ai 1)$ ag (ai 2) aI) (By 3) tI)$ oK (fk 0 "ins"$ bO 0)$ xP$ xq$ ag (ai 1)$ ag (ai 2) aI))
def d5:List V3->aP->R3 V3:=uu lN o9
def GL:List V3->aP->R3 V3:=zR lN o9
def eF(T:Tp P w K mg cl)(h:uw K (cl 0) "add_in" "Draft.add_in" cb)(rj:Callee P w K mg base 1 "in_wires" 2 ll):mD P w K mg base cl 2 0 "add_in" 2 d5:=by
 obtain⟨f,fd,F,hm⟩:=h;exact⟨f,fd,_,T.C_Draft,hm,nC (k:=1) uG.2 oG.2 F pB (λ_ _ _ _ _ _ hr=>(have nd:=pB.nd;(b6 (gY (Om.pb$ Iz (pN$ cA T.C_Draft T.N_Draft_gates$ aT 0)$ Eg$ pN$ cA T.C_Draft T.N_Draft_outs$ aT 0) (bX$ cZ c6 rfl T.X_NoPlace rfl T.M_NoPlace$ eA$ aH (az$ cR$ bo af$ bo (gT$ ae 1)$ bo af ia) bM) eD)$ b6 (gY (yw (nA hr) (az$ ae 1)$ cA T.C_Draft T.N_Draft_names$ aT 0) (bX$ cZ c6 rfl T.X_Twice rfl T.M_Twice$ eA$ aH (az$ cR$ bo af$ bo (gT$ ae 1)$ bo af ia) bM) eD)$ b6 (gY (zo Lh (su (cA T.C_Draft T.N_Draft_ins$ aT 0) rfl T.z_len) (az$ ib T.lB rfl)$ tj _) (bX$ cZ c6 rfl T.X_Full rfl T.M_Full$ eA$ aH (az$ cR$ bo af$ bo (gT$ ae 1)$ bo af ia) bM) eD)$ sg$ bj (pL (nA hr) (az rf) (cA T.C_Draft T.N_Draft_names$ aT 0)$ az$ ae 1)$ bj (CA (m7$ cF$ aG rj$ aa (ae 1)$ aa (ae 2) ah) dt (cq$ pL (nA hr) (su (cA T.C_Draft T.N_Draft_numbers$ aT 0) rfl T.z_len) (cA T.C_Draft T.N_Draft_numbers$ aT 0)$ az$ ae 3) (hp:=B4))$ cq$ L4 (cA T.C_Draft T.N_Draft_ins$ aT 0)$ az$ qc$ aa (ae 1)$ aa (ae 2) ah))),F.binds λ_ _ _ _ _ _ us hl=>match us,hl with | [_,_,_],_=>rfl⟩
abbrev bx:Stmt:=inClass (top 34) 4
noncomputable abbrev eE:List Str:=["self","wires","wire"]
noncomputable def oR:QcO bx:=⟨_,by conv=>lhs;whnf⟩
noncomputable def iQ:QcP bx:=⟨_,by conv=>lhs;whnf⟩
def jE:bp eE ["self","wires"] iQ.1:={}
def n6:FZ:=(uK (zY$ CM true (xP$ ai 2)$ fk 0 "numbers"$ bO 0) (fY 7$ fW$ bf (xP$ c_$ b5 (eC$ .str "there is no wire ")$ b5 (nq$ ai 2)$ b5 (eC$ .str " ahead") qW) dG) oa)
def jI:FZ:=(cx (yS (UT$ iP$ dR$ ai 1) (By 2) n6)$ GJ$ vt$ yo zx$ bf (Ac (iP$ dR$ ai 1) (By 0) Oi (Ja (fk 0 "numbers"$ bO 1)$ xP$ ai 0) ["wire"] [0]) dG)
def bJ:List V3->aP->R3 V3:=uu eE jI
def zP:List V3->aP->R3 V3:=zR eE jI
def cz(T:Tp P w K mg cl)(h:uw K (cl 0) "wire_numbers" "Draft.wire_numbers" bx):mD P w K mg base cl 1 0 "wire_numbers" 1 bJ:=by
 obtain⟨f,fd,F,hm⟩:=h;exact⟨f,fd,_,T.C_Draft,hm,nC (k:=0) oR.2 iQ.2 F jE (λ_ _ _ _ _ _ hr=>(have nd:=jE.nd;(b6 (D_ B4 rfl (m7$ cF$ ae 1) dt$ bX$ gY (LL (nA hr) (az$ ae 2)$ cA T.C_Draft T.N_Draft_numbers$ aT 0) (bX$ cZ c6 rfl T.X_NoWire rfl T.M_NoWire$ eA$ aH (az$ cR$ bo af$ bo (gT$ ae 2)$ bo af ia) bM) eD)$ sg$ cq$ nR$ FF Em rfl T.z_tuple PyProof.Rows.boot_tuple$ aH (Me (m7$ cF$ ae 1) (λ_ _ _=>dt) (λ_ _ _=>FC)$ λ_ _ _=>(KL (nA hr) (cA T.C_Draft T.N_Draft_numbers$ aT 1) (az$ ae 0)$ λ_ _=>rfl)) bM))),F.binds λ_ _ _ _ _ _ us hl=>match us,hl with | [_,_],_=>rfl⟩
abbrev bR:Stmt:=inClass (top 34) 2
noncomputable abbrev iT:List Str:=["self","name","kind","wires","sure"]
noncomputable def sd:QcO bR:=⟨_,by conv=>lhs;whnf⟩
noncomputable def mB:QcP bR:=⟨_,by conv=>lhs;whnf⟩
def nc:bp iT ["self","name","kind","wires","sure"] mB.1:={}
def m6:FZ:=(cx (uK (zY$ o7$ fk 0 "outs"$ bO 0) (fY 4$ fW$ bf (xP$ c_$ b5 (eC$ .str "gate ")$ b5 (nq$ ai 1)$ b5 (eC$ .str " stands behind an out") qW) dG) oa)$ cx (uK (zY$ CM false (xP$ ai 1)$ fk 0 "names"$ bO 0) (fY 5$ fW$ bf (xP$ c_$ b5 (eC$ .str "there is an in or a gate ") (b5 (nq$ ai 1)$ b5 (eC$ .str " ahead") qW)) dG) oa) (cx (uK (zY$ TM P0 (BM$ fk 0 "gates"$ bO 0)$ xP$ eC hJ) (fY 6$ fW$ bf (xP$ c_$ b5 (eC$ .str "gate ")$ b5 (nq$ ai 1)$ b5 (eC$ .str " is one too many") qW) dG) oa)$ cx (oK (wZ$ fk 0 "gates"$ bO 0)$ BS$ bf (wZ$ xP$ ai 2)$ bf (rL 0 "wire_numbers" bJ (wZ$ bO 0)$ fW$ bf (xP$ ai 3) dG)$ bf (wZ$ xP$ ai 4) dG)$ GJ$ cx (qR (fk 0 "names"$ bO 0) (xP$ ai 1)$ xP$ eC$ .bl true)$ qR (fk 0 "numbers"$ bO 0) (xP$ ai 1)$ BM$ fk 0 "numbers"$ bO 0))
def dc:List V3->aP->R3 V3:=uu iT m6
def DY:List V3->aP->R3 V3:=zR iT m6
def dy(T:Tp P w K mg cl)(h:uw K (cl 0) "add_gate" "Draft.add_gate" bR)(bW:mD P w K mg base cl 1 0 "wire_numbers" 1 bJ):mD P w K mg base cl 2 0 "add_gate" 4 dc:=by
 obtain⟨f,fd,F,hm⟩:=h;exact⟨f,fd,_,T.C_Draft,hm,nC (k:=1) sd.2 mB.2 F nc (λ_ _ _ _ _ _ hr=>(have nd:=nc.nd;(b6 (gY (pN$ cA T.C_Draft T.N_Draft_outs$ aT 0) (bX$ cZ c6 rfl T.X_NoPlace rfl T.M_NoPlace$ eA$ aH (az$ cR$ bo af$ bo (gT$ ae 1)$ bo af ia) bM) eD)$ b6 (gY (yw (nA hr) (az$ ae 1)$ cA T.C_Draft T.N_Draft_names$ aT 0) (bX$ cZ c6 rfl T.X_Twice rfl T.M_Twice$ eA$ aH (az$ cR$ bo af$ bo (gT$ ae 1)$ bo af ia) bM) eD)$ b6 (gY (zo Lh (su (cA T.C_Draft T.N_Draft_gates$ aT 0) rfl T.z_len) (az$ ib T.hJ rfl)$ tj _) (bX$ cZ c6 rfl T.X_Full rfl T.M_Full$ eA$ aH (az$ cR$ bo af$ bo (gT$ ae 1)$ bo af ia) bM) eD)$ b6 (z6 (cA T.C_Draft T.N_Draft_gates$ aT 0)$ DW$ nh (Di$ az$ ae 2)$ nh (pH k_ bW hr (by decide) (aT 0) (aH (az$ ae 3) bM)$ cC jF)$ nh (Di$ az$ ae 4) Ap)$ sg$ bj (pL (nA hr) (az rf) (cA T.C_Draft T.N_Draft_names$ aT 0)$ az$ ae 1)$ cq$ pL (nA hr) (su (cA T.C_Draft T.N_Draft_numbers$ aT 0) rfl T.z_len) (cA T.C_Draft T.N_Draft_numbers$ aT 0)$ az$ ae 1))),F.binds λ_ _ _ _ _ _ us hl=>match us,hl with | [_,_,_,_,_],_=>rfl⟩
abbrev bZ:Stmt:=inClass (top 34) 3
noncomputable abbrev jS:List Str:=["self","name","wires"]
noncomputable def tM:QcO bZ:=⟨_,by conv=>lhs;whnf⟩
noncomputable def m8:QcP bZ:=⟨_,by conv=>lhs;whnf⟩
def oI:bp jS ["self","name","wires"] m8.1:={}
def oJ:FZ:=(cx (uK (zY$ CM false (xP$ ai 1)$ fk 0 "out_names"$ bO 0) (fY 5$ fW$ bf (xP$ c_$ b5 (eC$ .str "there is an out ")$ b5 (nq$ ai 1)$ b5 (eC$ .str " ahead") qW) dG) oa)$ cx (uK (zY$ TM P0 (BM$ fk 0 "outs"$ bO 0)$ xP$ eC jC) (fY 6$ fW$ bf (xP$ c_$ b5 (eC$ .str "out ")$ b5 (nq$ ai 1)$ b5 (eC$ .str " is one too many") qW) dG) oa)$ cx (oK (wZ$ fk 0 "outs"$ bO 0)$ BS$ bf (wZ$ xP$ ai 1)$ bf (rL 0 "wire_numbers" bJ (wZ$ bO 0)$ fW$ bf (xP$ ai 2) dG) dG)$ GJ$ qR (fk 0 "out_names"$ bO 0) (xP$ ai 1)$ xP$ eC$ .bl true)
def dF:List V3->aP->R3 V3:=uu jS oJ
def FW:List V3->aP->R3 V3:=zR jS oJ
def d7(T:Tp P w K mg cl)(h:uw K (cl 0) "add_out" "Draft.add_out" bZ)(bW:mD P w K mg base cl 1 0 "wire_numbers" 1 bJ):mD P w K mg base cl 2 0 "add_out" 2 dF:=by
 obtain⟨f,fd,F,hm⟩:=h;exact⟨f,fd,_,T.C_Draft,hm,nC (k:=1) tM.2 m8.2 F oI (λ_ _ _ _ _ _ hr=>(have nd:=oI.nd;(b6 (gY (yw (nA hr) (az$ ae 1)$ cA T.C_Draft T.N_Draft_out_names$ aT 0) (bX$ cZ c6 rfl T.X_Twice rfl T.M_Twice$ eA$ aH (az$ cR$ bo af$ bo (gT$ ae 1)$ bo af ia) bM) eD)$ b6 (gY (zo Lh (su (cA T.C_Draft T.N_Draft_outs$ aT 0) rfl T.z_len) (az$ ib T.jC rfl)$ tj _) (bX$ cZ c6 rfl T.X_Full rfl T.M_Full$ eA$ aH (az$ cR$ bo af$ bo (gT$ ae 1)$ bo af ia) bM) eD)$ b6 (z6 (cA T.C_Draft T.N_Draft_outs$ aT 0)$ DW$ nh (Di$ az$ ae 1)$ nh (pH k_ bW hr (by decide) (aT 0) (aH (az$ ae 2) bM)$ cC jF) Ap)$ sg$ cq$ pL (nA hr) (az rf) (cA T.C_Draft T.N_Draft_out_names$ aT 0)$ az$ ae 1))),F.binds λ_ _ _ _ _ _ us hl=>match us,hl with | [_,_,_],_=>rfl⟩
abbrev lI:Stmt:=top 35
noncomputable abbrev n8:List Str:=["draft","row","words"]
noncomputable def Bi:QcO lI:=⟨_,by conv=>lhs;whnf⟩
noncomputable def ui:QcP lI:=⟨_,by conv=>lhs;whnf⟩
def vJ:bp n8 ["draft","row"] ui.1:={}
def vd:FZ:=(cx (GJ$ lU 2$ xP$ xH "str" sT (ai 1)$ ag (eC$ .str " ") aI)$ uK (zY$ bP$ yW$ aM kW$ ag (ai 2) aI) (vE$ rL 0 "add_in" d5 (wZ$ bO 0)$ fW$ bf (xP$ e2 du (ai 2)$ eC$ .int 1)$ bf (xP$ AX qm$ e2 du (ai 2)$ eC$ .int 2) dG)$ uK (zY$ bP$ yW$ aM g6$ ag (ai 2) aI) (vE$ rL 0 "add_gate" dc (wZ$ bO 0)$ fW$ bf (xP$ e2 du (ai 2)$ eC$ .int 1)$ bf (xP$ e2 du (ai 2)$ eC$ .int 2)$ bf (xP$ wU (ai 2) (eB$ eC$ .int 3) h_)$ bf (xP$ e2 sS (e2 du (ai 2)$ eC$ .int 0)$ eC$ .str "sure") dG)$ uK (zY$ bP$ yW$ aM jw$ ag (ai 2) aI) (vE$ rL 0 "add_out" dF (wZ$ bO 0)$ fW$ bf (xP$ e2 du (ai 2)$ eC$ .int 1)$ bf (xP$ wU (ai 2) (eB$ eC$ .int 2) h_) dG)$ fY 3$ fW$ bf (xP$ c_$ b5 (eC$ .str "a row of no form: ")$ b5 (MP$ ai 1) qW) dG)
def jA:List V3->aP->R3 V3:=uu n8 vd
def MC:List V3->aP->R3 V3:=zR n8 vd
def Ck(T:Tp P w K mg cl)(h:Def K mg "read_row" lI)(oF:Callee P w K mg base 2 "is_in_form" 1 kW)(lZ:Callee P w K mg base 4 "is_gate_form" 1 g6)(m3:Callee P w K mg base 4 "is_out_form" 1 jw)(kq:mD P w K mg base cl 2 0 "add_in" 2 d5)(iI:mD P w K mg base cl 2 0 "add_gate" 4 dc)(jr:mD P w K mg base cl 2 0 "add_out" 2 dF):fQ P w K mg base cl 5 "read_row" 2 jA:=by
 obtain⟨f,fd,F,hm⟩:=h;exact⟨f,fd,_,nC (k:=4) Bi.2 ui.2 F vJ (λ_ _ _ _ _ _ hr=>(have nd:=vJ.nd;(b6 (BR$ ef$ az$ ye (ae 1)$ aa af ah)$ bX$ gY (lT$ sr$ aG oF$ aa (ae 2) ah) (bX$ oX$ pH k_ kq hr (by decide) (aT 0) (aH (az$ bg (ae 2) ak)$ aH (az$ AR (bg (ae 2) ak) T.gd_WIDTHS rfl$ λ_ _=>rfl) bM)$ cC$ cC jF)$ bX$ gY (lT$ sr$ aG lZ$ aa (ae 2) ah) (bX$ oX$ pH k_ iI hr (by decide) (aT 0) (aH (az$ bg (ae 2) ak)$ aH (az$ bg (ae 2) ak)$ aH (az$ gQ (ae 2) (cN ak) dH)$ aH (az$ fR (oT hr.units) (bg (ae 2) ak) af) bM)$ cC$ cC$ cC$ cC jF)$ bX$ gY (lT$ sr$ aG m3$ aa (ae 2) ah) (bX$ oX$ pH k_ jr hr (by decide) (aT 0) (aH (az$ bg (ae 2) ak)$ aH (az$ gQ (ae 2) (cN ak) dH) bM)$ cC$ cC jF)$ bX$ cZ c6 rfl T.X_NoForm rfl T.M_NoForm$ eA$ aH (az$ cR$ bo af$ bo (Io$ ae 1) ia) bM))),hm,F.kp,F.binds λ_ _ _ _ _ _ us hl=>match us,hl with | [_,_],_=>rfl⟩
abbrev bS:Stmt:=inClass (top 34) 0
noncomputable abbrev iX:List Str:=["self"]
noncomputable def rP:QcO bS:=⟨_,by conv=>lhs;whnf⟩
noncomputable def mE:QcP bS:=⟨_,by conv=>lhs;whnf⟩
def ny:bp iX ["self"] mE.1:={}
def nv:FZ:=(cx (AF 0 "ins" (bO 0)$ zl$ ck aI)$ cx (AF 0 "gates" (bO 0)$ zl$ ck aI)$ cx (AF 0 "outs" (bO 0)$ zl$ ck aI)$ cx (AF 0 "names" (bO 0) Ak)$ cx (AF 0 "out_names" (bO 0) Ak)$ AF 0 "numbers" (bO 0) Ak)
def er:List V3->aP->R3 V3:=uu iX nv
def Eo:List V3->aP->R3 V3:=zR iX nv
def dw(T:Tp P w K mg cl)(h:NO K (cl 0) "__init__" "Draft.__init__" bS):GZ P w K mg base cl 1 0 "Draft" 0 er:=by
 obtain⟨f,fd,F,hm⟩:=h;exact⟨f,fd,_,hm,vm (k:=0) rP.2 mE.2 F ny (λ_ _ _ _ _ _ hr=>(have nd:=ny.nd;(bj (tP T.C_Draft T.N_Draft_ins (aT 0)$ yx$ aO ah)$ bj (tP T.C_Draft T.N_Draft_gates (aT 0)$ yx$ aO ah)$ bj (tP T.C_Draft T.N_Draft_outs (aT 0)$ yx$ aO ah)$ bj (tP T.C_Draft T.N_Draft_names (aT 0) yM)$ bj (tP T.C_Draft T.N_Draft_out_names (aT 0) yM)$ cq$ tP T.C_Draft T.N_Draft_numbers (aT 0) yM))),T.M_Draft,F.binds λ_ _ _ _ _ _ us hl=>match us,hl with | [_],_=>rfl⟩
abbrev wA:Stmt:=top 36
noncomputable abbrev zf:List Str:=["text","rows","draft","row"]
noncomputable def K7:QcO wA:=⟨_,by conv=>lhs;whnf⟩
noncomputable def D8:QcP wA:=⟨_,by conv=>lhs;whnf⟩
def GU:bp zf ["text"] D8.1:={}
def AI:FZ:=(vE$ sv jA$ fW$ bf (bO 2)$ bf (xP$ ai 3) dG)
def JD:FZ:=(cx (GJ$ lU 1$ xP$ xH "str" sT (ai 0)$ ag (eC$ .str "\n") aI)$ cx (uK (zY$ bP$ b2 Q0 (aM kZ$ ag (ai 1) aI)$ eC jG) (fY 2$ fW$ bf (xP$ eC$ .str "a text of too many rows") dG) oa)$ cx (GJ$ lU 2$ HY 0 er dG)$ cx (yS (UT$ iP$ dR$ ai 1) (By 3) AI)$ cx (uK (zY$ SJ (HU$ o7$ fk 0 "ins"$ bO 2)$ HU$ o7$ fk 0 "outs"$ bO 2) (fY 8$ fW$ bf (xP$ eC$ .str "a net without an in, or without an out") dG) oa)$ GJ$ vt$ BS$ bf (fk 0 "ins"$ bO 2)$ bf (fk 0 "gates"$ bO 2)$ bf (fk 0 "outs"$ bO 2) dG)
def qh:List V3->aP->R3 V3:=uu zf JD
def UZ:List V3->aP->R3 V3:=zR zf JD
def PF(T:Tp P w K mg cl)(h:Def K mg "read" wA)(iG:GZ P w K mg base cl 1 0 "Draft" 0 er)(pY:fQ P w K mg base cl 5 "read_row" 2 jA):fQ P w K mg base cl 6 "read" 1 qh:=by
 obtain⟨f,fd,F,hm⟩:=h;exact⟨f,fd,_,nC (k:=5) K7.2 D8.2 F GU (λ_ _ _ _ _ _ hr=>(have nd:=GU.nd;(b6 (BR$ ef$ az$ ye (ae 0)$ aa af ah)$ b6 (gY (lT$ bH Li (bF iR rfl T.z_len Qa0$ aa (ae 1) ah)$ ib T.jG rfl) (bX$ cZ c6 rfl T.X_TooLong rfl T.M_TooLong$ eA$ aH (az af) bM) eD)$ b6 (BR$ ef$ HV iG hr (by decide) rfl)$ b6 (D_ B4 rfl (m7$ cF$ ae 1) dt$ bX$ oX$ AV k_ pY hr (by decide) rfl (eA$ aH (aT 2)$ aH (az$ ae 3) bM)$ DT$ cC$ cC jF)$ b6 (gY (Om.pb$ Iz (D5$ pN$ cA T.C_Draft T.N_Draft_ins$ aT 2)$ Eg$ D5$ pN$ cA T.C_Draft T.N_Draft_outs$ aT 2) (bX$ cZ c6 rfl T.X_Open rfl T.M_Open$ eA$ aH (az af) bM) eD)$ sg$ cq$ nR$ O1$ aH (cA T.C_Draft T.N_Draft_ins$ aT 2)$ aH (cA T.C_Draft T.N_Draft_gates$ aT 2)$ aH (cA T.C_Draft T.N_Draft_outs$ aT 2) bM))),hm,F.kp,F.binds λ_ _ _ _ _ _ us hl=>match us,hl with | [_],_=>rfl⟩
abbrev fO:Stmt:=top 38
noncomputable abbrev qE:List Str:=["script","k"]
noncomputable def vS:QcO fO:=⟨_,by conv=>lhs;whnf⟩
noncomputable def pe:QcP fO:=⟨_,by conv=>lhs;whnf⟩
def xc:bp qE ["script","k"] pe.1:={}
def wY:FS:=(bD (xB (b2 OR (ai 1)$ aM kZ$ ag (ai 0) aI) (iL$ e2 du (ai 0)$ ai 1) qr)$ iL$ eC$ .int 0)
def cI:List D->R D:=wR qE wY
def w_(T:Tp P w K mg cl)(h:Def K mg "_law_cell_at" fO):Callee P w K mg base 1 "_law_cell_at" 2 cI:=
 Bx h vS.2 pe.2 xc λ_ _ _ _ _ _ _ hr nd=>(aq (hV (bH Hk (ae 1)$ bF iR rfl T.z_len Qa0$ aa (ae 0) ah) (a_$ bQ$ bg (ae 0)$ ae 1) eJ)$ a_$ bQ ak)
abbrev lM:Stmt:=top 39
noncomputable abbrev n9:List Str:=["cell","k","number"]
noncomputable def zT:QcO lM:=⟨_,by conv=>lhs;whnf⟩
noncomputable def ue:QcP lM:=⟨_,by conv=>lhs;whnf⟩
def Cs:bp n9 ["cell","k"] ue.1:={}
def vO:FS:=(bD (xB (b2 P0 (ai 0)$ e2 F9 (eC$ .int 10)$ eC$ .int 18) (iL$ e2 cX (e2 Sj (e2 B0 (ai 0)$ e2 F9 (eC$ .int 10)$ eC$ .int 18)$ e2 jK (eC$ .int 28)$ ai 1)$ e2 F9 (eC$ .int 2)$ eC$ .int 28) qr)$ bD (bU 2$ e2 cX (e2 jK (e2 bu (e2 bu (ai 0)$ e2 jK (eC$ .int 1013)$ ai 1)$ eC$ .int 1)$ eC$ .int 16807)$ eC$ .int 2147483647)$ bD (bU 2$ e2 cX (e2 jK (ai 2)$ ai 2)$ eC$ .int 2147483629)$ iL$ e2 dY (e2 cX (e2 jK (ai 2)$ eC$ .int 39373)$ eC$ .int 2147483587)$ eC$ .int 8)
def aU:List D->R D:=wR n9 vO
def Cd(T:Tp P w K mg cl)(h:Def K mg "_law_stir" lM):Callee P w K mg base 1 "_law_stir" 2 aU:=
 Bx h zT.2 ue.2 Cs λ_ _ _ _ _ _ _ hr nd=>(aq (hV (bH Lh (ae 0)$ ao Jg ak ak) (a_$ bQ$ ao cP (ao RF (ao Aq (ae 0)$ ao Jg ak ak)$ ao pJ ak$ ae 1)$ ao Jg ak ak) eJ)$ aq (aF$ ao cP (ao pJ (ao aY (ao aY (ae 0)$ ao pJ ak$ ae 1) ak) ak) ak)$ aq (aF$ ao cP (ao pJ (ae 2)$ ae 2) ak)$ a_$ bQ$ ao lu (ao cP (ao pJ (ae 2) ak) ak) ak)
abbrev jR:Stmt:=top 40
noncomputable abbrev jD:List Str:=["head","k","many","letters","barred","found","j","number","word","spare"]
noncomputable def yE:QcO jR:=⟨_,by conv=>lhs;whnf⟩
noncomputable def sQ:QcP jR:=⟨_,by conv=>lhs;whnf⟩
def Ab:bp jD ["head","k","many"] sQ.1:={}
def qF:FS:=(bD (bU 7$ aM aU$ ag (ai 0)$ ag (e2 bu (ai 1)$ ai 6) aI)$ bD (bU 8$ xH "str" e_ (eC$ .str "")$ ag (eNew$ ck$ ag (e2 du (ai 3)$ e2 cX (ai 7)$ eC$ .int 26)$ ag (e2 du (ai 3)$ e2 cX (e2 dY (ai 7)$ eC$ .int 26)$ eC$ .int 26)$ ag (e2 jK (eC$ .str "x")$ e2 cX (e2 dY (ai 7)$ eC$ .int 700)$ eC$ .int 7) aI) aI)$ bD (bU 8$ wU (ai 8) (eB$ e2 cX (e2 dY (ai 7)$ eC$ .int 5000)$ eC$ .int 2) h_)$ bD (xB (v8 (b2 sS (e2 cX (e2 dY (ai 7)$ eC$ .int 10000)$ eC$ .int 4)$ eC$ .int 0)$ qL$ b2 Ma (ai 5)$ eNew$ ck aI) (bU 8$ wU (e2 bu (pq$ e2 du (ai 5)$ e2 cX (e2 dY (ai 7)$ eC$ .int 40000)$ aM kZ$ ag (ai 5) aI)$ ai 8) h_$ eB$ eC$ .int 8) qr)$ bD (xB (CW (b2 sS (ai 8)$ eC$ .str "")$ CW (qL$ b2 Ce (ai 8)$ ai 5)$ b2 Ce (ai 8)$ ai 4) (bD (bU 9$ eNew$ dq (f7$ eC$ .int 80) (bh 0) pj (e2 bu (e2 bu (eC$ .str "zz")$ e2 du (ai 1)$ e2 dY (ai 0)$ eC$ .int 26)$ e2 du (ai 1)$ e2 cX (ai 0)$ eC$ .int 26) ["n"] [3])$ bU 8$ pq$ e2 du (eNew$ dq (dR$ ai 9) (bh 0) (b2 mP (ai 0)$ ai 1) (ai 0) ["one"] [5])$ eC$ .int 0) qr)$ uI 5$ ai 8)
def zZ:FS:=(bD (bU 3$ eC$ .str "abcdefghijklmnopqrstuvwxyz")$ bD (bU 4$ eNew$ ck$ ag (eC$ .str "in")$ ag (eC$ .str "gate")$ ag (eC$ .str "sure")$ ag (eC$ .str "out")$ ag (eC$ .str "not")$ ag (eC$ .str "and")$ ag (eC$ .str "or")$ ag (eC$ .str "xor")$ ag (eC$ .str "vote") aI)$ bD (uC 5$ ck aI)$ bD (wC (f7$ ai 2) (bh 6) qF)$ xh 5$ iL$ ai 5)
def eG:List D->R D:=wR jD zZ
def As(T:Tp P w K mg cl)(h:Def K mg "_law_names" jR)(aV:Callee P w K mg base 1 "_law_stir" 2 aU):Callee P w K mg base 2 "_law_names" 3 eG:=
 Bx h yE.2 sQ.2 Ab λ_ _ _ _ _ _ _ hr nd=>(aq (aF af)$ aq (aF$ aN$ aO$ aa af$ aa af$ aa af$ aa af$ aa af$ aa af$ aa af$ aa af$ aa af ah)$ aq (lL$ aO ah)$ aq (lD (dQ (ae 2) rfl T.z_range) bz$ aq (aF$ aG aV$ aa (ae 0)$ aa (ao aY (ae 1)$ ae 6) ah)$ aq (aF$ jM af$ aa (aN$ aO$ aa (bg (ae 3)$ ao cP (ae 7) ak)$ aa (bg (ae 3)$ ao cP (ao lu (ae 7) ak) ak)$ aa (ao pJ af$ ao cP (ao lu (ae 7) ak) ak) ah) ah)$ aq (aF$ gQ (ae 8) (cN$ ao cP (ao lu (ae 7) ak) ak) dH)$ aq (hV (jv$ rV (bH (oT hr.units) (ao cP (ao lu (ae 7) ak) ak) ak)$ qa$ va$ bH (Pn hr.units) (ae 5)$ aN$ aO ah) (a_$ aF$ gQ (ao aY (se$ bg (ae 5)$ ao cP (ao lu (ae 7) ak)$ bF iR rfl T.z_len Qa0$ aa (ae 5) ah)$ ae 8) dH$ cN ak) eJ)$ aq (hV (jv$ kO (bH (oT hr.units) (ae 8) af)$ kO (va$ bH BO (ae 8)$ ae 5)$ nG$ bH BO (ae 8)$ ae 4) (aq (rZ (dQ ak rfl T.z_range) (λ_ _ _=>bz) (λ_ _ _=>dC)$ λ_ _ _=>(ao aY (ao aY af$ bg (ae 1)$ ao lu (ae 0) ak)$ bg (ae 1)$ ao cP (ae 0) ak))$ a_$ aF$ se$ bg (aN$ fJ (cF$ ae 9) (λ_ _ _=>bz) (λ_ _ _=>(AO$ bH uV (ae 0)$ ae 1))$ λ_ _ _=>(ae 0)) ak) eJ)$ a_$ lr$ ae 8)$ lF 5$ a_$ bQ$ ae 5)
abbrev jL:Stmt:=top 41
noncomputable abbrev pP:List Str:=["cell","k","many","count","found","j","number"]
noncomputable def y0:QcO jL:=⟨_,by conv=>lhs;whnf⟩
noncomputable def r6:QcP jL:=⟨_,by conv=>lhs;whnf⟩
def Bd:bp pP ["cell","k","many","count"] r6.1:={}
def qK:FS:=(bD (bU 6$ aM aU$ ag (ai 0)$ ag (e2 bu (ai 1)$ ai 5) aI)$ uI 4$ e2 du (eNew$ ck$ ag (e2 cX (e2 dY (ai 6)$ eC$ .int 4)$ ai 3)$ ag (e2 B0 (e2 B0 (ai 3)$ eC$ .int 1)$ e2 cX (e2 dY (ai 6)$ eC$ .int 4)$ aM DL$ ag (ai 3)$ ag (eC$ .int 6) aI) aI)$ aM Al$ ag (e2 Q0 (e2 cX (ai 6)$ eC$ .int 4)$ eC$ .int 0) aI)
def Ar:FS:=(bD (uC 4$ ck aI)$ bD (wC (f7$ ai 2) (bh 5) qK)$ xh 4$ iL$ aM zx$ ag (ai 4) aI)
def gO:List D->R D:=wR pP Ar
def A8(T:Tp P w K mg cl)(h:Def K mg "_law_wires" jL)(aV:Callee P w K mg base 1 "_law_stir" 2 aU):Callee P w K mg base 2 "_law_wires" 4 gO:=
 Bx h y0.2 r6.2 Bd λ_ _ _ _ _ _ _ hr nd=>(aq (lL$ aO ah)$ aq (lD (dQ (ae 2) rfl T.z_range) bz$ aq (aF$ aG aV$ aa (ae 0)$ aa (ao aY (ae 1)$ ae 5) ah)$ a_$ lr$ bg (aN$ aO$ aa (ao cP (ao lu (ae 6) ak)$ ae 3)$ aa (ao Aq (ao Aq (ae 3) ak)$ ao cP (ao lu (ae 6) ak)$ bF (Qg rfl) rfl T.z_min PyProof.Rows.boot_min$ aa (ae 3)$ aa ak ah) ah)$ lH CI rfl T.z_int Qcp$ aa (fR Li (ao cP (ae 6) ak) ak) ah)$ lF 4$ a_$ bQ$ lH Em rfl T.z_tuple PyProof.Rows.boot_tuple$ aa (ae 4) ah)
abbrev lq:Stmt:=top 42
noncomputable abbrev lO:List Str:=["cell","count","number","kind","many"]
noncomputable def Bb:QcO lq:=⟨_,by conv=>lhs;whnf⟩
noncomputable def uj:QcP lq:=⟨_,by conv=>lhs;whnf⟩
def Cw:bp lO ["cell","count"] uj.1:={}
def B6:FS:=(bD (bU 2$ aM aU$ ag (ai 0)$ ag (eC$ .int 0) aI)$ bD (bU 3$ e2 du (eNew$ ck$ ag (eC$ .str "and")$ ag (eC$ .str "or")$ ag (eC$ .str "xor")$ ag (eC$ .str "vote")$ ag (eC$ .str "not")$ ag (eC$ .str "and")$ ag (eC$ .str "xor")$ ag (eC$ .str "vote") aI)$ e2 cX (ai 2)$ eC$ .int 8)$ bD (bU 4$ G3 [((Sum.inr "not":Key),V.int 1),((Sum.inr "vote":Key),V.int 3)] (ai 3)$ eC$ .int 2)$ iL$ xq$ ag (ai 3)$ ag (aM gO$ ag (ai 0)$ ag (eC$ .int 1)$ ag (ai 4)$ ag (ai 1) aI)$ ag (e2 sS (e2 cX (e2 dY (ai 2)$ eC$ .int 8)$ eC$ .int 4)$ eC$ .int 0) aI)
def nQ:List D->R D:=wR lO B6
def BQ(T:Tp P w K mg cl)(h:Def K mg "_law_gate" lq)(aV:Callee P w K mg base 1 "_law_stir" 2 aU)(gP:Callee P w K mg base 2 "_law_wires" 4 gO):Callee P w K mg base 3 "_law_gate" 2 nQ:=
 Bx h Bb.2 uj.2 Cw λ_ _ _ _ _ _ _ hr nd=>(aq (aF$ aG aV$ aa (ae 0)$ aa ak ah)$ aq (aF$ bg (aN$ aO$ aa af$ aa af$ aa af$ aa af$ aa af$ aa af$ aa af$ aa af ah)$ ao cP (ae 2) ak)$ aq (aF$ LA (nA hr) (sF v7 vG$ sF v7 vG Dv) rfl rfl (by simp) (λ_ _ _ h=>h) (by decide) (ae 3) ak ⟨rfl,rfl,rfl,rfl⟩$ Ll (sF v7 vG$ sF v7 vG Dv) rfl rfl (by simp)$ by decide)$ a_$ bQ$ qc$ aa (ae 3)$ aa (aG gP$ aa (ae 0)$ aa ak$ aa (ae 4)$ aa (ae 1) ah)$ aa (fR (oT hr.units) (ao cP (ao lu (ae 2) ak) ak) ak) ah)
abbrev ng:Stmt:=top 43
noncomputable abbrev nE:List Str:=["script","head","names","ins","place","first","gates","cell","outs","others","number"]
noncomputable def Dc:QcO ng:=⟨_,by conv=>lhs;whnf⟩
noncomputable def u0:QcP ng:=⟨_,by conv=>lhs;whnf⟩
def Gk:bp nE ["script"] u0.1:={}
def ud:FS:=(uI 3$ xq$ ag (e2 du (ai 2)$ ai 4)$ ag (e2 bu (eC$ .int 1)$ e2 cX (aM aU$ ag (ai 1)$ ag (e2 bu (eC$ .int 321)$ ai 4) aI)$ eC$ .int 3) aI)
def uf:FS:=(uI 6$ aM nQ$ ag (ai 7)$ ag (e2 bu (ai 5)$ pq$ aM kZ$ ag (ai 6) aI) aI)
def t6:FS:=(bD (bU 10$ aM aU$ ag (ai 1)$ ag (e2 bu (eC$ .int 342)$ ai 4) aI)$ uI 8$ xq$ ag (e2 du (ai 9)$ e2 B0 (eC$ .int 5)$ ai 4)$ ag (aM gO$ ag (ai 1)$ ag (e2 bu (eC$ .int 350)$ e2 jK (eC$ .int 3)$ ai 4)$ ag (e2 bu (eC$ .int 1)$ e2 cX (ai 10)$ eC$ .int 3)$ ag (e2 bu (ai 5)$ aM kZ$ ag (ai 6) aI) aI) aI)
def ya:FS:=(bD (bU 1$ aM cI$ ag (ai 0)$ ag (eC$ .int 0) aI)$ bD (bU 2$ aM eG$ ag (ai 1)$ ag (eC$ .int 300)$ ag (eC$ .int 6) aI)$ bD (uC 3$ ck aI)$ bD (wC (f7$ e2 bu (eC$ .int 1)$ e2 cX (aM aU$ ag (ai 1)$ ag (eC$ .int 320) aI)$ eC$ .int 6) (bh 4) ud)$ xh 3$ bD (bU 5$ aM A7$ ag (eNew$ dq (dR$ ai 3) (sI 2$ fq (bh 0)$ fq (bh 1) sH) pj (ai 1) ["name","width"] []) aI)$ bD (uC 6$ ck aI)$ bD (wC (dR$ wU (ai 0) (eB$ eC$ .int 1)$ eB$ eC$ .int 61) (bh 7) uf)$ xh 6$ bD (uC 8$ ck aI)$ bD (bU 9$ aM eG$ ag (ai 1)$ ag (eC$ .int 330)$ ag (eC$ .int 6) aI)$ bD (xB (b2 sS (e2 cX (aM aU$ ag (ai 1)$ ag (eC$ .int 340) aI)$ eC$ .int 2)$ eC$ .int 0) (bU 9$ ai 2) qr)$ bD (wC (f7$ e2 bu (eC$ .int 1)$ e2 cX (aM aU$ ag (ai 1)$ ag (eC$ .int 341) aI)$ eC$ .int 6) (bh 4) t6)$ xh 8$ iL$ xq$ ag (ai 3)$ ag (ai 6)$ ag (ai 8) aI)
def qf:List D->R D:=wR nE ya
def Fz(T:Tp P w K mg cl)(h:Def K mg "_law_net" ng)(dk:Callee P w K mg base 1 "_law_cell_at" 2 cI)(eY:Callee P w K mg base 2 "_law_names" 3 eG)(aV:Callee P w K mg base 1 "_law_stir" 2 aU)(rB:Callee P w K mg base 3 "_law_gate" 2 nQ)(gP:Callee P w K mg base 2 "_law_wires" 4 gO):Callee P w K mg base 4 "_law_net" 1 qf:=
 Bx h Dc.2 u0.2 Gk λ_ _ _ _ _ _ _ hr nd=>(aq (aF$ aG dk$ aa (ae 0)$ aa ak ah)$ aq (aF$ aG eY$ aa (ae 1)$ aa ak$ aa ak ah)$ aq (lL$ aO ah)$ aq (lD (dQ (ao aY ak$ ao cP (aG aV$ aa (ae 1)$ aa ak ah) ak) rfl T.z_range) bz$ a_$ lr$ qc$ aa (bg (ae 2)$ ae 4)$ aa (ao aY ak$ ao cP (aG aV$ aa (ae 1)$ aa (ao aY ak$ ae 4) ah) ak) ah)$ lF 3$ aq (aF$ bF (Ql rfl) rfl T.z_sum PyProof.Rows.boot_sum$ aa (aN$ fJ (cF$ ae 3) (λ_ _ _=>(sJ$ eL bz$ eL bz qg)) (λ_ _ _=>dC)$ λ_ _ _=>(ae 1)) ah)$ aq (lL$ aO ah)$ aq (lD (cF$ gQ (ae 0) (cN ak)$ cN ak) bz$ a_$ lr$ aG rB$ aa (ae 7)$ aa (ao aY (ae 5)$ se$ bF iR rfl T.z_len Qa0$ aa (ae 6) ah) ah)$ lF 6$ aq (lL$ aO ah)$ aq (aF$ aG eY$ aa (ae 1)$ aa ak$ aa ak ah)$ aq (hV (bH (oT hr.units) (ao cP (aG aV$ aa (ae 1)$ aa ak ah) ak) ak) (a_$ aF$ ae 2) eJ)$ aq (lD (dQ (ao aY ak$ ao cP (aG aV$ aa (ae 1)$ aa ak ah) ak) rfl T.z_range) bz$ aq (aF$ aG aV$ aa (ae 1)$ aa (ao aY ak$ ae 4) ah)$ a_$ lr$ qc$ aa (bg (ae 9)$ ao Aq ak$ ae 4)$ aa (aG gP$ aa (ae 1)$ aa (ao aY ak$ ao pJ ak$ ae 4)$ aa (ao aY ak$ ao cP (ae 10) ak)$ aa (ao aY (ae 5)$ bF iR rfl T.z_len Qa0$ aa (ae 6) ah) ah) ah)$ lF 8$ a_$ bQ$ qc$ aa (ae 3)$ aa (ae 6)$ aa (ae 8) ah)
abbrev jN:Stmt:=top 44
noncomputable abbrev pK:List Str:=["ins","gate_names","found","name","width"]
noncomputable def zq:QcO jN:=⟨_,by conv=>lhs;whnf⟩
noncomputable def rW:QcP jN:=⟨_,by conv=>lhs;whnf⟩
def z_:bp pK ["ins","gate_names"] rW.1:={}
def qD:FS:=(bU 2$ e2 bu (ai 2)$ e2 du (eNew$ ck$ ag (eNew$ ck$ ag (ai 3) aI)$ ag (wU (eNew$ ck$ ag (e2 bu (ai 3)$ eC$ .str ":0")$ ag (e2 bu (ai 3)$ eC$ .str ":1")$ ag (e2 bu (ai 3)$ eC$ .str ":2") aI) h_$ eB$ ai 4) aI)$ aM Al$ ag (e2 Q0 (ai 4)$ eC$ .int 1) aI)
def Aw:FS:=(bD (bU 2$ eNew$ ck aI)$ bD (wC (dR$ ai 0) (sI 2$ fq (bh 3)$ fq (bh 4) sH) qD)$ iL$ e2 bu (ai 2)$ ai 1)
def mG:List D->R D:=wR pK Aw
def AJ(T:Tp P w K mg cl)(h:Def K mg "_law_words" jN):Callee P w K mg base 1 "_law_words" 2 mG:=
 Bx h zq.2 rW.2 z_ λ_ _ _ _ _ _ _ hr nd=>(aq (aF$ aN$ aO ah)$ aq (lD (cF$ ae 0) (sJ$ eL bz$ eL bz qg)$ a_$ aF$ ao aY (ae 2)$ bg (aN$ aO$ aa (aN$ aO$ aa (ae 3) ah)$ aa (gQ (aN$ aO$ aa (ao aY (ae 3) af)$ aa (ao aY (ae 3) af)$ aa (ao aY (ae 3) af) ah) dH$ cN$ ae 4) ah)$ lH CI rfl T.z_int Qcp$ aa (fR Li (ae 4) ak) ah)$ a_$ bQ$ ao aY (ae 2)$ ae 1)
abbrev lj:Stmt:=top 45
noncomputable abbrev n5:List Str:=["net","gate_names","ins","gates","outs","words","rows","place","kind","wires","sure","row","name"]
noncomputable def An:QcO lj:=⟨_,by conv=>lhs;whnf⟩
noncomputable def t_:QcP lj:=⟨_,by conv=>lhs;whnf⟩
def BY:bp n5 ["net","gate_names"] t_.1:={}
def yU:FZ:=(cx (lU 11$ xP$ eNew$ ck$ ag (e2 du (eNew$ ck$ ag (eC$ .str "gate")$ ag (eC$ .str "sure") aI)$ aM Al$ ag (ai 10) aI)$ ag (e2 du (ai 1)$ ai 7)$ ag (ai 8) aI)$ Ga 6$ xP$ xH "str" e_ (eC$ .str " ")$ ag (e2 bu (ai 11)$ eNew$ dq (dR$ ai 9) (bh 0) pj (e2 du (ai 1)$ ai 0) ["wire"] [5]) aI)
def zu:FZ:=(Ga 6$ xP$ xH "str" e_ (eC$ .str " ")$ ag (e2 bu (eNew$ ck$ ag (eC$ .str "out")$ ag (ai 12) aI)$ eNew$ dq (dR$ ai 9) (bh 0) pj (e2 du (ai 1)$ ai 0) ["wire"] [5]) aI)
def vv:FZ:=(cx (OJ (xP$ ai 0)$ Q7 3$ GV (By 2)$ GV (By 3)$ GV (By 4) SQ)$ cx (lU 5$ xP$ aM mG$ ag (ai 2)$ ag (ai 1) aI)$ cx (lU 6$ zl$ dq (dR$ ai 2) (sI 2$ fq (bh 0)$ fq (bh 1) sH) pj (xH "str" e_ (eC$ .str " ")$ ag (eNew$ ck$ ag (eC$ .str "in")$ ag (ai 0)$ ag (aM cStr$ ag (ai 1) aI) aI) aI) ["name","width"] [])$ cx (yS (iP$ uX$ ai 3) (Q7 2$ GV (By 7)$ GV (Q7 3$ GV (By 8)$ GV (By 9)$ GV (By 10) SQ) SQ) yU)$ cx (yS (iP$ dR$ ai 4) (Q7 2$ GV (By 12)$ GV (By 9) SQ) zu)$ vt$ bO 6)
def pG:List V3->aP->R3 V3:=uu n5 vv
def MK:List V3->aP->R3 V3:=zR n5 vv
def CV(T:Tp P w K mg cl)(h:Def K mg "_law_rows" lj)(pZ:Callee P w K mg base 1 "_law_words" 2 mG):my P w K mg base cl 2 "_law_rows" 2 pG:=
 Vc h An.2 t_.2 BY λ_ _ _ _ _ _ _ hr nd=>(bj (Ol (az$ ae 0)$ uJ$ d_ dt$ d_ dt$ d_ dt sk)$ bj (ef$ az$ aG pZ$ aa (ae 2)$ aa (ae 1) ah)$ bj (Ad (cF$ ae 2) (λ_ _ _=>(sJ$ eL bz$ eL bz qg)) (λ_ _ _=>dC)$ λ_ _ _=>(jM af$ aa (aN$ aO$ aa af$ aa (ae 0)$ aa (lH TY rfl T.z_str PyProof.Rows.boot_str$ aa (ae 1) ah) ah) ah))$ bj (CA (m7$ E5 (ae 3) rfl T.z_enumerate) (uJ$ d_ dt$ d_ (uJ$ d_ dt$ d_ dt$ d_ dt sk) sk)$ bj (ef$ az$ aN$ aO$ aa (bg (aN$ aO$ aa af$ aa af ah)$ lH CI rfl T.z_int Qcp$ aa (ae 10) ah)$ aa (bg (ae 1)$ ae 7)$ aa (ae 8) ah)$ cq$ H_$ az$ jM af$ aa (ao aY (ae 11)$ aN$ fJ (cF$ ae 9) (λ_ _ _=>bz) (λ_ _ _=>dC)$ λ_ _ _=>(bg (ae 1)$ ae 0)) ah)$ bj (CA (m7$ cF$ ae 4) (uJ$ d_ dt$ d_ dt sk)$ cq$ H_$ az$ jM af$ aa (ao aY (aN$ aO$ aa af$ aa (ae 12) ah)$ aN$ fJ (cF$ ae 9) (λ_ _ _=>bz) (λ_ _ _=>dC)$ λ_ _ _=>(bg (ae 1)$ ae 0)) ah)$ cq$ nR$ aT 6)
abbrev dA:Stmt:=top 46
noncomputable abbrev dz:List Str:=["net","head","taken","words","found","word","spare"]
noncomputable def so:QcO dA:=⟨_,by conv=>lhs;whnf⟩
noncomputable def mw:QcP dA:=⟨_,by conv=>lhs;whnf⟩
def s_:bp dz ["net","head"] mw.1:={}
def lQ:FS:=(bD (xB (qL$ b2 Ce (ai 5)$ ai 2) (bD (bU 6$ eNew$ dq (f7$ eC$ .int 144) (bh 0) pj (e2 bu (e2 bu (eC$ .str "y")$ e2 du (eC$ .str "abcdefghijkl")$ e2 dY (ai 0)$ eC$ .int 12)$ e2 du (eC$ .str "mnopqrstuvwx")$ e2 cX (ai 0)$ eC$ .int 12) ["n"] [])$ bU 5$ pq$ e2 du (eNew$ dq (dR$ ai 6) (bh 0) (v8 (b2 mP (ai 0)$ ai 1)$ b2 mP (ai 0)$ ai 2) (ai 0) ["one"] [2,3])$ eC$ .int 0) qr)$ bD (uI 4$ ai 5)$ uI 2$ ai 5)
def tL:FS:=(bD (uC 2$ dq (dR$ e2 du (ai 0)$ eC$ .int 0) (sI 2$ fq (bh 0)$ fq (bh 1) sH) pj (ai 0) ["name","width"] [])$ bD (bU 3$ aM eG$ ag (ai 1)$ ag (eC$ .int 400)$ ag (aM kZ$ ag (e2 du (ai 0)$ eC$ .int 1) aI) aI)$ bD (uC 4$ ck aI)$ bD (wC (dR$ ai 3) (bh 5) lQ)$ xh 2$ xh 4$ iL$ ai 4)
def iV:List D->R D:=wR dz tL
def tO(T:Tp P w K mg cl)(h:Def K mg "_law_gate_names" dA)(eY:Callee P w K mg base 2 "_law_names" 3 eG):Callee P w K mg base 3 "_law_gate_names" 2 iV:=
 Bx h so.2 mw.2 s_ λ_ _ _ _ _ _ _ hr nd=>(aq (lL$ fJ (cF$ bg (ae 0) ak) (λ_ _ _=>(sJ$ eL bz$ eL bz qg)) (λ_ _ _=>dC)$ λ_ _ _=>(ae 0))$ aq (aF$ aG eY$ aa (ae 1)$ aa ak$ aa (bF iR rfl T.z_len Qa0$ aa (bg (ae 0) ak) ah) ah)$ aq (lL$ aO ah)$ aq (lD (cF$ ae 3) bz$ aq (hV (va$ bH BO (ae 5)$ ae 2) (aq (rZ (dQ ak rfl T.z_range) (λ_ _ _=>bz) (λ_ _ _=>dC)$ λ_ _ _=>(ao aY (ao aY af$ bg af$ ao lu (ae 0) ak)$ bg af$ ao cP (ae 0) ak))$ a_$ aF$ se$ bg (aN$ fJ (cF$ ae 6) (λ_ _ _=>bz) (λ_ _ _=>(AO$ jv$ rV (bH uV (ae 0)$ ae 1)$ qa$ bH uV (ae 0)$ ae 2))$ λ_ _ _=>(ae 0)) ak) eJ)$ aq (lr$ ae 5)$ a_$ lr$ ae 5)$ lF 2$ lF 4$ a_$ bQ$ ae 4)
abbrev nJ:Stmt:=top 47
noncomputable abbrev tQ:List Str:=["cell","some","barred","word"]
noncomputable def Cq:QcO nJ:=⟨_,by conv=>lhs;whnf⟩
noncomputable def v3:QcP nJ:=⟨_,by conv=>lhs;whnf⟩
def E4:bp tQ ["cell"] v3.1:={}
def Fw:FS:=(bD (bU 1$ eNew$ ck$ ag (eC$ .str "")$ ag (eC$ .str " ")$ ag (eC$ .str "in")$ ag (eC$ .str "in a")$ ag (eC$ .str "in a 0")$ ag (eC$ .str "in a 4")$ ag (eC$ .str "in a 01")$ ag (eC$ .str "in a x")$ ag (eC$ .str "in a 1 1")$ ag (eC$ .str "in A 1")$ ag (eC$ .str "in a1 1") aI)$ bD (bU 1$ e2 bu (ai 1)$ eNew$ ck$ ag (eC$ .str "in abcdefghi 1")$ ag (eC$ .str "in  a 1")$ ag (eC$ .str "in a 1 ")$ ag (eC$ .str " in a 1") (ag (eC$ .str "In a 1")$ ag (eC$ .str "ins a 1")$ ag (eC$ .str "in 1 a") aI)) (bD (bU 1$ e2 bu (ai 1)$ eNew$ ck$ ag (eC$ .str "in gate 1")$ ag (eC$ .str "in in 1") (ag (eC$ .str "in a -1")$ ag (eC$ .str "in a 1.")$ ag (eC$ .str "in a 11")$ ag (eC$ .str "in :a 1")$ ag (eC$ .str "in a:0 1")$ ag (eC$ .str "gate") aI)) (bD (bU 1$ e2 bu (ai 1)$ eNew$ ck$ ag (eC$ .str "gate a")$ ag (eC$ .str "gate a not")$ ag (eC$ .str "gate a and")$ ag (eC$ .str "gate a not b c")$ ag (eC$ .str "gate a and b")$ ag (eC$ .str "gate a and b c d") aI)$ bD (bU 1$ e2 bu (ai 1)$ eNew$ ck$ ag (eC$ .str "gate a or b")$ ag (eC$ .str "gate a xor b c d")$ ag (eC$ .str "gate a vote b c")$ ag (eC$ .str "gate a vote b c d e") aI)$ bD (bU 1$ e2 bu (ai 1)$ eNew$ ck$ ag (eC$ .str "gate a nand b c")$ ag (eC$ .str "gate a NOT b")$ ag (eC$ .str "gate A not b")$ ag (eC$ .str "gate a1 not b")$ ag (eC$ .str "gate not not b") aI)$ bD (bU 1$ e2 bu (ai 1)$ eNew$ ck$ ag (eC$ .str "gate a not B")$ ag (eC$ .str "gate a not 1")$ ag (eC$ .str "gate a not b:")$ ag (eC$ .str "gate a not b:00")$ ag (eC$ .str "gate a not b:x") aI)$ bD (bU 1$ e2 bu (ai 1)$ eNew$ ck$ ag (eC$ .str "gate a not :0")$ ag (eC$ .str "gate a not b:0:0")$ ag (eC$ .str "gate a not b;0")$ ag (eC$ .str "gate a and b, c")$ ag (eC$ .str "gate a  not b") aI)$ bD (bU 1$ e2 bu (ai 1)$ eNew$ ck$ ag (eC$ .str "gate a not  b")$ ag (eC$ .str "gate a not b ")$ ag (eC$ .str " gate a not b")$ ag (eC$ .str "Gate a not b")$ ag (eC$ .str "gates a not b") aI)$ bD (bU 1$ e2 bu (ai 1)$ eNew$ ck$ ag (eC$ .str "gate abcdefghi not b")$ ag (eC$ .str "gate a not abcdefghi")$ ag (eC$ .str "gate vote vote b c d")$ ag (eC$ .str "gate a in b") aI) (bD (bU 1$ e2 bu (ai 1)$ eNew$ ck$ ag (eC$ .str "gate a not not")$ ag (eC$ .str "gate a and b or")$ ag (eC$ .str "gate a not b:-1")$ ag (eC$ .str "gate a not -b")$ ag (eC$ .str "gate a not(b)") aI)$ bD (bU 1$ e2 bu (ai 1)$ eNew$ ck$ ag (eC$ .str "gate a = not b")$ ag (eC$ .str "sure")$ ag (eC$ .str "sure a")$ ag (eC$ .str "sure a not")$ ag (eC$ .str "sure a not b c")$ ag (eC$ .str "sure a or b") aI)$ bD (bU 1$ e2 bu (ai 1)$ eNew$ ck$ ag (eC$ .str "sure A or b c")$ ag (eC$ .str "sure a nor b c")$ ag (eC$ .str "Sure a not b")$ ag (eC$ .str "sures a not b")$ ag (eC$ .str "sure  a not b") aI)$ bD (bU 1$ e2 bu (ai 1)$ eNew$ ck$ ag (eC$ .str "sure a vote b c")$ ag (eC$ .str "sure sure not b")$ ag (eC$ .str "sure a not b:a")$ ag (eC$ .str "out")$ ag (eC$ .str "out a")$ ag (eC$ .str "out a b c d e") aI)$ bD (bU 1$ e2 bu (ai 1)$ eNew$ ck$ ag (eC$ .str "out A b")$ ag (eC$ .str "out a B")$ ag (eC$ .str "out a 1")$ ag (eC$ .str "out a b:")$ ag (eC$ .str "out a b:10")$ ag (eC$ .str "out a  b")$ ag (eC$ .str "out a b ") aI)$ bD (bU 1$ e2 bu (ai 1)$ eNew$ ck$ ag (eC$ .str " out a b")$ ag (eC$ .str "Out a b")$ ag (eC$ .str "outs a b")$ ag (eC$ .str "out out b")$ ag (eC$ .str "out a out")$ ag (eC$ .str "out 1 b")$ ag (eC$ .str "out abcdefghi b") aI)$ bD (bU 1$ e2 bu (ai 1)$ eNew$ ck$ ag (eC$ .str "out a b,c")$ ag (eC$ .str "out a b: 0")$ ag (eC$ .str "not a b")$ ag (eC$ .str "and a b c")$ ag (eC$ .str "a")$ ag (eC$ .str "1")$ ag (eC$ .str "wire a b")$ ag (eC$ .str "gate: a not b") aI)$ bD (bU 1$ e2 bu (ai 1)$ eNew$ ck$ ag (eC$ .str "# in a 1") (ag (eC$ .str "end")$ ag (eC$ .str "vote a b c") aI)) (bD (bU 2$ eNew$ ck$ ag (eC$ .str "in")$ ag (eC$ .str "gate")$ ag (eC$ .str "sure")$ ag (eC$ .str "out")$ ag (eC$ .str "not")$ ag (eC$ .str "and")$ ag (eC$ .str "or")$ ag (eC$ .str "xor")$ ag (eC$ .str "vote") aI)$ bD (bU 3$ e2 du (ai 2)$ e2 cX (aM aU$ ag (ai 0)$ ag (eC$ .int 75) aI)$ eC$ .int 9)$ bD (bU 1$ e2 bu (ai 1)$ eNew$ ck$ ag (e2 bu (e2 bu (eC$ .str "in ")$ ai 3)$ eC$ .str " 2")$ ag (e2 bu (e2 bu (eC$ .str "gate ")$ ai 3)$ eC$ .str " not b")$ ag (e2 bu (eC$ .str "sure q not ")$ ai 3) aI)$ bD (bU 1$ e2 bu (ai 1)$ eNew$ ck$ ag (e2 bu (e2 bu (eC$ .str "out ")$ ai 3)$ eC$ .str " b")$ ag (e2 bu (eC$ .str "out q ")$ ai 3)$ ag (e2 bu (eC$ .str "in a ")$ e2 jK (eC$ .str "1")$ eC$ .int 5000)$ ag (e2 bu (eC$ .str "gate a not b:")$ e2 jK (eC$ .str "1")$ eC$ .int 5000) aI)$ bD (bU 1$ e2 bu (ai 1)$ eNew$ ck$ ag (e2 bu (eC$ .str "out a b:")$ e2 jK (eC$ .str "0")$ eC$ .int 4301)$ ag (e2 bu (e2 bu (eC$ .str "in ")$ e2 jK (eC$ .str "a")$ eC$ .int 5000)$ eC$ .str " 1")$ ag (eC$ .str "in a 12")$ ag (eC$ .str "in a 23")$ ag (eC$ .str "in a 123")$ ag (eC$ .str "in a ") aI)$ bD (bU 1$ e2 bu (ai 1)$ eNew$ ck$ ag (eC$ .str "gate a or b c d")$ ag (eC$ .str "sure a or b c d")$ ag (eC$ .str "sure a vote b c d e")$ ag (eC$ .str "gate a not b:01")$ ag (eC$ .str "out a b:12") aI)$ iL$ e2 du (ai 1)$ e2 cX (aM aU$ ag (ai 0)$ ag (eC$ .int 70) aI)$ aM kZ$ ag (ai 1) aI)))))
def qj:List D->R D:=wR tQ Fw
def Gy(T:Tp P w K mg cl)(h:Def K mg "_law_bad" nJ)(aV:Callee P w K mg base 1 "_law_stir" 2 aU):Callee P w K mg base 2 "_law_bad" 1 qj:=
 Bx h Cq.2 v3.2 E4 λ_ _ _ _ _ _ _ hr nd=>(aq (aF$ aN$ aO$ aa af$ aa af$ aa af$ aa af$ aa af$ aa af$ aa af$ aa af$ aa af$ aa af$ aa af ah)$ aq (aF$ ao aY (ae 1)$ aN$ aO$ aa af$ aa af$ aa af$ aa af$ aa af$ aa af$ aa af ah)$ aq (aF$ ao aY (ae 1)$ aN$ aO$ aa af$ aa af$ aa af$ aa af$ aa af$ aa af$ aa af$ aa af ah)$ aq (aF$ ao aY (ae 1)$ aN$ aO$ aa af$ aa af$ aa af$ aa af$ aa af$ aa af ah)$ aq (aF$ ao aY (ae 1)$ aN$ aO$ aa af$ aa af$ aa af$ aa af ah)$ aq (aF$ ao aY (ae 1)$ aN$ aO$ aa af$ aa af$ aa af$ aa af$ aa af ah)$ aq (aF$ ao aY (ae 1)$ aN$ aO$ aa af$ aa af$ aa af$ aa af$ aa af ah)$ aq (aF$ ao aY (ae 1)$ aN$ aO$ aa af$ aa af$ aa af$ aa af$ aa af ah)$ aq (aF$ ao aY (ae 1)$ aN$ aO$ aa af$ aa af$ aa af$ aa af$ aa af ah)$ aq (aF$ ao aY (ae 1)$ aN$ aO$ aa af$ aa af$ aa af$ aa af ah)$ aq (aF$ ao aY (ae 1)$ aN$ aO$ aa af$ aa af$ aa af$ aa af$ aa af ah)$ aq (aF$ ao aY (ae 1)$ aN$ aO$ aa af$ aa af$ aa af$ aa af$ aa af$ aa af ah)$ aq (aF$ ao aY (ae 1)$ aN$ aO$ aa af$ aa af$ aa af$ aa af$ aa af ah)$ aq (aF$ ao aY (ae 1)$ aN$ aO$ aa af$ aa af$ aa af$ aa af$ aa af$ aa af ah)$ aq (aF$ ao aY (ae 1)$ aN$ aO$ aa af$ aa af$ aa af$ aa af$ aa af$ aa af$ aa af ah)$ aq (aF$ ao aY (ae 1)$ aN$ aO$ aa af$ aa af$ aa af$ aa af$ aa af$ aa af$ aa af ah)$ aq (aF$ ao aY (ae 1)$ aN$ aO$ aa af$ aa af$ aa af$ aa af$ aa af$ aa af$ aa af$ aa af ah)$ aq (aF$ ao aY (ae 1)$ aN$ aO$ aa af$ aa af$ aa af ah)$ aq (aF$ aN$ aO$ aa af$ aa af$ aa af$ aa af$ aa af$ aa af$ aa af$ aa af$ aa af ah)$ aq (aF$ bg (ae 2)$ ao cP (aG aV$ aa (ae 0)$ aa ak ah) ak)$ aq (aF$ ao aY (ae 1)$ aN$ aO$ aa (ao aY (ao aY af$ ae 3) af)$ aa (ao aY (ao aY af$ ae 3) af)$ aa (ao aY af$ ae 3) ah)$ aq (aF$ ao aY (ae 1)$ aN$ aO$ aa (ao aY (ao aY af$ ae 3) af)$ aa (ao aY af$ ae 3)$ aa (ao aY af$ ao pJ af ak)$ aa (ao aY af$ ao pJ af ak) ah)$ aq (aF$ ao aY (ae 1)$ aN$ aO$ aa (ao aY af$ ao pJ af ak)$ aa (ao aY (ao aY af$ ao pJ af ak) af)$ aa af$ aa af$ aa af$ aa af ah)$ aq (aF$ ao aY (ae 1)$ aN$ aO$ aa af$ aa af$ aa af$ aa af$ aa af ah)$ a_$ bQ$ bg (ae 1)$ ao cP (aG aV$ aa (ae 0)$ aa ak ah)$ bF iR rfl T.z_len Qa0$ aa (ae 1) ah)
abbrev fM:Stmt:=top 48
noncomputable abbrev fI:List Str:=["rows","found","e"]
noncomputable def wc:QcO fM:=⟨_,by conv=>lhs;whnf⟩
noncomputable def o5:QcP fM:=⟨_,by conv=>lhs;whnf⟩
def qO:bp fI ["rows"] o5.1:={}
def qM:FZ:=(cx (lU 1$ xP$ eNew$ ck aI)$ cx (xo (vE$ sv (JU qh)$ fW$ bf (xP$ xH "str" e_ (eC$ .str "\n")$ ag (ai 0) aI) dG) (λc=>[2,3,4,5,6,7,8].contains c) 2$ cx (lU 1$ CJ$ bf (mO (bO 2)$ um [(2,true),(3,false),(4,false),(5,false),(6,false),(7,false),(8,false)])$ bf (mO (bO 2)$ um [(2,false),(3,true),(4,false),(5,false),(6,false),(7,false),(8,false)])$ bf (mO (bO 2)$ um [(2,false),(3,false),(4,true),(5,false),(6,false),(7,false),(8,false)])$ bf (mO (bO 2)$ um [(2,false),(3,false),(4,false),(5,true),(6,false),(7,false),(8,false)]) dG)$ cx (lU 1$ x2 bu (xP$ ai 1)$ CJ$ bf (mO (bO 2)$ um [(2,false),(3,false),(4,false),(5,false),(6,true),(7,false),(8,false)])$ bf (mO (bO 2)$ um [(2,false),(3,false),(4,false),(5,false),(6,false),(7,true),(8,false)])$ bf (mO (bO 2)$ um [(2,false),(3,false),(4,false),(5,false),(6,false),(7,false),(8,true)])$ bf (mO (bO 2)$ um [(2,false),(3,false),(4,false),(5,false),(6,false),(7,false),(8,false)]) dG)$ cx (lU 1$ x2 bu (xP$ ai 1)$ CJ$ bf (mO (bO 2)$ um [(2,false),(3,false),(4,false),(5,false),(6,false),(7,false),(8,false)])$ bf (mO (bO 2)$ um [(2,false),(3,false),(4,false),(5,false),(6,false),(7,false),(8,false)])$ bf (mO (bO 2)$ um [(2,false),(3,false),(4,false),(5,false),(6,false),(7,false),(8,false)])$ bf (mO (bO 2)$ um [(2,false),(3,false),(4,false),(5,false),(6,false),(7,false),(8,false)]) dG)$ lU 1$ x2 bu (xP$ ai 1)$ CJ$ bf (mO (bO 2)$ um [(2,false),(3,false),(4,false),(5,false),(6,false),(7,false),(8,false)])$ bf (Qu$ mO (bO 2)$ um [(2,true),(3,true),(4,true),(5,true),(6,true),(7,true),(8,true)]) dG)$ vt$ xP$ ai 1)
def vW:List V3->aP->R3 V3:=uu fI qM
def pR:List V3->aP->R3 V3:=zR fI qM
def xn(T:Tp P w K mg cl)(h:Def K mg "_law_refused" fM)(zJ:fQ P w K mg base cl 6 "read" 1 qh):my P w K mg base cl 7 "_law_refused" 1 vW:=
 Vc h wc.2 o5.2 qO λ_ _ _ _ _ _ _ hr nd=>(bj (ef (az (aN (aO ah)))) (bj (PU rfl rfl rfl (Sd (nU T.E_TooLong_FaultError (nU T.E_NoForm_FaultError (nU T.E_NoPlace_FaultError (nU T.E_Twice_FaultError (nU T.E_Full_FaultError (nU T.E_NoWire_FaultError (nU T.E_Open_FaultError O_)))))))) rfl T.M_FaultError qO.nd rfl rfl (λpn xe E hp=>(bX (oX (AV hp (fQ.q zJ) hr (by decide) rfl (eA (aH (az (jM af (aa (ae 0) ah))) bM)) (DT (cC jF)))))) (λa pn=>(bj (ef (yy (aH (gW (aT 2) (dS (v:= .ref (cl 2)) rfl T.M_TooLong rfl) rfl rfl T.z_isinstance (lS (av ⟨T.X_TooLong,T.I_TooLong_TooLong⟩ (av ⟨T.X_NoForm,T.I_NoForm_TooLong⟩ (av ⟨T.X_NoPlace,T.I_NoPlace_TooLong⟩ (av ⟨T.X_Twice,T.I_Twice_TooLong⟩ (av ⟨T.X_Full,T.I_Full_TooLong⟩ (av ⟨T.X_NoWire,T.I_NoWire_TooLong⟩ (av ⟨T.X_Open,T.I_Open_TooLong⟩ g9)))))))) T.O_TooLong) (aH (gW (aT 2) (dS (v:= .ref (cl 3)) rfl T.M_NoForm rfl) rfl rfl T.z_isinstance (lS (av ⟨T.X_TooLong,T.I_TooLong_NoForm⟩ (av ⟨T.X_NoForm,T.I_NoForm_NoForm⟩ (av ⟨T.X_NoPlace,T.I_NoPlace_NoForm⟩ (av ⟨T.X_Twice,T.I_Twice_NoForm⟩ (av ⟨T.X_Full,T.I_Full_NoForm⟩ (av ⟨T.X_NoWire,T.I_NoWire_NoForm⟩ (av ⟨T.X_Open,T.I_Open_NoForm⟩ g9)))))))) T.O_NoForm) (aH (gW (aT 2) (dS (v:= .ref (cl 4)) rfl T.M_NoPlace rfl) rfl rfl T.z_isinstance (lS (av ⟨T.X_TooLong,T.I_TooLong_NoPlace⟩ (av ⟨T.X_NoForm,T.I_NoForm_NoPlace⟩ (av ⟨T.X_NoPlace,T.I_NoPlace_NoPlace⟩ (av ⟨T.X_Twice,T.I_Twice_NoPlace⟩ (av ⟨T.X_Full,T.I_Full_NoPlace⟩ (av ⟨T.X_NoWire,T.I_NoWire_NoPlace⟩ (av ⟨T.X_Open,T.I_Open_NoPlace⟩ g9)))))))) T.O_NoPlace) (aH (gW (aT 2) (dS (v:= .ref (cl 5)) rfl T.M_Twice rfl) rfl rfl T.z_isinstance (lS (av ⟨T.X_TooLong,T.I_TooLong_Twice⟩ (av ⟨T.X_NoForm,T.I_NoForm_Twice⟩ (av ⟨T.X_NoPlace,T.I_NoPlace_Twice⟩ (av ⟨T.X_Twice,T.I_Twice_Twice⟩ (av ⟨T.X_Full,T.I_Full_Twice⟩ (av ⟨T.X_NoWire,T.I_NoWire_Twice⟩ (av ⟨T.X_Open,T.I_Open_Twice⟩ g9)))))))) T.O_Twice) bM)))))) (bj (ef (HA aY (az (ae 1)) (yy (aH (gW (aT 2) (dS (v:= .ref (cl 6)) rfl T.M_Full rfl) rfl rfl T.z_isinstance (lS (av ⟨T.X_TooLong,T.I_TooLong_Full⟩ (av ⟨T.X_NoForm,T.I_NoForm_Full⟩ (av ⟨T.X_NoPlace,T.I_NoPlace_Full⟩ (av ⟨T.X_Twice,T.I_Twice_Full⟩ (av ⟨T.X_Full,T.I_Full_Full⟩ (av ⟨T.X_NoWire,T.I_NoWire_Full⟩ (av ⟨T.X_Open,T.I_Open_Full⟩ g9)))))))) T.O_Full) (aH (gW (aT 2) (dS (v:= .ref (cl 7)) rfl T.M_NoWire rfl) rfl rfl T.z_isinstance (lS (av ⟨T.X_TooLong,T.I_TooLong_NoWire⟩ (av ⟨T.X_NoForm,T.I_NoForm_NoWire⟩ (av ⟨T.X_NoPlace,T.I_NoPlace_NoWire⟩ (av ⟨T.X_Twice,T.I_Twice_NoWire⟩ (av ⟨T.X_Full,T.I_Full_NoWire⟩ (av ⟨T.X_NoWire,T.I_NoWire_NoWire⟩ (av ⟨T.X_Open,T.I_Open_NoWire⟩ g9)))))))) T.O_NoWire) (aH (gW (aT 2) (dS (v:= .ref (cl 8)) rfl T.M_Open rfl) rfl rfl T.z_isinstance (lS (av ⟨T.X_TooLong,T.I_TooLong_Open⟩ (av ⟨T.X_NoForm,T.I_NoForm_Open⟩ (av ⟨T.X_NoPlace,T.I_NoPlace_Open⟩ (av ⟨T.X_Twice,T.I_Twice_Open⟩ (av ⟨T.X_Full,T.I_Full_Open⟩ (av ⟨T.X_NoWire,T.I_NoWire_Open⟩ (av ⟨T.X_Open,T.I_Open_Open⟩ g9)))))))) T.O_Open) (aH (gW (aT 2) (dS (v:= .ref (cl 9)) rfl T.M_NotPlain rfl) rfl rfl T.z_isinstance (lS (av ⟨T.X_TooLong,T.I_TooLong_NotPlain⟩ (av ⟨T.X_NoForm,T.I_NoForm_NotPlain⟩ (av ⟨T.X_NoPlace,T.I_NoPlace_NotPlain⟩ (av ⟨T.X_Twice,T.I_Twice_NotPlain⟩ (av ⟨T.X_Full,T.I_Full_NotPlain⟩ (av ⟨T.X_NoWire,T.I_NoWire_NotPlain⟩ (av ⟨T.X_Open,T.I_Open_NotPlain⟩ g9)))))))) T.O_NotPlain) bM))))))) (bj (ef (HA aY (az (ae 1)) (yy (aH (gW (aT 2) (dS (v:= .ref (cl 10)) rfl T.M_NotThree rfl) rfl rfl T.z_isinstance (lS (av ⟨T.X_TooLong,T.I_TooLong_NotThree⟩ (av ⟨T.X_NoForm,T.I_NoForm_NotThree⟩ (av ⟨T.X_NoPlace,T.I_NoPlace_NotThree⟩ (av ⟨T.X_Twice,T.I_Twice_NotThree⟩ (av ⟨T.X_Full,T.I_Full_NotThree⟩ (av ⟨T.X_NoWire,T.I_NoWire_NotThree⟩ (av ⟨T.X_Open,T.I_Open_NotThree⟩ g9)))))))) T.O_NotThree) (aH (gW (aT 2) (dS (v:= .ref (cl 11)) rfl T.M_NotSound rfl) rfl rfl T.z_isinstance (lS (av ⟨T.X_TooLong,T.I_TooLong_NotSound⟩ (av ⟨T.X_NoForm,T.I_NoForm_NotSound⟩ (av ⟨T.X_NoPlace,T.I_NoPlace_NotSound⟩ (av ⟨T.X_Twice,T.I_Twice_NotSound⟩ (av ⟨T.X_Full,T.I_Full_NotSound⟩ (av ⟨T.X_NoWire,T.I_NoWire_NotSound⟩ (av ⟨T.X_Open,T.I_Open_NotSound⟩ g9)))))))) T.O_NotSound) (aH (gW (aT 2) (dS (v:= .ref (cl 12)) rfl T.M_NoFit rfl) rfl rfl T.z_isinstance (lS (av ⟨T.X_TooLong,T.I_TooLong_NoFit⟩ (av ⟨T.X_NoForm,T.I_NoForm_NoFit⟩ (av ⟨T.X_NoPlace,T.I_NoPlace_NoFit⟩ (av ⟨T.X_Twice,T.I_Twice_NoFit⟩ (av ⟨T.X_Full,T.I_Full_NoFit⟩ (av ⟨T.X_NoWire,T.I_NoWire_NoFit⟩ (av ⟨T.X_Open,T.I_Open_NoFit⟩ g9)))))))) T.O_NoFit) (aH (gW (aT 2) (dS (v:= .ref (cl 13)) rfl T.M_NoShape rfl) rfl rfl T.z_isinstance (lS (av ⟨T.X_TooLong,T.I_TooLong_NoShape⟩ (av ⟨T.X_NoForm,T.I_NoForm_NoShape⟩ (av ⟨T.X_NoPlace,T.I_NoPlace_NoShape⟩ (av ⟨T.X_Twice,T.I_Twice_NoShape⟩ (av ⟨T.X_Full,T.I_Full_NoShape⟩ (av ⟨T.X_NoWire,T.I_NoWire_NoShape⟩ (av ⟨T.X_Open,T.I_Open_NoShape⟩ g9)))))))) T.O_NoShape) bM))))))) (cq (ef (HA aY (az (ae 1)) (yy (aH (gW (aT 2) (dS (v:= .ref (cl 14)) rfl T.M_NoneYet rfl) rfl rfl T.z_isinstance (lS (av ⟨T.X_TooLong,T.I_TooLong_NoneYet⟩ (av ⟨T.X_NoForm,T.I_NoForm_NoneYet⟩ (av ⟨T.X_NoPlace,T.I_NoPlace_NoneYet⟩ (av ⟨T.X_Twice,T.I_Twice_NoneYet⟩ (av ⟨T.X_Full,T.I_Full_NoneYet⟩ (av ⟨T.X_NoWire,T.I_NoWire_NoneYet⟩ (av ⟨T.X_Open,T.I_Open_NoneYet⟩ g9)))))))) T.O_NoneYet) (aH (O0 (gW (aT 2) (Ki (v:= .ty "ValueError") rfl T.z_ValueError PyProof.Rows.Boot.«ValueError» rfl) rfl rfl T.z_isinstance (lS (av ⟨T.X_TooLong,T.I_TooLong_ValueError⟩ (av ⟨T.X_NoForm,T.I_NoForm_ValueError⟩ (av ⟨T.X_NoPlace,T.I_NoPlace_ValueError⟩ (av ⟨T.X_Twice,T.I_Twice_ValueError⟩ (av ⟨T.X_Full,T.I_Full_ValueError⟩ (av ⟨T.X_NoWire,T.I_NoWire_ValueError⟩ (av ⟨T.X_Open,T.I_Open_ValueError⟩ g9)))))))) T.O_ValueError)) bM))))))))))) (cq (nR (az (ae 1))))))
abbrev gU:Stmt:=top 49
noncomputable abbrev kY:List Str:=["row","kind","cell","words","at"]
noncomputable def w9:QcO gU:=⟨_,by conv=>lhs;whnf⟩
noncomputable def qG:QcP gU:=⟨_,by conv=>lhs;whnf⟩
def y6:bp kY ["row","kind","cell"] qG.1:={}
def og:FZ:=(cx (lU 3$ zl$ zk (ai 0)$ ag (eC$ .str " ") aI)$ cx (uK (bP$ b2 sS (ai 1)$ eC$ .int 3) (cx (lU 4$ xT$ e2 cX (aM aU$ ag (ai 2)$ ag (eC$ .int 74) aI)$ aM kZ$ ag (ai 3) aI)$ cx (Gn (bO 3) (xP$ ai 4)$ xT$ e2 bu (e2 du (ai 3)$ ai 4)$ e2 du (eC$ .str "+.;A1(:!")$ e2 cX (aM aU$ ag (ai 2)$ ag (eC$ .int 71) aI)$ eC$ .int 8)$ cx (uK (bT$ v8 (b2 sS (wU (e2 du (ai 3)$ ai 4) (eB$ RZ$ eC$ .int 1) h_)$ eC$ .str "1")$ b2 Ce (eC$ .str ":")$ e2 du (ai 3)$ ai 4) (Gn (bO 3) (xP$ ai 4)$ xT$ e2 bu (e2 du (ai 3)$ ai 4)$ eC$ .str "1") oa)$ vt$ xT$ xH "str" e_ (eC$ .str " ")$ ag (ai 3) aI) oa)$ cx (uK (bT$ v8 (b2 sS (ai 1)$ eC$ .int 4)$ b2 Ma (e2 du (ai 3)$ eC$ .int 0)$ eC$ .str "out") (vt$ xT$ xH "str" e_ (eC$ .str " ")$ ag (wU (ai 3) h_$ eB$ e2 bu (eC$ .int 1)$ e2 cX (aM aU$ ag (ai 2)$ ag (eC$ .int 72) aI)$ e2 B0 (aM kZ$ ag (ai 3) aI)$ eC$ .int 1) aI) oa)$ cx (uK (bP$ b2 sS (ai 1)$ eC$ .int 4) (vt$ xT$ xH "str" e_ (eC$ .str " ")$ ag (wU (ai 3) h_$ eB$ e2 bu (eC$ .int 1)$ e2 cX (aM aU$ ag (ai 2)$ ag (eC$ .int 72) aI)$ eC$ .int 2) aI) oa)$ vt$ xP$ e2 du (eNew$ ck$ ag (e2 bu (eC$ .str " ")$ ai 0)$ Hl 0 " " " " "  ")$ e2 cX (aM aU$ ag (ai 2)$ ag (eC$ .int 73) aI)$ eC$ .int 3)
def xl:List V3->aP->R3 V3:=uu kY og
def mL:List V3->aP->R3 V3:=zR kY og
def yp(T:Tp P w K mg cl)(h:Def K mg "_law_spoilt" gU)(aV:Callee P w K mg base 1 "_law_stir" 2 aU):my P w K mg base cl 2 "_law_spoilt" 3 xl:=
 Vc h w9.2 qG.2 y6 λ_ _ _ _ _ _ _ hr nd=>(bj (ef$ yx$ Ff (ae 0)$ aa af ah)$ bj (xR (lT$ bH (oT hr.units) (ae 1) ak) (bj (ef$ mF$ ao cP (aG aV$ aa (ae 2)$ aa ak ah)$ bF iR rfl T.z_len Qa0$ aa (ae 3) ah)$ bj (zp (mF$ ao aY (bg (ae 3)$ ae 4)$ bg af$ ao cP (aG aV$ aa (ae 2)$ aa ak ah) ak)$ yz (PX.go$ aT 3) (PX.go$ az$ ae 4) set_list)$ bj (xR (vp$ jv$ rV (bH (oT hr.units) (gQ (bg (ae 3)$ ae 4) (cN$ Ks ak) dH) af)$ qa$ bH BO af$ bg (ae 3)$ ae 4) (cq$ zp (mF$ ao aY (bg (ae 3)$ ae 4) af)$ yz (PX.go$ aT 3) (PX.go$ az$ ae 4) set_list) uN)$ cq$ nR$ mF$ jM af$ aa (ae 3) ah) uN)$ bj (xR (vp$ jv$ rV (bH (oT hr.units) (ae 1) ak)$ qa$ bH (Pn hr.units) (bg (ae 3) ak) af) (cq$ nR$ mF$ jM af$ aa (gQ (ae 3) dH$ cN$ ao aY ak$ ao cP (aG aV$ aa (ae 2)$ aa ak ah)$ ao Aq (bF iR rfl T.z_len Qa0$ aa (ae 3) ah) ak) ah) uN)$ bj (xR (lT$ bH (oT hr.units) (ae 1) ak) (cq$ nR$ mF$ jM af$ aa (gQ (ae 3) dH$ cN$ ao aY ak$ ao cP (aG aV$ aa (ae 2)$ aa ak ah) ak) ah) uN)$ cq$ nR$ az$ bg (aN$ aO$ aa (ao aY af$ ae 0)$ IE 0)$ ao cP (aG aV$ aa (ae 2)$ aa ak ah) ak)
abbrev DU:Stmt:=top 50
noncomputable abbrev t8:List Str:=["script","net","rows","at","kind","cell"]
noncomputable def N3:QcO DU:=⟨_,by conv=>lhs;whnf⟩
noncomputable def GS:QcP DU:=⟨_,by conv=>lhs;whnf⟩
def M0:bp t8 ["script"] GS.1:={}
def xF:FZ:=(cx (lU 1$ xP$ aM qf$ ag (wU (ai 0) (eB$ eC$ .int 3) h_) aI)$ cx (lU 2$ sv pG$ bf (xP$ ai 1)$ bf (xP$ aM iV$ ag (ai 1)$ ag (e2 bu (aM cI$ ag (ai 0)$ ag (eC$ .int 3) aI)$ eC$ .int 1) aI) dG)$ cx (lU 3$ xT$ e2 cX (aM cI$ ag (ai 0)$ ag (eC$ .int 0) aI)$ e2 bu (aM kZ$ ag (ai 2) aI)$ eC$ .int 1)$ cx (lU 4$ xP$ e2 cX (aM cI$ ag (ai 0)$ ag (eC$ .int 1) aI)$ eC$ .int 6)$ cx (lU 5$ xP$ aM cI$ ag (ai 0)$ ag (eC$ .int 2) aI)$ cx (uK (bT$ CW (b2 OR (ai 4)$ eC$ .int 2)$ b2 sS (ai 3)$ aM kZ$ ag (ai 2) aI) (Fi 2$ lU 2$ NH (xP$ e2 bu (wU (ai 2) h_$ eB$ ai 3)$ eNew$ ck$ ag (aM qj$ ag (ai 5) aI) aI)$ xP$ wU (ai 2) (eB$ ai 3) h_)$ uK (bP$ b2 sS (ai 4)$ eC$ .int 2) (Gn (bO 2) (xP$ ai 3)$ xP$ aM qj$ ag (ai 5) aI)$ Gn (bO 2) (xP$ ai 3)$ sv mL$ bf (xT$ e2 du (ai 2)$ ai 3)$ bf (xP$ ai 4)$ bf (xP$ ai 5) dG)$ Fi 2$ vt$ x2 sS (sv pR$ bf (xP$ ai 2) dG)$ xP$ eNew$ dq (f7$ eC$ .int 14) (bh 0) pj (e2 sS (ai 0)$ eC$ .int 1) ["k"] [])
def W7:List V3->aP->R3 V3:=uu t8 xF
def W_:List V3->aP->R3 V3:=zR t8 xF
def DC:List D->R D:=UQ t8 xF
structure Cf (K:QcQ) (mg:Aaf) (cl:Aag):Prop where
 C_Draft:Am K (cl 0)
 N_Draft_ins:di K (cl 0) "ins"
 N_Draft_gates:di K (cl 0) "gates"
 N_Draft_outs:di K (cl 0) "outs"
 N_Draft_names:di K (cl 0) "names"
 N_Draft_out_names:di K (cl 0) "out_names"
 N_Draft_numbers:di K (cl 0) "numbers"
 M_Draft:mg "Draft"=some (.ref (cl 0))
 M_FaultError:mg "FaultError"=some (.ref (cl 1))
 M_TooLong:mg "TooLong"=some (.ref (cl 2))
 M_NoForm:mg "NoForm"=some (.ref (cl 3))
 M_NoPlace:mg "NoPlace"=some (.ref (cl 4))
 M_Twice:mg "Twice"=some (.ref (cl 5))
 M_Full:mg "Full"=some (.ref (cl 6))
 M_NoWire:mg "NoWire"=some (.ref (cl 7))
 M_Open:mg "Open"=some (.ref (cl 8))
 M_NotPlain:mg "NotPlain"=some (.ref (cl 9))
 M_NotThree:mg "NotThree"=some (.ref (cl 10))
 M_NotSound:mg "NotSound"=some (.ref (cl 11))
 M_NoFit:mg "NoFit"=some (.ref (cl 12))
 M_NoShape:mg "NoShape"=some (.ref (cl 13))
 M_NoneYet:mg "NoneYet"=some (.ref (cl 14))
 X_TooLong:XC K (cl 2)
 X_NoForm:XC K (cl 3)
 X_NoPlace:XC K (cl 4)
 X_Twice:XC K (cl 5)
 X_Full:XC K (cl 6)
 X_NoWire:XC K (cl 7)
 X_Open:XC K (cl 8)
 I_Open_Twice:PySem.W.kitOne K (.ref (cl 8)) (.ref (cl 5))=some false
 I_NoWire_Twice:PySem.W.kitOne K (.ref (cl 7)) (.ref (cl 5))=some false
 I_Full_Twice:PySem.W.kitOne K (.ref (cl 6)) (.ref (cl 5))=some false
 I_Twice_Twice:PySem.W.kitOne K (.ref (cl 5)) (.ref (cl 5))=some true
 I_NoPlace_Twice:PySem.W.kitOne K (.ref (cl 4)) (.ref (cl 5))=some false
 I_NoForm_Twice:PySem.W.kitOne K (.ref (cl 3)) (.ref (cl 5))=some false
 I_TooLong_Twice:PySem.W.kitOne K (.ref (cl 2)) (.ref (cl 5))=some false
 O_Twice:PySem.W.kitOne K (.type "NoneType") (.ref (cl 5))=some false
 I_Open_NoPlace:PySem.W.kitOne K (.ref (cl 8)) (.ref (cl 4))=some false
 I_NoWire_NoPlace:PySem.W.kitOne K (.ref (cl 7)) (.ref (cl 4))=some false
 I_Full_NoPlace:PySem.W.kitOne K (.ref (cl 6)) (.ref (cl 4))=some false
 I_Twice_NoPlace:PySem.W.kitOne K (.ref (cl 5)) (.ref (cl 4))=some false
 I_NoPlace_NoPlace:PySem.W.kitOne K (.ref (cl 4)) (.ref (cl 4))=some true
 I_NoForm_NoPlace:PySem.W.kitOne K (.ref (cl 3)) (.ref (cl 4))=some false
 I_TooLong_NoPlace:PySem.W.kitOne K (.ref (cl 2)) (.ref (cl 4))=some false
 O_NoPlace:PySem.W.kitOne K (.type "NoneType") (.ref (cl 4))=some false
 I_Open_NoForm:PySem.W.kitOne K (.ref (cl 8)) (.ref (cl 3))=some false
 I_NoWire_NoForm:PySem.W.kitOne K (.ref (cl 7)) (.ref (cl 3))=some false
 I_Full_NoForm:PySem.W.kitOne K (.ref (cl 6)) (.ref (cl 3))=some false
 I_Twice_NoForm:PySem.W.kitOne K (.ref (cl 5)) (.ref (cl 3))=some false
 I_NoPlace_NoForm:PySem.W.kitOne K (.ref (cl 4)) (.ref (cl 3))=some false
 I_NoForm_NoForm:PySem.W.kitOne K (.ref (cl 3)) (.ref (cl 3))=some true
 I_TooLong_NoForm:PySem.W.kitOne K (.ref (cl 2)) (.ref (cl 3))=some false
 O_NoForm:PySem.W.kitOne K (.type "NoneType") (.ref (cl 3))=some false
 I_Open_TooLong:PySem.W.kitOne K (.ref (cl 8)) (.ref (cl 2))=some false
 I_NoWire_TooLong:PySem.W.kitOne K (.ref (cl 7)) (.ref (cl 2))=some false
 I_Full_TooLong:PySem.W.kitOne K (.ref (cl 6)) (.ref (cl 2))=some false
 I_Twice_TooLong:PySem.W.kitOne K (.ref (cl 5)) (.ref (cl 2))=some false
 I_NoPlace_TooLong:PySem.W.kitOne K (.ref (cl 4)) (.ref (cl 2))=some false
 I_NoForm_TooLong:PySem.W.kitOne K (.ref (cl 3)) (.ref (cl 2))=some false
 I_TooLong_TooLong:PySem.W.kitOne K (.ref (cl 2)) (.ref (cl 2))=some true
 O_TooLong:PySem.W.kitOne K (.type "NoneType") (.ref (cl 2))=some false
 I_Open_NotPlain:PySem.W.kitOne K (.ref (cl 8)) (.ref (cl 9))=some false
 I_NoWire_NotPlain:PySem.W.kitOne K (.ref (cl 7)) (.ref (cl 9))=some false
 I_Full_NotPlain:PySem.W.kitOne K (.ref (cl 6)) (.ref (cl 9))=some false
 I_Twice_NotPlain:PySem.W.kitOne K (.ref (cl 5)) (.ref (cl 9))=some false
 I_NoPlace_NotPlain:PySem.W.kitOne K (.ref (cl 4)) (.ref (cl 9))=some false
 I_NoForm_NotPlain:PySem.W.kitOne K (.ref (cl 3)) (.ref (cl 9))=some false
 I_TooLong_NotPlain:PySem.W.kitOne K (.ref (cl 2)) (.ref (cl 9))=some false
 O_NotPlain:PySem.W.kitOne K (.type "NoneType") (.ref (cl 9))=some false
 I_Open_Open:PySem.W.kitOne K (.ref (cl 8)) (.ref (cl 8))=some true
 I_NoWire_Open:PySem.W.kitOne K (.ref (cl 7)) (.ref (cl 8))=some false
 I_Full_Open:PySem.W.kitOne K (.ref (cl 6)) (.ref (cl 8))=some false
 I_Twice_Open:PySem.W.kitOne K (.ref (cl 5)) (.ref (cl 8))=some false
 I_NoPlace_Open:PySem.W.kitOne K (.ref (cl 4)) (.ref (cl 8))=some false
 I_NoForm_Open:PySem.W.kitOne K (.ref (cl 3)) (.ref (cl 8))=some false
 I_TooLong_Open:PySem.W.kitOne K (.ref (cl 2)) (.ref (cl 8))=some false
 O_Open:PySem.W.kitOne K (.type "NoneType") (.ref (cl 8))=some false
 I_Open_NoWire:PySem.W.kitOne K (.ref (cl 8)) (.ref (cl 7))=some false
 I_NoWire_NoWire:PySem.W.kitOne K (.ref (cl 7)) (.ref (cl 7))=some true
 I_Full_NoWire:PySem.W.kitOne K (.ref (cl 6)) (.ref (cl 7))=some false
 I_Twice_NoWire:PySem.W.kitOne K (.ref (cl 5)) (.ref (cl 7))=some false
 I_NoPlace_NoWire:PySem.W.kitOne K (.ref (cl 4)) (.ref (cl 7))=some false
 I_NoForm_NoWire:PySem.W.kitOne K (.ref (cl 3)) (.ref (cl 7))=some false
 I_TooLong_NoWire:PySem.W.kitOne K (.ref (cl 2)) (.ref (cl 7))=some false
 O_NoWire:PySem.W.kitOne K (.type "NoneType") (.ref (cl 7))=some false
 I_Open_Full:PySem.W.kitOne K (.ref (cl 8)) (.ref (cl 6))=some false
 I_NoWire_Full:PySem.W.kitOne K (.ref (cl 7)) (.ref (cl 6))=some false
 I_Full_Full:PySem.W.kitOne K (.ref (cl 6)) (.ref (cl 6))=some true
 I_Twice_Full:PySem.W.kitOne K (.ref (cl 5)) (.ref (cl 6))=some false
 I_NoPlace_Full:PySem.W.kitOne K (.ref (cl 4)) (.ref (cl 6))=some false
 I_NoForm_Full:PySem.W.kitOne K (.ref (cl 3)) (.ref (cl 6))=some false
 I_TooLong_Full:PySem.W.kitOne K (.ref (cl 2)) (.ref (cl 6))=some false
 O_Full:PySem.W.kitOne K (.type "NoneType") (.ref (cl 6))=some false
 I_Open_NoShape:PySem.W.kitOne K (.ref (cl 8)) (.ref (cl 13))=some false
 I_NoWire_NoShape:PySem.W.kitOne K (.ref (cl 7)) (.ref (cl 13))=some false
 I_Full_NoShape:PySem.W.kitOne K (.ref (cl 6)) (.ref (cl 13))=some false
 I_Twice_NoShape:PySem.W.kitOne K (.ref (cl 5)) (.ref (cl 13))=some false
 I_NoPlace_NoShape:PySem.W.kitOne K (.ref (cl 4)) (.ref (cl 13))=some false
 I_NoForm_NoShape:PySem.W.kitOne K (.ref (cl 3)) (.ref (cl 13))=some false
 I_TooLong_NoShape:PySem.W.kitOne K (.ref (cl 2)) (.ref (cl 13))=some false
 O_NoShape:PySem.W.kitOne K (.type "NoneType") (.ref (cl 13))=some false
 I_Open_NoFit:PySem.W.kitOne K (.ref (cl 8)) (.ref (cl 12))=some false
 I_NoWire_NoFit:PySem.W.kitOne K (.ref (cl 7)) (.ref (cl 12))=some false
 I_Full_NoFit:PySem.W.kitOne K (.ref (cl 6)) (.ref (cl 12))=some false
 I_Twice_NoFit:PySem.W.kitOne K (.ref (cl 5)) (.ref (cl 12))=some false
 I_NoPlace_NoFit:PySem.W.kitOne K (.ref (cl 4)) (.ref (cl 12))=some false
 I_NoForm_NoFit:PySem.W.kitOne K (.ref (cl 3)) (.ref (cl 12))=some false
 I_TooLong_NoFit:PySem.W.kitOne K (.ref (cl 2)) (.ref (cl 12))=some false
 O_NoFit:PySem.W.kitOne K (.type "NoneType") (.ref (cl 12))=some false
 I_Open_NotSound:PySem.W.kitOne K (.ref (cl 8)) (.ref (cl 11))=some false
 I_NoWire_NotSound:PySem.W.kitOne K (.ref (cl 7)) (.ref (cl 11))=some false
 I_Full_NotSound:PySem.W.kitOne K (.ref (cl 6)) (.ref (cl 11))=some false
 I_Twice_NotSound:PySem.W.kitOne K (.ref (cl 5)) (.ref (cl 11))=some false
 I_NoPlace_NotSound:PySem.W.kitOne K (.ref (cl 4)) (.ref (cl 11))=some false
 I_NoForm_NotSound:PySem.W.kitOne K (.ref (cl 3)) (.ref (cl 11))=some false
 I_TooLong_NotSound:PySem.W.kitOne K (.ref (cl 2)) (.ref (cl 11))=some false
 O_NotSound:PySem.W.kitOne K (.type "NoneType") (.ref (cl 11))=some false
 I_Open_NotThree:PySem.W.kitOne K (.ref (cl 8)) (.ref (cl 10))=some false
 I_NoWire_NotThree:PySem.W.kitOne K (.ref (cl 7)) (.ref (cl 10))=some false
 I_Full_NotThree:PySem.W.kitOne K (.ref (cl 6)) (.ref (cl 10))=some false
 I_Twice_NotThree:PySem.W.kitOne K (.ref (cl 5)) (.ref (cl 10))=some false
 I_NoPlace_NotThree:PySem.W.kitOne K (.ref (cl 4)) (.ref (cl 10))=some false
 I_NoForm_NotThree:PySem.W.kitOne K (.ref (cl 3)) (.ref (cl 10))=some false
 I_TooLong_NotThree:PySem.W.kitOne K (.ref (cl 2)) (.ref (cl 10))=some false
 O_NotThree:PySem.W.kitOne K (.type "NoneType") (.ref (cl 10))=some false
 I_Open_ValueError:PySem.W.kitOne K (.ref (cl 8)) (.type "ValueError")=some true
 I_NoWire_ValueError:PySem.W.kitOne K (.ref (cl 7)) (.type "ValueError")=some true
 I_Full_ValueError:PySem.W.kitOne K (.ref (cl 6)) (.type "ValueError")=some true
 I_Twice_ValueError:PySem.W.kitOne K (.ref (cl 5)) (.type "ValueError")=some true
 I_NoPlace_ValueError:PySem.W.kitOne K (.ref (cl 4)) (.type "ValueError")=some true
 I_NoForm_ValueError:PySem.W.kitOne K (.ref (cl 3)) (.type "ValueError")=some true
 I_TooLong_ValueError:PySem.W.kitOne K (.ref (cl 2)) (.type "ValueError")=some true
 O_ValueError:PySem.W.kitOne K (.type "NoneType") (.type "ValueError")=some false
 I_Open_NoneYet:PySem.W.kitOne K (.ref (cl 8)) (.ref (cl 14))=some false
 I_NoWire_NoneYet:PySem.W.kitOne K (.ref (cl 7)) (.ref (cl 14))=some false
 I_Full_NoneYet:PySem.W.kitOne K (.ref (cl 6)) (.ref (cl 14))=some false
 I_Twice_NoneYet:PySem.W.kitOne K (.ref (cl 5)) (.ref (cl 14))=some false
 I_NoPlace_NoneYet:PySem.W.kitOne K (.ref (cl 4)) (.ref (cl 14))=some false
 I_NoForm_NoneYet:PySem.W.kitOne K (.ref (cl 3)) (.ref (cl 14))=some false
 I_TooLong_NoneYet:PySem.W.kitOne K (.ref (cl 2)) (.ref (cl 14))=some false
 O_NoneYet:PySem.W.kitOne K (.type "NoneType") (.ref (cl 14))=some false
 E_Open_FaultError:PySem.W.exmOne K (.ref (cl 8)) (.ref (cl 1))=some true
 E_NoWire_FaultError:PySem.W.exmOne K (.ref (cl 7)) (.ref (cl 1))=some true
 E_Full_FaultError:PySem.W.exmOne K (.ref (cl 6)) (.ref (cl 1))=some true
 E_Twice_FaultError:PySem.W.exmOne K (.ref (cl 5)) (.ref (cl 1))=some true
 E_NoPlace_FaultError:PySem.W.exmOne K (.ref (cl 4)) (.ref (cl 1))=some true
 E_NoForm_FaultError:PySem.W.exmOne K (.ref (cl 3)) (.ref (cl 1))=some true
 E_TooLong_FaultError:PySem.W.exmOne K (.ref (cl 2)) (.ref (cl 1))=some true
 eR:uw K (cl 0) "add_in" "Draft.add_in" cb
 cB:uw K (cl 0) "wire_numbers" "Draft.wire_numbers" bx
 dN:uw K (cl 0) "add_gate" "Draft.add_gate" bR
 d8:uw K (cl 0) "add_out" "Draft.add_out" bZ
 dJ:NO K (cl 0) "__init__" "Draft.__init__" bS
def SX{K:QcQ}{h:Heap}{mg:Aaf}(X:K.In h)(G:h.Ns mainGlobals mg){C0:Addr}{C1:Addr}{C2:Addr}{C3:Addr}{C4:Addr}{C5:Addr}{C6:Addr}{C7:Addr}{C8:Addr}{C9:Addr}{Kb:Addr}{J4:Addr}{Kf:Addr}{J2:Addr}{Ka:Addr}{f0:Addr}{od0 an0:Option Addr}{sl0:Array (Option Value)}{oc0 kV0 dc0 pm0 Z_ ct0:Value}{f1:Addr}{od1 an1:Option Addr}{sl1:Array (Option Value)}{oc1 kV1 dc1 pm1 cd1 ct1:Value}{f2:Addr}{od2 an2:Option Addr}{XN:Array (Option Value)}{oc2 kV2 dc2 pm2 cd2 ct2:Value}{f3:Addr}{od3 an3:Option Addr}{QM:Array (Option Value)}{oc3 kV3 dc3 pm3 cd3 ct3:Value}{f4:Addr}{od4 an4:Option Addr}{sl4:Array (Option Value)}{oc4 kV4 dc4 pm4 cd4 ct4:Value}(X8:PySem.W.nsIn K mainGlobals "Draft"=some (some$ .ref C0))(Xy:PySem.W.plainGet K C0 Str.empty=true)(Xu:PySem.W.hasDictIn K C0=true)(YU:PySem.W.plainOver K C0=true)(YJ:PySem.W.findIn K (.ref C0) "__setattr__"=some (some$ .builtin "object.__setattr__"))(XM:PySem.W.makesIn K C0=true)(YW:PySem.W.keepIn K (.ref C0)=true)(Dn:PySem.W.findIn K (.ref C0) "ins"=some none)(wG:PySem.W.findIn K (.ref C0) "gates"=some none)(zF:PySem.W.findIn K (.ref C0) "outs"=some none)(wL:PySem.W.findIn K (.ref C0) "names"=some none)(oA:PySem.W.findIn K (.ref C0) "out_names"=some none)(rh:PySem.W.findIn K (.ref C0) "numbers"=some none)(Xx:PySem.W.nsIn K mainGlobals "FaultError"=some (some$ .ref C1))(Xj:PySem.W.nsIn K mainGlobals "TooLong"=some (some$ .ref C2))(XX:PySem.W.nsIn K mainGlobals "NoForm"=some (some$ .ref C3))(YS:PySem.W.nsIn K mainGlobals "NoPlace"=some (some$ .ref C4))(XW:PySem.W.nsIn K mainGlobals "Twice"=some (some$ .ref C5))(YM:PySem.W.nsIn K mainGlobals "Full"=some (some$ .ref C6))(YL:PySem.W.nsIn K mainGlobals "NoWire"=some (some$ .ref C7))(YK:PySem.W.nsIn K mainGlobals "Open"=some (some$ .ref C8))(Ys:PySem.W.nsIn K mainGlobals "NotPlain"=some (some$ .ref C9))(QH:PySem.W.nsIn K mainGlobals "NotThree"=some (some$ .ref Kb))(QT:PySem.W.nsIn K mainGlobals "NotSound"=some (some$ .ref J4))(QL:PySem.W.nsIn K mainGlobals "NoFit"=some (some$ .ref Kf))(QG:PySem.W.nsIn K mainGlobals "NoShape"=some (some$ .ref J2))(Qz:PySem.W.nsIn K mainGlobals "NoneYet"=some (some$ .ref Ka))(Xs:PySem.W.excIn K C2 Hb "ValueError.__new__"=true)(X7:PySem.W.findIn K (.ref C2) "__getattribute__"=some (some$ .builtin "BaseException.__getattribute__"))(XU:PySem.W.findIn K (.ref C2) "__getattr__"=some none)(YO:PySem.W.findIn K (.ref C2) "__class__"=some (some$ .builtin "object.__class__"))(Yv:PySem.W.mroIn K C2 (.type "object")=some true)(XY:PySem.W.mroIn K C2 (.type "BaseException")=some true)(Yi:(PySem.W.clsIn K C2).isSome=true)(XQ:PySem.W.excIn K C3 Hb "ValueError.__new__"=true)(T5:PySem.W.findIn K (.ref C3) "__getattribute__"=some (some$ .builtin "BaseException.__getattribute__"))(YD:PySem.W.findIn K (.ref C3) "__getattr__"=some none)(YB:PySem.W.findIn K (.ref C3) "__class__"=some (some$ .builtin "object.__class__"))(XA:PySem.W.mroIn K C3 (.type "object")=some true)(Xw:PySem.W.mroIn K C3 (.type "BaseException")=some true)(YN:(PySem.W.clsIn K C3).isSome=true)(YA:PySem.W.excIn K C4 Hb "ValueError.__new__"=true)(Sa:PySem.W.findIn K (.ref C4) "__getattribute__"=some (some$ .builtin "BaseException.__getattribute__"))(Yt:PySem.W.findIn K (.ref C4) "__getattr__"=some none)(Yu:PySem.W.findIn K (.ref C4) "__class__"=some (some$ .builtin "object.__class__"))(Yn:PySem.W.mroIn K C4 (.type "object")=some true)(XI:PySem.W.mroIn K C4 (.type "BaseException")=some true)(Yl:(PySem.W.clsIn K C4).isSome=true)(XE:PySem.W.excIn K C5 Hb "ValueError.__new__"=true)(Xv:PySem.W.findIn K (.ref C5) "__getattribute__"=some (some$ .builtin "BaseException.__getattribute__"))(YC:PySem.W.findIn K (.ref C5) "__getattr__"=some none)(Yd:PySem.W.findIn K (.ref C5) "__class__"=some (some$ .builtin "object.__class__"))(YE:PySem.W.mroIn K C5 (.type "object")=some true)(YG:PySem.W.mroIn K C5 (.type "BaseException")=some true)(XF:(PySem.W.clsIn K C5).isSome=true)(Xi:PySem.W.excIn K C6 Hb "ValueError.__new__"=true)(Yf:PySem.W.findIn K (.ref C6) "__getattribute__"=some (some$ .builtin "BaseException.__getattribute__"))(Xl:PySem.W.findIn K (.ref C6) "__getattr__"=some none)(Ym:PySem.W.findIn K (.ref C6) "__class__"=some (some$ .builtin "object.__class__"))(Xn:PySem.W.mroIn K C6 (.type "object")=some true)(Yy:PySem.W.mroIn K C6 (.type "BaseException")=some true)(Xr:(PySem.W.clsIn K C6).isSome=true)(Xo:PySem.W.excIn K C7 Hb "ValueError.__new__"=true)(Yb:PySem.W.findIn K (.ref C7) "__getattribute__"=some (some$ .builtin "BaseException.__getattribute__"))(Yq:PySem.W.findIn K (.ref C7) "__getattr__"=some none)(Yg:PySem.W.findIn K (.ref C7) "__class__"=some (some$ .builtin "object.__class__"))(X4:PySem.W.mroIn K C7 (.type "object")=some true)(Yw:PySem.W.mroIn K C7 (.type "BaseException")=some true)(YH:(PySem.W.clsIn K C7).isSome=true)(X0:PySem.W.excIn K C8 Hb "ValueError.__new__"=true)(Xz:PySem.W.findIn K (.ref C8) "__getattribute__"=some (some$ .builtin "BaseException.__getattribute__"))(X9:PySem.W.findIn K (.ref C8) "__getattr__"=some none)(Yp:PySem.W.findIn K (.ref C8) "__class__"=some (some$ .builtin "object.__class__"))(YZ:PySem.W.mroIn K C8 (.type "object")=some true)(Ye:PySem.W.mroIn K C8 (.type "BaseException")=some true)(Yz:(PySem.W.clsIn K C8).isSome=true)(Mv:PySem.W.specialIn K (.builtin "object.__class__") "__get__"=some (some$ .builtin "getset_descriptor.__get__"))(Mw:PySem.W.takesIn K (.builtin "object.__class__")=some true)(mY:PySem.W.kitOne K (.ref C8) (.ref C5)=some false)(jX:PySem.W.kitOne K (.ref C7) (.ref C5)=some false)(mT:PySem.W.kitOne K (.ref C6) (.ref C5)=some false)(l8:PySem.W.kitOne K (.ref C5) (.ref C5)=some true)(iY:PySem.W.kitOne K (.ref C4) (.ref C5)=some false)(kI:PySem.W.kitOne K (.ref C3) (.ref C5)=some false)(jc:PySem.W.kitOne K (.ref C2) (.ref C5)=some false)(wJ:PySem.W.kitOne K (.type "NoneType") (.ref C5)=some false)(j9:PySem.W.kitOne K (.ref C8) (.ref C4)=some false)(iu:PySem.W.kitOne K (.ref C7) (.ref C4)=some false)(kH:PySem.W.kitOne K (.ref C6) (.ref C4)=some false)(jo:PySem.W.kitOne K (.ref C5) (.ref C4)=some false)(gh:PySem.W.kitOne K (.ref C4) (.ref C4)=some true)(iK:PySem.W.kitOne K (.ref C3) (.ref C4)=some false)(gA:PySem.W.kitOne K (.ref C2) (.ref C4)=some false)(rn:PySem.W.kitOne K (.type "NoneType") (.ref C4)=some false)(lW:PySem.W.kitOne K (.ref C8) (.ref C3)=some false)(ju:PySem.W.kitOne K (.ref C7) (.ref C3)=some false)(mh:PySem.W.kitOne K (.ref C6) (.ref C3)=some false)(jY:PySem.W.kitOne K (.ref C5) (.ref C3)=some false)(iH:PySem.W.kitOne K (.ref C4) (.ref C3)=some false)(iZ:PySem.W.kitOne K (.ref C3) (.ref C3)=some true)(iB:PySem.W.kitOne K (.ref C2) (.ref C3)=some false)(tV:PySem.W.kitOne K (.type "NoneType") (.ref C3)=some false)(kj:PySem.W.kitOne K (.ref C8) (.ref C2)=some false)(ik:PySem.W.kitOne K (.ref C7) (.ref C2)=some false)(j8:PySem.W.kitOne K (.ref C6) (.ref C2)=some false)(jh:PySem.W.kitOne K (.ref C5) (.ref C2)=some false)(gq:PySem.W.kitOne K (.ref C4) (.ref C2)=some false)(ig:PySem.W.kitOne K (.ref C3) (.ref C2)=some false)(gC:PySem.W.kitOne K (.ref C2) (.ref C2)=some true)(rF:PySem.W.kitOne K (.type "NoneType") (.ref C2)=some false)(jd:PySem.W.kitOne K (.ref C8) (.ref C9)=some false)(gb:PySem.W.kitOne K (.ref C7) (.ref C9)=some false)(je:PySem.W.kitOne K (.ref C6) (.ref C9)=some false)(iC:PySem.W.kitOne K (.ref C5) (.ref C9)=some false)(fG:PySem.W.kitOne K (.ref C4) (.ref C9)=some false)(gE:PySem.W.kitOne K (.ref C3) (.ref C9)=some false)(fF:PySem.W.kitOne K (.ref C2) (.ref C9)=some false)(pV:PySem.W.kitOne K (.type "NoneType") (.ref C9)=some false)(oz:PySem.W.kitOne K (.ref C8) (.ref C8)=some true)(ma:PySem.W.kitOne K (.ref C7) (.ref C8)=some false)(oE:PySem.W.kitOne K (.ref C6) (.ref C8)=some false)(mV:PySem.W.kitOne K (.ref C5) (.ref C8)=some false)(kg:PySem.W.kitOne K (.ref C4) (.ref C8)=some false)(mi:PySem.W.kitOne K (.ref C3) (.ref C8)=some false)(j_:PySem.W.kitOne K (.ref C2) (.ref C8)=some false)(zL:PySem.W.kitOne K (.type "NoneType") (.ref C8)=some false)(l7:PySem.W.kitOne K (.ref C8) (.ref C7)=some false)(jk:PySem.W.kitOne K (.ref C7) (.ref C7)=some true)(mf:PySem.W.kitOne K (.ref C6) (.ref C7)=some false)(kE:PySem.W.kitOne K (.ref C5) (.ref C7)=some false)(iq:PySem.W.kitOne K (.ref C4) (.ref C7)=some false)(ji:PySem.W.kitOne K (.ref C3) (.ref C7)=some false)(ip:PySem.W.kitOne K (.ref C2) (.ref C7)=some false)(tT:PySem.W.kitOne K (.type "NoneType") (.ref C7)=some false)(oC:PySem.W.kitOne K (.ref C8) (.ref C6)=some false)(l5:PySem.W.kitOne K (.ref C7) (.ref C6)=some false)(ot:PySem.W.kitOne K (.ref C6) (.ref C6)=some true)(mQ:PySem.W.kitOne K (.ref C5) (.ref C6)=some false)(jZ:PySem.W.kitOne K (.ref C4) (.ref C6)=some false)(l_:PySem.W.kitOne K (.ref C3) (.ref C6)=some false)(km:PySem.W.kitOne K (.ref C2) (.ref C6)=some false)(zM:PySem.W.kitOne K (.type "NoneType") (.ref C6)=some false)(kz:PySem.W.kitOne K (.ref C8) (.ref J2)=some false)(iz:PySem.W.kitOne K (.ref C7) (.ref J2)=some false)(ky:PySem.W.kitOne K (.ref C6) (.ref J2)=some false)(jt:PySem.W.kitOne K (.ref C5) (.ref J2)=some false)(gG:PySem.W.kitOne K (.ref C4) (.ref J2)=some false)(iA:PySem.W.kitOne K (.ref C3) (.ref J2)=some false)(gr:PySem.W.kitOne K (.ref C2) (.ref J2)=some false)(rq:PySem.W.kitOne K (.type "NoneType") (.ref J2)=some false)(mS:PySem.W.kitOne K (.ref C8) (.ref Kf)=some false)(jW:PySem.W.kitOne K (.ref C7) (.ref Kf)=some false)(mW:PySem.W.kitOne K (.ref C6) (.ref Kf)=some false)(md:PySem.W.kitOne K (.ref C5) (.ref Kf)=some false)(i5:PySem.W.kitOne K (.ref C4) (.ref Kf)=some false)(kc:PySem.W.kitOne K (.ref C3) (.ref Kf)=some false)(i3:PySem.W.kitOne K (.ref C2) (.ref Kf)=some false)(wI:PySem.W.kitOne K (.type "NoneType") (.ref Kf)=some false)(i7:PySem.W.kitOne K (.ref C8) (.ref J4)=some false)(gf:PySem.W.kitOne K (.ref C7) (.ref J4)=some false)(jq:PySem.W.kitOne K (.ref C6) (.ref J4)=some false)(iE:PySem.W.kitOne K (.ref C5) (.ref J4)=some false)(fD:PySem.W.kitOne K (.ref C4) (.ref J4)=some false)(f9:PySem.W.kitOne K (.ref C3) (.ref J4)=some false)(fw:PySem.W.kitOne K (.ref C2) (.ref J4)=some false)(pX:PySem.W.kitOne K (.type "NoneType") (.ref J4)=some false)(jl:PySem.W.kitOne K (.ref C8) (.ref Kb)=some false)(gp:PySem.W.kitOne K (.ref C7) (.ref Kb)=some false)(i0:PySem.W.kitOne K (.ref C6) (.ref Kb)=some false)(iJ:PySem.W.kitOne K (.ref C5) (.ref Kb)=some false)(fE:PySem.W.kitOne K (.ref C4) (.ref Kb)=some false)(gH:PySem.W.kitOne K (.ref C3) (.ref Kb)=some false)(fB:PySem.W.kitOne K (.ref C2) (.ref Kb)=some false)(pW:PySem.W.kitOne K (.type "NoneType") (.ref Kb)=some false)(gu:PySem.W.kitOne K (.ref C8) (.type "ValueError")=some true)(eW:PySem.W.kitOne K (.ref C7) (.type "ValueError")=some true)(f_:PySem.W.kitOne K (.ref C6) (.type "ValueError")=some true)(fA:PySem.W.kitOne K (.ref C5) (.type "ValueError")=some true)(el:PySem.W.kitOne K (.ref C4) (.type "ValueError")=some true)(eX:PySem.W.kitOne K (.ref C3) (.type "ValueError")=some true)(ei:PySem.W.kitOne K (.ref C2) (.type "ValueError")=some true)(mR:PySem.W.kitOne K (.type "NoneType") (.type "ValueError")=some false)(kh:PySem.W.kitOne K (.ref C8) (.ref Ka)=some false)(iy:PySem.W.kitOne K (.ref C7) (.ref Ka)=some false)(j0:PySem.W.kitOne K (.ref C6) (.ref Ka)=some false)(jf:PySem.W.kitOne K (.ref C5) (.ref Ka)=some false)(gI:PySem.W.kitOne K (.ref C4) (.ref Ka)=some false)(ij:PySem.W.kitOne K (.ref C3) (.ref Ka)=some false)(gc:PySem.W.kitOne K (.ref C2) (.ref Ka)=some false)(rm:PySem.W.kitOne K (.type "NoneType") (.ref Ka)=some false)(gm:PySem.W.exmOne K (.ref C8) (.ref C1)=some true)(eV:PySem.W.exmOne K (.ref C7) (.ref C1)=some true)(gg:PySem.W.exmOne K (.ref C6) (.ref C1)=some true)(ft:PySem.W.exmOne K (.ref C5) (.ref C1)=some true)(eh:PySem.W.exmOne K (.ref C4) (.ref C1)=some true)(eS:PySem.W.exmOne K (.ref C3) (.ref C1)=some true)(eo:PySem.W.exmOne K (.ref C2) (.ref C1)=some true)(lV:PySem.W.findIn K (.ref C0) "add_in"=some (some$ .ref f0))(lX:PySem.W.isFn K (.ref f0)=true)(mj:K.lookup f0=some ⟨oc0,od0, .func$ PySem.W.fnOf "add_in" "Draft.add_in" (fP cb) (aQ cb) (aC cb) .none kV0 dc0 pm0 an0 Z_ ct0,sl0⟩)(eF:PySem.W.codeIn K Z_ "Draft.add_in"=true)(iF:PySem.W.keepIn K (.ref f0)=true)(eQ:PySem.W.findIn K (.ref C0) "wire_numbers"=some (some$ .ref f1))(eU:PySem.W.isFn K (.ref f1)=true)(eT:K.lookup f1=some ⟨oc1,od1, .func$ PySem.W.fnOf "wire_numbers" "Draft.wire_numbers" (fP bx) (aQ bx) (aC bx) .none kV1 dc1 pm1 an1 cd1 ct1,sl1⟩)(cz:PySem.W.codeIn K cd1 "Draft.wire_numbers"=true)(dg:PySem.W.keepIn K (.ref f1)=true)(jb:PySem.W.findIn K (.ref C0) "add_gate"=some (some$ .ref f2))(js:PySem.W.isFn K (.ref f2)=true)(jm:K.lookup f2=some ⟨oc2,od2, .func$ PySem.W.fnOf "add_gate" "Draft.add_gate" (fP bR) (aQ bR) (aC bR) .none kV2 dc2 pm2 an2 cd2 ct2,XN⟩)(dy:PySem.W.codeIn K cd2 "Draft.add_gate"=true)(e8:PySem.W.keepIn K (.ref f2)=true)(kJ:PySem.W.findIn K (.ref C0) "add_out"=some (some$ .ref f3))(j6:PySem.W.isFn K (.ref f3)=true)(kr:K.lookup f3=some ⟨oc3,od3, .func$ PySem.W.fnOf "add_out" "Draft.add_out" (fP bZ) (aQ bZ) (aC bZ) .none kV3 dc3 pm3 an3 cd3 ct3,QM⟩)(d7:PySem.W.codeIn K cd3 "Draft.add_out"=true)(fU:PySem.W.keepIn K (.ref f3)=true)(i4:PySem.W.findIn K (.ref C0) "__init__"=some (some$ .ref f4))(i9:PySem.W.isFn K (.ref f4)=true)(jj:K.lookup f4=some ⟨oc4,od4, .func$ PySem.W.fnOf "__init__" "Draft.__init__" (fP bS) (aQ bS) (aC bS) .none kV4 dc4 pm4 an4 cd4 ct4,sl4⟩)(dw:PySem.W.codeIn K cd4 "Draft.__init__"=true)(i8:PySem.W.keepIn K (.ref f4)=true):∃cl,Cf K mg cl:=by
 exact⟨λn=>if n=0 then C0 else if n=1 then C1 else if n=2 then C2 else if n=3 then C3 else if n=4 then C4 else if n=5 then C5 else if n=6 then C6 else if n=7 then C7 else if n=8 then C8 else if n=9 then C9 else if n=10 then Kb else if n=11 then J4 else if n=12 then Kf else if n=13 then J2 else Ka,⟨Xy,Xu,YU,YJ⟩,Dn,wG,zF,wL,oA,rh,QaZ X G X8,QaZ X G Xx,QaZ X G Xj,QaZ X G XX,QaZ X G YS,QaZ X G XW,QaZ X G YM,QaZ X G YL,QaZ X G YK,QaZ X G Ys,QaZ X G QH,QaZ X G QT,QaZ X G QL,QaZ X G QG,QaZ X G Qz,⟨Xs,X7,XU,YO,Mv,Mw,Yv,XY,Yi⟩,⟨XQ,T5,YD,YB,Mv,Mw,XA,Xw,YN⟩,⟨YA,Sa,Yt,Yu,Mv,Mw,Yn,XI,Yl⟩,⟨XE,Xv,YC,Yd,Mv,Mw,YE,YG,XF⟩,⟨Xi,Yf,Xl,Ym,Mv,Mw,Xn,Yy,Xr⟩,⟨Xo,Yb,Yq,Yg,Mv,Mw,X4,Yw,YH⟩,⟨X0,Xz,X9,Yp,Mv,Mw,YZ,Ye,Yz⟩,mY,jX,mT,l8,iY,kI,jc,wJ,j9,iu,kH,jo,gh,iK,gA,rn,lW,ju,mh,jY,iH,iZ,iB,tV,kj,ik,j8,jh,gq,ig,gC,rF,jd,gb,je,iC,fG,gE,fF,pV,oz,ma,oE,mV,kg,mi,j_,zL,l7,jk,mf,kE,iq,ji,ip,tT,oC,l5,ot,mQ,jZ,l_,km,zM,kz,iz,ky,jt,gG,iA,gr,rq,mS,jW,mW,md,i5,kc,i3,wI,i7,gf,jq,iE,fD,f9,fw,pX,jl,gp,i0,iJ,fE,gH,fB,pW,gu,eW,f_,fA,el,eX,ei,mR,kh,iy,j0,jf,gI,ij,gc,rm,gm,eV,gg,ft,eh,eS,eo,⟨_,_,tE (st:=cb) mj eF iF,⟨lV,lX,iF⟩⟩,⟨_,_,tE (st:=bx) eT cz dg,⟨eQ,eU,dg⟩⟩,⟨_,_,tE (st:=bR) jm dy e8,⟨jb,js,e8⟩⟩,⟨_,_,tE (st:=bZ) kr d7 fU,⟨kJ,j6,fU⟩⟩,⟨_,_,tE (st:=bS) jj dw i8,⟨XM,i4,i9,YW⟩⟩⟩
def NA{K:QcQ}{mg:Aaf}{f:Addr}{fd:FuncData}{cl:Aag}(T:Tp P w K mg cl)(tW:Def K mg "is_name" nF)(rD:Def K mg "in_wires" lP)(l9:Def K mg "is_wire_form" eM)(jg:Def K mg "are_wire_forms" dI)(oy:Def K mg "is_in_form" gR)(lY:Def K mg "is_gate_form" eK)(mZ:Def K mg "is_out_form" fN)(eR:uw K (cl 0) "add_in" "Draft.add_in" cb)(cB:uw K (cl 0) "wire_numbers" "Draft.wire_numbers" bx)(dN:uw K (cl 0) "add_gate" "Draft.add_gate" bR)(d8:uw K (cl 0) "add_out" "Draft.add_out" bZ)(rA:Def K mg "read_row" lI)(dJ:NO K (cl 0) "__init__" "Draft.__init__" bS)(Ds:Def K mg "read" wA)(mU:Def K mg "_law_cell_at" fO)(rC:Def K mg "_law_stir" lM)(pU:Def K mg "_law_names" jR)(pT:Def K mg "_law_wires" jL)(rG:Def K mg "_law_gate" lq)(tR:Def K mg "_law_net" ng)(pS:Def K mg "_law_words" jN)(rp:Def K mg "_law_rows" lj)(ja:Def K mg "_law_gate_names" dA)(tU:Def K mg "_law_bad" nJ)(mX:Def K mg "_law_refused" fM)(ox:Def K mg "_law_spoilt" gU)(F:Cz K "law" "law" DU f fd):jH P w K mg base wM 8 f fd ["script"] (K9 K 1 DC):=by
 have c7:=FK (P:=P) (w:=w) (base:=base) T tW;have rj:=Cg (P:=P) (w:=w) (base:=base) T rD;have ml:=u9 (P:=P) (w:=w) (base:=base) T l9 c7;have cL:=sV (P:=P) (w:=w) (base:=base) T jg ml;have oF:=zC (P:=P) (w:=w) (base:=base) T oy c7;have lZ:=wj (P:=P) (w:=w) (base:=base) T lY c7 cL;have m3:=wW (P:=P) (w:=w) (base:=base) T mZ c7 cL;have kq:mD P w K mg base cl 2 0 "add_in" 2 d5:=eF T eR rj;have bW:mD P w K mg base cl 1 0 "wire_numbers" 1 bJ:=cz T cB;have iI:mD P w K mg base cl 2 0 "add_gate" 4 dc:=dy T dN bW;have jr:mD P w K mg base cl 2 0 "add_out" 2 dF:=d7 T d8 bW;have pY:fQ P w K mg base cl 5 "read_row" 2 jA:=Ck T rA oF lZ m3 kq iI jr;have iG:=dw (P:=P) (w:=w) (base:=base) T dJ;have zJ:fQ P w K mg base cl 6 "read" 1 qh:=PF T Ds iG pY;have dk:=w_ (P:=P) (w:=w) (base:=base) T mU;have aV:=Cd (P:=P) (w:=w) (base:=base) T rC;have eY:=As (P:=P) (w:=w) (base:=base) T pU aV;have gP:=A8 (P:=P) (w:=w) (base:=base) T pT aV;have rB:=BQ (P:=P) (w:=w) (base:=base) T rG aV gP;have C_law_net:=Fz (P:=P) (w:=w) (base:=base) T tR dk eY aV rB gP;have pZ:=AJ (P:=P) (w:=w) (base:=base) T pS;have XK_law_rows:=CV (P:=P) (w:=w) (base:=base) T rp pZ;have XP_law_rows:=XK_law_rows.p;have C_law_gate_names:=tO (P:=P) (w:=w) (base:=base) T ja eY;have C_law_bad:=Gy (P:=P) (w:=w) (base:=base) T tU aV;have XK_law_refused:=xn (P:=P) (w:=w) (base:=base) T mX zJ;have XP_law_refused:=XK_law_refused.p;have XK_law_spoilt:=yp (P:=P) (w:=w) (base:=base) T ox aV;have XP_law_spoilt:=XK_law_spoilt.p;exact(vm (cl:=cl) (N:=t8) (F:=xF) (k:=7) N3.2 GS.2 F M0$ λ_ _ _ _ _ _ hr=>(have nd:=M0.nd;(bj (ef$ az$ aG C_law_net$ aa (gQ (ae 0) (cN ak) dH) ah)$ bj (ef$ yJ XK_law_rows$ aH (az$ ae 1)$ aH (az$ aG C_law_gate_names$ aa (ae 1)$ aa (ao aY (aG dk$ aa (ae 0)$ aa ak ah) ak) ah) bM)$ bj (ef$ mF$ ao cP (aG dk$ aa (ae 0)$ aa ak ah)$ ao aY (bF iR rfl T.z_len Qa0$ aa (ae 2) ah) ak)$ bj (ef$ az$ ao cP (aG dk$ aa (ae 0)$ aa ak ah) ak)$ bj (ef$ az$ aG dk$ aa (ae 0)$ aa ak ah)$ bj (xR (vp$ jv$ kO (bH Hk (ae 4) ak)$ nG$ bH (oT hr.units) (ae 3)$ bF iR rfl T.z_len Qa0$ aa (ae 2) ah) (DS 2$ cq$ ef$ Qh (az$ ao aY (gQ (ae 2) dH$ cN$ ae 3)$ aN$ aO$ aa (aG C_law_bad$ aa (ae 5) ah) ah)$ az$ gQ (ae 2) (cN$ ae 3) dH)$ cq$ xR (lT$ bH (oT hr.units) (ae 4) ak) (cq$ zp (az$ aG C_law_bad$ aa (ae 5) ah)$ yz (PX.go$ aT 2) (PX.go$ az$ ae 3) set_list)$ cq$ zp (yJ XP_law_spoilt$ aH (mF$ bg (ae 2)$ ae 3)$ aH (az$ ae 4)$ aH (az$ ae 5) bM)$ yz (PX.go$ aT 2) (PX.go$ az$ ae 3) set_list)$ DS 2$ cq$ nR$ NY (oT hr.units) (yJ XP_law_refused$ aH (az$ ae 2) bM) (az$ aN$ fJ (dQ ak rfl T.z_range) (λ_ _ _=>bz) (λ_ _ _=>dC)$ λ_ _ _=>(fR (oT hr.units) (ae 0) ak))$ tj _))).imp λ_ _ _ _ h=>Pm h
end K03
end
section
set_option maxHeartbeats 1000000
namespace K03
open PySem PySem.Spec PyProof.Rows L2 L3 MT JT TX
def oj{w:Str}(h:w.length<=10000000):d9 [.str w]= .ok (.bl$ isNm w):=by
 have hz:=Qav;have e:isNm w=(!(decide (w.length<1) || (decide (8<w.length) || mr.contains w)) && low w):=by
  unfold isNm;by_cases h1:1<=w.length
  .rw [Qac h1,Qaf (by omega:¬w.length<1)]
   by_cases h2:w.length<=8
   .rw [Qac h2,Qaf (by omega:¬8<w.length)];simp
   .rw [Qaf h2,Qac (by omega:8<w.length)];simp
  .rw [Qaf h1,Qac (by omega:w.length<1)];simp
 rw[e];refine dU$ Du (n_ (cG (ay rfl$ len_str h) rfl$ EN _ _) λ_=>n_ (cG (ay rfl$ len_str h) rfl$ Kk _ _) λ_=>cG rfl rfl$ Hc w mr) λ_=>cV ?_
 refine ay (ds:=[.lst$ (w.cps.toList.map λc=>decide$ 97<=c/\c<=122).map D.bl]) (aw (bN$ d6 (ds:=w.cps.toList.map λc=> .str ⟨#[c]⟩) rfl (by rw[Qaa,Qa4];show w.length<=_;omega) ?_) rfl) ?_
 .rw [Qa5];exact NT.cT (λc=> .str ⟨#[c]⟩) _ λc hc=>⟨[.val$ .str ⟨#[c]⟩],rfl,rfl,ax rfl rfl$ O9 c⟩
 .rw [Je,List.all_map];rfl
def yq{w:Str}(h:w.length<=10000000):eI [.str w]= .ok (.bl$ fV w):=by
 have hz:=Qav;obtain⟨a,b,d,e⟩:=HX w CO;have ha:a.length<=10000000:=by
  unfold iO at e;split at e
  .have:a=Builtin.Str.strSub w 0 _:=(Qbc e).1.symm;rw[this];exact QaK (strSub_length_le ..) h
  .have:a=w:=(Qbc e).1.symm;rw[this];exact h
 unfold eI pA fV;rw[e];have hp:AZ (.str w) [.str CO]= .ok (.tup$ [a,b,d].map .str):=by
  rw[<-e];exact bG _ ⟨by rw[sG];rfl,by omega⟩
 refine dU (aJ (bE (jy rfl rfl hp)$ by simp [b8,lC]) (cV ?_))
 exact qe (ay rfl$ oj ha) λ_=>N4 (ax rfl rfl$ vQ _ _) λ_=>ax rfl rfl$ Hc d xg
def qz{ws:List Str}(hl:ws.length<=10000000)(h:∀w∈ws,w.length<=10000000):cJ [.lst$ ws.map .str]= .ok (.bl$ ws.all fV):=by
 have hz:=Qav;refine dU (cV$ ay (ds:=[.lst$ (ws.map fV).map D.bl]) (aw (bN$ d6 (g8 rfl) (by rw[Qaa];omega) ?_) rfl) ?_)
 .rw [Qa5];exact NT.cT D.str _ λw hw=>⟨[.val$ .str w],rfl,rfl,ay rfl$ yq$ h w hw⟩
 .rw [Je,List.all_map];rfl
section
variable {ws:List Str}
def B9(hl:ws.length<=10000000)(h:∀w∈ws,w.length<=10000000):kW [.lst$ ws.map .str]= .ok (.bl$ uR ws):=by
 have hw:∀i,(wd ws i).length<=10000000:=λi=>by
  unfold wd;rw[Qaz];cases hx:ws[i]? with
  | none=>exact Qa9 _
  | some w=>exact h w$ Qan hx
 refine dU (cV$ qe (ax (ay rfl$ by rw[fZ,Qaa]) rfl$ uq _ _) λh3=>?_)
 have h3:=Qae h3;refine qe (ax (ax (b:= .int (0:Nat)) rfl rfl$ x_$ by omega) rfl$ vQ _ _) λ_=>?_
 refine qe (ay (aw (ax (b:= .int (1:Nat)) rfl rfl$ x_$ by omega) rfl)$ oj$ hw 1) λ_=>?_
 unfold OV;rw[show e2 du (ai 0) (eC$ .int 2) (b8 oi [.lst$ ws.map .str])= .ok (.str$ wd ws 2) from ax (b:= .int (2:Nat)) rfl rfl (x_$ by omega),R.aK]
 rfl
def yK(hl:ws.length<=10000000)(h:∀w∈ws,w.length<=10000000):g6 [.lst$ ws.map .str]= .ok (.bl$ wD ws):=by
 have hw:∀i,(wd ws i).length<=10000000:=λi=>by
  unfold wd;rw[Qaz];cases hx:ws[i]? with
  | none=>exact Qa9 _
  | some w=>exact h w$ Qan hx
 have ix:∀{i:Nat} {δ:au},i<ws.length->ai 0 δ= .ok (.lst$ ws.map .str)->e2 du (ai 0) (eC$ .int i) δ= .ok (.str$ wd ws i):=λhi hv=>ax hv rfl$ x_ hi
 have e:wD ws=(!(decide (ws.length<4) || !([Str.ofString "gate",Str.ofString "sure"].contains$ wd ws 0)) && (!(!(isNm$ wd ws 1) || !((A1.lookup$ wd ws 2).isSome)) && (decide (((ws.drop 3).length:Int)=(A1.lookup$ wd ws 2).getD 0) && (ws.drop 3).all fV))):=by
  unfold wD;by_cases h4:4<=ws.length
  .rw [Qac h4,Qaf (by omega:¬ws.length<4)];simp
  .rw [Qaf h4,Qac (by omega:ws.length<4)];simp
 rw[e];refine dU (Du (n_ (cG (ay rfl$ by rw[fZ,Qaa]) rfl$ EN _ _) λh4=>cG (b:= .tup$ [Str.ofString "gate",Str.ofString "sure"].map .str) (ix (i:=0) (by have:=Qcg h4;omega) rfl) rfl$ PH _ _) λh4=>?_)
 have h4:4<=ws.length:=by
  have:=(Qbn.mp h4).1;have:=Qcg this;omega
 refine Du (n_ (DJ$ rN$ ay (aw (ix (i:=1) (by omega) rfl) rfl)$ oj$ hw 1) λ_=>?_) λhk=>?_
 .unfold OD;rw[show e2 du (ai 0) (eC$ .int 2) (b8 gZ [.lst$ ws.map .str])= .ok (.str$ wd ws 2) from ix (i:=2) (by omega) rfl,R.aK]
  rfl
 .have hk:(A1.lookup$ wd ws 2).isSome=true:=by
   have:=(Qbn.mp hk).2;cases hq:(A1.lookup$ wd ws 2).isSome with
   | true=>rfl
   | false=>rw [hq] at this;cases this
  obtain⟨n,hn⟩:=Qbk.mp hk;refine aJ (bE (d:= .lst$ (ws.drop 3).map .str) (iS (lo:=some ((3:Nat):Int)) rfl (c9 rfl) rfl$ (rY$ by rw[Qaa];omega).trans$ by rw[QbO])$ by simp [b8,gZ]) (cV$ qe ?_ λ_=>?_)
  .rw [hn];refine ax (b:= .int n) (ay rfl$ by rw[fZ,Qaa]) ?_ ?_
   .unfold AX;rw[show e2 du (ai 0) (eC$ .int 2) _= .ok (.str$ wd ws 2) from ix (i:=2) (by omega) rfl,R.aK]
    show(match A1.lookup (wd ws 2) with | some i=>R.ok (D.int i) | none=> .no)=_
    rw[hn]
   .show R.ok (D.bl$ (((ws.drop 3).length:Nat):Int)==n)=_;congr 2
  .exact ay rfl (qz (by rw[Qbd];omega) λw YI=>h w$ QbF YI)
def z9(hl:ws.length<=10000000)(h:∀w∈ws,w.length<=10000000):jw [.lst$ ws.map .str]= .ok (.bl$ wQ ws):=by
 have hw:∀i,(wd ws i).length<=10000000:=λi=>by
  unfold wd;rw[Qaz];cases hx:ws[i]? with
  | none=>exact Qa9 _
  | some w=>exact h w$ Qan hx
 have ix:∀{i:Nat} {δ:au},i<ws.length->ai 0 δ= .ok (.lst$ ws.map .str)->e2 du (ai 0) (eC$ .int i) δ= .ok (.str$ wd ws i):=λhi hv=>ax hv rfl$ x_ hi
 have e:wQ ws=(!(decide (ws.length<3) || (!(wd ws 0==Str.ofString "out") || !(isNm$ wd ws 1))) && (decide ((ws.drop 2).length<=3) && (ws.drop 2).all fV)):=by
  unfold wQ;by_cases h4:3<=ws.length
  .rw [Qac h4,Qaf (by omega:¬ws.length<3)];simp
  .rw [Qaf h4,Qac (by omega:ws.length<3)];simp
 rw[e];refine dU (Du (n_ (cG (ay rfl$ by rw[fZ,Qaa]) rfl$ EN _ _) λh4=>?_) λh4=>?_)
 .have h4:=Qcg h4;exact n_ (cG (ix (i:=0) (by omega) rfl) rfl$ IZ _ _) λ_=>DJ (rN$ ay (aw (ix (i:=1) (by omega) rfl) rfl)$ oj$ hw 1)
 have h4:3<=ws.length:=by
  have:=(Qbn.mp h4).1;have:=Qcg this;omega
 refine aJ (bE (d:= .lst$ (ws.drop 2).map .str) (iS (lo:=some ((2:Nat):Int)) rfl (c9 rfl) rfl$ (rY$ by rw[Qaa];omega).trans$ by rw[QbO])$ by simp [b8,mM]) (cV$ qe ?_ λ_=>?_)
 .exact ax (ay rfl$ by rw[fZ,Qaa]) rfl (WB _ _)
 .exact ay rfl (qz (by rw[Qbd];omega) λw YI=>h w$ QbF YI)
end
def cj{S:aP}{l:List SO}(i:Nat):(S++l)[S.length+i]? =l[i]?:=by rw[Qal (by omega),Qch]
def et{S:List SO}{l:List SO}(i:Nat)(x:SO):(S++l).set (S.length+i) x=S++l.set i x:=by
 rw[List.set_append,Qaj (by omega),Qch]
def Gq(n:Nat):List (Str × V3):=[(Str.ofString "ins", .loc$ n+1),(Str.ofString "gates", .loc$ n+2),(Str.ofString "outs", .loc$ n+3),(Str.ofString "names", .loc$ n+4),(Str.ofString "out_names", .loc$ n+5),(Str.ofString "numbers", .loc$ n+6)]
def Ta(n:Nat)(d:Dr):List SO:=[.ins 0$ Gq n, .lst$ d.ins.map MT.inD, .lst$ d.gs.map qw, .lst$ d.os.map xj, .dct$ zS d.nm, .dct$ zS d.on, .dct$ Rn d.nu]
abbrev kU(S:aP)(d:Dr):aP:=S++Ta S.length d
def lk{n:Nat}{i:Nat}(h:([Str.ofString "ins",Str.ofString "gates",Str.ofString "outs",Str.ofString "names",Str.ofString "out_names",Str.ofString "numbers"].findIdx? (·==k))=some i):(Gq n).lookup k=some (.loc$ n+(i+1)):=by
 unfold Gq;simp only[List.findIdx?_cons,List.findIdx?_nil] at h;have sw:∀a:Str,(k==a)=(a==k):=λa=>by
  by_cases q:a=k
  .subst q;rfl
  .rw [QaQ.mpr q,QaQ.mpr$ Qbz q]
 simp only[QaB,sw];split at h
 .rename_i q;rw [q];cases h;rfl
 .rename_i q1;rw[Qb5] at q1;rw[q1];simp only[Qbg] at h;obtain⟨j1,h,rfl⟩:=h;split at h
  .rename_i q;rw [q];cases h;rfl
  .rename_i q2;rw[Qb5] at q2;rw[q2];simp only[Qbg] at h;obtain⟨j2,h,rfl⟩:=h;split at h
   .rename_i q;rw [q];cases h;rfl
   .rename_i q3;rw[Qb5] at q3;rw[q3];simp only[Qbg] at h;obtain⟨j3,h,rfl⟩:=h;split at h
    .rename_i q;rw [q];cases h;rfl
    .rename_i q4;rw[Qb5] at q4;rw[q4];simp only[Qbg] at h;obtain⟨j4,h,rfl⟩:=h;split at h
     .rename_i q;rw [q];cases h;rfl
     .rename_i q5;rw[Qb5] at q5;rw[q5];simp only[Qbg] at h;obtain⟨j5,h,rfl⟩:=h;split at h
      .rename_i q;rw [q];cases h;rfl
      .cases h
def S5{n:Nat}(h:([Str.ofString "ins",Str.ofString "gates",Str.ofString "outs",Str.ofString "names",Str.ofString "out_names",Str.ofString "numbers"].contains m)=false):(Gq n).lookup m=none:=by
 unfold Gq;simp only[QcB,List.contains_nil,Qbn] at h;obtain⟨h1,h2,h3,h4,h5,h6,_⟩:=h;simp only[QaB,h1,h2,h3,h4,h5,h6,Qct]
section
variable {S:aP}{d:Dr}{δ:DE}
def jT{i j:Nat}{Q:V3->aP->Prop}(hv:δ[j]? =some (some$ .loc S.length))(hk:([Str.ofString "ins",Str.ofString "gates",Str.ofString "outs",Str.ofString "names",Str.ofString "out_names",Str.ofString "numbers"].findIdx? (·==k))=some i)(h:Q (.loc$ S.length+(i+1)) (kU S d)):W3 (fk 0 k (bO j) δ$ kU S d) Q:=
 w_fld<|w_var hv ⟨_,_,rfl,cj 0,lk hk,h⟩
def MF:mJ (kU S d) (S.length+(0+1))=some d.ins.length:=by unfold mJ;rw [cj];simp [Ta]
def Nh:mJ (kU S d) (S.length+(1+1))=some d.gs.length:=by unfold mJ;rw [cj];simp [Ta]
def Ey:mJ (kU S d) (S.length+(2+1))=some d.os.length:=by unfold mJ;rw [cj];simp [Ta]
def M4:mJ (kU S d) (S.length+(5+1))=some d.nu.length:=by unfold mJ;rw [cj];simp [Ta,zh]
def MW:sY (.d$ .str x) (.loc$ S.length+(3+1)) (kU S d)=some (if x∈d.nm then some (.bl true) else none):=by
 have e:(kU S d)[S.length+(3+1)]? =some (.dct$ zS d.nm):=cj _;unfold sY;simp only[vB,e];rw[sM]
def Sk:sY (.d$ .str x) (.loc$ S.length+(4+1)) (kU S d)=some (if x∈d.on then some (.bl true) else none):=by
 have e:(kU S d)[S.length+(4+1)]? =some (.dct$ zS d.on):=cj _;unfold sY;simp only[vB,e];rw[sM]
def Nc:sY (.d$ .str x) (.loc$ S.length+(5+1)) (kU S d)=some ((idx d.nu x).map nI):=by
 have e:(kU S d)[S.length+(5+1)]? =some (.dct$ JX 0 d.nu):=cj _;unfold sY;simp only[vB,e];rw[vb];congr 1;cases idx d.nu x with
 | none=>rfl
 | some i=>show some (nI$ 0+i)=_;rw [Nat.zero_add];rfl
def Wj{a b:Str}{f:FD}{δ:au}{x:Str}(h:f δ= .ok (.str x))(hl:x.length<=1000000)(ha:a.length<=1000)(hb:b.length<=1000):∃y,c_ (b5 (eC$ .str a)$ b5 (nq f)$ b5 (eC$ .str b) qW) δ= .ok (.str y):=by
 have hz:=Qav;refine⟨_,qS (jJ rfl$ jJ (AK h$ by omega)$ jJ rfl rfl) ?_⟩
 show(((Str.empty++a)++x)++b).length<=_;rw[Qax,Qax,Qax];show 0+a.length+x.length+b.length<=_;omega
def yu{c i:Nat}{a b:Str}{x:Str}{Y:Nat->aP->Prop}{Q:Ou->aP->Prop}(h:(down δ)[i]? =some (.val$ .str x))(hl:x.length<=1000000)(ha:a.length<=1000)(hb:b.length<=1000)(hy:Y c S):WE (fY c (fW$ bf (xP$ c_$ b5 (eC$ .str a)$ b5 (nq$ ai i)$ b5 (eC$ .str b) qW) dG) δ S) Q Y:=by
 obtain⟨y,e⟩:=Wj (f:=ai i) (δ:=down δ) (by unfold ai;rw [h]) hl ha hb
 exact uS<|bV<|fH e<|gS ⟨by show 1<=sizeLine;decide,hy⟩
theorem Dy{nu:List Str}:∀{ws:List Str},gL nu (ws++[w])=(gL nu ws).bind λl=>(idx nu w).map λi=>l++[i]
 | []=>by
   show(match idx nu w with | some i=>(gL nu []).map (i ::·) | none=>none)=_
   cases idx nu w <;> rfl
 | y ::ws=>by
   show(match idx nu y with | some i=>(gL nu$ ws++[w]).map (i ::·) | none=>none)=_
   rw[Dy];show _=(match idx nu y with | some i=>(gL nu ws).map (i ::·) | none=>none).bind _
   cases idx nu y with
   | none=>rfl
   | some i=>
     cases gL nu ws with
     | none=>rfl
     | some l=>cases idx nu w <;> rfl
theorem DA{nu:List Str}(h:idx nu w=none):∀{ws:List Str},w∈ws->gL nu ws=none
 | y ::ws,hm=>by
   show(match idx nu y with | some i=>(gL nu ws).map (i ::·) | none=>none)=_
   rcases QaF.mp hm with e | e
   .rw [<-e,h]
   .rw [DA h e];cases idx nu y <;> rfl
theorem Jd{nu:List Str}:∀{ws:List Str},(∀w∈ws,∃i,idx nu w=some i)->∃l,gL nu ws=some l
 | [],_=>⟨[],rfl⟩
 | y ::ws,h=>by
   obtain⟨i,hi⟩:=h y Qai;obtain⟨l,hl⟩:=Jd λw hw=>h w$ Qab _ hw
   refine⟨i ::l,?_⟩;show(match idx nu y with | some i=>(gL nu ws).map (i ::·) | none=>none)=_
   rw[hi,hl];rfl
def oP{ws:List Str}(hl:ws.length<=1000)(hw:∀w∈ws,w.length<=1000000):WE (bJ [.loc S.length, .d$ .lst$ ws.map .str]$ kU S d) (λv S1=>S1=kU S d/\∃l,gL d.nu ws=some l/\v= .d (.tup$ l.map nI)) (λc S1=>S1=kU S d/\c=7/\gL d.nu ws=none):=by
 have hz:=Qav;refine Rm rfl ?_;refine jP<|MB<|Gm (g8 rfl) ?_
 refine(ND (λi δ S1=>S1=kU S d/\(∃a2,δ=[some$ .loc S.length,some$ .d$ .lst$ ws.map .str,a2])/\∀w∈ws.take i,∃j,idx d.nu w=some j) ⟨rfl,⟨_,rfl⟩,by simp⟩ ?_).mono (λo S1 ⟨δ1,e1,e2,⟨a2,e3⟩,h1⟩=>⟨δ1,e1,?_⟩) λ_ _ q=>q
 .rintro i v δ1 S1 hv ⟨rfl,⟨a2,rfl⟩,hi⟩;obtain⟨w,hwi,rfl⟩:=NT.wq hv;refine⟨[some$ .loc S.length,some$ .d$ .lst$ ws.map .str,some$ .d$ .str w],rfl,?_⟩;refine sx<|zi<|fH rfl<|jT rfl (by decide+kernel) ⟨_,Nc,?_⟩
  cases hj:idx d.nu w with
  | none=>
    exact yu rfl (hw w$ Qan hwi) (by decide+kernel) (by decide+kernel) ⟨rfl,rfl,DA hj$ Qan hwi⟩
  | some j=>
    refine pC ⟨_,rfl,rfl,⟨_,rfl⟩,λy hy=>?_⟩
    rw[Qa1,hwi] at hy;rcases Qaq.mp hy with z | z
    .exact hi y z
    .rw [QaC.mp z];exact⟨j,hj⟩
 .subst e2 e3;rw[Qaa,Qaa,Qba] at h1;obtain⟨l,hl'⟩:=Jd h1;refine Az<|qB<|LK<|bV<|LS (λi ds S2=>S2=kU S d/\∃m,gL d.nu (ws.take i)=some m/\ds=m.map nI)<|Gm (g8 rfl) ⟨by rw[Qaa,Qaa];omega,⟨rfl,[],rfl,rfl⟩,?_,?_⟩
  .rintro i v ds S2 hv ⟨rfl,m,hm,rfl⟩;obtain⟨w,hwi,rfl⟩:=NT.wq hv;obtain⟨j,hj⟩:=h1 w$ Qan hwi;refine⟨[some$ .d$ .str w,some$ .loc S.length],rfl,RK ?_⟩;refine Nv<|jT (i:=5) rfl (by decide+kernel)<|fH rfl ⟨nI j,by rw[Nc,hj];rfl,_,rfl,rfl,m++[j],?_,?_⟩
   .rw [Qa1,hwi];show gL d.nu (ws.take i++[w])=_;rw[Dy,hm,hj];rfl
   .rw [QaN];rfl
  .rintro ds S2 ⟨rfl,m,hm,rfl⟩;rw[Qaa,Qaa,Qba] at hm;exact gS ⟨[.lst$ m.map nI], .tup$ m.map nI,rfl,rfl,rfl,m,hm,rfl⟩
end
def LF{f:FD}{δ:au}{k:Nat}(hk:k<3)(h:f δ= .ok (nI k)):nq f δ= .ok (.str$ jQ k):=by
 match k,hk with
 | 0,_=>exact(wt (i:=0) h$ by decide+kernel).trans (by rw[show(toString (0:Int):Str)=jQ 0 by decide+kernel])
 | 1,_=>exact(wt (i:=1) h$ by decide+kernel).trans (by rw[show(toString (1:Int):Str)=jQ 1 by decide+kernel])
 | 2,_=>exact(wt (i:=2) h$ by decide+kernel).trans (by rw[show(toString (2:Int):Str)=jQ 2 by decide+kernel])
def Af{x:Str}{w:Nat}(hx:x.length<=8)(hw:w<=3):ll [.str x,nI w]= .ok (.lst$ (qY x w).map .str):=by
 have hz:=Qav;unfold ll u6 qY;by_cases h1:w=1
 .rw [Qap h1];exact dU (NT.uO$ ug (cG (b:=nI 1) rfl rfl$ by rw[uq,Qac h1])$ cV$ bN$ b_ rfl$ by show 1<=sizeLine;omega)
 .rw [Qaj h1];refine dU (aJ (uk (cG (b:=nI 1) rfl rfl$ by rw[uq,Qaf h1]) rfl)$ cV$ bN$ d6 (uh rfl$ by omega) (by simp;omega) ?_)
  rw[show((List.range w).map λf=>x++CO++jQ f).map D.str=(List.range w).map λf=>D.str (x++CO++jQ f) from Qa5]
  refine NT.cT nI _ λf hf=>⟨[.val$ nI f, .val$ .str x],rfl,rfl,?_⟩
  have hf:f<3:=Qas (Qbm.mp hf) hw;have hfl:(jQ f).length<=1:=by match f,hf with | 0,_=>decide+kernel | 1,_=>decide+kernel | 2,_=>decide+kernel
  refine(qS (jJ (AK rfl$ by omega)$ jJ rfl$ jJ (LF hf rfl) rfl) ?_).trans ?_
  .show(((Str.empty++x)++CO)++jQ f).length<=_;rw[Qax,Qax,Qax];show 0+x.length+1+_<=_;omega
  .show R.ok (D.str$ ((Str.empty++x)++CO)++jQ f)=_;rw[empty_app]
section
variable {S:aP}{d:Dr}
def pM{x:Str}(h:isNm x=true):x.length<=1000000:=by have:=(cD.mp h).2.1;omega
def vK{α:Type}(l:List α):decide (l.length≠0)=decide (l≠[]):=by cases l <;> simp
def E9{δ:DE}{Q:Bool->aP->Prop}(hv:δ[0]? =some (some$ .loc S.length))(h:Q (decide$ d.gs≠[]\/d.os≠[]) (kU S d)):W3 (SJ (o7$ fk 0 (Str.ofString "gates")$ bO 0) (o7$ fk 0 (Str.ofString "outs")$ bO 0) δ$ kU S d) Q:=by
 refine W3.bind (vV<|jT hv (by decide+kernel) ⟨_,_,rfl,Nh,?_⟩)
 rw[vK d.gs];by_cases hg:d.gs≠[]
 .rw [Qac hg,Qap rfl];rw[Qac$ .inl hg] at h;exact W3.ok h
 .rw [Qaf hg,Qaj$ by decide]
  refine vV<|jT hv (by decide+kernel) ⟨_,_,rfl,Ey,?_⟩
  rw[vK d.os];have:decide (d.gs≠[]\/d.os≠[])=decide (d.os≠[]):=by
   by_cases ho:d.os≠[]
   .rw [Qac ho,Qac$ .inr ho]
   .rw [Qaf ho,Qaf λq=>q.elim hg ho]
  rw[this] at h;exact h
def Gf(DD:nY d){w:Nat}(hx:isNm x=true)(hw:w<=3):WE (d5 [.loc S.length, .d$ .str x, .d$ nI w]$ kU S d) (λv S1=>v= .d .cM/\∃d',nk d x w= .ok d'/\S1=kU S d') (λc S1=>nk d x w= .error c/\S1=kU S d):=by
 have hz:=Qav;have hx8:=(cD.mp hx).2.1;refine Rm rfl ?_;refine jP<|sx<|E9 rfl ?_
 by_cases hb:d.gs≠[]\/d.os≠[]
 .rw [Qac hb,Qap rfl];exact yu rfl (pM hx) (by decide+kernel) (by decide+kernel) ⟨by unfold nk;rw [Qap hb],rfl⟩
 .rw [Qaf hb,Qaj$ by decide]
  refine pC ⟨_,rfl,?_⟩;refine jP<|sx<|zi<|fH rfl<|jT rfl (by decide+kernel) ⟨_,MW,?_⟩
  by_cases h2:x∈d.nm
  .rw [Qap h2];exact yu rfl (pM hx) (by decide+kernel) (by decide+kernel) ⟨by unfold nk;rw [Qaj hb,Qap h2],rfl⟩
  .rw [Qaj h2];simp only[QcD,Qcz,Qbl,Qb0];refine pC ⟨_,rfl,?_⟩;refine jP<|sx<|OP<|Bg<|jT rfl (by decide+kernel) ⟨_,_,rfl,MF,fH rfl ⟨nI d.ins.length,nI 6,_,rfl,rfl,PR _ _,?_⟩⟩
   by_cases h3:6<=d.ins.length
   .rw [Qac h3,Qap rfl];exact yu rfl (pM hx) (by decide+kernel) (by decide+kernel) ⟨by unfold nk;rw [Qaj hb,Qaj h2,Qap h3],rfl⟩
   .rw [Qaf h3,Qaj$ by decide]
    refine pC ⟨_,rfl,?_⟩;have Uq:=DD.ln;have Ry:=DD.lw;have Uw:=DD.li;refine Az<|de<|sL<|fH rfl<|jT (i:=3) rfl (by decide+kernel)<|fH rfl ⟨_,_,_,Sum.inr x,zS d.nm,rfl,rfl,rfl,rfl,cj _,by rw[yV];omega,_,rfl,?_⟩
    rw[show(kU S d).set (S.length+(3+1)) (.dct$ qU (zS d.nm) (Sum.inr x)$ .bl true)=kU S {d with nm:=d.nm++[x]} by rw[yP h2];exact et _ _]
    refine de<|IX<|Gm (g8$ ay rfl$ Af hx8 hw) ?_
    refine(tw (λi δ S1=>S1=kU S {d with nm:=d.nm++[x],nu:=d.nu++(qY x w).take i}/\∃a3,δ=[some$ .loc S.length,some$ .d$ .str x,some$ .d$ nI w,a3]) ⟨by simp,_,rfl⟩ ?_).mono λo S1 ⟨j7,e1,e2,a3,e3⟩=>⟨j7,e1,?_⟩
    .rintro i v δ S1 hv ⟨rfl,a3,rfl⟩;obtain⟨y,hy,rfl⟩:=NT.wq hv;refine⟨[some$ .loc S.length,some$ .d$ .str x,some$ .d$ nI w,some$ .d$ .str y],rfl,?_⟩;have hyn:y ∉ d.nu++(qY x w).take i:=λq=>by
      rcases Qaq.mp q with z | z
      .exact qi DD h2 (pI hx y$ Qan hy) z
      .have nd:=BU (x:=x) hw;obtain⟨j,hj⟩:=Qbf z;rw[Qa2] at hj;split at hj
       .rename_i hji;have:=jB nd hj hy;omega
       .cases hj
     have hil:(qY x w).length<=3:=by rw[uL];exact hw
     have htl:((qY x w).take i).length<=3:=by rw[QaO];omega
     refine sL<|Bg<|jT rfl (by decide+kernel) ⟨_,_,rfl,M4,jT (i:=5) rfl (by decide+kernel)<|fH rfl ⟨_,_,_,Sum.inr y,Rn$ d.nu++(qY x w).take i,rfl,rfl,rfl,rfl,cj _,by rw[zh,Qar];omega,_,rfl,?_,_,rfl⟩⟩
     rw[show({d with nm:=d.nm++[x],nu:=d.nu++(qY x w).take i}:Dr).nu=d.nu++(qY x w).take i from rfl,show D.int ((d.nu++(qY x w).take i).length:Nat)=nI (d.nu++(qY x w).take i).length from rfl,Ek hyn,QaE,show(qY x w).take i++[y]=(qY x w).take (i+1) by rw[Qa1,hy];rfl]
     exact et _ _
    .subst e2 e3;rw[Qaa,Qaa,Qba];refine Pc<|jT (i:=0) rfl (by decide+kernel) ⟨rfl,⟨_,cj _⟩,fH (d:=MT.inD (x,w)) (rO rfl$ by show 2<=sizeLine;omega) ⟨_,d.ins.map MT.inD,rfl,cj _,by rw[Qaa];omega,trivial,_,by unfold nk;rw [Qaj hb,Qaj h2,Qaj h3],?_⟩⟩
     rw[show d.ins.map MT.inD++[MT.inD (x,w)]=(d.ins++[(x,w)]).map MT.inD by simp]
     exact et _ _
def z8(DD:nY d){ws:List Str}{s:Bool}(hx:isNm x=true)(hk:kS (wO k)=k)(hl:ws.length<=1000)(hw:∀w∈ws,w.length<=1000000):WE (dc [.loc S.length, .d$ .str x, .d$ .str k, .d$ .lst$ ws.map .str, .d$ .bl s]$ kU S d) (λv S1=>v= .d .cM/\∃d',addGate d x (wO k) ws s= .ok d'/\S1=kU S d') (λc S1=>addGate d x (wO k) ws s= .error c/\S1=kU S d):=by
 have hz:=Qav;refine Rm rfl ?_;refine jP<|sx<|vV<|jT rfl (by decide+kernel) ⟨_,_,rfl,Ey,?_⟩
 rw[vK d.os];by_cases h1:d.os≠[]
 .rw [Qac h1,Qap rfl];exact yu rfl (pM hx) (by decide+kernel) (by decide+kernel) ⟨by unfold addGate;rw [Qap h1],rfl⟩
 rw[Qaf h1,Qaj$ by decide]
 refine pC ⟨_,rfl,?_⟩;refine jP<|sx<|zi<|fH rfl<|jT rfl (by decide+kernel) ⟨_,MW,?_⟩
 by_cases h2:x∈d.nm
 .rw [Qap h2];exact yu rfl (pM hx) (by decide+kernel) (by decide+kernel) ⟨by unfold addGate;rw [Qaj h1,Qap h2],rfl⟩
 rw[Qaj h2];simp only[QcD,Qcz,Qbl,Qb0];refine pC ⟨_,rfl,?_⟩;refine jP<|sx<|OP<|Bg<|jT rfl (by decide+kernel) ⟨_,_,rfl,Nh,fH rfl ⟨nI d.gs.length,nI 60,_,rfl,rfl,PR _ _,?_⟩⟩
 by_cases h3:60<=d.gs.length
 .rw [Qac h3,Qap rfl];exact yu rfl (pM hx) (by decide+kernel) (by decide+kernel) ⟨by unfold addGate;rw [Qaj h1,Qaj h2,Qap h3],rfl⟩
 rw[Qaf h3,Qaj$ by decide]
 refine pC ⟨_,rfl,?_⟩;have Uq:=DD.ln;have Ry:=DD.lw;have Uw:=DD.lg;refine jP<|Iw<|jT (i:=1) rfl (by decide+kernel) ⟨rfl,⟨_,cj _⟩,ME<|vq<|Jy<|fH rfl<|vq<|vj<|w_var rfl ⟨_,rfl,cj 0,S5 (by decide+kernel),bV<|fH rfl<|gS ?_⟩⟩
 refine(oP hl hw).mono ?_ ?_
 .rintro v S1 ⟨rfl,l,hl',rfl⟩;refine vq<|Jy<|fH rfl<|Jt ⟨by show 3<=sizeLine;omega,qw (wO k,l,s),d.gs.map qw,?_,cj _,by rw[Qaa];omega,_,rfl,?_⟩
  .show V3.d (.tup [.str k, .tup$ l.map nI, .bl s])=_;unfold qw;rw[hk]
  rw[show(kU S d).set (S.length+(1+1)) (.lst$ d.gs.map qw++[qw (wO k,l,s)])=kU S {d with gs:=d.gs++[(wO k,l,s)]} by rw[show d.gs.map qw++[qw (wO k,l,s)]=(d.gs++[(wO k,l,s)]).map qw by simp];exact et _ _]
  refine Az<|de<|sL<|fH rfl<|jT (i:=3) rfl (by decide+kernel)<|fH rfl ⟨_,_,_,Sum.inr x,zS d.nm,rfl,rfl,rfl,rfl,cj _,by rw[yV];omega,_,rfl,?_⟩
  rw[show(kU S {d with gs:=d.gs++[(wO k,l,s)]}).set (S.length+(3+1)) (.dct$ qU (zS d.nm) (Sum.inr x)$ .bl true)=kU S {d with gs:=d.gs++[(wO k,l,s)],nm:=d.nm++[x]} by rw[yP h2];exact et _ _]
  refine sL<|Bg<|jT rfl (by decide+kernel) ⟨_,_,rfl,M4,jT (i:=5) rfl (by decide+kernel)<|fH rfl ⟨_,_,_,Sum.inr x,Rn d.nu,rfl,rfl,rfl,rfl,cj _,by rw[zh];omega,trivial,_,by unfold addGate;rw [Qaj h1,Qaj h2,Qaj h3,hl'],?_⟩⟩
  rw[show D.int (d.nu.length:Nat)=nI d.nu.length from rfl,Ek$ qi DD h2$ sN hx]
  exact et _ _
 .rintro c S1 ⟨rfl,rfl,hn⟩;exact⟨by unfold addGate;rw [Qaj h1,Qaj h2,Qaj h3,hn],rfl⟩
def Ca(DD:nY d){ws:List Str}(hx:isNm x=true)(hl:ws.length<=1000)(hw:∀w∈ws,w.length<=1000000):WE (dF [.loc S.length, .d$ .str x, .d$ .lst$ ws.map .str]$ kU S d) (λv S1=>v= .d .cM/\∃d',jU d x ws= .ok d'/\S1=kU S d') (λc S1=>jU d x ws= .error c/\S1=kU S d):=by
 have hz:=Qav;refine Rm rfl ?_;refine jP<|sx<|zi<|fH rfl<|jT rfl (by decide+kernel) ⟨_,Sk,?_⟩
 by_cases h2:x∈d.on
 .rw [Qap h2];exact yu rfl (pM hx) (by decide+kernel) (by decide+kernel) ⟨by unfold jU;rw [Qap h2],rfl⟩
 rw[Qaj h2];simp only[QcD,Qcz,Qbl,Qb0];refine pC ⟨_,rfl,?_⟩;refine jP<|sx<|OP<|Bg<|jT rfl (by decide+kernel) ⟨_,_,rfl,Ey,fH rfl ⟨nI d.os.length,nI 6,_,rfl,rfl,PR _ _,?_⟩⟩
 by_cases h3:6<=d.os.length
 .rw [Qac h3,Qap rfl];exact yu rfl (pM hx) (by decide+kernel) (by decide+kernel) ⟨by unfold jU;rw [Qaj h2,Qap h3],rfl⟩
 rw[Qaf h3,Qaj$ by decide]
 refine pC ⟨_,rfl,?_⟩;have hon:d.on.length=d.os.length:=by unfold Dr.on;rw [Qaa]
 refine jP<|Iw<|jT (i:=2) rfl (by decide+kernel) ⟨rfl,⟨_,cj _⟩,ME<|vq<|Jy<|fH rfl<|vq<|vj<|w_var rfl ⟨_,rfl,cj 0,S5 (by decide+kernel),bV<|fH rfl<|gS ?_⟩⟩
 refine(oP hl hw).mono ?_ ?_
 .rintro v S1 ⟨rfl,l,hl',rfl⟩;refine Jt ⟨by show 2<=sizeLine;omega,xj (x,l),d.os.map xj,rfl,cj _,by rw[Qaa];omega,_,rfl,?_⟩
  rw[show(kU S d).set (S.length+(2+1)) (.lst$ d.os.map xj++[xj (x,l)])=S++[.ins 0$ Gq S.length, .lst$ d.ins.map MT.inD, .lst$ d.gs.map qw, .lst$ (d.os++[(x,l)]).map xj, .dct$ zS d.nm, .dct$ zS d.on, .dct$ Rn d.nu] by rw[show d.os.map xj++[xj (x,l)]=(d.os++[(x,l)]).map xj by simp];exact et _ _]
  refine Az<|sL<|fH rfl<|w_fld<|w_var rfl ⟨_,_,rfl,cj 0,lk (i:=4) (by decide+kernel),fH rfl ⟨_,_,_,Sum.inr x,zS d.on,rfl,rfl,rfl,rfl,cj _,by rw[yV,hon];omega,trivial,_,by unfold jU;rw [Qaj h2,Qaj h3,hl'],?_⟩⟩
  rw[yP h2,show d.on++[x]=({d with os:=d.os++[(x,l)]}:Dr).on by unfold Dr.on;simp]
  exact et _ _
 .rintro c S1 ⟨rfl,rfl,hn⟩;exact⟨by unfold jU;rw [Qaj h2,Qaj h3,hn],rfl⟩
end
structure Rw (n:Nat) (r:Str):Prop where
 len:r.length<=n
 cps:∀c∈r.cps.toList,c<16 ^ 8
section
variable {S:aP}{d:Dr}
def Fu{r:Str}{n:Nat}(h:r.length<=n):(Txt.split r SP).length<=n+2/\∀w∈Txt.split r SP,w.length<=n:=
 ⟨QaK (split_le r SP) (by omega),λw hw=>QaK (part_short hw) h⟩
def Ny(DD:nY d)(hr:Rw 1000000 r):WE (jA [.loc S.length, .d$ .str r]$ kU S d) (λv S1=>v= .d .cM/\∃d',cE d (Txt.split r SP)= .ok d'/\S1=kU S d') (λc S1=>cE d (Txt.split r SP)= .error c/\S1=kU S d):=by
 have hz:=Qav;have hrl:=hr.len;obtain⟨xw,hww⟩:=Fu hrl;refine Rm rfl ?_;simp only[fm,n8,List.map,List.length,List.replicate,Qbe,QbC,Nat.reduceAdd,Nat.reduceSub];refine jP<|Az<|g7 (by simp)<|fH (d:= .lst$ (Txt.split r SP).map .str) (jy rfl (aw rfl rfl)$ by rw[qC];exact uW$ by omega) ⟨_,rfl,?_⟩
 generalize Txt.split r SP=ws at xw hww;have h7:∀w∈ws,w.length<=10000000:=λw hw=>QaK (hww w hw) (by omega)
 have ix:∀{i:Nat} {δ:au},i<ws.length->ai 2 δ= .ok (.lst$ ws.map .str)->e2 du (ai 2) (eC$ .int i) δ= .ok (.str$ wd ws i):=λhi hv=>ax hv rfl$ x_ hi
 refine sx<|CG (rN$ ay rfl$ B9 (by omega) h7) ?_
 unfold cE;cases hi:uR ws with
 | true=>
   have hi':=hi;unfold uR at hi';simp only[QaL,Qa6] at hi';obtain⟨h3,_,hn,hwd⟩:=hi';obtain⟨_,w3,wk⟩:=HH hwd;refine wg<|vj<|w_var rfl ⟨_,rfl,cj 0,S5 (by decide+kernel),bV<|fH (ix (i:=1) (by omega) rfl)<|bV<|fH (d:=nI$ M3$ wd ws 2) ?_<|gS ?_⟩
   .unfold AX;rw[show e2 du (ai 2) (eC$ .int 2) _= .ok (.str$ wd ws 2) from ix (i:=2) (by omega) rfl,R.aK]
    show(match Cb.lookup (wd ws 2) with | some i=>R.ok (D.int i) | none=> .no)=_
    rw[wk];rfl
   .refine(Gf DD hn w3).mono ?_ λ_ _ q=>q
    rintro v S1 ⟨rfl,q⟩;exact⟨trivial,q⟩
 | false=>
   refine sx<|CG (rN$ ay rfl$ yK (by omega) h7) ?_
   cases hg:wD ws with
   | true=>
     have hg':=hg;unfold wD at hg';simp only[QaL,Qa6] at hg';obtain⟨⟨h4,_⟩,⟨hn,hk⟩,_,_⟩:=hg';obtain⟨k1,_,_⟩:=zt hk;have hdl:(ws.drop 3).length<=1000:=by
      have hg':=hg;unfold wD at hg';simp at hg';have h5:=hg'.2.2.1;obtain⟨_,k2,k3⟩:=zt hk;rw[k3] at h5;have:=Bo$ wO$ wd ws 2;simp only[Option.getD_some] at h5;omega
     refine wg<|vj<|w_var rfl ⟨_,rfl,cj 0,S5 (by decide+kernel),bV<|fH (ix (i:=1) (by omega) rfl)<|bV<|fH (ix (i:=2) (by omega) rfl)<|bV<|fH (d:= .lst$ (ws.drop 3).map .str) (iS (lo:=some ((3:Nat):Int)) rfl (c9 rfl) rfl$ (rY$ by rw[Qaa];omega).trans$ by rw[QbO])<|bV<|fH (ax (ix (i:=0) (by omega) rfl) rfl$ vQ _ _)<|gS ?_⟩
     refine(z8 DD hn k1 hdl λw hw=>QaK (hww w$ QbF hw)$ by omega).mono ?_ λ_ _ q=>q
     rintro v S1 ⟨rfl,q⟩;exact⟨trivial,q⟩
   | false=>
     refine sx<|CG (rN$ ay rfl$ z9 (by omega) h7) ?_
     cases ho:wQ ws with
     | true=>
       have xu:=ho;unfold wQ at xu;simp only[QaL,Qa6] at xu;obtain⟨⟨h4,_,hn⟩,h5,_⟩:=xu;refine wg<|vj<|w_var rfl ⟨_,rfl,cj 0,S5 (by decide+kernel),bV<|fH (ix (i:=1) (by omega) rfl)<|bV<|fH (d:= .lst$ (ws.drop 2).map .str) (iS (lo:=some ((2:Nat):Int)) rfl (c9 rfl) rfl$ (rY$ by rw[Qaa];omega).trans$ by rw[QbO])<|gS ?_⟩
       refine(Ca DD hn (by omega) λw hw=>QaK (hww w$ QbF hw)$ by omega).mono ?_ λ_ _ q=>q
       rintro v S1 ⟨rfl,q⟩;exact⟨trivial,q⟩
     | false=>
       have hrp:=StrLaws.reprText_len r hr.cps;refine uS<|bV<|fH (qS (jJ rfl$ jJ (x:=reprText r) ?_ rfl) ?_)<|gS ⟨by show 1<=sizeLine;omega,rfl,rfl⟩
       .show R.aX (decide$ (reprText r).length<=sizeLine) (R.ok$ D.str$ reprText r)=_;exact bG _ (by omega)
       .show((Str.empty++Str.ofString "a row of no form: ")++reprText r).length<=_;rw[Qax,Qax];have:(Str.ofString "a row of no form: ").length<=100:=by decide+kernel
        show 0+_+_<=_;omega
theorem pl{v:V3}{n:Nat}:∀{fs:List (Str × V3)},fs.length<n->(yD f v fs).length<n+1
 | [],h=>by show 1<n+1;simp at h;omega
 | (g,x) ::r,h=>by
   unfold yD;split
   .simp at h ⊢;omega
   .have:=pl (f:=f) (v:=v) (n:=n - 1) (fs:=r) (by simp at h;omega)
    simp at h ⊢;omega
def Mc{Q:V3->aP->Prop}(h:Q (.d .cM) (kU S d0)):W3 (er [.loc S.length]$ S++[.ins 0 []]) Q:=by
 refine Wn rfl ?_;have a0:∀{l:List SO},(S++l)[S.length]? =l[0]?:=fun {l}=>cj 0
 have ln:∀{l:List SO},(S++l).length=S.length+l.length:=fun {l}=>Qar
 refine de<|ni<|AB rfl<|w_var rfl ⟨[],rfl,by rw[QaE];exact a0,by decide,_,rfl,?_⟩
 rw[ln,QaE,show ∀x:SO,List.set (S++([.ins 0 []]++[.lst []])) S.length x=S++[x, .lst []] from λx=>et 0 x]
 refine de<|ni<|AB rfl<|w_var rfl ⟨_,rfl,by rw[QaE];exact a0,pl (by decide),_,rfl,?_⟩
 rw[ln,QaE];refine(show ∀{F:FZ} {δ:DE} {Q:Ou->aP->Prop} {x y:aP},x=y->W3 (F δ y) Q->W3 (F δ x) Q from λe h=>by rw[e];exact h) (et 0 _) ?_
 refine de<|ni<|AB rfl<|w_var rfl ⟨_,rfl,by rw[QaE];exact a0,pl (pl$ by decide),_,rfl,?_⟩
 rw[ln,QaE];refine(show ∀{F:FZ} {δ:DE} {Q:Ou->aP->Prop} {x y:aP},x=y->W3 (F δ y) Q->W3 (F δ x) Q from λe h=>by rw[e];exact h) (et 0 _) ?_
 refine de<|ni<|CP<|w_var rfl ⟨_,rfl,by rw[QaE];exact a0,pl (pl$ pl$ by decide),_,rfl,?_⟩
 rw[ln,QaE];refine(show ∀{F:FZ} {δ:DE} {Q:Ou->aP->Prop} {x y:aP},x=y->W3 (F δ y) Q->W3 (F δ x) Q from λe h=>by rw[e];exact h) (et 0 _) ?_
 refine de<|ni<|CP<|w_var rfl ⟨_,rfl,by rw[QaE];exact a0,pl (pl$ pl$ pl$ by decide),_,rfl,?_⟩
 rw[ln,QaE];refine(show ∀{F:FZ} {δ:DE} {Q:Ou->aP->Prop} {x y:aP},x=y->W3 (F δ y) Q->W3 (F δ x) Q from λe h=>by rw[e];exact h) (et 0 _) ?_
 refine ni<|CP<|w_var rfl ⟨_,rfl,by rw[QaE];exact a0,pl (pl$ pl$ pl$ pl$ by decide),_,rfl,?_⟩
 rw[ln,QaE];refine(show ∀{x y:aP},x=y->Q (.d .cM) y->Q (.d .cM) x from λe h=>by rw[e];exact h) (et 0 _) ?_
 exact h
end
theorem u7{c a:Nat}:∀{l:Aae} {x:List Nat},x∈l->a∈x->a∈jn c l
 | [y],x,hx,ha=>by rw[QaC.mp hx] at ha;exact ha
 | y ::z ::r,x,hx,ha=>by
   rcases QaF.mp hx with e | e
   .rw [e] at ha;exact Qa7 _ ha
   .exact QaU _ (Qab _$ u7 e ha)
def Kr{n c:Nat}(h:Rw n x)(hp:p∈Txt.split x ⟨#[c]⟩):Rw n p:=by
 refine⟨QaK (part_short hp) h.len,λa ha=>h.cps a ?_⟩
 rw[<-StrLaws.join_split x ⟨#[c]⟩,eN];exact u7 (Qca hp) ha
section
variable {S:aP}
def Ld{rs:List Str}(hr:∀r∈rs,Rw 1000000 r){d:Dr}(DD:nY d){T:Str}{ws:List Str}{a3:Option V3}:WE (iM (By 3) AI ((rs.map D.str).map V3.d) [some$ .d$ .str T,some$ .d$ .lst$ ws.map .str,some$ .loc S.length,a3]$ kU S d) (λo S1=>∃d' b3,o= .nx [some$ .d$ .str T,some$ .d$ .lst$ ws.map .str,some$ .loc S.length,b3]/\dm d rs= .ok d'/\nY d'/\S1=kU S d') (λc S1=>dm d rs= .error c/\∃T,S1=S++T):=by
 induction rs generalizing d a3 with
 | nil=>exact .inl ⟨_,_,rfl,d,a3,rfl,rfl,DD,rfl⟩
 | cons r rs ih=>
   refine WE.bind ?_;refine wg<|IY<|bV<|w_var rfl<|bV<|fH rfl<|gS<|(Ny DD$ hr r Qai).mono ?_ ?_
   .rintro v S1 ⟨rfl,d',h1,rfl⟩;have:=ih (λx hx=>hr x$ Qab _ hx) (LO DD h1) (a3:=some$ .d$ .str r)
    unfold dm;rw[h1];exact this
   .rintro c S1 ⟨h1,rfl⟩;unfold dm;rw[h1];exact⟨rfl,_,rfl⟩
def K_(ht:Rw 1000000 text):WE (qh [.d$ .str text] S) (λv S1=>∃d,px (Txt.split text NL)= .ok d/\nY d/\v= .tup [.loc$ S.length+1, .loc$ S.length+2, .loc$ S.length+3]/\S1=kU S d) (λc S1=>px (Txt.split text NL)= .error c/\∃T,S1=S++T):=by
 have hz:=Qav;have htl:=ht.len;refine Rm rfl ?_;simp only[fm,zf,List.map,List.length,List.replicate,Qbe,QbC,Nat.reduceAdd,Nat.reduceSub];have hrl:(Txt.split text NL).length<=1000002:=QaK (split_le text NL) (by omega)
 have hrr:∀r∈Txt.split text NL,Rw 1000000 r:=by rw[Jl];exact λr hr=>Kr ht hr
 refine jP<|Az<|g7 (by simp)<|fH (d:= .lst$ (Txt.split text NL).map .str) (jy rfl (aw rfl rfl)$ by rw[Jl];exact uW$ by omega) ⟨_,rfl,?_⟩
 generalize Txt.split text NL=rs at hrl hrr;refine jP<|sx<|CG (cG (ay rfl$ by rw[fZ,Qaa]) rfl$ Kk _ _) ?_
 unfold px;by_cases h1:80<rs.length
 .rw [Qac h1,Qap rfl,Qap h1];exact uS<|bV<|fH rfl<|gS ⟨by show 1<=sizeLine;omega,rfl,[],by simp⟩
 .rw [Qaf h1,Qaj (by decide),Qaj h1]
  refine pC ⟨_,rfl,?_⟩;refine jP<|Az<|g7 (by simp)<|N0<|gS<|Mc ⟨rfl,_,rfl,?_⟩
  refine jP<|MB<|Gm (g8 rfl) ?_
  refine(Ld hrr TR).mono ?_ ?_
  .rintro o S1 ⟨d,b3,rfl,h2,DD,rfl⟩;refine⟨_,rfl,?_⟩;rw[h2];have key:W3 (SJ (HU$ o7$ fk 0 (Str.ofString "ins")$ bO 2) (HU$ o7$ fk 0 (Str.ofString "outs")$ bO 2) [some$ .d$ .str text,some$ .d$ .lst$ rs.map .str,some$ .loc S.length,b3]$ kU S d) λb S1=>b=decide (d.ins=[]\/d.os=[])/\S1=kU S d:=by
    refine W3.bind (W3.bind$ vV<|jT rfl (by decide+kernel) ⟨_,_,rfl,MF,W3.ok ?_⟩)
    rw[vK d.ins];by_cases hi:d.ins=[]
    .rw [Qaf (λq=>q hi),Qac$ .inl hi]
     exact W3.ok ⟨rfl,rfl⟩
    .rw [Qac hi,show(!true)=false from rfl,Qaj$ by decide]
     refine W3.bind (vV<|jT rfl (by decide+kernel) ⟨_,_,rfl,Ey,W3.ok ?_⟩)
     rw[vK d.os];refine⟨?_,rfl⟩;by_cases ho:d.os=[]
     .rw [Qaf (λq=>q ho),Qac$ .inr ho];rfl
     .rw [Qac ho,Qaf λq=>q.elim hi ho];rfl
   refine jP<|sx<|key.mono ?_
   rintro b S1 ⟨rfl,rfl⟩;simp only;by_cases h3:d.ins=[]\/d.os=[]
   .rw [Qac h3,Qap rfl,Qap h3];exact uS<|bV<|fH rfl<|gS ⟨by show 1<=sizeLine;omega,rfl,_,rfl⟩
   .rw [Qaf h3,Qaj (by decide),Qaj h3]
    refine pC ⟨_,rfl,?_⟩;exact Az<|qB<|Su<|bV<|jT rfl (by decide+kernel)<|bV<|jT rfl (by decide+kernel)<|bV<|jT rfl (by decide+kernel)<|gS ⟨by show 3<=sizeLine;omega,d,rfl,DD,rfl,rfl⟩
  .rintro c S1 ⟨h2,q⟩;rw[h2];exact⟨rfl,q⟩
end
end K03
end
section
set_option maxHeartbeats 4000000
namespace K03
open PySem PySem.Spec PyProof.Rows L2 L3 MT JT
def stir(cell k:Int):Int:=if 10 ^ 18<=cell then(cell - 10 ^ 18) / 2 ^ (28*k).toNat % 2 ^ 28
 else((cell+1013*k+1)*16807 % 2147483647)*((cell+1013*k+1)*16807 % 2147483647) % 2147483629*39373 % 2147483587 / 8
def K1(cell k:Int)(hk:0<=k):aU [.int cell, .int k]= .ok (.int$ stir cell k):=by
 have p1:∀δ,e2 F9 (eC$ .int 10) (eC$ .int 18) δ= .ok (.int$ 10 ^ 18):=λδ=>rfl
 have p2:∀δ,e2 F9 (eC$ .int 2) (eC$ .int 28) δ= .ok (.int$ 2 ^ 28):=λδ=>rfl
 have ge:∀a b:Int,P0 (.int a) (.int b)= .ok (.bl$ decide$ a>=b):=λa b=>rfl
 have mulc:∀(a b:Int),(-(2 ^ 64)<b/\b<2 ^ 64)->jK (.int a) (.int b)= .ok (.int$ a*b):=λa b h=>by
  exact bG _$ .inr h
 have mulc':∀(a b:Int),(-(2 ^ 64)<a/\a<2 ^ 64)->jK (.int a) (.int b)= .ok (.int$ a*b):=λa b h=>by
  exact bG _$ .inl h
 unfold aU vO stir;by_cases h:(10:Int) ^ 18<=cell
 .rw [Qap h];refine dU (NT.uO$ ug (cG rfl (p1 _)$ (ge _ _).trans$ by rw[Qac h])$ cV$ ax (ax (ax rfl (p1 _) rfl) (ax rfl rfl$ mulc' _ _ ⟨by omega,by omega⟩) ?_) (p2 _)$ qX$ by omega)
  exact bG _ (by omega)
 .rw [Qaj h];refine dU (aJ (uk (cG rfl (p1 _)$ (ge _ _).trans$ by rw[Qaf h]) rfl)$ aJ (bE (ax (ax (ax (ax rfl (ax rfl rfl$ mulc' _ _ ⟨by omega,by omega⟩) rfl) rfl rfl) rfl$ mulc _ _ ⟨by omega,by omega⟩) rfl$ qX$ by omega)$ by simp [b8,n9]) ?_)
  have b1:0<=(cell+1013*k+1)*16807 % 2147483647:=Int.emod_nonneg _ (by omega)
  have YX:(cell+1013*k+1)*16807 % 2147483647<2147483647:=QcE _ (by omega)
  generalize (cell+1013*k+1)*16807 % 2147483647=x at b1 YX;refine aJ (bE (ax (ax rfl rfl$ mulc _ _ ⟨by omega,by omega⟩) rfl$ qX$ by omega)$ by simp [b8,n9]) (cV ?_)
  exact ax (ax (ax rfl rfl$ mulc _ _ ⟨by omega,by omega⟩) rfl$ qX$ by omega) rfl (Ef (by omega)$ by omega)
def L5(cell k:Int):0<=stir cell k:=by
 unfold stir;split <;> omega
def stN(cell:Int)(k:Nat):Nat:=(stir cell k).toNat
def lJ(cell:Int)(k:Nat):aU [.int cell,nI k]= .ok (nI$ stN cell k):=by
 show aU [.int cell, .int k]=_;rw[K1 cell k$ by omega]
 unfold nI stN;rw[Qcx$ L5 _ _]
end K03
end
section
set_option maxHeartbeats 1000000
namespace K03
open PySem PySem.Spec PyProof.Rows L2 L3 MT JT
def sE(ns:List Int)(k:Nat):cI [.lst$ ns.map .int,nI k]= .ok (.int$ ns.getD k 0):=by
 by_cases h:k<ns.length
 .refine dU (NT.uO$ ug (cG (b:=nI ns.length) rfl (ay rfl$ by rw[SV,Qaa];rfl)$ by rw[EN,Qac h])$ cV$ ax rfl rfl$ NT.cm ?_)
  rw[Qad,Qaz,Qag h];rfl
 .refine dU (aJ (uk (cG (b:=nI ns.length) rfl (ay rfl$ by rw[SV,Qaa];rfl)$ by rw[EN,Qaf h]) rfl)$ cV ?_)
  rw[Qaz,QbV$ by omega]
  rfl
end K03
end
section
namespace K03
open PySem PySem.Spec PyProof.Rows L2 L3 MT JT TX
abbrev fL(head:Int)(k m:Nat)(ss:List Str)(a b c e:Sl):au:=[.val$ .int head, .val$ nI k, .val$ nI m, .val$ .str LJ, .val$ .lst$ mr.map .str, .bld$ ss.map .str,a,b,c,e]
section
variable {head:Int}{k m:Nat}{ss:List Str}
def JB{a b c e:Sl}:bU 9 (eNew$ dq (f7$ eC$ .int 80) (bh 0) pj (e2 bu (e2 bu (eC$ .str$ Str.ofString "zz")$ e2 du (ai 1)$ e2 dY (ai 0)$ eC$ .int 26)$ e2 du (ai 1)$ e2 cX (ai 0)$ eC$ .int 26) [(Str.ofString "n")] [3]) (fL head k m ss a b c e)= .ok (.nx$ fL head k m ss a b c$ .val$ .lst$ EZ.map .str):=by
 have hz:=Qav;refine bE (δ:=fL head k m ss a b c e) (bN$ d6 (uh (n:=80) rfl$ by omega) (by simp;omega) ?_) (by show 9<10;omega)
 rw[show EZ.map D.str=(List.range 80).map λn=>D.str ⟨#[122,122,97+n / 26,97+n % 26]⟩ from Qa5]
 refine NT.cT nI _ λn hn=>⟨[.val$ nI n, .val$ .str LJ],rfl,rfl,?_⟩
 have hn:=Qbm.mp hn;have l1:(Str.ofString "zz").length=2:=by decide+kernel
 refine(ax (ax rfl (ax rfl (ax (b:=nI 26) rfl rfl$ rM (by omega)$ by omega)$ uT$ by omega)$ cn$ by rw[l1];show 2+1<=_;omega) (ax rfl (ax (b:=nI 26) rfl rfl$ dZ$ by omega)$ uT$ by omega)$ cn$ by rw[Qax,l1];show 2+1+1<=_;omega).trans ?_
 rw[O7]
def KA{a b c:Sl}(h:ss.length<80):∃w,w∈EZ/\w ∉ ss/\bU 8 (pq$ e2 du (eNew$ dq (dR$ ai 9) (bh 0) (b2 mP (ai 0)$ ai 1) (ai 0) [(Str.ofString "one")] [5])$ eC$ .int 0) (fL head k m ss a b c$ .val$ .lst$ EZ.map .str)= .ok (.nx$ fL head k m ss a b (.val$ .str w)$ .val$ .lst$ EZ.map .str):=by
 have hz:=Qav;obtain⟨w,hw,hm,hn⟩:=Bj Qm (by unfold EZ;simp;exact h)
 refine⟨w,hm,hn,bE (δ:=fL head k m ss a b c$ .val$ .lst$ EZ.map .str) (sC (ax (bN$ d6 (ds:=EZ.map .str) ?_ (by unfold EZ;simp;omega) ?_) rfl (NT.cm$ by rw[Qad,hw];rfl)) rfl) (by show 8<10;omega)⟩
 .refine g8 ?_;cases a <;> cases b <;> cases c <;> rfl
 .rw [show uA [(Str.ofString "one")] [5] (qy$ fL head k m ss a b c$ .val$ .lst$ EZ.map .str)=[.un, .val$ .lst$ ss.map .str] by cases a <;> cases b <;> cases c <;> rfl]
  exact NT.q_ (λs=>!ss.contains s) D.str D.str λs hs=>⟨[.val$ .str s, .val$ .lst$ ss.map .str],rfl,cG rfl rfl$ CS _ _,λ_=>rfl⟩
def G1{a b e:Sl}(h:ss.length<80):uI 5 (ai 8) (fL head k m ss a b (.val$ .str w) e)= .ok (.nx$ fL head k m (ss++[w]) a b (.val$ .str w) e):=by
 have hz:=Qav;rw[nM rfl rfl$ by rw[Qaa,hz];omega]
 show R.ok (Out.nx (_ ::_ ::_ ::_ ::_ ::Sl.bld (ss.map D.str++[.str w]) ::_))=_;rw[show ss.map D.str++[.str w]=(ss++[w]).map .str by simp]
def FN{j:Nat}{b c e:Sl}(h:ss.length<80)(hs:∀s∈ss,isNm s=true):∃w b' c' e',isNm w=true/\w ∉ ss/\qF (fL head k m ss (.val$ nI j) b c e)= .ok (.nx$ fL head k m (ss++[w]) (.val$ nI j) b' c' e'):=by
 have hz:=Qav;obtain⟨r,hr⟩:∃r,stN head (k+j)=r:=⟨_,rfl⟩;have s1:bU 7 (aM aU$ ag (ai 0)$ ag (e2 bu (ai 1)$ ai 6) aI) (fL head k m ss (.val$ nI j) b c e)= .ok (.nx$ fL head k m ss (.val$ nI j) (.val$ nI r) c e):=
  bE (δ:=fL head k m ss (.val$ nI j) b c e) ((ay (aw rfl$ aw (ax rfl rfl$ mC _ _) rfl)$ lJ head$ k+j).trans$ by rw[hr]) (by show 7<10;omega)
 have g1:=DV (i:=r % 26) (by omega)
 have g2:=DV (i:=r / 26 % 26) (by omega)
 have g3:=Vq (r:=r / 700 % 7) (by omega)
 have gj:=Tw g1 g2 g3;have lx:(Str.ofString "x").length=1:=by decide+kernel
 have s2:∀c,bU 8 (xH "str" e_ (eC$ .str$ Str.ofString "")$ ag (eNew$ ck$ ag (e2 du (ai 3)$ e2 cX (ai 7)$ eC$ .int 26)$ ag (e2 du (ai 3)$ e2 cX (e2 dY (ai 7)$ eC$ .int 26)$ eC$ .int 26)$ ag (e2 jK (eC$ .str$ Str.ofString "x")$ e2 cX (e2 dY (ai 7)$ eC$ .int 700)$ eC$ .int 7) aI) aI) (fL head k m ss (.val$ nI j) (.val$ nI r) c e)= .ok (.nx$ fL head k m ss (.val$ nI j) (.val$ nI r) (.val$ .str$ Str.join (Str.ofString "") [pz$ r % 26,pz$ r / 26 % 26,Txt.mul (Str.ofString "x") (r / 700 % 7:Nat)]) e):=λc=>by
  refine bE (δ:=fL head k m ss (.val$ nI j) (.val$ nI r) c e) (jy rfl (aw (bN$ b_ (ds:=[pz$ r % 26,pz$ r / 26 % 26,Txt.mul (Str.ofString "x") (r / 700 % 7:Nat)].map .str) (aw ?_$ aw ?_$ aw ?_ rfl)$ by show 3<=sizeLine;omega) rfl) (uM ?_)) (by show 8<10;omega)
  .exact ax rfl (ax (b:=nI 26) rfl rfl$ dZ$ by omega) (uT$ by omega)
  .exact ax rfl (ax (b:=nI 26) (ax (b:=nI 26) rfl rfl$ rM (by omega)$ by omega) rfl$ dZ$ by omega) (uT$ by omega)
  .exact ax rfl (ax (b:=nI 7) (ax (b:=nI 700) rfl rfl$ rM (by omega)$ by omega) rfl$ dZ$ by omega) (L8 (by omega) (by omega)$ by rw[lx];omega)
  .have l1:=g1.len;have l2:=g2.len;have l3:=g3.len;have l4:(Str.ofString "").length=0:=by decide+kernel
   simp only[Qay,QbI,Qb7,List.sum_nil,QaI,List.length_nil,l4];omega
 generalize Str.join (Str.ofString "") [pz$ r % 26,pz$ r / 26 % 26,Txt.mul (Str.ofString "x") (r / 700 % 7:Nat)]=w0 at gj s2;have l0:=gj.len;have s3:bU 8 (wU (ai 8) (eB$ e2 cX (e2 dY (ai 7)$ eC$ .int 5000)$ eC$ .int 2) h_) (fL head k m ss (.val$ nI j) (.val$ nI r) (.val$ .str w0) e)= .ok (.nx$ fL head k m ss (.val$ nI j) (.val$ nI r) (.val$ .str$ Txt.slice w0 (some (r / 5000 % 2:Nat)) none) e):=
  bE (δ:=fL head k m ss (.val$ nI j) (.val$ nI r) _ e) (iS rfl (c9$ ax (b:=nI 2) (ax (b:=nI 5000) rfl rfl$ rM (by omega)$ by omega) rfl$ dZ$ by omega) rfl$ B8$ by omega) (by show 8<10;omega)
 have g4:Lw 8 (Txt.slice w0 (some (r / 5000 % 2:Nat)) none):=gj.slice _ _;generalize Txt.slice w0 (some (r / 5000 % 2:Nat)) none=w1 at g4 s3;have s4:∃w2,Lw 8 w2/\xB (v8 (b2 sS (e2 cX (e2 dY (ai 7)$ eC$ .int 10000)$ eC$ .int 4)$ eC$ .int 0)$ qL$ b2 Ma (ai 5)$ eNew$ ck aI) (bU 8$ wU (e2 bu (pq$ e2 du (ai 5)$ e2 cX (e2 dY (ai 7)$ eC$ .int 40000)$ aM kZ$ ag (ai 5) aI)$ ai 8) h_$ eB$ eC$ .int 8) qr (fL head k m ss (.val$ nI j) (.val$ nI r) (.val$ .str w1) e)= .ok (.nx$ fL head k m ss (.val$ nI j) (.val$ nI r) (.val$ .str w2) e):=by
  have t5:ai 5 (qy$ fL head k m ss (.val$ nI j) (.val$ nI r) (.val$ .str w1) e)= .ok (.lst$ ss.map .str):=by cases e <;> rfl
  have t7:ai 7 (qy$ fL head k m ss (.val$ nI j) (.val$ nI r) (.val$ .str w1) e)= .ok (nI r):=by cases e <;> rfl
  have q:v8 (b2 sS (e2 cX (e2 dY (ai 7)$ eC$ .int 10000)$ eC$ .int 4)$ eC$ .int 0) (qL$ b2 Ma (ai 5)$ eNew$ ck aI) (fL head k m ss (.val$ nI j) (.val$ nI r) (.val$ .str w1) e)= .ok (decide (r / 10000 % 4=0) && !ss.isEmpty):=
   uP (cG (ax (b:=nI 4) (ax (b:=nI 10000) rfl rfl$ rM (by omega)$ by omega) rfl$ dZ$ by omega) rfl$ uq _ _) λ_=>cG t5 (bN rfl)$ Lf λs QS=>S7$ Na$ hs s QS
  cases hb:(decide (r / 10000 % 4=0) && !ss.isEmpty) with
  | false=>rw [hb] at q;exact⟨w1,g4,uk q rfl⟩
  | true=>
    rw[hb] at q;have rE:0<ss.length:=by
     cases ss with
     | nil=>simp at hb
     | cons=>simp
    have hi:r / 40000 % ss.length<ss.length:=QbG _ rE;obtain⟨z,Ke⟩:∃z,ss[r / 40000 % ss.length]? =some z:=⟨_,Qag hi⟩;have gz:=Na$ hs z$ Qan Ke;have lz:=gz.len;have l1:=g4.len;refine⟨Txt.slice (z++w1) none$ some 8,⟨Nw _,((gz.app g4).slice none$ some 8).low⟩,ug q$ bE (δ:=fL head k m ss (.val$ nI j) (.val$ nI r) (.val$ .str w1) e) (iS (ax (sC (ax t5 (ax (ax (b:=nI 40000) t7 rfl$ rM (by omega)$ by omega) (ay (aw t5 rfl)$ by rw[fZ,Qaa])$ dZ rE)$ NT.cm$ by rw[Qad,Ke];rfl) rfl) rfl$ cn$ by omega) rfl (c9 rfl)$ B8$ by rw[Qax];omega)$ by show 8<10;omega⟩
 obtain⟨w2,g5,s4⟩:=s4;have q2:CW (b2 sS (ai 8)$ eC$ .str$ Str.ofString "") (CW (qL$ b2 Ce (ai 8)$ ai 5)$ b2 Ce (ai 8)$ ai 4) (fL head k m ss (.val$ nI j) (.val$ nI r) (.val$ .str w2) e)= .ok ((w2==Str.ofString "") || (ss.contains w2 || mr.contains w2)):=
  n_ (cG rfl rfl$ vQ _ _) λ_=>n_ (cG (by cases e <;> rfl) (by cases e <;> rfl) (BJ _ _)) λ_=>cG rfl rfl$ BJ _ _
 cases hb:((w2==Str.ofString "") || (ss.contains w2 || mr.contains w2)) with
 | true=>
   rw[hb] at q2;obtain⟨w,w1m,w2m,sp⟩:=KA h;exact⟨w,_,_,_,Pf w w1m,w2m,aJ s1$ aJ (s2 c)$ aJ s3$ aJ s4$ aJ (ug q2$ aJ JB sp)$ G1 h⟩
 | false=>
   rw[hb] at q2;obtain⟨b1,YX⟩:=Qbn.mp hb;obtain⟨b3,b4⟩:=Qbn.mp YX;refine⟨w2,_,_,_,g5.nm (λq=>?_) (λq=>?_),λq=>?_,aJ s1$ aJ (s2 c)$ aJ s3$ aJ s4$ aJ (uk q2 rfl)$ G1 h⟩
   .rw [q] at b1;exact absurd b1 (by decide+kernel)
   .rw [QaH.mpr q] at b4;cases b4
   .rw [QaH.mpr q] at b3;cases b3
end
def vw(head:Int)(k m:Nat)(hm:m<=80):∃ss:List Str,eG [.int head,nI k,nI m]= .ok (.lst$ ss.map .str)/\ss.length=m/\ss.Nodup/\∀s∈ss,isNm s=true:=by
 have hz:=Qav;obtain⟨dh,h1,ss,a,b,c,e,hδ,hlen,hnd,hg⟩:=iW (t:=bh 6) (ds:=(List.range m).map nI) (λi δ=>∃ss a b c e,δ=fL head k m ss a b c e/\ss.length=i/\ss.Nodup/\∀s∈ss,isNm s=true)
  (δ:=fL head k m [] .un .un .un .un) ⟨[],_,_,_,_,rfl,rfl,Qcy,by simp⟩ (by
    rintro i d δ hd ⟨ss,a,b,c,e,rfl,hl,hnd,hg⟩;obtain⟨j,hj,rfl⟩:=NT.oq hd;obtain⟨hjl,ej⟩:=Qah.mp hj;rw[Qbb] at hjl;obtain⟨w,b',c',e',hw1,XO,hs⟩:=FN (by omega) hg
    refine⟨fL head k m (ss++[w]) (.val$ nI j) b' c' e',?_,ss++[w],_,_,_,_,rfl,by simp [hl],?_,λs QS=>?_⟩
    .rw [show bh 6 (nI j) (fL head k m ss a b c e)= .ok (fL head k m ss (.val$ nI j) b c e) from rfl,R.aK]
     exact hs
    .exact QbE.mpr ⟨hnd,by simp,λx hx y hy q=>XO$ by rw[QaC.mp hy] at q;rw [<-q];exact hx⟩
    .rcases Qaq.mp QS with z | z
     .exact hg s z
     .rw [QaC.mp z];exact hw1)
 rw[Qaa,Qbb] at hlen;refine⟨ss,?_,hlen,hnd,hg⟩;refine dU (aJ (bE rfl$ by simp [b8,jD]) (aJ (bE (bN$ b_ rfl$ by show 9<=sizeLine;omega) (by simp [b8,jD])) (aJ (nL (b_ rfl$ by show 0<=sizeLine;omega) (by simp [b8,jD])) (aJ (nX (uh rfl$ by omega) h1) ?_))))
 subst hδ;exact cV rfl
def Bh(cell:Int)(k m count:Nat)(hc:0<count)(hm:m<=1000):∃l:List Nat,gO [.int cell,nI k,nI m,nI count]= .ok (.tup$ l.map nI)/\l.length=m/\∀w∈l,w<count:=by
 have hz:=Qav;obtain⟨dh,h1,l,a,b,hδ,hlen,hg⟩:=iW (t:=bh 5) (body:=qK) (ds:=(List.range m).map nI) (λi δ=>∃(l:List Nat) (a b:Sl),δ=[.val$ .int cell, .val$ nI k, .val$ nI m, .val$ nI count, .bld$ l.map nI,a,b]/\l.length=i/\∀w∈l,w<count)
  (δ:=[.val$ .int cell, .val$ nI k, .val$ nI m, .val$ nI count, .bld [], .un, .un]) ⟨[],_,_,rfl,rfl,by simp⟩ (by
    rintro i d δ hd ⟨l,a,b,rfl,hl,hg⟩;obtain⟨j,hj,rfl⟩:=NT.oq hd;obtain⟨hjl,ej⟩:=Qah.mp hj;rw[Qbb] at hjl;obtain⟨r,hr⟩:∃r,stN cell (k+j)=r:=⟨_,rfl⟩;have hmn:0<min count 6:=by omega
    obtain⟨w,hw,hlt⟩:∃w,w=(if 0<r % 4 then count - 1 - r / 4 % min count 6 else r / 4 % count)/\w<count:=⟨_,rfl,by
     have:=QbG (r / 4) hc;split <;> omega⟩
    refine⟨[.val$ .int cell, .val$ nI k, .val$ nI m, .val$ nI count, .bld$ (l++[w]).map nI, .val$ nI j, .val$ nI r],?_,l++[w],_,_,rfl,by simp [hl],λy hy=>?_⟩
    .rw [show bh 5 (nI j) [.val$ .int cell, .val$ nI k, .val$ nI m, .val$ nI count, .bld$ l.map nI,a,b]= .ok [.val$ .int cell, .val$ nI k, .val$ nI m, .val$ nI count, .bld$ l.map nI, .val$ nI j,b] from rfl,R.aK]
     refine aJ (bE ((ay (aw rfl$ aw (ax rfl rfl$ mC _ _) rfl)$ lJ cell$ k+j).trans$ by rw[hr])$ by simp) ?_
     have e4:∀δ:au,ai 6 δ= .ok (nI r)->e2 dY (ai 6) (eC$ .int 4) δ= .ok (nI$ r / 4):=λδ h=>ax (b:=nI 4) h rfl (rM (by omega)$ by omega)
     have Uh:=QbG (r / 4) hmn;refine(nM (d:=nI w) (ax (b:= .int$ if 0<r % 4 then 1 else 0) (bN$ b_ (aw (ax (e4 _ rfl) rfl$ dZ hc)$ aw (ax (ax (b:=nI 1) rfl rfl$ Dz$ by omega) (ax (e4 _ rfl) (ay rfl Ss)$ dZ hmn)$ Dz$ by omega) rfl)$ by show 2<=sizeLine;omega) (ay (aw (ax (ax (b:=nI 4) rfl rfl$ dZ$ by omega) rfl$ Kk _ _) rfl) (by by_cases q:0<r % 4 <;> simp [q] <;> rfl)) ?_) rfl (by rw[Qaa];omega)).trans ?_
     .by_cases q:0<r % 4
      .rw [Qap q] at hw ⊢;rw[hw];exact NT.cm rfl
      .rw [Qaj q] at hw ⊢;rw[hw];exact NT.cm rfl
     .rw [show l.map nI++[nI w]=(l++[w]).map nI by simp];rfl
    .rcases Qaq.mp hy with z | z
     .exact hg y z
     .rw [QaC.mp z];exact hlt)
 rw[Qaa,Qbb] at hlen;refine⟨l,?_,hlen,hg⟩;refine dU (aJ (nL (b_ rfl$ by show 0<=sizeLine;omega) (by simp [b8,pP])) (aJ (nX (uh rfl$ by omega) h1) ?_))
 subst hδ;exact cV$ ay rfl rfl
def Q9(r:Nat):Nat:=[1,2,3,4,0,1,3,4].getD (r % 8) 0
def KJ(cell:Int)(count:Nat)(hc:0<count):∃g:Gt,nQ [.int cell,nI count]= .ok (qw g)/\KN count g:=by
 have hz:=Qav;obtain⟨r,hr⟩:∃r,stN cell 0=r:=⟨_,rfl⟩;have hk:Q9 r<=4:=by
  have:r % 8<8:=QbG _ (by omega)
  unfold Q9;generalize r % 8=m at this
  match m,this with
  | 0,_=>decide
  | 1,_=>decide
  | 2,_=>decide
  | 3,_=>decide
  | 4,_=>decide
  | 5,_=>decide
  | 6,_=>decide
  | 7,_=>decide
 have ha:=Bo$ Q9 r;obtain⟨l,hl,hll,hlw⟩:=Bh cell 1 (ar$ Q9 r) count hc (by omega)
 refine⟨(Q9 r,l,decide$ r / 8 % 4=0),?_,hk,hll,hlw⟩;refine dU (aJ (bE ((ay rfl$ lJ cell 0).trans$ by rw[hr])$ by simp [b8,lO]) (aJ (bE ?_$ by simp [b8,lO]) (aJ (bE (T6 hk rfl)$ by simp [b8,lO]) (cV$ rO (aw rfl$ aw (ay rfl hl)$ aw (ax (ax (b:=nI 4) (ax (b:=nI 8) rfl rfl$ rM (by omega)$ by omega) rfl$ dZ$ by omega) rfl$ uq _ _) rfl)$ by show 3<=sizeLine;omega))))
 refine ax rfl (ax (b:=nI 8) rfl rfl$ dZ$ by omega)$ NT.cm ?_
 have:r % 8<8:=QbG _ (by omega)
 unfold Q9;generalize r % 8=m at this
 match m,this with
 | 0,_=>rfl
 | 1,_=>rfl
 | 2,_=>rfl
 | 3,_=>rfl
 | 4,_=>rfl
 | 5,_=>rfl
 | 6,_=>rfl
 | 7,_=>rfl
def LC{ins:Aac}(h1:1<=ins.length)(h:∀x∈ins,1<=x.2/\x.2<=3):1<=pE ins/\pE ins<=3*ins.length:=by
 have:=NT.BX h;unfold pE;omega
theorem MY:∀ns:List Nat,(ns.map λ(n:Nat)=>(n:Int)).sum=((ns.sum:Nat):Int)
 | []=>rfl
 | n ::ns=>by rw[Qay,Qb7,Qb7,MY ns];omega
def Pw(ns:List Nat):A7 [.lst$ ns.map nI]= .ok (nI ns.sum):=by
 rw[show ns.map nI=(ns.map λ(n:Nat)=>(n:Int)).map D.int by rw[Qa5];rfl]
 show(match ints? ((ns.map λ(n:Nat)=>(n:Int)).map D.int) with | some ns=>R.ok (D.int ns.sum) | none=> .no)=_
 rw[L2.ints_map];show R.ok (D.int (ns.map λ(n:Nat)=>(n:Int)).sum)=_
 rw[MY];rfl
def K2{ins:Aac}(h:ins.length<=1000){δ:au}{i:Nat}(hv:ai i δ= .ok (.lst$ ins.map MT.inD)):aM A7 (ag (eNew$ dq (dR$ ai i) (sI 2$ fq (bh 0)$ fq (bh 1) sH) pj (ai 1) [(Str.ofString "name"),(Str.ofString "width")] []) aI) δ= .ok (nI$ pE ins):=by
 have hz:=Qav;refine ay (ds:=[.lst$ (ins.map (·.2)).map nI]) (aw (bN$ d6 (g8 hv) (by rw[Qaa];omega) ?_) rfl) ?_
 .rw [Qa5];exact NT.cT MT.inD _ λx hx=>⟨[.val$ .str x.1, .val$ nI x.2],rfl,rfl,rfl⟩
 .exact Pw _
def CD(ns:List Int):JS (.lst$ ns.map .int) (some 1) (some 61)= .ok (.lst$ ((ns.drop 1).take 60).map .int):=by
 show R.ok (D.lst$ L2.cutD (ns.map .int) (some ((1:Nat):Int))$ some ((61:Nat):Int))=_;unfold L2.cutD;rw[Qaa,HT.qb,HT.qb,Qb8,QbO];congr 2;by_cases hn:61<=ns.length
 .rw [QbR (by omega:1<=ns.length),QbR hn]
 .have e1:min 61 ns.length=ns.length:=by omega
  by_cases h1:1<=ns.length
  .rw [QbR h1,QaP (by rw[Qbd,Qaa];omega),QaP$ by rw[Qbd,Qaa];omega]
  .have:ns=[]:=List.length_eq_zero_iff.mp (by omega)
   subst this;rfl
def NI(ns:List Int):∃ins gs os,qf [.lst$ ns.map .int]= .ok (qt ins gs os)/\TN ins gs os/\gs.length=((ns.drop 1).take 60).length:=by
 have hz:=Qav;obtain⟨hd,hhd⟩:∃hd,ns.getD 0 0=hd:=⟨_,rfl⟩;obtain⟨nm,hnm,nml,nmd,nmo⟩:=vw hd 300 6 (by omega)
 obtain⟨YR,XT,Yk,Xp,Yo⟩:=vw hd 330 6 (by omega)
 obtain⟨q1,hq1⟩:∃q,1+stN hd 320 % 6=q:=⟨_,rfl⟩;obtain⟨q2,hq2⟩:∃q,1+stN hd 341 % 6=q:=⟨_,rfl⟩
 let D0:Sl:= .val$ .lst$ ns.map .int
 obtain⟨δ1,h1,ins,a4,X5,il,iw,inm⟩:=iW (t:=bh 4) (body:=ud) (ds:=(List.range q1).map nI) (λi δ=>∃(ins:Aac) (a:Sl),δ=[D0, .val$ .int hd, .val$ .lst$ nm.map .str, .bld$ ins.map MT.inD,a, .un, .un, .un, .un, .un, .un]/\ins.length=i/\(∀x∈ins,1<=x.2/\x.2<=3)/\ins.map (·.1)=nm.take i)
  (δ:=[D0, .val$ .int hd, .val$ .lst$ nm.map .str, .bld [], .un, .un, .un, .un, .un, .un, .un]) ⟨[],_,rfl,rfl,by simp,rfl⟩ (by
    rintro i d δ Mz ⟨ins,a,rfl,hl,hw,hn⟩;obtain⟨j,hj,rfl⟩:=NT.oq Mz;obtain⟨hjl,ej⟩:=Qah.mp hj;rw[QcA] at ej;subst ej;rw[Qbb] at hjl;obtain⟨z,Ke⟩:∃z,nm[i]? =some z:=⟨_,Qag$ by omega⟩
    refine⟨[D0, .val$ .int hd, .val$ .lst$ nm.map .str, .bld$ (ins++[(z,1+stN hd (321+i) % 3)]).map MT.inD, .val$ nI i, .un, .un, .un, .un, .un, .un],?_,ins++[(z,1+stN hd (321+i) % 3)],_,rfl,by simp [hl],λx hx=>?_,?_⟩
    .rw [show bh 4 (nI i) [D0, .val$ .int hd, .val$ .lst$ nm.map .str, .bld$ ins.map MT.inD,a, .un, .un, .un, .un, .un, .un]= .ok [D0, .val$ .int hd, .val$ .lst$ nm.map .str, .bld$ ins.map MT.inD, .val$ nI i, .un, .un, .un, .un, .un, .un] from rfl,R.aK]
     refine(nM (d:=MT.inD (z,1+stN hd (321+i) % 3)) (rO (aw (ax rfl rfl$ NT.cm$ by rw[Qad,Ke];rfl)$ aw (ax rfl (ax (ay (aw rfl$ aw (ax rfl rfl$ mC _ _) rfl)$ lJ hd$ 321+i) rfl$ dZ$ by omega)$ mC _ _) rfl)$ by show 2<=sizeLine;omega) rfl (by rw[Qaa];omega)).trans ?_
     rw[show ins.map MT.inD++[MT.inD (z,1+stN hd (321+i) % 3)]=(ins++[(z,1+stN hd (321+i) % 3)]).map MT.inD by simp];rfl
    .rcases Qaq.mp hx with y | y
     .exact hw x y
     .rw [QaC.mp y];exact⟨by show 1<=1+_;omega,by show 1+stN hd (321+i) % 3<=3;omega⟩
    .rw [QaN,hn,Qa1,Ke];rfl)
 rw[Qaa,Qbb] at il inm;have i1:1<=ins.length:=by omega
 have i6:ins.length<=6:=by omega
 obtain⟨w1,w2⟩:=LC i1 iw;have isl:∀x∈ins,x.1∈nm:=λx hx=>Qbo (by rw[<-inm];exact Qca hx)
 obtain⟨cs,hcs⟩:∃cs,(ns.drop 1).take 60=cs:=⟨_,rfl⟩;have Rt:cs.length<=60:=by rw[<-hcs,QaO];omega
 obtain⟨j7,h2,gs,a7,YQ,gl,gok⟩:=iW (t:=bh 7) (body:=uf) (ds:=cs.map .int) (λi δ=>∃(gs:List Gt) (a:Sl),δ=[D0, .val$ .int hd, .val$ .lst$ nm.map .str, .val$ .lst$ ins.map MT.inD,a4, .val$ nI$ pE ins, .bld$ gs.map qw,a, .un, .un, .un]/\gs.length=i/\∀(i:Nat) (x:Gt),gs[i]? =some x->KN (pE ins+i) x)
  (δ:=[D0, .val$ .int hd, .val$ .lst$ nm.map .str, .val$ .lst$ ins.map MT.inD,a4, .val$ nI$ pE ins, .bld [], .un, .un, .un, .un]) ⟨[],_,rfl,rfl,by simp⟩ (by
    rintro i d δ Mz ⟨gs,a,rfl,hl,hg⟩;obtain⟨c,hc,rfl⟩:=NT.oq Mz;have hil:=(Qah.mp hc).1;obtain⟨g,hg1,hg2⟩:=KJ c (pE ins+gs.length) (by omega)
    refine⟨[D0, .val$ .int hd, .val$ .lst$ nm.map .str, .val$ .lst$ ins.map MT.inD,a4, .val$ nI$ pE ins, .bld$ (gs++[g]).map qw, .val$ .int c, .un, .un, .un],?_,gs++[g],_,rfl,by simp [hl],λj x hx=>?_⟩
    .rw [show bh 7 (.int c) [D0, .val$ .int hd, .val$ .lst$ nm.map .str, .val$ .lst$ ins.map MT.inD,a4, .val$ nI$ pE ins, .bld$ gs.map qw,a, .un, .un, .un]= .ok [D0, .val$ .int hd, .val$ .lst$ nm.map .str, .val$ .lst$ ins.map MT.inD,a4, .val$ nI$ pE ins, .bld$ gs.map qw, .val$ .int c, .un, .un, .un] from rfl,R.aK]
     refine(nM (ay (aw rfl$ aw (ax rfl (sC (ay (aw (by cases a4 <;> rfl) rfl) (by rw[fZ,Qaa])) rfl) (mC _ _)) rfl) hg1) rfl (by rw[Qaa];omega)).trans ?_
     rw[show gs.map qw++[qw g]=(gs++[g]).map qw by simp];rfl
    .by_cases hj:j<gs.length
     .rw [Qat hj] at hx;exact hg j x hx
     .rw [Qal$ by omega] at hx
      have h0:j - gs.length=0:=by have:=(Qah.mp hx).1;simp at this;omega
      rw[h0] at hx;cases hx;rw[show j=gs.length by omega]
      exact hg2)
 rw[Qaa] at gl;obtain⟨on,hon,onl,ond,ono⟩:∃on:List Str,(on=if stN hd 340 % 2=0 then nm else YR)/\on.length=6/\on.Nodup/\∀s∈on,isNm s=true:=by
  refine⟨_,rfl,?_⟩;split
  .exact⟨nml,nmd,nmo⟩
  .exact⟨Yk,Xp,Yo⟩
 obtain⟨U3,h3,os,b4,b10,Yr,ol,ow,onm⟩:=iW (t:=bh 4) (body:=t6) (ds:=(List.range q2).map nI) (λi δ=>∃(os:Aad) (a b:Sl),δ=[D0, .val$ .int hd, .val$ .lst$ nm.map .str, .val$ .lst$ ins.map MT.inD,a, .val$ nI$ pE ins, .val$ .lst$ gs.map qw,a7, .bld$ os.map xj, .val$ .lst$ on.map .str,b]/\os.length=i/\(∀x∈os,1<=x.2.length/\x.2.length<=3/\∀w∈x.2,w<pE ins+gs.length)/\os.map (·.1)=on.reverse.take i)
  (δ:=[D0, .val$ .int hd, .val$ .lst$ nm.map .str, .val$ .lst$ ins.map MT.inD,a4, .val$ nI$ pE ins, .val$ .lst$ gs.map qw,a7, .bld [], .val$ .lst$ on.map .str, .un]) ⟨[],_,_,rfl,rfl,by simp,rfl⟩ (by
    rintro i d δ Mz ⟨os,a,b,rfl,hl,hw,hn⟩;obtain⟨j,hj,rfl⟩:=NT.oq Mz;obtain⟨hjl,ej⟩:=Qah.mp hj;rw[QcA] at ej;subst ej;rw[Qbb] at hjl;obtain⟨z,Ke⟩:∃z,on[5 - i]? =some z:=⟨_,Qag$ by omega⟩
    obtain⟨r,hr⟩:∃r,stN hd (342+i)=r:=⟨_,rfl⟩;obtain⟨l,Uq,Ry,Uw⟩:=Bh hd (350+3*i) (1+r % 3) (pE ins+gs.length) (by omega) (by omega)
    refine⟨[D0, .val$ .int hd, .val$ .lst$ nm.map .str, .val$ .lst$ ins.map MT.inD, .val$ nI i, .val$ nI$ pE ins, .val$ .lst$ gs.map qw,a7, .bld$ (os++[(z,l)]).map xj, .val$ .lst$ on.map .str, .val$ nI r],?_,os++[(z,l)],_,_,rfl,by simp [hl],λx hx=>?_,?_⟩
    .rw [show bh 4 (nI i) [D0, .val$ .int hd, .val$ .lst$ nm.map .str, .val$ .lst$ ins.map MT.inD,a, .val$ nI$ pE ins, .val$ .lst$ gs.map qw,a7, .bld$ os.map xj, .val$ .lst$ on.map .str,b]= .ok [D0, .val$ .int hd, .val$ .lst$ nm.map .str, .val$ .lst$ ins.map MT.inD, .val$ nI i, .val$ nI$ pE ins, .val$ .lst$ gs.map qw,a7, .bld$ os.map xj, .val$ .lst$ on.map .str,b] from rfl,R.aK]
     refine aJ (bE ((ay (aw rfl$ aw (ax rfl rfl$ mC _ _) rfl)$ lJ hd$ 342+i).trans$ by rw[hr])$ by simp) ?_
     refine(nM (d:=xj (z,l)) (rO (aw (ax rfl (ax (a:=nI 5) rfl rfl$ Dz$ by omega)$ NT.cm$ by rw[Qad,Ke];rfl)$ aw (ay (aw rfl$ aw (ax rfl (ax rfl rfl$ TL$ .inr$ by omega)$ mC _ _)$ aw (ax rfl (ax rfl rfl$ dZ$ by omega)$ mC _ _)$ aw (ax rfl (ay rfl$ by rw[fZ,Qaa])$ mC _ _) rfl) Uq) rfl)$ by show 2<=sizeLine;omega) rfl (by rw[Qaa];omega)).trans ?_
     rw[show os.map xj++[xj (z,l)]=(os++[(z,l)]).map xj by simp];rfl
    .rcases Qaq.mp hx with y | y
     .exact hw x y
     .rw [QaC.mp y];exact⟨by show 1<=l.length;omega,by show l.length<=3;omega,Uw⟩
    .rw [QaN,hn,Qa1,List.getElem?_reverse (by omega),show on.length - 1 - i=5 - i by omega,Ke];rfl)
 rw[Qaa,Qbb] at ol onm;refine⟨ins,gs,os,?_,⟨i1,i6,iw,by rw[inm];exact(QcJ _ _).nodup nmd,λx hx=>nmo _$ isl x hx,by omega,gok,by omega,by omega,by rw[onm];exact(QcJ _ _).nodup (by rw[QbD,List.pairwise_reverse];exact(QbD.mp ond).imp λh=>h.symm),λx hx=>?_,ow⟩,by rw[gl,hcs]⟩
 .unfold qf ya;refine dU (aJ (bE ((ay rfl$ sE ns 0).trans$ by rw[hhd])$ by simp [b8,nE]) ?_)
  refine aJ (bE (ay rfl hnm)$ by simp [b8,nE]) ?_
  refine aJ (nL (b_ rfl$ by show 0<=sizeLine;omega) (by simp [b8,nE])) ?_
  refine aJ (nX (uh ((ax rfl (ax (b:=nI 6) (ay rfl$ lJ hd 320) rfl$ dZ$ by omega)$ mC _ _).trans$ by rw[hq1])$ by omega) h1) ?_
  subst X5;refine aJ (bE (K2 (by omega) rfl)$ by simp [mq]) ?_
  refine aJ (nL (b_ rfl$ by show 0<=sizeLine;omega) (by simp [mq])) ?_
  refine aJ (nX (g8$ iS rfl (c9 rfl) (c9 rfl)$ (CD ns).trans$ by rw[hcs]) h2) ?_
  subst YQ;refine aJ (nL (b_ rfl$ by show 0<=sizeLine;omega) (by simp [mq])) ?_
  refine aJ (bE (ay rfl XT)$ by simp [mq]) ?_
  refine aJ (δ1:=[D0, .val$ .int hd, .val$ .lst$ nm.map .str, .val$ .lst$ ins.map MT.inD,a4, .val$ nI$ pE ins, .val$ .lst$ gs.map qw,a7, .bld [], .val$ .lst$ on.map .str, .un]) ?_ ?_
  .have q:b2 sS (e2 cX (aM aU$ ag (ai 1)$ ag (eC$ .int 340) aI)$ eC$ .int 2) (eC$ .int 0) [D0, .val$ .int hd, .val$ .lst$ nm.map .str, .val$ .lst$ ins.map MT.inD,a4, .val$ nI$ pE ins, .val$ .lst$ gs.map qw,a7, .bld [], .val$ .lst$ YR.map .str, .un]= .ok (decide$ stN hd 340 % 2=0):=cG (ax (b:=nI 2) (ay (ds:=[.int hd,nI 340]) rfl$ lJ hd 340) rfl$ dZ$ by omega) rfl (uq _ _)
   by_cases hb:stN hd 340 % 2=0
   .rw [Qac hb] at q;rw[Qap hb] at hon;rw[hon];exact ug q (bE (δ:=[D0, .val$ .int hd, .val$ .lst$ nm.map .str, .val$ .lst$ ins.map MT.inD,a4, .val$ nI$ pE ins, .val$ .lst$ gs.map qw,a7, .bld [], .val$ .lst$ YR.map .str, .un]) (d:= .lst$ nm.map .str) rfl$ by show 9<11;omega)
   .rw [Qaf hb] at q;rw[Qaj hb] at hon;rw[hon];exact uk q rfl
  .refine aJ (nX (ds:=(List.range q2).map nI) (uh (n:=q2) ((ax (a:=nI 1) (b:=nI$ stN hd 341 % 6) rfl (ax (a:=nI$ stN hd 341) (b:=nI 6) (ay (ds:=[.int hd,nI 341]) rfl$ lJ hd 341) rfl$ dZ$ by omega)$ mC _ _).trans$ by rw[hq2])$ by omega) h3) ?_
   subst Yr;exact cV (rO (ds:=[.lst$ ins.map MT.inD, .lst$ gs.map qw, .lst$ os.map xj]) rfl$ by show 3<=sizeLine;omega)
 .have:x.1∈on.reverse.take q2:=by rw[<-onm];exact Qca hx
  exact ono _$ List.mem_reverse.mp$ Qbo this
section
variable {ins:Aac}{gs:List Gt}{os:Aad}{gn:List Str}
def xm(hi:ins.length<=6)(hg:gs.length<=60)(head:Int):∃gn,iV [qt ins gs os, .int head]= .ok (.lst$ gn.map .str)/\GN ins gs.length gn:=by
 have hz:=Qav;obtain⟨ws,yl,wl,wnd,wnm⟩:=vw head 400 gs.length (by omega)
 obtain⟨δ1,h1,gn,a5,a6,hδ,gl,gnd,gnm,gdis⟩:=iW (t:=bh 5) (body:=lQ) (ds:=ws.map .str) (λi δ=>∃(gn:List Str) (a b:Sl),δ=[.val$ qt ins gs os, .val$ .int head, .bld$ (ins.map (·.1)++gn).map .str, .val$ .lst$ ws.map .str, .bld$ gn.map .str,a,b]/\gn.length=i/\gn.Nodup/\(∀s∈gn,isNm s=true)/\∀s∈gn,s ∉ ins.map (·.1))
  (δ:=[.val$ qt ins gs os, .val$ .int head, .bld$ (ins.map (·.1)).map .str, .val$ .lst$ ws.map .str, .bld [], .un, .un]) ⟨[], .un, .un,by simp,rfl,Qcy,by simp,by simp⟩ (by
    rintro i d δ hd ⟨gn,a,b,rfl,hl,hnd,hnm,hdis⟩;obtain⟨w,hw,rfl⟩:=NT.oq hd;have hil:=(Qah.mp hw).1;obtain⟨tk,Rv⟩:∃tk,ins.map (·.1)++gn=tk:=⟨_,rfl⟩
    have htl:tk.length<=66:=by rw[<-Rv,Qar,Qaa];omega
    have key:∃x b',isNm x=true/\x ∉ tk/\xB (qL$ b2 Ce (ai 5)$ ai 2) (bD (bU 6$ eNew$ dq (f7$ eC$ .int 144) (bh 0) pj (e2 bu (e2 bu (eC$ .str$ Str.ofString "y")$ e2 du (eC$ .str$ Str.ofString "abcdefghijkl")$ e2 dY (ai 0)$ eC$ .int 12)$ e2 du (eC$ .str$ Str.ofString "mnopqrstuvwx")$ e2 cX (ai 0)$ eC$ .int 12) [(Str.ofString "n")] [])$ bU 5$ pq$ e2 du (eNew$ dq (dR$ ai 6) (bh 0) (v8 (b2 mP (ai 0)$ ai 1)$ b2 mP (ai 0)$ ai 2) (ai 0) [(Str.ofString "one")] [2,3])$ eC$ .int 0) qr [.val$ qt ins gs os, .val$ .int head, .bld$ tk.map .str, .val$ .lst$ ws.map .str, .bld$ gn.map .str, .val$ .str w,b]= .ok (.nx [.val$ qt ins gs os, .val$ .int head, .bld$ tk.map .str, .val$ .lst$ ws.map .str, .bld$ gn.map .str, .val$ .str x,b']):=by
     have q:qL (b2 Ce (ai 5)$ ai 2) [.val$ qt ins gs os, .val$ .int head, .bld$ tk.map .str, .val$ .lst$ ws.map .str, .bld$ gn.map .str, .val$ .str w,b]= .ok (tk.contains w):=cG (by cases b <;> rfl) (by cases b <;> rfl) (BJ _ _)
     cases hb:tk.contains w with
     | false=>
       rw[hb] at q;exact⟨w,b,wnm w$ Qan hw,(λz=>by rw[QaH.mpr z] at hb;cases hb),uk q rfl⟩
     | true=>
       rw[hb] at q;obtain⟨x,hx,hxm,hxn⟩:=Bj NM (ss:=tk++ws) (by rw[Qar];unfold MD;simp;omega)
       refine⟨x, .val$ .lst$ MD.map .str,Qc x hxm,λz=>hxn$ Qa7 _ z,ug q$ aJ (bE (bN$ d6 (uh (n:=144) rfl$ by omega) (by simp;omega) ?_)$ by simp)$ bE (δ:=[.val$ qt ins gs os, .val$ .int head, .bld$ tk.map .str, .val$ .lst$ ws.map .str, .bld$ gn.map .str, .val$ .str w, .val$ .lst$ MD.map .str]) (sC (ax (bN$ d6 (g8 rfl) (by unfold MD;simp;omega) ?_) rfl (NT.cm$ by rw[Qad,hx];rfl)) rfl) (by simp)⟩
       .rw [show MD.map D.str=(List.range 144).map λn=>D.str ⟨#[121,97+n / 12,109+n % 12]⟩ from Qa5]
        refine NT.cT nI _ λn hn=>⟨[.val$ nI n],rfl,rfl,?_⟩
        have hn:=Qbm.mp hn;have l1:(Str.ofString "y").length=1:=by decide+kernel
        refine(ax (ax rfl (ax rfl (ax (b:=nI 12) rfl rfl$ rM (by omega)$ by omega)$ Nu$ by omega)$ cn$ by rw[l1];show 1+1<=_;omega) (ax rfl (ax (b:=nI 12) rfl rfl$ dZ$ by omega)$ Qn$ by omega)$ cn$ by rw[Qax,l1];show 1+1+1<=_;omega).trans ?_
        rw[Qo]
       .refine NT.q_ (λs=>!(tk++ws).contains s) D.str D.str λs hs=>⟨[.val$ .str s, .val$ .lst$ tk.map .str, .val$ .lst$ ws.map .str],rfl,?_,λ_=>rfl⟩
        have:(!(tk++ws).contains s)=(!tk.contains s && !ws.contains s):=by
         rw[Qbp];cases h1:tk.contains s <;> cases h2:ws.contains s <;> simp_all [QaH]
        rw[this];exact uP (cG rfl rfl$ CS _ _) λ_=>cG rfl rfl$ CS _ _
    obtain⟨x,b',Uv,hx2,hs⟩:=key;refine⟨[.val$ qt ins gs os, .val$ .int head, .bld$ (ins.map (·.1)++(gn++[x])).map .str, .val$ .lst$ ws.map .str, .bld$ (gn++[x]).map .str, .val$ .str x,b'],?_,gn++[x],_,_,rfl,by simp [hl],?_,λs QS=>?_,λs QS=>?_⟩
    .rw [Rv,show bh 5 (.str w) [.val$ qt ins gs os, .val$ .int head, .bld$ tk.map .str, .val$ .lst$ ws.map .str, .bld$ gn.map .str,a,b]= .ok [.val$ qt ins gs os, .val$ .int head, .bld$ tk.map .str, .val$ .lst$ ws.map .str, .bld$ gn.map .str, .val$ .str w,b] from rfl,R.aK]
     refine aJ hs (aJ (nM rfl rfl$ by rw[Qaa];omega)$ (nM rfl rfl$ by rw[Qaa];omega).trans ?_)
     rw[<-QaE,Rv,show tk.map D.str++[.str x]=(tk++[x]).map .str by simp,show gn.map D.str++[.str x]=(gn++[x]).map .str by simp]
     rfl
    .exact QbE.mpr ⟨hnd,by simp,λy hy z Ke e=>hx2$ by rw[QaC.mp Ke] at e;rw [<-e,<-Rv];exact QaU _ hy⟩
    .rcases Qaq.mp QS with z | z
     .exact hnm s z
     .rw [QaC.mp z];exact Uv
    .rcases Qaq.mp QS with z | z
     .exact hdis s z
     .rw [QaC.mp z];exact λq=>hx2$ by rw[<-Rv];exact Qa7 _ q)
 rw[Qaa,wl] at gl;refine⟨gn,?_,gl,gnd,gnm,gdis⟩;refine dU (aJ (δ1:=[.val$ qt ins gs os, .val$ .int head, .bld ((ins.map λx:Str × Nat=>x.1).map .str), .un, .un, .un, .un]) (nL (d6 (g8$ ax rfl rfl rfl) (by rw[Qaa];omega) ?_)$ by simp [b8,dz]) (aJ (bE (ay (aw rfl$ aw rfl$ aw (ay (aw (ax rfl rfl rfl) rfl)$ by rw[fZ,Qaa]) rfl) yl)$ by simp [b8,dz]) (aJ (nL (b_ rfl$ by show 0<=sizeLine;omega) (by simp [b8,dz])) (aJ (nX (g8 rfl) h1) ?_))))
 .rw [Qa5];exact NT.cT MT.inD _ λx hx=>⟨[.val$ .str x.1, .val$ nI x.2],rfl,rfl,rfl⟩
 .subst hδ;rfl
def xS{ins:Aac}(h6:ins.length<=6)(hw:∀x∈ins,1<=x.2/\x.2<=3):(mm ins).length<=18:=by
 rw[g_];have:=NT.BX hw;unfold pE;omega
def HR(h6:ins.length<=6)(hw:∀x∈ins,1<=x.2/\x.2<=3)(hm:∀x∈ins,isNm x.1=true)(Kc:gn.length<=100):mG [.lst$ ins.map MT.inD, .lst$ gn.map .str]= .ok (.lst$ (mm ins++gn).map .str):=by
 have hz:=Qav;obtain⟨δ1,h1,a,b,hδ⟩:=iW (t:=sI 2$ fq (bh 3)$ fq (bh 4) sH) (body:=qD) (λi δ=>∃(a b:Sl),δ=[.val$ .lst$ ins.map MT.inD, .val$ .lst$ gn.map .str, .val$ .lst$ (mm$ ins.take i).map .str,a,b])
  (δ:=[.val$ .lst$ ins.map MT.inD, .val$ .lst$ gn.map .str, .val$ .lst [], .un, .un]) ⟨_,_,rfl⟩ (by
    rintro i d δ hd ⟨a,b,rfl⟩;obtain⟨x,hx,rfl⟩:=NT.oq hd;have hxm:=Qan hx;obtain⟨w1,w3⟩:=hw x hxm;have Dl:=(cD.mp$ hm x hxm).2.1;have e1:mm (ins.take$ i+1)=mm (ins.take i)++qY x.1 x.2:=by
     rw[Qa1,hx];unfold mm;simp
    have hs:=xS (ins:=ins.take i) (by rw[QaO];omega) λy hy=>hw y$ Qbo hy
    refine⟨[.val$ .lst$ ins.map MT.inD, .val$ .lst$ gn.map .str, .val$ .lst$ (mm$ ins.take$ i+1).map .str, .val$ .str x.1, .val$ nI x.2],?_,_,_,rfl⟩;rw[show sI 2 (fq (bh 3)$ fq (bh 4) sH) (MT.inD x) [.val$ .lst$ ins.map MT.inD, .val$ .lst$ gn.map .str, .val$ .lst$ (mm$ ins.take i).map .str,a,b]= .ok [.val$ .lst$ ins.map MT.inD, .val$ .lst$ gn.map .str, .val$ .lst$ (mm$ ins.take i).map .str, .val$ .str x.1, .val$ nI x.2] from rfl,R.aK]
    have fg:∀f:Nat,f<3->∀s:Str,s=CO++jQ f->x.1++s=x.1++CO++jQ f:=λf _ s e=>by rw[e,xC]
    have pw:∀(s:Str) (δ:au),s.length=2->ai 3 δ= .ok (.str x.1)->e2 bu (ai 3) (eC$ .str s) δ= .ok (.str$ x.1++s):=λs δ hs h=>ax h rfl (cn$ by omega)
    have sl:wU (eNew$ ck$ ag (e2 bu (ai 3)$ eC$ .str$ Str.ofString ":0")$ ag (e2 bu (ai 3)$ eC$ .str$ Str.ofString ":1")$ ag (e2 bu (ai 3)$ eC$ .str$ Str.ofString ":2") aI) h_ (eB$ ai 4) [.val$ .lst$ ins.map MT.inD, .val$ .lst$ gn.map .str, .val$ .lst$ (mm$ ins.take i).map .str, .val$ .str x.1, .val$ nI x.2]= .ok (.lst$ ([x.1++Str.ofString ":0",x.1++Str.ofString ":1",x.1++Str.ofString ":2"].take x.2).map .str):=by
     refine iS (bN$ b_ (ds:=[x.1++Str.ofString ":0",x.1++Str.ofString ":1",x.1++Str.ofString ":2"].map .str) (aw (pw _ _ (by decide+kernel) rfl)$ aw (pw _ _ (by decide+kernel) rfl)$ aw (pw _ _ (by decide+kernel) rfl) rfl)$ by show 3<=sizeLine;omega) rfl (c9 rfl) ?_
     show R.ok (D.lst$ L2.cutD _ none$ some ((x.2:Nat):Int))=_;unfold L2.cutD;rw[HT.qb,HT.si];rw[QbR (by show x.2<=3;exact w3),List.drop_zero,Nat.sub_zero,Qb8]
    refine bE (ax (b:= .lst$ (qY x.1 x.2).map .str) rfl (ax (b:= .int$ if 1<x.2 then 1 else 0) (bN$ b_ (aw (bN$ b_ rfl$ by show 1<=sizeLine;omega) (aw sl rfl)) (by show 2<=sizeLine;omega)) (ay (aw (ax rfl rfl$ Kk _ _) rfl) (by by_cases q:1<x.2 <;> simp [q] <;> rfl)) ?_) ?_) (by simp)
    .unfold qY;by_cases q:x.2=1
     .rw [Qap q,Qaj$ by omega]
      exact NT.cm rfl
     .rw [Qaj q,Qap$ by omega]
      refine NT.cm ?_;show some _=some _;congr 3;rcases(show x.2=2\/x.2=3 by omega) with e | e
      .rw [e];show [x.1++Str.ofString ":0",x.1++Str.ofString ":1"]=[x.1++CO++jQ 0,x.1++CO++jQ 1];rw[fg 0 (by omega) (Str.ofString ":0") (by decide+kernel),fg 1 (by omega) (Str.ofString ":1")$ by decide+kernel]
      .rw [e];show [x.1++Str.ofString ":0",x.1++Str.ofString ":1",x.1++Str.ofString ":2"]=[x.1++CO++jQ 0,x.1++CO++jQ 1,x.1++CO++jQ 2];rw[fg 0 (by omega) (Str.ofString ":0") (by decide+kernel),fg 1 (by omega) (Str.ofString ":1") (by decide+kernel),fg 2 (by omega) (Str.ofString ":2")$ by decide+kernel]
    .rw [nT (by rw[Qaa,Qaa,uL];omega),e1,QaN])
 rw[Qaa,Qba] at hδ;have hs:=xS h6 hw;refine dU (aJ (bE (bN$ b_ rfl$ by show 0<=sizeLine;omega) (by simp [b8,pK])) (aJ (nX (g8 rfl) h1) ?_))
 subst hδ;exact cV (ax rfl rfl$ (nT$ by rw[Qaa,Qaa];omega).trans$ by rw[QaN])
def vU{ws:List Str}(hl:ws.length<=100)(h:∀w∈ws,Wo w):e_ (.str SP) [.lst$ ws.map .str]= .ok (.str$ Str.join SP ws):=by
 refine uM ?_;have:(ws.map (·.length)).sum<=ws.length*10:=by
  have:=we λx hx=>by obtain⟨w,hw,rfl⟩:=QaT.mp hx;exact(h w hw).len
  rwa [Qaa] at this
 have:SP.length=1:=by decide+kernel
 rw[this];omega
def FP{w:Nat}(h:1<=w/\w<=3):cStr [nI w]= .ok (.str$ wS w):=by
 rcases(show w=1\/w=2\/w=3 by omega) with rfl | rfl | rfl
 .exact(ze (i:=1)$ by decide+kernel).trans (by rw[show(toString (1:Int):Str)=wS 1 by decide+kernel])
 .exact(ze (i:=2)$ by decide+kernel).trans (by rw[show(toString (2:Int):Str)=wS 2 by decide+kernel])
 .exact(ze (i:=3)$ by decide+kernel).trans (by rw[show(toString (3:Int):Str)=wS 3 by decide+kernel])
def Eh{W:List Str}{l:List Nat}{δ:au}{i:Nat}(hl:l.length<=1000)(h:∀w∈l,w<W.length)(hi:ai i δ= .ok (.tup$ l.map nI))(hk:uA [Str.ofString "wire"] [5] δ=[.un, .val$ .lst$ W.map .str]):eNew (dq (dR$ ai i) (bh 0) pj (e2 du (ai 1)$ ai 0) [(Str.ofString "wire")] [5]) δ= .ok (.lst$ (tx W l).map .str):=by
 have hz:=Qav;refine bN (d6 (P7 hi) (by rw[Qaa];omega) ?_)
 rw[hk,show(tx W l).map D.str=l.map λw=>D.str (W.getD w Str.empty) from Qa5]
 refine NT.cT nI _ λw hw=>⟨[.val$ nI w, .val$ .lst$ W.map .str],rfl,rfl,ax rfl rfl$ NT.cm ?_⟩
 rw[Qad,Qaz,Qag$ h w hw];rfl
def Oo(T:TN ins gs os)(G:GN ins gs.length gn):W3 (pG [.d$ qt ins gs os, .d$ .lst$ gn.map .str] []) λv S1=>v= .loc 0/\S1=[.lst$ ((FJ ins gs os gn).map$ Str.join SP).map .str]:=by
 have hz:=Qav;have h6:=T.i6;have h60:=T.g60;have ho6:=T.o6;have Kc:=G.len;have hWo:=Lz T G;obtain⟨W,hW⟩:∃W,mm ins++gn=W:=⟨_,rfl⟩;have hWl:W.length=pE ins+gs.length:=by rw[<-hW,Qar,g_,Kc]
 have hzl:(gs.zip gn).length=gs.length:=by rw[List.length_zip,Kc];omega
 let R0:List Str:=(ins.map yL).map$ Str.join SP
 let RG:Nat->List Str:=λi=>(((gs.zip gn).take i).map λp=>uF W p.1 p.2).map (Str.join SP)
 let RO:Nat->List Str:=λi=>((os.take i).map$ uy W).map$ Str.join SP
 have lG:∀i,(RG i).length<=60:=λi=>by show((((gs.zip gn).take i).map _).map _).length<=_;rw [Qaa,Qaa,QaO,hzl];omega
 have l0:R0.length=ins.length:=by show((ins.map yL).map$ Str.join SP).length=_;rw [Qaa,Qaa]
 have en:qA (gs.map qw)=(gs.zip gn).zipIdx.map λp=>D.tup [nI p.2,qw p.1.1]:=by
  unfold qA;refine List.ext_getElem? λi=>?_
  rw[Qad,Qad,Qb3,Qb3,Qad];by_cases hi:i<gs.length
  .have:(gs.zip gn)[i]? =some (gs[i],gn[i]'(by omega)):=by rw[Qbv];exact⟨Qag hi,Qag$ by omega⟩
   rw[this,Qag hi];simp [nI]
  .rw [QbV (by omega),QbV$ by omega];rfl
 let E:Option V3->Option V3->Option V3->Option V3->Option V3->Option V3->DE:=λa7 a8 a9 Np Mx a12=>[some$ .d$ qt ins gs os,some$ .d$ .lst$ gn.map .str,some$ .d$ .lst$ ins.map MT.inD,some$ .d$ .lst$ gs.map qw,some$ .d$ .lst$ os.map xj,some$ .d$ .lst$ W.map .str,some$ .loc 0,a7,a8,a9,Np,Mx,a12]
 refine UU rfl ?_;simp only[fm,n5,List.map,List.length,List.replicate,Qbe,QbC,Nat.reduceAdd,Nat.reduceSub];refine de<|RH<|fH rfl ⟨_,rfl,⟨_,rfl,?_⟩⟩
 refine de<|g7 (by simp)<|fH (d:= .lst$ W.map .str) (ay rfl$ by rw[<-hW];exact HR h6 T.iw T.inm$ by omega) ⟨_,rfl,?_⟩
 refine de<|g7 (by simp)<|AB (ds:=R0.map .str) (d6 (g8 rfl) (by rw[Qaa];omega) ?_) ⟨_,rfl,?_⟩
 .rw [show R0.map D.str=ins.map λx=>D.str (Str.join SP$ yL x) by show((ins.map yL).map$ Str.join SP).map D.str=_;rw [Qa5,Qa5];rfl]
  exact NT.cT MT.inD _ λx hx=>⟨[.val$ .str x.1, .val$ nI x.2],rfl,rfl,jy rfl (aw (bN$ b_ (aw rfl$ aw rfl$ aw (ay rfl$ FP$ T.iw x hx) rfl)$ by show 3<=sizeLine;omega) rfl) (vU (by unfold yL;simp) (Cj$ T.inm x hx))⟩
 refine de<|IX<|Gm (ds:=(gs.zip gn).zipIdx.map λp=>D.tup [nI p.2,qw p.1.1]) (by rw[<-en];exact Oc rfl)<|(tw (λi δ S=>∃a7 a8 a9 Np Mx,δ=E a7 a8 a9 Np Mx none/\S=[.lst$ (R0++RG i).map .str]) ⟨none,none,none,none,none,rfl,by show [SO.lst$ R0.map .str]=[SO.lst$ (R0++[]).map .str];rw [Qbj]⟩ ?_).mono ?_
 .rintro i v δ S hv ⟨a7,a8,a9,Np,Mx,rfl,rfl⟩;obtain⟨p,hp,rfl⟩:=NT.wq hv;rw[Qb3] at hp;obtain⟨q,hq,rfl⟩:=Qbg.mp hp;obtain⟨g,n⟩:=q;obtain⟨hg,hn⟩:=Qbv.mp hq;have gok:=T.gok i g hg;have xw:∀w∈g.2.1,w<W.length:=λw hw=>by have:=gok.2.2 w hw;have:=(Qah.mp hg).1;omega
  have hll:g.2.1.length<=3:=by rw[gok.2.1];exact Bo _
  have hnm:=G.nm n$ Qan hn;have lGi:=lG i;have e1:RG (i+1)=RG i++[Str.join SP$ uF W g n]:=by
   show(((gs.zip gn).take$ i+1).map _).map _=_;rw[Qa1,hq];simp [RG]
  have e0:(0+i)=i:=by omega
  rw[show(((g,n),0+i):(Gt × Str) × Nat).2=i from e0]
  refine⟨E (some$ .d$ nI i) (some$ .d$ .str$ kS g.1) (some$ .d$ .tup$ g.2.1.map nI) (some$ .d$ .bl g.2.2) Mx none,rfl,?_⟩;refine de<|g7 (by simp [E])<|fH (bN$ b_ (aw (ax (b:= .int$ if g.2.2 then 1 else 0) rfl (ay rfl$ by cases g.2.2 <;> rfl) ?_) (aw (ax rfl rfl$ NT.cm$ by rw[Qad,hn];rfl) rfl)) (by show 3<=sizeLine;omega)) ⟨E (some$ .d$ nI i) (some$ .d$ .str$ kS g.1) (some$ .d$ .tup$ g.2.1.map nI) (some$ .d$ .bl g.2.2) (some$ .d$ .lst$ [if g.2.2 then Str.ofString "sure" else Str.ofString "gate",n,kS g.1].map .str) none,rfl,?_⟩
  .cases g.2.2
   .exact NT.cm rfl
   .exact NT.cm rfl
  have hj:e_ (.str SP) [.lst$ (uF W g n).map .str]= .ok (.str$ Str.join SP$ uF W g n):=vU (by unfold uF tx;simp;omega) (BZ hnm (λy hy=>(hWo y$ by rw[hW];exact hy).1) xw)
  refine M9 rfl ⟨_,rfl⟩<|fH (jy rfl (aw (ax rfl (Eh (by omega) xw rfl rfl)$ (nT$ by unfold tx;simp;omega).trans (by rw[<-QaN];rfl)) rfl) hj) ⟨_,_,rfl,rfl,by rw[Qaa,Qar];omega,_,rfl,_,_,_,_,_,rfl,?_⟩
  show [SO.lst$ (R0++RG i).map .str++[.str$ Str.join SP$ uF W g n]]=_;rw[e1,<-QaE,show(R0++RG i).map D.str++[.str$ Str.join SP$ uF W g n]=(R0++RG i++[Str.join SP$ uF W g n]).map .str by simp]
 rintro o S1 ⟨j7,rfl,a7,a8,a9,Np,Mx,rfl,rfl⟩;rw[Qaa,Qaa,List.length_zipIdx,hzl];refine⟨_,rfl,?_⟩;refine de<|IX<|Gm (g8 rfl)<|(tw (λi δ S=>∃b9 Xq,δ=E a7 a8 b9 Np Mx Xq/\S=[.lst$ (R0++RG gs.length++RO i).map .str]) ⟨a9,none,rfl,by show _=[SO.lst$ (R0++RG gs.length++[]).map .str];rw [Qbj]⟩ ?_).mono ?_
 .rintro i v δ S hv ⟨b9,Xq,rfl,rfl⟩;obtain⟨o,ho,rfl⟩:=NT.wq hv;have hom:=Qan ho;obtain⟨o1,o2,o3⟩:=T.ow o hom;have xw:∀w∈o.2,w<W.length:=λw hw=>by have:=o3 w hw;omega
  have lGi:=lG gs.length;have lOi:(RO i).length<=6:=by show(((os.take i).map _).map _).length<=_;rw [Qaa,Qaa,QaO];omega
  have e1:RO (i+1)=RO i++[Str.join SP$ uy W o]:=by
   show((os.take$ i+1).map _).map _=_;rw[Qa1,ho];simp [RO]
  refine⟨E a7 a8 (some$ .d$ .tup$ o.2.map nI) Np Mx$ some$ .d$ .str o.1,rfl,?_⟩;have hj:e_ (.str SP) [.lst$ (uy W o).map .str]= .ok (.str$ Str.join SP$ uy W o):=vU (by unfold uy tx;simp;omega) (B_ (T.onm o hom) (λy hy=>(hWo y$ by rw[hW];exact hy).1) xw)
  refine M9 rfl ⟨_,rfl⟩<|fH (jy rfl (aw (ax (bN$ b_ (ds:=[Str.ofString "out",o.1].map .str) (by cases a7 <;> cases a8 <;> cases Np <;> cases Mx <;> rfl) (by show 2<=sizeLine;omega)) (Eh (by omega) xw rfl rfl) ((nT$ by unfold tx;simp;omega).trans (by rw[<-QaN];rfl))) rfl) hj) ⟨_,_,rfl,rfl,by rw[Qaa,Qar,Qar];omega,_,rfl,_,_,rfl,?_⟩
  show [SO.lst$ (R0++RG gs.length++RO i).map .str++[.str$ Str.join SP$ uy W o]]=_;rw[e1,<-QaE,show(R0++RG gs.length++RO i).map D.str++[.str$ Str.join SP$ uy W o]=(R0++RG gs.length++RO i++[Str.join SP$ uy W o]).map .str by simp]
 rintro o S1 ⟨j7,rfl,b9,Xq,rfl,rfl⟩;rw[Qaa,Qaa];refine⟨_,rfl,qB<|w_var rfl ⟨_,rfl,rfl,?_⟩⟩
 congr 2;show List.map D.str ((ins.map yL).map (Str.join SP)++((((gs.zip gn).take gs.length).map λp=>uF W p.1 p.2).map (Str.join SP))++((os.take os.length).map$ uy W).map (Str.join SP))=_
 rw[Qba,QaP (by rw[hzl];exact Qak _),<-QaN,<-QaN]
 unfold FJ;rw[hW]
end
def KI(o:Option Nat):D:=match o with | none=> .lst [] | some n=> .lst$ (List.range 14).map λk=> .bl$ decide$ n=k
def C_{rows:List Str}{S:aP}(hS:Mi S)(hj:e_ (.str NL) [.lst$ rows.map .str]= .ok (.str text))(hrd:WE (qh [.d$ .str text] S) (λv S1=>∃d,px (Txt.split text NL)= .ok d/\nY d/\v= .tup [.loc$ S.length+1, .loc$ S.length+2, .loc$ S.length+3]/\S1=kU S d) (λc S1=>px (Txt.split text NL)= .error c/\∃T,S1=S++T)){o:Option Nat}(ho:match px (Txt.split text NL) with | .ok _=>o=none | .error c=>2<=c/\c<=8/\o=some (c - 2)){Q:V3->aP->Prop}(h:Q (.d$ KI o) S):W3 (pR [.d$ .lst$ rows.map .str] S) Q:=by
 have hz:=Qav;refine IU hS$ UU rfl ?_;simp only[fm,fI,List.map,List.length,List.replicate,Qbe,QbC,Nat.reduceAdd,Nat.reduceSub];refine de<|g7 (by simp)<|fH (bN$ b_ rfl$ by show 0<=sizeLine;omega) ⟨_,rfl,?_⟩
 simp;refine de<|Ub<|wg<|IY<|bV<|fH (jy rfl (aw rfl rfl) hj)<|gS<|e_Q hS<|hrd.mono ?_ ?_
 .rintro v S1 ⟨d,hd,_,rfl,rfl⟩;rw[hd] at ho;subst ho;have e1:(kU S d)[S.length+1]? =some (.lst$ d.ins.map MT.inD):=by rw[cj];rfl
  have e2:(kU S d)[S.length+2]? =some (.lst$ d.gs.map qw):=by rw[cj];rfl
  have e3:(kU S d)[S.length+3]? =some (.lst$ d.os.map xj):=by rw[cj];rfl
  refine⟨by simp [oS,rS],⟨_,rfl⟩,qt d.ins d.gs d.os,by simp only[res,A4,e1,e2,e3];rfl,⟨_,rfl,qB<|fH rfl ⟨_,rfl,rfl,⟨[],by simp⟩,_,rfl,h⟩⟩⟩
 .rintro c S1 ⟨hc,T,rfl⟩;rw[hc] at ho;obtain⟨c2,c8,rfl⟩:=ho;refine⟨⟨_,rfl⟩,?_⟩;have isE:∀{tb:List (Nat × Bool)} {b:Bool} {δ:DE} {Q:V3->aP->Prop},δ[2]? =some (some$ .loc S.length)->um tb c=some b->Q (.d$ .bl b) (S++[.exc c])->W3 (mO (bO 2) (um tb) δ$ S++[.exc c]) Q:=λh1 h2 h3=>SI<|w_var h1 ⟨S.length,c,_,rfl,NT.Ib S _,h2,h3⟩
  have l4:∀{tb1 tb2 Z7 tb4:List (Nat × Bool)} {b1 b2 b3 b4:Bool} {δ:DE} {Q:V3->aP->Prop},δ[2]? =some (some$ .loc S.length)->um tb1 c=some b1->um tb2 c=some b2->um Z7 c=some b3->um tb4 c=some b4->Q (.d$ .lst [.bl b1, .bl b2, .bl b3, .bl b4]) (S++[.exc c])->W3 (CJ (bf (mO (bO 2)$ um tb1)$ bf (mO (bO 2)$ um tb2)$ bf (mO (bO 2)$ um Z7)$ bf (mO (bO 2)$ um tb4) dG) δ$ S++[.exc c]) Q:=λh1 t1 t2 t3 t4 hq=>MS<|bV<|isE h1 t1<|bV<|isE h1 t2<|bV<|isE h1 t3<|bV<|isE h1 t4<|gS ⟨by show 4<=sizeLine;omega,hq⟩
  have ad:∀(a b:List D),a.length+b.length<=14->bu (.lst a) (.lst b)= .ok (.lst$ a++b):=λa b h=>nT (by omega)
  refine⟨by rcases(show c=2\/c=3\/c=4\/c=5\/c=6\/c=7\/c=8 by omega) with rfl | rfl | rfl | rfl | rfl | rfl | rfl <;> rfl,?_⟩
  simp only[fm,fI,List.map,List.length,List.replicate,Qbe,QbC,Nat.reduceAdd,Nat.reduceSub];rcases(show c=2\/c=3\/c=4\/c=5\/c=6\/c=7\/c=8 by omega) with rfl | rfl | rfl | rfl | rfl | rfl | rfl
  all_goals
   refine de<|g7 (by simp)<|l4 rfl rfl rfl rfl rfl ⟨_,rfl,?_⟩
   refine de<|g7 (by simp)<|TJ<|fH rfl<|l4 rfl rfl rfl rfl rfl ⟨_,_,_,rfl,rfl,ad _ _ (by decide),⟨_,rfl,?_⟩⟩
   refine de<|g7 (by simp)<|TJ<|fH rfl<|l4 rfl rfl rfl rfl rfl ⟨_,_,_,rfl,rfl,ad _ _ (by decide),⟨_,rfl,?_⟩⟩
   refine g7 (by simp)<|TJ<|fH rfl<|MS<|bV<|isE rfl rfl<|bV<|P1<|isE rfl rfl ⟨_,rfl,gS ⟨by show 2<=sizeLine;omega,⟨_,_,_,rfl,rfl,ad _ _ (by decide),⟨_,rfl,⟨_,rfl,qB<|fH rfl ⟨_,rfl,rfl,⟨_,rfl⟩,_,rfl,h⟩⟩⟩⟩⟩⟩
def xX(l:List (List Str)):D:= .lst$ (l.map$ Str.join SP).map .str
def fK{acc L:List (List Str)}{g:au->R (List D)}{cell:Int}{b c:Sl}{F:FS}{o:R Out}(hl:acc.length+L.length<=1000)(hL:g [.val$ .int cell, .val$ xX acc,b,c]= .ok ((L.map$ Str.join SP).map .str))(h:F [.val$ .int cell, .val$ xX$ acc++L,b,c]=o):bD (bU 1$ e2 bu (ai 1)$ eNew$ ck g) F [.val$ .int cell, .val$ xX acc,b,c]=o:=by
 have hz:=Qav;refine aJ (bE (ax rfl (bN$ b_ hL$ by rw[Qaa,Qaa];omega) ?_)$ by simp) h
 unfold xX;rw[nT (by simp;omega),QaN,QaN]
def cy{a b:List (List Str)}(h1:∀ws∈a,cQ ws=true)(h2:∀ws∈b,cQ ws=true):∀ws∈a++b,cQ ws=true:=λws h=>(Qaq.mp h).elim (h1 ws)$ h2 ws
def G8:∀w∈mr,w.length<=8:=by decide+kernel
def Nz(cell:Int):∃ws,cQ ws=true/\qj [.int cell]= .ok (.str$ Str.join SP ws):=by
 have hz:=Qav;obtain⟨w,hw,ew⟩:=Vh (l:=mr) (by show stN cell 75 % 9<9;omega)
 have wl:=G8 w hw;have k0:(Str.ofString "in ").length=3:=by decide+kernel
 have k1:(Str.ofString " 2").length=2:=by decide+kernel
 have k2:(Str.ofString "gate ").length=5:=by decide+kernel
 have k3:(Str.ofString " not b").length=6:=by decide+kernel
 have k4:(Str.ofString "sure q not ").length=11:=by decide+kernel
 have k5:(Str.ofString "out ").length=4:=by decide+kernel
 have k6:(Str.ofString " b").length=2:=by decide+kernel
 have k7:(Str.ofString "out q ").length=6:=by decide+kernel
 have k8:(Str.ofString "in a ").length=5:=by decide+kernel
 have k9:(Str.ofString "gate a not b:").length=13:=by decide+kernel
 have k10:(Str.ofString "out a b:").length=8:=by decide+kernel
 have k11:(Str.ofString " 1").length=2:=by decide+kernel
 have x1:=Tx;have x2:=Wu;have x3:=Xg;have hA:∀ws∈(((((((((((((((((((((Rh++QX)++Q6)++Q5)++Rl)++Ri)++Q1)++Rc)++Q3)++Q4)++FL)++FH)++E6)++Fy)++Fq)++EW)++FY)++Fp)++AD w)++zX w)++AY w)++zV),cQ ws=true:=cy (cy (cy (cy (cy (cy (cy (cy (cy (cy (cy (cy (cy (cy (cy (cy (cy (cy (cy (cy (cy (bf0)$ bf1)$ bf2)$ bf3)$ bf4)$ bf5)$ bf6)$ bf7)$ bf8)$ bf9)$ WV)$ Vf)$ WI)$ WU)$ VR)$ Wv)$ WX)$ WJ)$ V_ hw)$ VF hw)$ Vg hw)$ V0;have l0:0<(((((((((((((((((((((Rh++QX)++Q6)++Q5)++Rl)++Ri)++Q1)++Rc)++Q3)++Q4)++FL)++FH)++E6)++Fy)++Fq)++EW)++FY)++Fp)++AD w)++zX w)++AY w)++zV).length:=List.length_pos_of_mem (QaU _$ show [Str.ofString "gate",Str.ofString "a",Str.ofString "or",Str.ofString "b",Str.ofString "c",Str.ofString "d"]∈zV by unfold zV;exact Qai)
 obtain⟨A,hAe⟩:∃A,(((((((((((((((((((((Rh++QX)++Q6)++Q5)++Rl)++Ri)++Q1)++Rc)++Q3)++Q4)++FL)++FH)++E6)++Fy)++Fq)++EW)++FY)++Fp)++AD w)++zX w)++AY w)++zV)=A:=⟨_,rfl⟩;rw[hAe] at hA l0;obtain⟨k,hk⟩:∃k,stN cell 70 % A.length=k:=⟨_,rfl⟩;have kl:k<A.length:=by rw[<-hk];exact QbG _ l0
 refine⟨A[k],hA _$ QbL kl,?_⟩;refine dU (aJ (δ1:=[.val$ .int cell, .val$ xX Rh, .un, .un]) (bE (bN$ b_ ((show _=R.ok ([Str.ofString "",Str.ofString " ",Str.ofString "in",Str.ofString "in a",Str.ofString "in a 0",Str.ofString "in a 4",Str.ofString "in a 01",Str.ofString "in a x",Str.ofString "in a 1 1",Str.ofString "in A 1",Str.ofString "in a1 1"].map D.str) from rfl).trans (by rw[be0])) (by show 11<=sizeLine;omega)) (by simp [b8,tQ])) ?_)
 refine fK (L:=QX) (by show 18<=1000;omega) ((show _=R.ok ([Str.ofString "in abcdefghi 1",Str.ofString "in  a 1",Str.ofString "in a 1 ",Str.ofString " in a 1",Str.ofString "In a 1",Str.ofString "ins a 1",Str.ofString "in 1 a"].map D.str) from rfl).trans (by rw[be1])) ?_
 refine fK (L:=Q6) (by show 26<=1000;omega) ((show _=R.ok ([Str.ofString "in gate 1",Str.ofString "in in 1",Str.ofString "in a -1",Str.ofString "in a 1.",Str.ofString "in a 11",Str.ofString "in :a 1",Str.ofString "in a:0 1",Str.ofString "gate"].map D.str) from rfl).trans (by rw[be2])) ?_
 refine fK (L:=Q5) (by show 32<=1000;omega) ((show _=R.ok ([Str.ofString "gate a",Str.ofString "gate a not",Str.ofString "gate a and",Str.ofString "gate a not b c",Str.ofString "gate a and b",Str.ofString "gate a and b c d"].map D.str) from rfl).trans (by rw[be3])) ?_
 refine fK (L:=Rl) (by show 36<=1000;omega) ((show _=R.ok ([Str.ofString "gate a or b",Str.ofString "gate a xor b c d",Str.ofString "gate a vote b c",Str.ofString "gate a vote b c d e"].map D.str) from rfl).trans (by rw[be4])) ?_
 refine fK (L:=Ri) (by show 41<=1000;omega) ((show _=R.ok ([Str.ofString "gate a nand b c",Str.ofString "gate a NOT b",Str.ofString "gate A not b",Str.ofString "gate a1 not b",Str.ofString "gate not not b"].map D.str) from rfl).trans (by rw[be5])) ?_
 refine fK (L:=Q1) (by show 46<=1000;omega) ((show _=R.ok ([Str.ofString "gate a not B",Str.ofString "gate a not 1",Str.ofString "gate a not b:",Str.ofString "gate a not b:00",Str.ofString "gate a not b:x"].map D.str) from rfl).trans (by rw[be6])) ?_
 refine fK (L:=Rc) (by show 51<=1000;omega) ((show _=R.ok ([Str.ofString "gate a not :0",Str.ofString "gate a not b:0:0",Str.ofString "gate a not b;0",Str.ofString "gate a and b, c",Str.ofString "gate a  not b"].map D.str) from rfl).trans (by rw[be7])) ?_
 refine fK (L:=Q3) (by show 56<=1000;omega) ((show _=R.ok ([Str.ofString "gate a not  b",Str.ofString "gate a not b ",Str.ofString " gate a not b",Str.ofString "Gate a not b",Str.ofString "gates a not b"].map D.str) from rfl).trans (by rw[be8])) ?_
 refine fK (L:=Q4) (by show 60<=1000;omega) ((show _=R.ok ([Str.ofString "gate abcdefghi not b",Str.ofString "gate a not abcdefghi",Str.ofString "gate vote vote b c d",Str.ofString "gate a in b"].map D.str) from rfl).trans (by rw[be9])) ?_
 refine fK (L:=FL) (by show 65<=1000;omega) ((show _=R.ok ([Str.ofString "gate a not not",Str.ofString "gate a and b or",Str.ofString "gate a not b:-1",Str.ofString "gate a not -b",Str.ofString "gate a not(b)"].map D.str) from rfl).trans (by rw[Wq])) ?_
 refine fK (L:=FH) (by show 71<=1000;omega) ((show _=R.ok ([Str.ofString "gate a = not b",Str.ofString "sure",Str.ofString "sure a",Str.ofString "sure a not",Str.ofString "sure a not b c",Str.ofString "sure a or b"].map D.str) from rfl).trans (by rw[VH])) ?_
 refine fK (L:=E6) (by show 76<=1000;omega) ((show _=R.ok ([Str.ofString "sure A or b c",Str.ofString "sure a nor b c",Str.ofString "Sure a not b",Str.ofString "sures a not b",Str.ofString "sure  a not b"].map D.str) from rfl).trans (by rw[VC])) ?_
 refine fK (L:=Fy) (by show 82<=1000;omega) ((show _=R.ok ([Str.ofString "sure a vote b c",Str.ofString "sure sure not b",Str.ofString "sure a not b:a",Str.ofString "out",Str.ofString "out a",Str.ofString "out a b c d e"].map D.str) from rfl).trans (by rw[W2])) ?_
 refine fK (L:=Fq) (by show 89<=1000;omega) ((show _=R.ok ([Str.ofString "out A b",Str.ofString "out a B",Str.ofString "out a 1",Str.ofString "out a b:",Str.ofString "out a b:10",Str.ofString "out a  b",Str.ofString "out a b "].map D.str) from rfl).trans (by rw[WD])) ?_
 refine fK (L:=EW) (by show 96<=1000;omega) ((show _=R.ok ([Str.ofString " out a b",Str.ofString "Out a b",Str.ofString "outs a b",Str.ofString "out out b",Str.ofString "out a out",Str.ofString "out 1 b",Str.ofString "out abcdefghi b"].map D.str) from rfl).trans (by rw[VP])) ?_
 refine fK (L:=FY) (by show 104<=1000;omega) ((show _=R.ok ([Str.ofString "out a b,c",Str.ofString "out a b: 0",Str.ofString "not a b",Str.ofString "and a b c",Str.ofString "a",Str.ofString "1",Str.ofString "wire a b",Str.ofString "gate: a not b"].map D.str) from rfl).trans (by rw[VZ])) ?_
 refine fK (L:=Fp) (by show 107<=1000;omega) ((show _=R.ok ([Str.ofString "# in a 1",Str.ofString "end",Str.ofString "vote a b c"].map D.str) from rfl).trans (by rw[VM])) ?_
 refine aJ (bE (bN$ b_ rfl$ by show 9<=sizeLine;omega) (by simp)) ?_
 refine aJ (bE (ax rfl (ax (b:=nI 9) (ay rfl$ lJ _ 75) rfl$ dZ$ by omega) ew)$ by simp) ?_
 refine fK (L:=AD w) (by show 110<=1000;omega) ((show _=R.ok ([Str.ofString "in "++w++Str.ofString " 2",Str.ofString "gate "++w++Str.ofString " not b",Str.ofString "sure q not "++w].map D.str) from(aw (ax (ax rfl rfl$ cn$ by(try simp);omega) rfl$ cn$ by(try simp only[Qax]);omega) (aw (ax (ax rfl rfl$ cn$ by(try simp);omega) rfl$ cn$ by(try simp only[Qax]);omega) (aw (ax rfl rfl$ cn$ by(try simp);omega) rfl)))).trans (by rw[VI hw])) ?_
 refine fK (L:=zX w) (by show 114<=1000;omega) ((show _=R.ok ([Str.ofString "out "++w++Str.ofString " b",Str.ofString "out q "++w,Str.ofString "in a "++X1,Str.ofString "gate a not b:"++X1].map D.str) from(aw (ax (ax rfl rfl$ cn$ by(try simp);omega) rfl$ cn$ by(try simp only[Qax]);omega) (aw (ax rfl rfl$ cn$ by(try simp);omega)$ aw (ax rfl (ax rfl rfl Ze)$ cn$ by(try simp);omega)$ aw (ax rfl (ax rfl rfl Ze)$ cn$ by(try simp);omega) rfl))).trans (by rw[Wa hw])) ?_
 refine fK (L:=AY w) (by show 120<=1000;omega) ((show _=R.ok ([Str.ofString "out a b:"++X2,Str.ofString "in "++X3++Str.ofString " 1",Str.ofString "in a 12",Str.ofString "in a 23",Str.ofString "in a 123",Str.ofString "in a "].map D.str) from(aw (ax rfl (ax rfl rfl mX2)$ cn$ by(try simp);omega)$ aw (ax (ax rfl (ax rfl rfl mX3)$ cn$ by(try simp);omega) rfl$ cn$ by(try simp only[Qax]);omega) (aw rfl$ aw rfl$ aw rfl$ aw rfl rfl))).trans (by rw[Vu hw])) ?_
 refine fK (L:=zV) (by show 125<=1000;omega) ((show _=R.ok ([Str.ofString "gate a or b c d",Str.ofString "sure a or b c d",Str.ofString "sure a vote b c d e",Str.ofString "gate a not b:01",Str.ofString "out a b:12"].map D.str) from rfl).trans (by rw[Wz])) ?_
 rw[hAe];refine cV (ax (b:=nI k) rfl ((ax (ay rfl$ lJ _ 70) (ay rfl$ by unfold xX;rw [fZ,Qaa,Qaa]) (dZ l0)).trans (by rw[hk])) (NT.cm$ by rw[Qad,Qad,Qag kl];rfl))
abbrev SG:Str:=Str.ofString "+.;A1(:!"
def SN{m:Nat}(h:m<8):∃c,du (.str SG) (nI m)= .ok (.str ⟨#[c]⟩)/\¬(97<=c/\c<=122)/\c≠32/\c≠10/\c<128:=by
 have hz:=Qav;have hl:SG.length<=sizeLine:=by rw[hz];decide+kernel
 rcases(show m=0\/m=1\/m=2\/m=3\/m=4\/m=5\/m=6\/m=7 by omega) with rfl | rfl | rfl | rfl | rfl | rfl | rfl | rfl
 .exact⟨43,lE hl (by decide+kernel),by omega⟩
 .exact⟨46,lE hl (by decide+kernel),by omega⟩
 .exact⟨59,lE hl (by decide+kernel),by omega⟩
 .exact⟨65,lE hl (by decide+kernel),by omega⟩
 .exact⟨49,lE hl (by decide+kernel),by omega⟩
 .exact⟨40,lE hl (by decide+kernel),by omega⟩
 .exact⟨58,lE hl (by decide+kernel),by omega⟩
 .exact⟨33,lE hl (by decide+kernel),by omega⟩
def Fx{f:FD}{fs:au->R (List D)}{δ:au}{x:Str}(h1:f δ= .ok (.str x))(h2:fs δ= .ok [.str TX.SP])(h:x.length<=10000000):zk f fs δ= .ok ((Txt.split x TX.SP).map .str):=by
 have h3:=uW (c:=32) h;unfold zk;rw[h1,R.aK,h2,R.aK];obtain⟨h4,_⟩:=R.aL h3;exact bG _$ Qae h4
def z7{ws:List Str}(h:cQ ws=true):e_ (.str TX.SP) [.lst$ ws.map .str]= .ok (.str$ Str.join TX.SP ws):=by
 refine uM ?_;unfold cQ at h;simp at h;have:=h.2.2.2.2.2;have e:TX.SP.length=1:=by decide+kernel
 rw[e];omega
def Lo{w:Str}{c:Nat}(h:Gd w)(hc:c≠32/\c≠10/\c<128):fX (w++⟨#[c]⟩:Str)=true:=yT (EA h.wo) (by unfold fX;simp;omega)
def FE{ws:List Str}{ds:List D}(G:Gr ws){kind:Nat}(hk:3<=kind/\kind<=5)(cell:Int)(Rt:Mi [SO.lst ds]):W3 (mL [.d$ .str$ Str.join TX.SP ws, .d$ nI kind, .d$ .int cell] [SO.lst ds]) λv S1=>S1=[SO.lst ds]/\∃EL,cQ EL=true/\v= .d (.str$ Str.join TX.SP EL):=by
 have hz:=Qav;have l3:=G.l3;have l6:=G.l6;have Kc:=NP G;have rE:ws≠[]:=λe=>by rw[e] at l3;simp at l3
 unfold mL;refine IU Rt$ UU rfl ?_;simp only[fm,kY,List.map,List.length,List.replicate,Qbe,QbC,Nat.reduceAdd,Nat.reduceSub];unfold og;refine de<|g7 (by simp)<|AB (ds:=ws.map .str) ((Fx (x:=Str.join TX.SP ws) rfl rfl$ by omega).trans$ by rw[Ep G]) ⟨_,rfl,?_⟩
 simp only[List.set];refine BL<|F7<|CG (b:=decide$ kind=3) (cG (a:=nI kind) (b:=nI 3) rfl rfl$ uq _ _) ?_
 by_cases k3:kind=3
 .rw [Qac k3,Qap rfl];obtain⟨at',hat⟩:∃a,stN cell 74 % ws.length=a:=⟨_,rfl⟩;have hal:at'<ws.length:=by rw[<-hat];exact QbG _ (by omega)
  refine de<|g7 (by simp)<|MN (d:=nI at') (ax (a:=nI$ stN cell 74) (b:=nI ws.length) (ay (ds:=[.int cell,nI 74]) rfl$ lJ _ 74) (ay (ds:=[.lst$ ws.map .str]) rfl$ by rw[fZ,Qaa])$ by rw[dZ (by omega),hat]) rfl ⟨_,rfl,?_⟩
  simp only[List.set];obtain⟨w,hw⟩:∃w,ws[at']? =some w:=⟨_,Qag hal⟩;have gw:=G.gd w$ Qan hw;have xw:=gw.wo.len;obtain⟨c,hc1,hc2,hc3⟩:=SN (m:=stN cell 71 % 8) (QbG _$ by omega)
  have l1:(⟨#[c]⟩:Str).length=1:=rfl;refine de<|Dw<|MN (d:= .str$ w++⟨#[c]⟩) (ax (a:= .str w) (b:= .str ⟨#[c]⟩) (ax (a:= .lst$ ws.map .str) (b:=nI at') rfl rfl$ NT.cm$ by rw[Qad,hw];rfl) (ax (a:= .str SG) (b:=nI$ stN cell 71 % 8) rfl (ax (a:=nI$ stN cell 71) (b:=nI 8) (ay (ds:=[.int cell,nI 71]) rfl$ lJ _ 71) rfl$ dZ$ by omega) hc1)$ cn$ by rw[l1];omega) rfl<|w_var rfl<|fH (d:=nI at') rfl ⟨_,_,_,_,at',rfl,rfl,rfl,rfl,NT.rT (by rw[Qaa];exact hal),_,rfl,?_⟩
  have hset:(ws.map D.str).set at' (.str$ w++⟨#[c]⟩)=(ws.set at'$ w++⟨#[c]⟩).map .str:=by rw[List.map_set]
  show W3 (cx _ _ _ [SO.lst ds,SO.lst$ (ws.map D.str).set at'$ .str$ w++⟨#[c]⟩]) _;rw[hset];have XO:(ws.set at'$ w++⟨#[c]⟩)[at']? =some (w++⟨#[c]⟩):=by rw[Qam hal]
  have ixw:∀δ:au,ai 3 δ= .ok (.lst$ (ws.set at'$ w++⟨#[c]⟩).map .str)->ai 4 δ= .ok (nI at')->e2 du (ai 3) (ai 4) δ= .ok (.str$ w++⟨#[c]⟩):=λδ h1 h2=>ax h1 h2 (NT.cm$ by rw[Qad,XO];rfl)
  have okc:=Es gw.ne gw.ls hc2;have chc:=Lo gw hc3;have lwc:(w++⟨#[c]⟩:Str).length<=11:=by rw[Qax,l1];omega
  refine de$ W3.mono (Q:=λo S1=>∃w',y9 w'=false/\fX w'=true/\w'.length<=20/\o= .nx [some$ .d$ .str$ Str.join TX.SP ws,some$ .d$ nI kind,some$ .d$ .int cell,some$ .loc 1,some$ .d$ nI at']/\S1=[SO.lst ds,SO.lst$ (ws.set at' w').map .str]) ?_ ?_
  .refine F7<|ON (b:=((⟨#[c]⟩:Str)==Str.ofString "1") && Txt.contains (w++⟨#[c]⟩) (Str.ofString ":")) (uP (cG (a:= .str ⟨#[c]⟩) (b:= .str$ Str.ofString "1") (iS (d:= .str$ w++⟨#[c]⟩) (lo:=some (-1)) (hi:=none) (ixw _ rfl rfl) (c9 rfl) rfl$ (B8$ by omega).trans$ by rw[Hg]) rfl$ vQ _ _) λ_=>cG (a:= .str$ Str.ofString ":") (b:= .str$ w++⟨#[c]⟩) rfl (ixw _ rfl rfl) rfl) ?_
   cases hb:(((⟨#[c]⟩:Str)==Str.ofString "1") && Txt.contains (w++⟨#[c]⟩) (Str.ofString ":")) with
   | false=>exact y4 ⟨_,okc,chc,by omega,rfl,rfl⟩
   | true=>
     have hc49:c=49:=by
      have h1:=(Qa8.mp hb).1;have h2:(⟨#[c]⟩:Str).cps.toList=(Str.ofString "1").cps.toList:=by rw[Qa3.mp h1]
      rw[show(Str.ofString "1").cps.toList=[49] by decide+kernel] at h2
      have h3:[c]=[49]:=h2;exact List.head_eq_of_cons_eq h3
     have e1:Str.ofString "1"=(⟨#[49]⟩:Str):=by decide+kernel
     have w2:1<=(w++⟨#[c]⟩:Str).length:=by rw[Qax,l1];omega
     have ok2:y9 (w++⟨#[c]⟩++Str.ofString "1":Str)=false:=by
      rw[e1];refine Es w2 ?_ (by omega)
      rw[bq,hc49];show(w.cps.toList++[49]).getLast?≠_;simp
     have ch2:fX (w++⟨#[c]⟩++Str.ofString "1":Str)=true:=yT chc (by decide+kernel)
     have l2:(Str.ofString "1").length=1:=by decide+kernel
     refine Dw<|MN (d:= .str$ w++⟨#[c]⟩++Str.ofString "1") (ax (a:= .str$ w++⟨#[c]⟩) (b:= .str$ Str.ofString "1") (ixw _ rfl rfl) rfl$ cn$ by rw[l2];omega) rfl<|w_var rfl<|fH (d:=nI at') rfl ⟨_,_,_,_,at',rfl,rfl,rfl,rfl,NT.rT (by rw[Qaa,QaM];exact hal),_,ok2,ch2,by rw[Qax,l2];omega,rfl,?_⟩
     show [SO.lst ds,SO.lst$ ((ws.set at'$ w++⟨#[c]⟩).map D.str).set at'$ .str$ w++⟨#[c]⟩++Str.ofString "1"]=_;rw[show((ws.set at'$ w++⟨#[c]⟩).map D.str).set at' (.str$ w++⟨#[c]⟩++Str.ofString "1")=((ws.set at'$ w++⟨#[c]⟩).set at'$ w++⟨#[c]⟩++Str.ofString "1").map .str by simp only[List.map_set],List.set_set]
  rintro o S1 ⟨w',ok',ch',lw',rfl,rfl⟩;have hb:=KP G hal ok' ch' lw';exact⟨_,rfl,qB<|MN (d:= .str$ Str.join TX.SP$ ws.set at' w') (jy (x:=TX.SP) rfl (aw rfl rfl)$ z7 hb) rfl ⟨_,rfl,rfl,⟨_,rfl⟩,_,rfl,trivial,_,hb,rfl⟩⟩
 .rw [Qaf k3,Qaj$ by decide]
  refine y4 ?_;obtain⟨w0,hw0⟩:∃w,ws[0]? =some w:=⟨_,Qag$ by omega⟩
  have ew0:wd ws 0=w0:=by unfold wd;rw [Qaz,hw0];rfl
  have take_ok:∀(k:Nat) (f:FD) (δ:au),k<=ws.length->ai 3 δ= .ok (.lst$ ws.map .str)->f δ= .ok (nI k)->cQ (ws.take k)=true->xH "str" e_ (eC$ .str TX.SP) (ag (wU (ai 3) h_$ eB f) aI) δ= .ok (.str$ Str.join TX.SP$ ws.take k):=λk f δ hk h1 h2 hb=>jy (x:=TX.SP) rfl (aw (iS (d:= .lst$ ws.map .str) (lo:=none) (hi:=some (k:Int)) h1 rfl (c9 h2)$ by rw[D7,<-Qb8]) rfl)$ z7 hb
  refine BL<|F7<|ON (b:=decide (kind=4) && !(w0==Str.ofString "out")) (uP (cG (a:=nI kind) (b:=nI 4) rfl rfl$ uq _ _) λ_=>cG (a:= .str w0) (b:= .str$ Str.ofString "out") (ax (a:= .lst$ ws.map .str) (b:=nI 0) rfl rfl$ NT.cm$ by rw[Qad,hw0];rfl) rfl$ IZ _ _) ?_
  cases hb:(decide (kind=4) && !(w0==Str.ofString "out")) with
  | true=>
    have hno:w0≠Str.ofString "out":=λe=>by rw[e] at hb;simp at hb
    have hm:stN cell 72 % (ws.length - 1)<ws.length - 1:=QbG _ (by omega)
    have bt:=AS G (k:=1+stN cell 72 % (ws.length - 1)) (by omega) (by omega)$ λe=>absurd (ew0▸e) hno
    refine qB<|MN (d:= .str$ Str.join TX.SP$ ws.take$ 1+stN cell 72 % (ws.length - 1)) (take_ok _ _ _ (by omega) rfl (ax (a:=nI 1) (b:=nI$ stN cell 72 % (ws.length - 1)) rfl (ax (a:=nI$ stN cell 72) (b:=nI$ ws.length - 1) (ay (ds:=[.int cell,nI 72]) rfl$ lJ _ 72) (ax (a:=nI ws.length) (b:=nI 1) (ay (ds:=[.lst$ ws.map .str]) rfl$ by rw[fZ,Qaa]) rfl$ Dz$ by omega)$ dZ$ by omega)$ mC _ _) bt) rfl ?_
    exact⟨_,rfl,rfl,⟨_,rfl⟩,_,rfl,trivial,_,bt,rfl⟩
  | false=>
    rw[Qaj$ by decide]
    refine y4 ?_;refine BL<|F7<|CG (b:=decide$ kind=4) (cG (a:=nI kind) (b:=nI 4) rfl rfl$ uq _ _) ?_
    by_cases k4:kind=4
    .rw [Qac k4,Qap rfl];have hm:stN cell 72 % 2<2:=QbG _ (by omega)
     have bt:=AS G (k:=1+stN cell 72 % 2) (by omega) (by omega) (λ_=>by omega)
     refine qB<|MN (d:= .str$ Str.join TX.SP$ ws.take$ 1+stN cell 72 % 2) (take_ok _ _ _ (by omega) rfl (ax (a:=nI 1) (b:=nI$ stN cell 72 % 2) rfl (ax (a:=nI$ stN cell 72) (b:=nI 2) (ay (ds:=[.int cell,nI 72]) rfl$ lJ _ 72) rfl$ dZ$ by omega)$ mC _ _) bt) rfl ?_
     exact⟨_,rfl,rfl,⟨_,rfl⟩,_,rfl,trivial,_,bt,rfl⟩
    .rw [Qaf k4,Qaj$ by decide]
     refine y4 ?_;have l1:TX.SP.length=1:=by decide+kernel
     have hr:Hl 0 TX.SP TX.SP (Str.ofString "  ")=Hl 0 TX.SP TX.SP (Str.ofString "  "):=rfl;have hro:xG (Str.join TX.SP ws) TX.SP TX.SP (Str.ofString "  ")=true:=by
      unfold xG;rw[Qac (show(Str.join TX.SP ws).length<=1000000 by omega),show(decide (TX.SP.length<=10) && (decide ((Str.ofString "  ").length<=14) && !(TX.SP==Str.ofString "  ")))=true by decide+kernel];rfl
     have e3:∃EL,cQ EL=true/\du (.lst [.str$ TX.SP++Str.join TX.SP ws, .str$ Str.join TX.SP ws++TX.SP, .str$ Txt.replace (Str.join TX.SP ws) TX.SP$ Str.ofString "  "]) (nI$ stN cell 73 % 3)= .ok (.str$ Str.join TX.SP EL):=by
      rcases(show stN cell 73 % 3=0\/stN cell 73 % 3=1\/stN cell 73 % 3=2 by omega) with e | e | e <;> rw[e]
      .exact⟨Str.empty ::ws,Jc G (λw hw=>by simpa using hw) (by simp) (by rw[QaI];omega),by rw[JG rE];rfl⟩
      .exact⟨ws++[Str.empty],Jc G (λw hw=>by rcases Qaq.mp hw with z | z;exact .inr z;exact .inl$ QaC.mp z) (by simp) (by rw[Qar];show ws.length+1<=_;omega),by rw[post_join rE];rfl⟩
      .exact⟨Bz ws,Jc G (DQ ws) (Tv$ by omega) (by have:=DH ws;omega),by rw[IG G];rfl⟩
     obtain⟨EL,uo,e4⟩:=e3;refine qB<|fH (d:= .str$ Str.join TX.SP EL) (ax (a:= .lst [.str$ TX.SP++Str.join TX.SP ws, .str$ Str.join TX.SP ws++TX.SP, .str$ Txt.replace (Str.join TX.SP ws) TX.SP$ Str.ofString "  "]) (b:=nI$ stN cell 73 % 3) (bN$ b_ (ds:=[.str$ TX.SP++Str.join TX.SP ws, .str$ Str.join TX.SP ws++TX.SP, .str$ Txt.replace (Str.join TX.SP ws) TX.SP$ Str.ofString "  "]) (aw (ax (a:= .str TX.SP) (b:= .str$ Str.join TX.SP ws) rfl rfl$ cn$ by rw[l1];omega) ?_)$ by show 3<=sizeLine;omega) (ax (a:=nI$ stN cell 73) (b:=nI 3) (ay (ds:=[.int cell,nI 73]) rfl$ lJ _ 73) rfl$ dZ$ by omega) e4) ⟨_,rfl,rfl,⟨_,rfl⟩,_,rfl,trivial,_,uo,rfl⟩
     show R.aX (xG (Str.join TX.SP ws) TX.SP TX.SP$ Str.ofString "  ") _=_;rw[hro];rfl
structure Rq (t:Str):Prop where
 len:t.length<=6000
 cps:∀c∈t.cps.toList,c≠10/\c<1114112
section
variable {rs:List Str}(h:∀r∈rs,Rq r)
include h
def Lx(hl:rs.length<=100):e_ (.str NL) [.lst$ rs.map .str]= .ok (.str$ Str.join NL rs):=by
 refine uM ?_;have h2:=we (l:=rs.map (·.length)) λx hx=>by
  obtain⟨s,hs,rfl⟩:=QaT.mp hx;exact(h s hs).len
 rw[Qaa] at h2;have:NL.length=1:=by decide+kernel
 rw[this];omega
def Nt:(Str.join NL rs).length<=rs.length*6001:=by
 exact Bl λs hs=>(h s hs).len
def PL:∀c∈(Str.join NL rs).cps.toList,c<1114112:=λc hc=>by
 rw[Jl] at hc;rcases vN hc with z | ⟨w,hw,z⟩
 .omega
 .exact((h w hw).cps c z).2
def Hn(h0:rs≠[]):Txt.split (Str.join NL rs) NL=rs:=by
 exact om h0 λs hs hc=>((h s hs).cps 10 hc).1 rfl
end
def CY{ws:List Str}(h:cQ ws=true):Rq (Str.join TX.SP ws)/\∀d,cE d (Txt.split (Str.join TX.SP ws) TX.SP)= .error 3:=by
 have R:=Lq h;refine⟨⟨R.len,R.cps⟩,?_⟩;rcases R.by4 with⟨e,_⟩ | ⟨e,_⟩ | ⟨e,_⟩ | ⟨_,e⟩
 .exact absurd e (by show ¬BD=IN;decide+kernel)
 .exact absurd e (by show ¬BD=GA;decide+kernel)
 .exact absurd e (by show ¬BD=OU;decide+kernel)
 .exact e
theorem yc:∀(a b:List Str) {d d':Dr},dm d (a++b)= .ok d'->∃d1,dm d a= .ok d1
 | [],b,d,d',_=>⟨d,rfl⟩
 | r ::a,b,d,d',h=>by
   have h:(match cE d (Txt.split r TX.SP) with | .ok d1=>dm d1 (a++b) | .error c=> .error c)= .ok d':=h
   show ∃d1,(match cE d (Txt.split r TX.SP) with | .ok d1=>dm d1 a | .error c=> .error c)= .ok d1
   cases e:cE d (Txt.split r TX.SP) with
   | ok d1=>rw [e] at h;exact yc a b h
   | error c=>rw [e] at h;cases h
theorem yg:∀(a b:List Str) {r:Str} {d d1:Dr},dm d a= .ok d1->(∀d,cE d (Txt.split r TX.SP)= .error 3)->dm d (a++r ::b)= .error 3
 | [],b,r,d,d1,_,hr=>by
   show(match cE d (Txt.split r TX.SP) with | .ok d1=>dm d1 b | .error c=> .error c)=_
   rw[hr d]
 | x ::a,b,r,d,d1,h,hr=>by
   have h:(match cE d (Txt.split x TX.SP) with | .ok d1=>dm d1 a | .error c=> .error c)= .ok d1:=h
   show(match cE d (Txt.split x TX.SP) with | .ok d1=>dm d1 (a++r ::b) | .error c=> .error c)=_
   cases e:cE d (Txt.split x TX.SP) with
   | ok d2=>rw [e] at h;exact yg a b h hr
   | error c=>rw [e] at h;cases h
def DZ{ds:List D}{n:Nat}:JS (.lst ds) (some (n:Int)) none= .ok (.lst$ ds.drop n):=by
 by_cases h:n<=ds.length
 .exact rY h
 .show R.ok (D.lst$ L2.cutD ds (some (n:Int)) none)=_;unfold L2.cutD;rw[HT.qb,HT.si,Nat.min_eq_right (by omega),List.drop_of_length_le (by omega:ds.length<=n),List.drop_of_length_le$ Qak _]
  simp
def Ip(ns:List Int)(hn:ns.length<=63):DC [.lst$ ns.map D.int]= .ok (.bl true):=by
 have hz:=Qav;have f0:Flat ([]:aP):=Flat.nil;have key:W3 (zR t8 xF [.d$ .lst$ ns.map .int] []) λv S1=>v= .d (.bl true)/\S1=[]:=by
  refine IU f0.clo$ UU rfl ?_;simp only[fm,t8,List.map,List.length,List.replicate,Qbe,QbC,Nat.reduceAdd,Nat.reduceSub];obtain⟨ins,gs,os,hnet,T,_⟩:=NI$ ns.drop 3;obtain⟨gn,hgn,G⟩:=xm T.i6 T.g60$ ns.getD 3 0+1;have h6:=T.i6;have h60:=T.g60;have ho6:=T.o6;refine de<|g7 (by simp)<|fH (ay (aw (iS (lo:=some ((3:Nat):Int)) rfl (c9 rfl) rfl$ by rw[DZ,QbO]) rfl) hnet) ⟨_,rfl,?_⟩
  refine de<|g7 (by simp)<|CB<|bV<|fH rfl<|bV<|fH (ay (aw rfl$ aw (ax (ay rfl$ sE ns 3) rfl rfl) rfl) hgn)<|gS<|(Oo T G).mono ?_
  rintro v S1 ⟨rfl,rfl⟩;have hrr:=ES T G;have hlen:=KU T G;have hro:=Pr T G;have hgr:=Pz T G;generalize FJ ins gs os gn=RW at hrr hlen hro hgr;obtain⟨rs,hrs⟩:∃rs,RW.map (Str.join TX.SP)=rs:=⟨_,rfl⟩;have hl:rs.length<=72:=by rw[<-hrs,Qaa];omega
  have hrq:∀r∈rs,Rq r:=λr hr=>by
   have:=hro r (by rw[hrs];exact hr)
   exact⟨by have:=this.len;omega,λc hc=>by have:=this.cps c hc;omega⟩
  rw[hrs] at hrr ⊢;have hok:∃d,dm d0 rs= .ok d:=by
   unfold px at hrr;split at hrr
   .cases hrr
   .split at hrr
    .cases hrr
    .rename_i d e;exact⟨d,e⟩
  obtain⟨dE,hdE⟩:=hok;refine⟨_,rfl,?_⟩;obtain⟨at',hat⟩:∃a:Nat,ns.getD 0 0 % ((rs.length+1:Nat):Int)=(a:Int):=⟨_,(Qcx$ Int.emod_nonneg _$ by omega).symm⟩
  have hal:at'<=rs.length:=by
   have:=QcE (ns.getD 0 0) (show(0:Int)<((rs.length+1:Nat):Int) by omega)
   omega
  obtain⟨kd,hkd⟩:∃a:Nat,ns.getD 1 0 % 6=(a:Int):=⟨_,(Qcx$ Int.emod_nonneg _$ by omega).symm⟩
  have hk6:kd<6:=by
   have:=QcE (ns.getD 1 0) (show(0:Int)<6 by omega)
   omega
  refine de<|g7 (by simp)<|MN (d:=nI at') (ax (ay rfl$ sE ns 0) (ax (b:=nI 1) (ay rfl$ by rw[fZ,Qaa]) rfl$ mC _ _)$ (qX$ by omega).trans$ by rw[hat];rfl) rfl ⟨_,rfl,?_⟩
  refine de<|g7 (by simp)<|fH (d:=nI kd) (ax (ay rfl$ sE ns 1) rfl$ (qX$ by omega).trans$ by rw[hkd];rfl) ⟨_,rfl,?_⟩
  obtain⟨cl,Rt⟩:∃c,ns.getD 2 0=c:=⟨_,rfl⟩;refine de<|g7 (by simp)<|fH (ay (ds:=[.lst$ ns.map .int,nI 2]) rfl$ by rw[sE,Rt]) ⟨_,rfl,?_⟩
  obtain⟨bw,hbw,ebw⟩:=Nz cl;refine de$ W3.mono (Q:=λo S1=>∃(b:Str) (pre post:List Str) (k:Nat),Rq b/\(∀d,cE d (Txt.split b TX.SP)= .error 3)/\pre.length+post.length<=72/\(∃p,pre++p=rs)/\(∀r∈post,Rq r)/\o= .nx [some$ .d$ .lst$ ns.map .int,some$ .d$ qt ins gs os,some$ .loc k,some$ .d$ nI at',some$ .d$ nI kd,some$ .d$ .int cl]/\S1[k]? =some (.lst$ (pre++b ::post).map .str)/\∃S0:aP,S1.set k .mq=S0/\∀x∈S0,x=SO.mq) ?_ ?_
  .have drp:∀m,∀r∈rs.drop m,Rq r:=λm r hr=>hrq r (QbF hr)
   refine F7<|ON (n_ (cG rfl rfl$ EN _ _) λ_=>cG rfl (ay rfl$ by rw[fZ,Qaa])$ uq _ _) ?_
   cases hb:(decide (kd<2) || decide (at'=rs.length)) with
   | true=>
     refine M5 rfl rfl ?_;obtain⟨q1,q2⟩:=CY hbw;refine g7 (by simp)<|SU<|fH (d:= .lst$ (rs.take at'++[Str.join TX.SP bw]).map .str) (ax (a:= .lst$ (rs.take at').map .str) (iS rfl rfl (c9 rfl)$ by rw[D7,Qb8]) (bN$ b_ (aw (ay rfl ebw) rfl)$ by show 1<=sizeLine;omega) ((nT$ by rw[Qaa,QaO];show _+1<=_;omega).trans$ by rw[QaN];rfl))<|fH (d:= .lst$ (rs.drop at').map .str) (iS rfl (c9 rfl) rfl$ by rw[DZ,QbO]) ⟨_,_,rfl,rfl,by rw[Qaa,Qaa,Qar,QaO,Qbd];show _+1+_<=_;omega,_,rs.take at',rs.drop at',1,q1,q2,by rw[QaO,Qbd];omega,⟨_,List.take_append_drop at' rs⟩,drp at',rfl,?_,_,rfl,by simp⟩
     rw[<-QaN,QaE];rfl
   | false=>
     simp at hb;have hlt:at'<rs.length:=by omega
     have hset:∀b:Str,(rs.map D.str).set at' (.str b)=(rs.take at'++b ::rs.drop (at'+1)).map .str:=λb=>by rw[<-List.map_set,List.set_eq_take_append_cons_drop,Qap hlt]
     have Nk:(rs.take at').length+(rs.drop$ at'+1).length<=72:=by rw[QaO,Qbd];omega
     have Dt:∃p,rs.take at'++p=rs:=⟨_,List.take_append_drop at' rs⟩;refine F7<|CG (cG rfl rfl$ uq _ _) ?_
     by_cases k2:kd=2
     .rw [Qac k2,Qap rfl];obtain⟨q1,q2⟩:=CY hbw;refine Dw<|fH (ay rfl ebw)<|w_var rfl<|fH rfl ⟨_,_,_,_,at',rfl,rfl,rfl,rfl,NT.rT (by rw[Qaa];exact hlt),_,rs.take at',rs.drop$ at'+1,0,q1,q2,Nk,Dt,drp _,rfl,?_,_,rfl,by simp⟩
      show some (SO.lst$ (rs.map D.str).set at'$ .str$ Str.join TX.SP bw)=_;rw[hset]
     .rw [Qaf k2,Qaj$ by decide]
      have Uh:at'<RW.length:=by rw[<-hrs,Qaa] at hlt;exact hlt
      obtain⟨ws,yl⟩:∃ws,RW[at']? =some ws:=⟨_,Qag Uh⟩;have Gw:=hgr ws$ Qan yl;have hr:rs[at']? =some (Str.join TX.SP ws):=by rw[<-hrs,Qad,yl];rfl
      have clo:Mi [SO.lst$ rs.map .str]:=λo ho=>by rw[QaC.mp ho];rfl
      refine Dw<|CB<|bV<|MN (ax rfl rfl$ NT.cm$ by rw[Qad,hr];rfl) rfl<|bV<|fH rfl<|bV<|fH rfl<|gS<|(FE Gw (by omega) cl clo).mono ?_
      rintro v S1 ⟨rfl,EL,X6,rfl⟩;obtain⟨q1,q2⟩:=CY X6;refine w_var rfl<|fH rfl ⟨_,_,_,_,at',rfl,rfl,rfl,rfl,NT.rT (by rw[Qaa];exact hlt),_,rs.take at',rs.drop$ at'+1,0,q1,q2,Nk,Dt,drp _,rfl,?_,_,rfl,by simp⟩
      show some (SO.lst$ (rs.map D.str).set at'$ .str$ Str.join TX.SP EL)=_;rw[hset]
  rintro o S1 ⟨b,pre,post,k,q1,q2,oB,⟨p,hp⟩,hpost,rfl,hS,S0,hS0,GO⟩;refine⟨_,rfl,M5 rfl hS ?_⟩;rw[hS0];have clo:Mi S0:=λo ho=>by rw[GO o ho];rfl
  have hR:∀r∈pre++b ::post,Rq r:=λr hr=>by
   rcases Qaq.mp hr with z | z
   .exact hrq r (by rw[<-hp];exact Qa7 _ z)
   .rcases QaF.mp z with rfl | z
    .exact q1
    .exact hpost r z
  have Ry:(pre++b ::post).length<=73:=by rw[Qar,QaI];omega
  obtain⟨d1,hd1⟩:=yc pre p (by rw[hp];exact hdE)
  have hbad:px (pre++b ::post)= .error 3:=by
   unfold px;rw[Qaj (by omega),yg pre post hd1 q2]
  have GC:=Hn hR (by simp)
  have htl:=Nt hR;have hcp:=PL hR;have hjn:=Lx hR (by omega)
  have Uw:(pre++b ::post).length*6001<=73*6001:=Nat.mul_le_mul_right _ Ry;generalize pre++b ::post=rows at GC htl hcp hjn Uw hbad;have rd:=K_ (S:=S0) (text:=Str.join NL rows) ⟨by omega,λc hc=>by have:=hcp c hc;omega⟩
  refine qB<|TJ<|CB<|bV<|fH rfl<|gS<|C_ clo hjn rd (by rw[GC,hbad];exact⟨by omega,by omega,rfl⟩)<|fH (d:=KI$ some 1) ?_ ⟨_,_, .bl true,rfl,rfl,?_,_,rfl,rfl,⟨S0,rfl⟩,_,rfl,rfl,trivial⟩
  .exact bN (d6 (uh (n:=14) rfl$ by omega) (by simp;omega)$ NT.cT nI (λk=> .bl$ decide$ 1=k) λk _=>⟨[.val$ nI k],rfl,rfl,(ax rfl rfl$ uq _ _).trans$ by rw[show decide (k=1)=decide (1=k) from decide_eq_decide.mpr ⟨Eq.symm,Eq.symm⟩]⟩)
  .have:KI (some 1)= .lst (((List.range 14).map λk=>decide$ 1=k).map .bl):=by unfold KI;rw [Qa5];rfl
   rw[this];exact Ie _
 obtain⟨v,S1,e1,rH,e3⟩:=key;unfold DC UQ;show(match zR t8 xF ([D.lst$ ns.map D.int].map V3.d) [] with | .ok (.d d) []=>R.aX d.atom (R.ok d) | _=> .no)=_
 rw[show [D.lst$ ns.map D.int].map V3.d=[V3.d$ .lst$ ns.map .int] from rfl,e1,rH,e3]
 rfl
end K03
end
open PySem PySem.W PyProof.Rows
set_option maxRecDepth 100000 in
set_option maxHeartbeats 0 in
theorem PySem.Challenge.cw_bearfaults_k03_rows_of_no_form_holds : PySem.Challenge.rw_bearfaults_k03_rows_of_no_form.Holds := by
 w_on;o_law;k_head;(case hw=>w_witness2)
 k_fill
 refine L2.Sn (l:=PySem.Challenge.rw_bearfaults_k03_rows_of_no_form) (n:=63) (k:=8) (x:="script") (g:=K03.DC) rfl (by decide) rfl ⟨rfl,by decide,by decide⟩ (fun w h Y=>PySem.W.kIn_of Y) ?F K03.Ip
 case F=>
  intro w mg fa h KX G Ur
  have tW:L2.Def (L2.eZ KX) mg "is_name" K03.nF:=by
   dsimp only[L2.eZ]
   refine' L2.cY KX G ?a ?l ?c ?k;case a|l|c|k=>k_is
  have rD:L2.Def (L2.eZ KX) mg "in_wires" K03.lP:=by
   dsimp only[L2.eZ]
   refine' L2.cY KX G ?a ?l ?c ?k;case a|l|c|k=>k_is
  have l9:L2.Def (L2.eZ KX) mg "is_wire_form" K03.eM:=by
   dsimp only[L2.eZ]
   refine' L2.cY KX G ?a ?l ?c ?k;case a|l|c|k=>k_is
  have jg:L2.Def (L2.eZ KX) mg "are_wire_forms" K03.dI:=by
   dsimp only[L2.eZ]
   refine' L2.cY KX G ?a ?l ?c ?k;case a|l|c|k=>k_is
  have oy:L2.Def (L2.eZ KX) mg "is_in_form" K03.gR:=by
   dsimp only[L2.eZ]
   refine' L2.cY KX G ?a ?l ?c ?k;case a|l|c|k=>k_is
  have lY:L2.Def (L2.eZ KX) mg "is_gate_form" K03.eK:=by
   dsimp only[L2.eZ]
   refine' L2.cY KX G ?a ?l ?c ?k;case a|l|c|k=>k_is
  have mZ:L2.Def (L2.eZ KX) mg "is_out_form" K03.fN:=by
   dsimp only[L2.eZ]
   refine' L2.cY KX G ?a ?l ?c ?k;case a|l|c|k=>k_is
  have rA:L2.Def (L2.eZ KX) mg "read_row" K03.lI:=by
   dsimp only[L2.eZ]
   refine' L2.cY KX G ?a ?l ?c ?k;case a|l|c|k=>k_is
  have Ds:L2.Def (L2.eZ KX) mg "read" K03.wA:=by
   dsimp only[L2.eZ]
   refine' L2.cY KX G ?a ?l ?c ?k;case a|l|c|k=>k_is
  have mU:L2.Def (L2.eZ KX) mg "_law_cell_at" K03.fO:=by
   dsimp only[L2.eZ]
   refine' L2.cY KX G ?a ?l ?c ?k;case a|l|c|k=>k_is
  have rC:L2.Def (L2.eZ KX) mg "_law_stir" K03.lM:=by
   dsimp only[L2.eZ]
   refine' L2.cY KX G ?a ?l ?c ?k;case a|l|c|k=>k_is
  have pU:L2.Def (L2.eZ KX) mg "_law_names" K03.jR:=by
   dsimp only[L2.eZ]
   refine' L2.cY KX G ?a ?l ?c ?k;case a|l|c|k=>k_is
  have pT:L2.Def (L2.eZ KX) mg "_law_wires" K03.jL:=by
   dsimp only[L2.eZ]
   refine' L2.cY KX G ?a ?l ?c ?k;case a|l|c|k=>k_is
  have rG:L2.Def (L2.eZ KX) mg "_law_gate" K03.lq:=by
   dsimp only[L2.eZ]
   refine' L2.cY KX G ?a ?l ?c ?k;case a|l|c|k=>k_is
  have tR:L2.Def (L2.eZ KX) mg "_law_net" K03.ng:=by
   dsimp only[L2.eZ]
   refine' L2.cY KX G ?a ?l ?c ?k;case a|l|c|k=>k_is
  have pS:L2.Def (L2.eZ KX) mg "_law_words" K03.jN:=by
   dsimp only[L2.eZ]
   refine' L2.cY KX G ?a ?l ?c ?k;case a|l|c|k=>k_is
  have rp:L2.Def (L2.eZ KX) mg "_law_rows" K03.lj:=by
   dsimp only[L2.eZ]
   refine' L2.cY KX G ?a ?l ?c ?k;case a|l|c|k=>k_is
  have ja:L2.Def (L2.eZ KX) mg "_law_gate_names" K03.dA:=by
   dsimp only[L2.eZ]
   refine' L2.cY KX G ?a ?l ?c ?k;case a|l|c|k=>k_is
  have tU:L2.Def (L2.eZ KX) mg "_law_bad" K03.nJ:=by
   dsimp only[L2.eZ]
   refine' L2.cY KX G ?a ?l ?c ?k;case a|l|c|k=>k_is
  have mX:L2.Def (L2.eZ KX) mg "_law_refused" K03.fM:=by
   dsimp only[L2.eZ]
   refine' L2.cY KX G ?a ?l ?c ?k;case a|l|c|k=>k_is
  have ox:L2.Def (L2.eZ KX) mg "_law_spoilt" K03.gU:=by
   dsimp only[L2.eZ]
   refine' L2.cY KX G ?a ?l ?c ?k;case a|l|c|k=>k_is
  have D_law:L2.Def (L2.eZ KX) mg "law" K03.DU:=by
   dsimp only[L2.eZ]
   refine' L2.cY KX G ?a ?l ?c ?k;case a|l|c|k=>k_is
  have wH:L2.Glob (L2.eZ KX) mg "MOST_LETTERS" K03.eP:=by
   dsimp only[L2.eZ]
   refine' L2.nj KX G ?a
   (case a=>k_is)
  have JQ:L2.Glob (L2.eZ KX) mg "BARRED" K03.o4:=by
   dsimp only[L2.eZ]
   refine' L2.A6 KX G ["in","gate","sure","out","not","and","or","xor","vote"] ?a ?l ?c ?d ?z ?r
   (case a=>k_is);(case l=>k_is);(case c=>rfl);(case d=>rfl);(case z=>decide);(case r=>exact .cons ⟨_,rfl⟩ (.cons ⟨_,rfl⟩ (.cons ⟨_,rfl⟩ (.cons ⟨_,rfl⟩ (.cons ⟨_,rfl⟩ (.cons ⟨_,rfl⟩ (.cons ⟨_,rfl⟩ (.cons ⟨_,rfl⟩ (.cons ⟨_,rfl⟩ (.nil))))))))))
  have Gz:L2.Glob (L2.eZ KX) mg "LETTERS" K03.nB:=by
   dsimp only[L2.eZ]
   refine' L2.Ii KX G ?a
   (case a=>k_is)
  have GF:L2.Glob (L2.eZ KX) mg "FIGURES" K03.m4:=by
   dsimp only[L2.eZ]
   refine' L2.A6 KX G ["0","1","2","3","4","5","6","7","8","9"] ?a ?l ?c ?d ?z ?r
   (case a=>k_is);(case l=>k_is);(case c=>rfl);(case d=>rfl);(case z=>decide);(case r=>exact .cons ⟨_,rfl⟩ (.cons ⟨_,rfl⟩ (.cons ⟨_,rfl⟩ (.cons ⟨_,rfl⟩ (.cons ⟨_,rfl⟩ (.cons ⟨_,rfl⟩ (.cons ⟨_,rfl⟩ (.cons ⟨_,rfl⟩ (.cons ⟨_,rfl⟩ (.cons ⟨_,rfl⟩ (.nil)))))))))))
  have tS:L2.Glob (L2.eZ KX) mg "MOST_OUT_WIRES" K03.dv:=by
   dsimp only[L2.eZ]
   refine' L2.nj KX G ?a
   (case a=>k_is)
  have Dp:L2.Glob (L2.eZ KX) mg "MOST_INS" K03.lB:=by
   dsimp only[L2.eZ]
   refine' L2.nj KX G ?a
   (case a=>k_is)
  have zK:L2.Glob (L2.eZ KX) mg "MOST_GATES" K03.hJ:=by
   dsimp only[L2.eZ]
   refine' L2.nj KX G ?a
   (case a=>k_is)
  have Bs:L2.Glob (L2.eZ KX) mg "MOST_OUTS" K03.jC:=by
   dsimp only[L2.eZ]
   refine' L2.nj KX G ?a
   (case a=>k_is)
  have Bt:L2.Glob (L2.eZ KX) mg "MOST_ROWS" K03.jG:=by
   dsimp only[L2.eZ]
   refine' L2.nj KX G ?a
   (case a=>k_is)
  have GD:L2.pf PySem.Challenge.rw_bearfaults_k03_rows_of_no_form.prog w (L2.eZ KX) mg "WIDTHS" K03.qm:=by
   dsimp only[L2.eZ]
   refine' L2.Bc KX G [("1",_,1,_),("2",_,2,_),("3",_,3,_)] ?a ?l ?s ?k ?d ?m ?z
   (case a=>k_is);(case l=>k_is);(case s=>rfl);(case k=>rfl);(case d=>decide);(case m=>rfl);(case z=>decide)
  have xy:L2.pf PySem.Challenge.rw_bearfaults_k03_rows_of_no_form.prog w (L2.eZ KX) mg "KIND_WIRES" K03.jx:=by
   dsimp only[L2.eZ]
   refine' L2.Bc KX G [("not",_,1,_),("and",_,2,_),("or",_,2,_),("xor",_,2,_),("vote",_,3,_)] ?a ?l ?s ?k ?d ?m ?z
   (case a=>k_is);(case l=>k_is);(case s=>rfl);(case k=>rfl);(case d=>decide);(case m=>rfl);(case z=>decide)
  obtain⟨cl,CF⟩:∃cl,K03.Cf (L2.eZ KX) mg cl:=by
   dsimp only[L2.eZ]
   refine' K03.SX KX G ?jX8 ?jXy ?jXu ?jYU ?jYJ ?jXM ?jYW ?jDn ?jwG ?jzF ?jwL ?joA ?jrh ?jXx ?jXj ?jXX ?jYS ?jXW ?jYM ?jYL ?jYK ?jYs ?jQH ?jQT ?jQL ?jQG ?jQz ?jXs ?jX7 ?jXU ?jYO ?jYv ?jXY ?jYi ?jXQ ?jT5 ?jYD ?jYB ?jXA ?jXw ?jYN ?jYA ?jSa ?jYt ?jYu ?jYn ?jXI ?jYl ?jXE ?jXv ?jYC ?jYd ?jYE ?jYG ?jXF ?jXi ?jYf ?jXl ?jYm ?jXn ?jYy ?jXr ?jXo ?jYb ?jYq ?jYg ?jX4 ?jYw ?jYH ?jX0 ?jXz ?jX9 ?jYp ?jYZ ?jYe ?jYz ?jMv ?jMw ?jmY ?jjX ?jmT ?jl8 ?jiY ?jkI ?jjc ?jwJ ?jj9 ?jiu ?jkH ?jjo ?jgh ?jiK ?jgA ?jrn ?jlW ?jju ?jmh ?jjY ?jiH ?jiZ ?jiB ?jtV ?jkj ?jik ?jj8 ?jjh ?jgq ?jig ?jgC ?jrF ?jjd ?jgb ?jje ?jiC ?jfG ?jgE ?jfF ?jpV ?joz ?jma ?joE ?jmV ?jkg ?jmi ?jj_ ?jzL ?jl7 ?jjk ?jmf ?jkE ?jiq ?jji ?jip ?jtT ?joC ?jl5 ?jot ?jmQ ?jjZ ?jl_ ?jkm ?jzM ?jkz ?jiz ?jky ?jjt ?jgG ?jiA ?jgr ?jrq ?jmS ?jjW ?jmW ?jmd ?ji5 ?jkc ?ji3 ?jwI ?ji7 ?jgf ?jjq ?jiE ?jfD ?jf9 ?jfw ?jpX ?jjl ?jgp ?ji0 ?jiJ ?jfE ?jgH ?jfB ?jpW ?jgu ?jeW ?jf_ ?jfA ?jel ?jeX ?jei ?jmR ?jkh ?jiy ?jj0 ?jjf ?jgI ?jij ?jgc ?jrm ?jgm ?jeV ?jgg ?jft ?jeh ?jeS ?jeo ?jlV ?jlX ?jmj ?jeF ?jiF ?jeQ ?jeU ?jeT ?jcz ?jdg ?jjb ?jjs ?jjm ?jdy ?je8 ?jkJ ?jj6 ?jkr ?jd7 ?jfU ?ji4 ?ji9 ?jjj ?jdw ?ji8
   (case jX8=>k_is)
   (case jXy=>k_is)
   (case jXu=>k_is)
   (case jYU=>k_is)
   (case jYJ=>k_is)
   (case jXM=>k_is)
   (case jYW=>k_is)
   (case jDn=>k_is)
   (case jwG=>k_is)
   (case jzF=>k_is)
   (case jwL=>k_is)
   (case joA=>k_is)
   (case jrh=>k_is)
   (case jXx=>k_is)
   (case jXj=>k_is)
   (case jXX=>k_is)
   (case jYS=>k_is)
   (case jXW=>k_is)
   (case jYM=>k_is)
   (case jYL=>k_is)
   (case jYK=>k_is)
   (case jYs=>k_is)
   (case jQH=>k_is)
   (case jQT=>k_is)
   (case jQL=>k_is)
   (case jQG=>k_is)
   (case jQz=>k_is)
   (case jXs=>kernel_rfl)
   (case jX7=>k_is)
   (case jXU=>k_is)
   (case jYO=>k_is)
   (case jYv=>k_is)
   (case jXY=>k_is)
   (case jYi=>kernel_rfl)
   (case jXQ=>kernel_rfl)
   (case jT5=>k_is)
   (case jYD=>k_is)
   (case jYB=>k_is)
   (case jXA=>k_is)
   (case jXw=>k_is)
   (case jYN=>kernel_rfl)
   (case jYA=>kernel_rfl)
   (case jSa=>k_is)
   (case jYt=>k_is)
   (case jYu=>k_is)
   (case jYn=>k_is)
   (case jXI=>k_is)
   (case jYl=>kernel_rfl)
   (case jXE=>kernel_rfl)
   (case jXv=>k_is)
   (case jYC=>k_is)
   (case jYd=>k_is)
   (case jYE=>k_is)
   (case jYG=>k_is)
   (case jXF=>kernel_rfl)
   (case jXi=>kernel_rfl)
   (case jYf=>k_is)
   (case jXl=>k_is)
   (case jYm=>k_is)
   (case jXn=>k_is)
   (case jYy=>k_is)
   (case jXr=>kernel_rfl)
   (case jXo=>kernel_rfl)
   (case jYb=>k_is)
   (case jYq=>k_is)
   (case jYg=>k_is)
   (case jX4=>k_is)
   (case jYw=>k_is)
   (case jYH=>kernel_rfl)
   (case jX0=>kernel_rfl)
   (case jXz=>k_is)
   (case jX9=>k_is)
   (case jYp=>k_is)
   (case jYZ=>k_is)
   (case jYe=>k_is)
   (case jYz=>kernel_rfl)
   (case jMv=>k_is)
   (case jMw=>k_is)
   (case jmY=>first | kit_is | kernel_rfl)
   (case jjX=>first | kit_is | kernel_rfl)
   (case jmT=>first | kit_is | kernel_rfl)
   (case jl8=>first | kit_is | kernel_rfl)
   (case jiY=>first | kit_is | kernel_rfl)
   (case jkI=>first | kit_is | kernel_rfl)
   (case jjc=>first | kit_is | kernel_rfl)
   (case jwJ=>first | kit_is | kernel_rfl)
   (case jj9=>first | kit_is | kernel_rfl)
   (case jiu=>first | kit_is | kernel_rfl)
   (case jkH=>first | kit_is | kernel_rfl)
   (case jjo=>first | kit_is | kernel_rfl)
   (case jgh=>first | kit_is | kernel_rfl)
   (case jiK=>first | kit_is | kernel_rfl)
   (case jgA=>first | kit_is | kernel_rfl)
   (case jrn=>first | kit_is | kernel_rfl)
   (case jlW=>first | kit_is | kernel_rfl)
   (case jju=>first | kit_is | kernel_rfl)
   (case jmh=>first | kit_is | kernel_rfl)
   (case jjY=>first | kit_is | kernel_rfl)
   (case jiH=>first | kit_is | kernel_rfl)
   (case jiZ=>first | kit_is | kernel_rfl)
   (case jiB=>first | kit_is | kernel_rfl)
   (case jtV=>first | kit_is | kernel_rfl)
   (case jkj=>first | kit_is | kernel_rfl)
   (case jik=>first | kit_is | kernel_rfl)
   (case jj8=>first | kit_is | kernel_rfl)
   (case jjh=>first | kit_is | kernel_rfl)
   (case jgq=>first | kit_is | kernel_rfl)
   (case jig=>first | kit_is | kernel_rfl)
   (case jgC=>first | kit_is | kernel_rfl)
   (case jrF=>first | kit_is | kernel_rfl)
   (case jjd=>first | kit_is | kernel_rfl)
   (case jgb=>first | kit_is | kernel_rfl)
   (case jje=>first | kit_is | kernel_rfl)
   (case jiC=>first | kit_is | kernel_rfl)
   (case jfG=>first | kit_is | kernel_rfl)
   (case jgE=>first | kit_is | kernel_rfl)
   (case jfF=>first | kit_is | kernel_rfl)
   (case jpV=>first | kit_is | kernel_rfl)
   (case joz=>first | kit_is | kernel_rfl)
   (case jma=>first | kit_is | kernel_rfl)
   (case joE=>first | kit_is | kernel_rfl)
   (case jmV=>first | kit_is | kernel_rfl)
   (case jkg=>first | kit_is | kernel_rfl)
   (case jmi=>first | kit_is | kernel_rfl)
   (case jj_=>first | kit_is | kernel_rfl)
   (case jzL=>first | kit_is | kernel_rfl)
   (case jl7=>first | kit_is | kernel_rfl)
   (case jjk=>first | kit_is | kernel_rfl)
   (case jmf=>first | kit_is | kernel_rfl)
   (case jkE=>first | kit_is | kernel_rfl)
   (case jiq=>first | kit_is | kernel_rfl)
   (case jji=>first | kit_is | kernel_rfl)
   (case jip=>first | kit_is | kernel_rfl)
   (case jtT=>first | kit_is | kernel_rfl)
   (case joC=>first | kit_is | kernel_rfl)
   (case jl5=>first | kit_is | kernel_rfl)
   (case jot=>first | kit_is | kernel_rfl)
   (case jmQ=>first | kit_is | kernel_rfl)
   (case jjZ=>first | kit_is | kernel_rfl)
   (case jl_=>first | kit_is | kernel_rfl)
   (case jkm=>first | kit_is | kernel_rfl)
   (case jzM=>first | kit_is | kernel_rfl)
   (case jkz=>first | kit_is | kernel_rfl)
   (case jiz=>first | kit_is | kernel_rfl)
   (case jky=>first | kit_is | kernel_rfl)
   (case jjt=>first | kit_is | kernel_rfl)
   (case jgG=>first | kit_is | kernel_rfl)
   (case jiA=>first | kit_is | kernel_rfl)
   (case jgr=>first | kit_is | kernel_rfl)
   (case jrq=>first | kit_is | kernel_rfl)
   (case jmS=>first | kit_is | kernel_rfl)
   (case jjW=>first | kit_is | kernel_rfl)
   (case jmW=>first | kit_is | kernel_rfl)
   (case jmd=>first | kit_is | kernel_rfl)
   (case ji5=>first | kit_is | kernel_rfl)
   (case jkc=>first | kit_is | kernel_rfl)
   (case ji3=>first | kit_is | kernel_rfl)
   (case jwI=>first | kit_is | kernel_rfl)
   (case ji7=>first | kit_is | kernel_rfl)
   (case jgf=>first | kit_is | kernel_rfl)
   (case jjq=>first | kit_is | kernel_rfl)
   (case jiE=>first | kit_is | kernel_rfl)
   (case jfD=>first | kit_is | kernel_rfl)
   (case jf9=>first | kit_is | kernel_rfl)
   (case jfw=>first | kit_is | kernel_rfl)
   (case jpX=>first | kit_is | kernel_rfl)
   (case jjl=>first | kit_is | kernel_rfl)
   (case jgp=>first | kit_is | kernel_rfl)
   (case ji0=>first | kit_is | kernel_rfl)
   (case jiJ=>first | kit_is | kernel_rfl)
   (case jfE=>first | kit_is | kernel_rfl)
   (case jgH=>first | kit_is | kernel_rfl)
   (case jfB=>first | kit_is | kernel_rfl)
   (case jpW=>first | kit_is | kernel_rfl)
   (case jgu=>first | kit_is | kernel_rfl)
   (case jeW=>first | kit_is | kernel_rfl)
   (case jf_=>first | kit_is | kernel_rfl)
   (case jfA=>first | kit_is | kernel_rfl)
   (case jel=>first | kit_is | kernel_rfl)
   (case jeX=>first | kit_is | kernel_rfl)
   (case jei=>first | kit_is | kernel_rfl)
   (case jmR=>first | kit_is | kernel_rfl)
   (case jkh=>first | kit_is | kernel_rfl)
   (case jiy=>first | kit_is | kernel_rfl)
   (case jj0=>first | kit_is | kernel_rfl)
   (case jjf=>first | kit_is | kernel_rfl)
   (case jgI=>first | kit_is | kernel_rfl)
   (case jij=>first | kit_is | kernel_rfl)
   (case jgc=>first | kit_is | kernel_rfl)
   (case jrm=>first | kit_is | kernel_rfl)
   (case jgm=>kernel_rfl)
   (case jeV=>kernel_rfl)
   (case jgg=>kernel_rfl)
   (case jft=>kernel_rfl)
   (case jeh=>kernel_rfl)
   (case jeS=>kernel_rfl)
   (case jeo=>kernel_rfl)
   (case jlV=>k_is)
   (case jlX=>k_is)
   (case jmj=>k_is)
   (case jeF=>k_is)
   (case jiF=>k_is)
   (case jeQ=>k_is)
   (case jeU=>k_is)
   (case jeT=>k_is)
   (case jcz=>k_is)
   (case jdg=>k_is)
   (case jjb=>k_is)
   (case jjs=>k_is)
   (case jjm=>k_is)
   (case jdy=>k_is)
   (case je8=>k_is)
   (case jkJ=>k_is)
   (case jj6=>k_is)
   (case jkr=>k_is)
   (case jd7=>k_is)
   (case jfU=>k_is)
   (case ji4=>k_is)
   (case ji9=>k_is)
   (case jjj=>k_is)
   (case jdw=>k_is)
   (case ji8=>k_is)
  have eR:=CF.eR
  have cB:=CF.cB
  have dN:=CF.dN
  have d8:=CF.d8
  have dJ:=CF.dJ
  have T:K03.Tp PySem.Challenge.rw_bearfaults_k03_rows_of_no_form.prog w (L2.eZ KX) mg cl:=by
   dsimp only[L2.eZ]
   refine' ⟨PySem.W.mg_none_of KX G ?jz_len,PySem.W.mg_none_of KX G ?jz_all,PySem.W.mg_none_of KX G ?jz_range,PySem.W.mg_none_of KX G ?jz_tuple,PySem.W.mg_none_of KX G ?jz_min,PySem.W.mg_none_of KX G ?jz_int,PySem.W.mg_none_of KX G ?jz_sum,PySem.W.mg_none_of KX G ?jz_str,PySem.W.mg_none_of KX G ?jz_enumerate,PySem.W.mg_none_of KX G ?jz_isinstance,PySem.W.mg_none_of KX G ?jz_ValueError,wH,JQ,Gz,GF,tS,Dp,zK,Bs,Bt,GD,xy,CF.C_Draft,CF.N_Draft_ins,CF.N_Draft_gates,CF.N_Draft_outs,CF.N_Draft_names,CF.N_Draft_out_names,CF.N_Draft_numbers,CF.M_Draft,CF.M_FaultError,CF.M_TooLong,CF.M_NoForm,CF.M_NoPlace,CF.M_Twice,CF.M_Full,CF.M_NoWire,CF.M_Open,CF.M_NotPlain,CF.M_NotThree,CF.M_NotSound,CF.M_NoFit,CF.M_NoShape,CF.M_NoneYet,CF.X_TooLong,CF.X_NoForm,CF.X_NoPlace,CF.X_Twice,CF.X_Full,CF.X_NoWire,CF.X_Open,CF.I_Open_Twice,CF.I_NoWire_Twice,CF.I_Full_Twice,CF.I_Twice_Twice,CF.I_NoPlace_Twice,CF.I_NoForm_Twice,CF.I_TooLong_Twice,CF.O_Twice,CF.I_Open_NoPlace,CF.I_NoWire_NoPlace,CF.I_Full_NoPlace,CF.I_Twice_NoPlace,CF.I_NoPlace_NoPlace,CF.I_NoForm_NoPlace,CF.I_TooLong_NoPlace,CF.O_NoPlace,CF.I_Open_NoForm,CF.I_NoWire_NoForm,CF.I_Full_NoForm,CF.I_Twice_NoForm,CF.I_NoPlace_NoForm,CF.I_NoForm_NoForm,CF.I_TooLong_NoForm,CF.O_NoForm,CF.I_Open_TooLong,CF.I_NoWire_TooLong,CF.I_Full_TooLong,CF.I_Twice_TooLong,CF.I_NoPlace_TooLong,CF.I_NoForm_TooLong,CF.I_TooLong_TooLong,CF.O_TooLong,CF.I_Open_NotPlain,CF.I_NoWire_NotPlain,CF.I_Full_NotPlain,CF.I_Twice_NotPlain,CF.I_NoPlace_NotPlain,CF.I_NoForm_NotPlain,CF.I_TooLong_NotPlain,CF.O_NotPlain,CF.I_Open_Open,CF.I_NoWire_Open,CF.I_Full_Open,CF.I_Twice_Open,CF.I_NoPlace_Open,CF.I_NoForm_Open,CF.I_TooLong_Open,CF.O_Open,CF.I_Open_NoWire,CF.I_NoWire_NoWire,CF.I_Full_NoWire,CF.I_Twice_NoWire,CF.I_NoPlace_NoWire,CF.I_NoForm_NoWire,CF.I_TooLong_NoWire,CF.O_NoWire,CF.I_Open_Full,CF.I_NoWire_Full,CF.I_Full_Full,CF.I_Twice_Full,CF.I_NoPlace_Full,CF.I_NoForm_Full,CF.I_TooLong_Full,CF.O_Full,CF.I_Open_NoShape,CF.I_NoWire_NoShape,CF.I_Full_NoShape,CF.I_Twice_NoShape,CF.I_NoPlace_NoShape,CF.I_NoForm_NoShape,CF.I_TooLong_NoShape,CF.O_NoShape,CF.I_Open_NoFit,CF.I_NoWire_NoFit,CF.I_Full_NoFit,CF.I_Twice_NoFit,CF.I_NoPlace_NoFit,CF.I_NoForm_NoFit,CF.I_TooLong_NoFit,CF.O_NoFit,CF.I_Open_NotSound,CF.I_NoWire_NotSound,CF.I_Full_NotSound,CF.I_Twice_NotSound,CF.I_NoPlace_NotSound,CF.I_NoForm_NotSound,CF.I_TooLong_NotSound,CF.O_NotSound,CF.I_Open_NotThree,CF.I_NoWire_NotThree,CF.I_Full_NotThree,CF.I_Twice_NotThree,CF.I_NoPlace_NotThree,CF.I_NoForm_NotThree,CF.I_TooLong_NotThree,CF.O_NotThree,CF.I_Open_ValueError,CF.I_NoWire_ValueError,CF.I_Full_ValueError,CF.I_Twice_ValueError,CF.I_NoPlace_ValueError,CF.I_NoForm_ValueError,CF.I_TooLong_ValueError,CF.O_ValueError,CF.I_Open_NoneYet,CF.I_NoWire_NoneYet,CF.I_Full_NoneYet,CF.I_Twice_NoneYet,CF.I_NoPlace_NoneYet,CF.I_NoForm_NoneYet,CF.I_TooLong_NoneYet,CF.O_NoneYet,CF.E_Open_FaultError,CF.E_NoWire_FaultError,CF.E_Full_FaultError,CF.E_Twice_FaultError,CF.E_NoPlace_FaultError,CF.E_NoForm_FaultError,CF.E_TooLong_FaultError⟩
   (case jz_len=>k_is);(case jz_all=>k_is);(case jz_range=>k_is);(case jz_tuple=>k_is);(case jz_min=>k_is);(case jz_int=>k_is);(case jz_sum=>k_is);(case jz_str=>k_is);(case jz_enumerate=>k_is);(case jz_isinstance=>k_is);(case jz_ValueError=>k_is)
  obtain⟨fl,fd,Fl,hl⟩:=D_law
  have e0:=Ur.symm.trans hl
  cases e0
  refine' ⟨fd,?b,fun base kb nb=>K03.NA T tW rD l9 jg oy lY mZ eR cB dN d8 rA dJ Ds mU rC pU pT rG tR pS rp ja tU mX ox Fl⟩
  obtain⟨_,_,_,_,_,_,_,_,_,e,_,_⟩:=Fl.ex
  subst e
  exact fun s u=> .of_eq rfl
