import PyProof.Rows.All
import Wide.All
import OpenK.AllK
import Wide.FinOn
import Lean
import PyProof.EqAt
import PyProof.EqKinds
import PyProof.TupleCall
import PyProof.Rows.StrJoin2
import PyProof.TupleOfGen
import PyProof.ListRange
import PyProof.Draws
import PyProof.Rows.StrClose3
import KE.KSortedM
import PyProof.Rows.SortWalk
import PyProof.WalkInts
import PyProof.Rows.Range3
import PyProof.ZipIter
import PyProof.ConsumeWalk
import PyProof.Rows.SeqMore
import KE.KRevIter
import KE.KRevSl
import KE.KUnpack
import KE.KDictSum
import KE.KTupSum
import OpenK.KRaise
import KE.KTryMore
import PyProof.ExcArgs
import PyProof.ExcBaseAll.ValueError
import PyProof.NsDelKeeps
import PySem.Challenge.RW_bearfaults_k43_whole_made_in_copies
noncomputable section
abbrev Qdd:=PySem.Shared
abbrev Qdc:=PySem.W.Frag
abbrev Qc9{α:Sort _}{a:α}{b:Prop}:a=a\/b:=Or.inl rfl
abbrev Qaa:=@List.length_map
abbrev Qab:=@List.getElem?_eq_some_iff
abbrev Qac:=@List.getElem?_eq_getElem
abbrev Qad:=@List.getElem?_map
abbrev Qae:=@List.getElem?_append_right
abbrev Qaf:=@PySem.wpAny_bind
abbrev Qag:=@Nat.le_refl
abbrev Qah:=@PySem.Heap.get?_push_of_some
abbrev Qai:=@List.mem_cons_of_mem
abbrev Qaj:=@List.length_range
abbrev Qak:=@of_decide_eq_true
abbrev Qal:=@List.lookup_cons
abbrev Qam:=@List.getElem?_append_left
abbrev Qan:=@List.getD_eq_getElem?_getD
abbrev Qao:=@List.getElem?_set_self
abbrev Qap:=@PySem.sizeLine_eq
abbrev Qaq:=@List.getElem?_set_ne
abbrev Qar:=@List.mem_cons
abbrev Qas:=@List.map_append
abbrev Qat:=@List.mem_cons_self
abbrev Qau:=@List.length_append
abbrev Qav:=@List.cons_append
abbrev Qaw:=@PySem.Heap.lt_size
abbrev Qax:=@List.map_map
abbrev Qay:=@List.map_cons
abbrev Qaz:=@Bool.false_ne_true
abbrev QaA:=@List.nil_append
abbrev QaB:=@if_neg
abbrev QaC:=@Nat.lt_of_lt_of_le
abbrev QaD:=@if_pos
abbrev QaE:=@decide_eq_true
abbrev QaF:=@PySem.PassesOwn.never
abbrev QaG:=@List.size_toArray
abbrev QaH:=@List.mem_of_getElem?
abbrev QaI:=@PySem.boot_len
abbrev QaJ:=@PySem.Heap.get?_push_size
abbrev QaK:=@PySem.wpAny_pure
abbrev QaL:=@List.mem_range
abbrev QaM:=@List.length_cons
abbrev QaN:=@List.append_assoc
abbrev QaO:=@Nat.ne_of_lt
abbrev QaP:=@List.length_replicate
abbrev QaQ:=@Nat.sub_self
abbrev QaR:=@List.mem_map
abbrev QaS:=@List.mem_singleton
abbrev QaT:=@List.getElem?_replicate
abbrev QaU:=@List.take_add_one
abbrev QaV:=@List.take_length
abbrev QaW:=@Option.some.inj
abbrev QaX:=@List.length_take
abbrev QaY:=@decide_eq_false
abbrev QaZ:=@List.length_set
abbrev Qa0:=@Nat.le_trans
abbrev Qa1:=@List.map_congr_left
abbrev Qa2:=@List.getElem?_range
abbrev Qa3:=@List.set_append_right
abbrev Qa4:=@Int.toNat_natCast
abbrev Qa5:=@List.mem_append_right
abbrev Qa6:=@Bool.eq_iff_iff
abbrev Qa7:=@List.append_nil
abbrev Qa8:=@List.replicate_succ
abbrev Qa9:=@PyProof.Rows.boot_tuple
abbrev Qba:=@beq_iff_eq
abbrev Qbb:=@List.not_mem_nil
abbrev Qbc:=@PyProof.Rows.callWith_type1
abbrev Qbd:=@PySem.Heap.size_push
abbrev Qbe:=@beq_self_eq_true
abbrev Qbf:=@List.contains_iff_mem
abbrev Qbg:=@List.mem_filter
abbrev Qbh:=@Ne.symm
abbrev Qbi:=@List.take_of_length_le
abbrev Qbj:=@List.any_eq_false
abbrev Qbk:=@congrArg
abbrev Qbl:=@PySem.mem_of_lookup
abbrev Qbm:=@List.mem_append
abbrev Qbn:=@Bool.and_eq_true
abbrev Qbo:=@PySem.W.mg_of
abbrev Qbp:=@PySem.wpAny_field
abbrev Qbq:=@Nat.pow_le_pow_right
abbrev Qbr:=@List.flatten_cons
abbrev Qbs:=@List.range_succ
abbrev Qbt:=@beq_eq_false_iff_ne
abbrev Qbu:=@List.all_eq_true
abbrev Qbv:=@List.getElem?_take
abbrev Qbw:=@PyProof.Rows.boot_max
abbrev Qbx:=@List.drop_eq_getElem_cons
abbrev Qby:=@List.getElem?_take_of_lt
abbrev Qbz:=@List.find?_cons
abbrev QbA:=@Bool.eq_false_iff
abbrev QbB:=@Nat.lt_irrefl
abbrev QbC:=@List.any_cons
abbrev QbD:=@PySem.wpAny_callSpecial?_slot
abbrev QbE:=@List.getElem?_cons_succ
abbrev QbF:=@PySem.wpAny_seqItems
abbrev QbG:=@Nat.zero_le
abbrev QbH:=@Nat.mul_add
abbrev QbI:=@PySem.wpAny_setField_rec
abbrev QbJ:=@PySem.F.slot_tuple_iterator_next
abbrev QbK:=@List.sum_cons
abbrev QbL:=@Bool.and_eq_true_iff
abbrev QbM:=@List.getElem?_zipIdx
abbrev QbN:=@List.mem_of_mem_take
abbrev QbO:=@if_true
abbrev QbP:=@List.length_drop
abbrev QbQ:=@Nat.zero_add
abbrev QbR:=@List.getElem_mem
abbrev QbS:=@or_false
abbrev QbT:=@Nat.mul_le_mul_left
abbrev QbU:=@PySem.F.plainAttrs_list
abbrev QbV:=@PySem.wpAny_getItem_str_slice
abbrev QbW:=@Int.ofNat_inj
abbrev QbX:=@PySem.wpAny_Call_Name_kw
abbrev QbY:=@List.foldl_cons
abbrev QbZ:=@Bool.false_eq_true
abbrev Qb0:=@Nat.min_eq_left
abbrev Qb1:=@List.filter_eq_nil_iff
abbrev Qb2:=@Nat.one_mul
abbrev Qb3:=@Nat.mul_comm
abbrev Qb4:=@PyProof.Rows.boot_int
abbrev Qb5:=@PyProof.Rows.boot_sum
abbrev Qb6:=@PySem.W.looks_findIn
abbrev Qb7:=@PySem.wpAny_call_entry
abbrev Qb8:=@List.cons.inj
abbrev Qb9:=@List.findSome?_eq_none_iff
abbrev Qca:=@List.filterMap_cons
abbrev Qcb:=@List.length_reverse
abbrev Qcc:=@List.length_flatMap
abbrev Qcd:=@List.flatMap_append
abbrev Qce:=@PySem.wpAny_passesOwn
abbrev Qcf:=@Nat.ne_of_gt
abbrev Qcg:=@PySem.W.callWith_K
abbrev Qch:=@Option.isSome_iff_exists
abbrev Qci:=@List.map_nil
abbrev Qcj:=@PySem.F.args_tuple_add_2
abbrev Qck:=@PySem.wpAny_pyIter_tuple
abbrev Qcl:=@Nat.mod_lt
abbrev Qcm:=@PySem.F.entry_tuple_add
abbrev Qcn:=@PySem.wpAny_truthy_bool
abbrev Qco:=@PySem.wpAny_newObj_type
abbrev Qcp:=@PySem.wpAny_pyIter_list
abbrev Qcq:=@PySem.wpAny_pyIter_enum
abbrev Qcr:=@PySem.F.slot_tuple_add
abbrev Qcs:=@List.length_eq_one_iff
abbrev Qct:=@PySem.wpAny_attempt
abbrev Qcu:=@PySem.AutoSeq1.list_extend_list_list_0
abbrev Qcv:=@List.drop_length
abbrev Qcw:=@PySem.F.slot_dict_get
abbrev Qcx:=@List.length_singleton
abbrev Qcy:=@List.getElem?_eq_none
abbrev Qcz:=@PyProof.Rows.boot_min
abbrev QcA:=@List.mem_append_left
abbrev QcB:=@PySem.wpAny_mono
abbrev QcC:=@PySem.wpAny_execs_nil
abbrev QcD:=@List.nodup_cons
abbrev QcE:=@PySem.Calls.evalArgs_plain
abbrev QcF:=@PySem.post_val_or_str
abbrev QcG:=@List.getElem?_of_mem
abbrev QcH:=@PySem.wpAny_updateSeq_pair
abbrev QcI:=@PySem.F.slot_zip_next
abbrev QcJ:=@Nat.eq_of_testBit_eq
abbrev QcK:=@Nat.div_lt_of_lt_mul
abbrev QcL:=@List.eq_nil_of_length_eq_zero
abbrev QcM:=@PySem.W.hideAll_get
abbrev QcN:=@PySem.W.plainGet_of
abbrev QcO:=@List.getElem_of_mem
abbrev QcP:=@List.findSome?_cons
abbrev QcQ:=@List.filter_eq_self
abbrev QcS:=@Nat.mul_le_mul
abbrev QcT:=@List.mem_filterMap
abbrev QcU:=@PySem.Calls.spliced_cons
abbrev QcW:=@List.map_replicate
abbrev QcY:=@Int.fdiv_eq_ediv_of_nonneg
abbrev Qc0:=@PySem.F.excAttr_ValueError
abbrev Qc1:=@PySem.F.excBase_ValueError
abbrev Qc2:=@decide_eq_true_eq
abbrev Qc3:=@List.getElem?_zip_eq_some
abbrev Qc5:=@PySem.F.slot_list_append
abbrev Qc6:=@PySem.F.type_list_append
abbrev Qc7:=@PySem.F.slot_list_extend
abbrev Qc8:=@PySem.F.type_list_extend
set_option bootstrap.genMatcherCode false
section
open PySem
abbrev Aaa:=List (Addr×Obj)
abbrev Aab:=Value->Qdd->Prop
abbrev Aac:=List (Str×Nat)
abbrev Aad:=List (Str×List Nat)
abbrev Aae:=List (List Nat)
abbrev Aaf:=Str->Option Value
abbrev Aag:=Nat->Addr
end
namespace PySem.W.Fast
def tw6726137516041903328:=0
def tw16357178895936656066:=0
def tw9685797761030284647:=0
def tw2085500854394027656:=0
def tw14156064066218077208:=0
def tw7855675311633419253:=0
def tw13727956769640444861:=0
def tw14947378749654278837:=0
def tw9357808591162463474:=0
def tw1246834794773615248:=0
def tw8075777087191558161:=0
def tw1571777972825980902:=0
def tw14656085811760737429:=0
def tw6639838136806468489:=0
def tw2523406653474000742:=0
def tw5030849564946335940:=0
def tw13017138003720789357:=0
def tw580267645527091619:=0
def tw5628922477992111409:=0
def tw654232391885363839:=0
def tw11922699496813679467:=0
def tw13239736351479369774:=0
def tw17367142276332347325:=0
def tw212738798686233271:=0
def tw18397226167582420977:=0
def tw1692175195489341411:=0
def tw12144908879876777845:=0
def tw10199091323640977905:=0
def tw3687652726117574444:=0
def tw15340056618794694261:=0
def tw1488690685547291856:=0
def tw10528299583007779600:=0
def tw17450598923466776066:=0
def tw7233894642790142214:=0
def tw13465952930730577474:=0
def tw14251795511786739706:=0
def tw12932613905180909918:=0
def tw17126026990656034844:=0
def tw1951454853109933132:=0
def tw17563827841942893081:=0
def tw5132702942228099589:=0
def tw8409119101612944505:=0
def tw9510798035597759020:=0
def tw16161636176716702280:=0
def tw14048438543669659027:=0
def tw12800308813325614372:=0
def tw10029017487327603414:=0
def tw5229086099669815684:=0
def tw6082033486546735636:=0
def tw13698318275403905516:=0
def tw13956413066701359232:=0
def tw17936579231435323727:=0
def tw17789422026403642476:=0
def tw6671760051471852135:=0
def tw10837500240357450604:=0
def tw8431307828254360978:=0
def tw6415013438562794929:=0
def tw2593551335891788992:=0
def tw810639000553535243:=0
def tw13507377222643589833:=0
def tw15422884262547562806:=0
def tw8770475980580485391:=0
def tw4020110974944664687:=0
def tw17891282735548373783:=0
def tw7875980797905732843:=0
def tw3481111933870792581:=0
def tw8864289981029928841:=0
def tw4088729668847396525:=0
def tw15024965503997779298:=0
def tw5633745135033871257:=0
def tw7415866561810694035:=0
def tw14126982037184384721:=0
def tw1769255605689931113:=0
def tw17512181405502363293:=0
def tw6059576465785388382:=0
def tw15560102307395577649:=0
def tw13410549981746063127:=0
def tw16340968861438461452:=0
def tw10665150465019080158:=0
def tw10744134184303824964:=0
def tw8859506575071482625:=0
def tw7172281819137034228:=0
def tw16725287870783037707:=0
def tw4510493262597660044:=0
def tw7478060633466787285:=0
def tw7115691406765454718:=0
def tw869128452798315351:=0
def tw4128537776372985940:=0
def tw9935995608452629897:=0
def tw1969967155433914295:=0
def tw11727344556784427225:=0
def tw14443298926624184676:=0
def tw5094585354155328205:=0
def tw8193797024267647302:=0
def tw8863702148715168966:=0
def tw12173395824530607841:=0
def tw1485447990195602770:=0
def tw5635729075973159512:=0
def tw2960489889714367862:=0
def tw3185090587836180125:=0
end PySem.W.Fast
set_option Elab.async false
set_option linter.all false
set_option maxRecDepth 100000
set_option maxHeartbeats 4000000
section
namespace L2
open PySem PySem.Spec PyProof.Rows
abbrev Key:=Sum Int Str
def yU:Key->Value->Bool
 | .inl k,v=>Value.isInt k v
 | .inr x,v=>Value.isStrOf x v
def Vu(w:World):Key->Int
 | .inl k=>hashInt k
 | .inr x=>hashStr w x
theorem d4:∀{k:Key} {v:Value},yU k v=true->(∃i t,k=Sum.inl i/\v=Value.int i t)\/(∃x t,k=Sum.inr x/\v=Value.str x t)
 | .inl i,v,h=>by
   obtain⟨t,e⟩:=Value.isInt_shape (k:=i) (v:=v) h;exact .inl ⟨i,t,rfl,e⟩
 | .inr x,v,h=>by
   obtain⟨t,e⟩:=Value.isStrOf_shape (x:=x) (v:=v) h;exact .inr ⟨x,t,rfl,e⟩
def GD(i:Int)(t:Tok):yU (.inl i) (.int i t)=true:=by simp [yU,Value.isInt]
def GZ(x:Str)(t:Tok):yU (.inr x) (.str x t)=true:=by simp [yU,Value.isStrOf]
def Rn(a b:Int):decide ((Sum.inl a:Key)=Sum.inl b)=(a==b):=by
 by_cases e:a=b
 .subst e;simp
 .have h:¬(Sum.inl a:Key)=Sum.inl b:=fun q=>e (Sum.inl.inj q)
  rw[QaY h];exact(Qbt.mpr e).symm
def PQ(a b:Str):decide ((Sum.inr a:Key)=Sum.inr b)=decide (a=b):=by
 by_cases e:a=b
 .subst e;simp
 .have h:¬(Sum.inr a:Key)=Sum.inr b:=fun q=>e (Sum.inr.inj q)
  rw[QaY h,QaY e]
def Po(a:Int)(b:Str):decide ((Sum.inl a:Key)=Sum.inr b)=false:=QaY (fun q=>nomatch q)
def Rt(a:Str)(b:Int):decide ((Sum.inr a:Key)=Sum.inl b)=false:=QaY (fun q=>nomatch q)
def dZ(prog:Program)(w:World):PySem.KeyKind prog w Key where
 is:=yU
 hash:=Vu w
 inj:=fun v a b ha hb=>by
  rcases d4 ha with⟨i,t,rfl,rfl⟩ | ⟨x,t,rfl,rfl⟩
  .rcases d4 hb with⟨j,u,rfl,e⟩ | ⟨y,u,rfl,e⟩
   .injection e with e1 _;rw [e1]
   .exact nomatch e
  .rcases d4 hb with⟨j,u,rfl,e⟩ | ⟨y,u,rfl,e⟩
   .exact nomatch e
   .injection e with e1 _;rw [e1]
 byValue:=fun k v h=>by
  rcases d4 h with⟨i,t,rfl,rfl⟩ | ⟨x,t,rfl,rfl⟩ <;> rfl
 pyHash:=fun hv h=>by
  rcases d4 hv with⟨i,t,rfl,rfl⟩ | ⟨x,t,rfl,rfl⟩
  .exact wpAny_pyHash_int h
  .exact wpAny_pyHash_str h
 eqBool:=fun hu hv h=>by
  rcases d4 hu with⟨i,t,rfl,rfl⟩ | ⟨x,t,rfl,rfl⟩
  .rcases d4 hv with⟨j,u,rfl,rfl⟩ | ⟨y,u,rfl,rfl⟩
   .rw [Rn] at h;exact wpAny_eqBool_int h
   .rw [Po] at h;exact SeqAt.EqAt.int_str i t y u _ _ _ _ h
  .rcases d4 hv with⟨j,u,rfl,rfl⟩ | ⟨y,u,rfl,rfl⟩
   .rw [Rt] at h;exact SeqAt.EqAt.str_int x t j u _ _ _ _ h
   .rw [PQ] at h;exact wpAny_eqBool_str h
 «strs»:=fun k x t v h=>by
  rcases d4 h with⟨i,u,rfl,e⟩ | ⟨y,u,rfl,e⟩
  .exact nomatch e
  .injection e with e1 _
   subst e1;cases v <;> rfl
def CN(prog:Program)(w:World)(i:Int)(t:Tok):(dZ prog w).is (.inl i) (.int i t)=true:=GD i t
def BJ(prog:Program)(w:World)(x:Str)(t:Tok):(dZ prog w).is (.inr x) (.str x t)=true:=GZ x t
inductive V where
 | cR | bl (b:Bool) | int (i:Int) | str (x:Str) | byt (b:Array UInt8) | flt (b:UInt64) | ref (a:Addr) | ty (n:String)
 deriving DecidableEq
def RelV:V->Value->Prop
 | .cR,u=>u=Value.none
 | .bl b,u=>u=Value.bool b
 | .int i,u=>∃t,u=Value.int i t
 | .str x,u=>∃t,u=Value.str x t
 | .byt b,u=>∃t,u=Value.bytes b t
 | .flt b,u=>∃t,u=Value.float b t
 | .ref a,u=>u=Value.ref a
 | .ty n,u=>u=Value.type n
abbrev Vals:List V->List Value->Prop:=Paired RelV
def Vals.length{xs:List V}{us:List Value}(r:Vals xs us):xs.length=us.length:=Paired.length r
theorem Vals.get:∀{xs:List V} {us:List Value} {i:Nat} {x:V},Vals xs us->xs[i]? =some x->∃u,us[i]? =some u/\RelV x u
 | _,_,_,_, .nil,e=>by simp at e
 | _,_,0,_, .cons r _,e=>by simp at e;subst e;exact⟨_,rfl,r⟩
 | _,_,i+1,x, .cons _ t,e=>by
   obtain⟨u,h1,h2⟩:=Vals.get (i:=i) (x:=x) t (by simpa using e)
   exact⟨u,by simpa using h1,h2⟩
theorem Vals.append:∀{xs ys:List V} {us ws:List Value},Vals xs us->Vals ys ws->Vals (xs++ys) (us++ws)
 | _,_,_,_, .nil,s=>s
 | _,_,_,_, .cons r t,s=> .cons r (Vals.append t s)
theorem Vals.take:∀{xs:List V} {us:List Value} (n:Nat),Vals xs us->Vals (xs.take n) (us.take n)
 | _,_,0,_=> .nil
 | _,_,_+1, .nil=> .nil
 | _,_,n+1, .cons r t=> .cons r (Vals.take n t)
theorem Vals.drop:∀{xs:List V} {us:List Value} (n:Nat),Vals xs us->Vals (xs.drop n) (us.drop n)
 | _,_,0,r=>r
 | _,_,_+1, .nil=> .nil
 | _,_,n+1, .cons _ t=>Vals.drop n t
def so:Option V->Option Value->Prop
 | some v,some u=>RelV v u
 | none,none=>True
 | _,_=>False
def KV{κ:Type}:List (κ × V)->List (κ × Value)->Prop:=Paired fun(p:κ × V) (q:κ × Value)=>p.1=q.1/\RelV p.2 q.2
def kV:Key->V
 | .inl i=> .int i
 | .inr x=> .str x
inductive HO where
 | lst (xs:List V)
 | tup (xs:List V)
 | dK (kvs:List (Key × V)) | dT (kvs:List (List Key × V))
 | set (S:Int->Bool) (n:Nat)
 | ins (C dx:Addr) (fs:List (Str × V))
 | own (x:Addr)
 | xd (fs:List (Str × V))
 | met (f x:Addr)
 | rng (lo hi:Int)
 | lV (o:Obj) (u:HO)
 | tbl (ps:Array Value)
 | ext (φ:Heap->Prop)
abbrev Hp:=Addr->Option HO
def upd(H:Hp)(a:Addr)(o:HO):Hp:=fun b=>if b=a then some o else H b
def bj{a:Addr}{o:HO}:upd H a o a=some o:=by unfold upd;rw [QaD rfl]
def aZ{H:Hp}{a b:Addr}{o:HO}(h:b≠a):upd H a o b=H b:=by unfold upd;rw [QaB h]
def bU{H:Hp}{a b:Addr}{o:HO}(h:H a=some o)(h':H b=none):a≠b:=by
 intro e;subst e;rw [h] at h';cases h'
section
variable (P:Program) (w:World)
def gg(H:Hp)(h:Heap)(a:Addr):HO->Prop
 | .lst xs=>xs.length<=sizeLine/\∃(its:List Value) (n:Nat),Vals xs its/\h.get? a=some {cls:= .type "list",data:= .seq its.toArray n}
 | .tup xs=>xs.length<=sizeLine/\∃its:List Value,Vals xs its/\IsTup h a its.toArray
 | .dK kvs=>kvs.length<=sizeLine/\(a==sysModules)=false/\∃vs,KV kvs vs/\h.DictOf (dZ P w) a vs
 | .dT kvs=>kvs.length<=sizeLine/\(a==sysModules)=false/\∃xs:List (List Key × Addr × Value),
    Paired (fun(p:List Key × V) (q:List Key × Addr × Value)=>p.1=q.1/\H q.2.1=some (.tup (p.1.map kV))/\RelV p.2 q.2.2) kvs xs/\
    ∃o es ep,h.get? a=some o/\o.ExactDict/\o.data= .dict es ep/\es.toList=xs.map (entryOfKey (tupleKind (dZ P w)))/\(xs.map (·.1)).Nodup
 | .set S n=>h.SetOf (intKind P w) a S n
 | .ins C dx fs=>H dx=some (.own a)/\fs.length<=1000/\dx≠a/\h.get? a=some (PySem.W.instObj C dx)/\
    ∃mA,h.Ns1 dx mA/\(∀f,so (fs.lookup f) (mA f))/\PySem.Within mA (fs.map (·.1))
 | .own _=>∃o,h.get? a=some o
 | .xd fs=>∃mA,h.Ns1 a mA/\∀f,so (fs.lookup f) (mA f)
 | .rng lo hi=>∃t u v,h.get? a=some {cls:= .type "range",data:= .fields #[.int lo t, .int hi u, .int 1 v]}
 | .lV o u=>h.get? a=some o/\gg H h a u
 | .tbl ps=>h.get? a=some {cls:= .none,data:= .fields ps}
 | .met f x=>h.get? a=some (PySem.W.methodObj (.ref f) (.ref x))
 | .ext φ=>φ h/\(∃o,h.get? a=some o)/\∀h1 h2:Heap,φ h1->(∀o,h1.get? a=some o->h2.get? a=some o)->φ h2
def oF(H:Hp)(h:Heap):Prop:=∀a o,H a=some o->gg P w H h a o
end
section
variable {P:Program} {w:World} {H H':Hp} {h h':Heap} {a:Addr} {o:HO}
def gg.lt(x:gg P w H h a o):a<h.objs.size:=by
 cases o with
 | lst xs=>obtain⟨_,_,_,_,e⟩:=x;exact Qaw e
 | tup xs=>obtain⟨_,_,_,p⟩:=x;exact p.lt
 | dK kvs=>obtain⟨_,_,_,_,o,_,_,e,_⟩:=x;exact Qaw e
 | dT kvs=>obtain⟨_,_,_,_,o,_,_,e,_⟩:=x;exact Qaw e
 | set S n=>obtain⟨o,_,_,_,e,_⟩:=x;exact Qaw e
 | ins C dx fs=>obtain⟨_,_,_,e,_⟩:=x;exact Qaw e
 | own y=>obtain⟨_,e⟩:=x;exact Qaw e
 | xd fs=>obtain⟨_,⟨_,_,_,e,_⟩,_⟩:=x;exact Qaw e
 | rng lo hi=>obtain⟨_,_,_,e⟩:=x;exact Qaw e
 | lV ob u=>obtain⟨e,_⟩:=x;exact Qaw e
 | tbl ps=>exact Qaw (show h.get? a=some _ from x)
 | met f y=>exact Qaw (show h.get? a=some _ from x)
 | ext φ=>obtain⟨_,⟨_,e⟩,_⟩:=x;exact Qaw e
theorem Paired.TY{α β:Type}{F G:α->β->Prop}:∀{l₁:List α} {Uv:List β},Paired F l₁ Uv->(∀a b,F a b->G a b)->Paired G l₁ Uv
 | _,_, .nil,_=> .nil
 | _,_, .cons r t,f=> .cons (f _ _ r) (Paired.TY t f)
def gg.vd(x:gg P w H h a o)(k:∀b u,(b=a\/H b=some (.own a))->h.get? b=some u->h'.get? b=some u)
 (ho:∀b,H b=some (.own a)->H' b=some (.own a)) (ht:∀b xs,H b=some (.tup xs)->H' b=some (.tup xs)):gg P w H' h' a o:=by
 induction o with
 | lst xs=>obtain⟨z,its,n,r,e⟩:=x;exact⟨z,its,n,r,k _ _ (.inl rfl) e⟩
 | tup xs=>obtain⟨z,its,r,ob,e,c⟩:=x;exact⟨z,its,r,ob,k _ _ (.inl rfl) e,c⟩
 | dK kvs=>obtain⟨z,y,vs,r,ob,es,ep,e,c⟩:=x;exact⟨z,y,vs,r,ob,es,ep,k _ _ (.inl rfl) e,c⟩
 | dT kvs=>
   obtain⟨z,y,xs,r,ob,es,ep,e,c⟩:=x;exact⟨z,y,xs,Paired.TY r fun p q z=>⟨z.1,ht _ _ z.2.1,z.2.2⟩,ob,es,ep,k _ _ (.inl rfl) e,c⟩
 | set S n=>obtain⟨ob,es,ep,t,e,c⟩:=x;exact⟨ob,es,ep,t,k _ _ (.inl rfl) e,c⟩
 | ins C dx fs=>
   obtain⟨d,z,ne,e,mA,⟨od,es,ep,e2,c⟩,r⟩:=x;exact⟨ho _ d,z,ne,k _ _ (.inl rfl) e,mA,⟨od,es,ep,k _ _ (.inr d) e2,c⟩,r⟩
 | own y=>obtain⟨ob,e⟩:=x;exact⟨ob,k _ _ (.inl rfl) e⟩
 | xd fs=>obtain⟨mA,⟨od,es,ep,e,c⟩,r⟩:=x;exact⟨mA,⟨od,es,ep,k _ _ (.inl rfl) e,c⟩,r⟩
 | rng lo hi=>obtain⟨t,u,v,e⟩:=x;exact⟨t,u,v,k _ _ (.inl rfl) e⟩
 | lV ob u ih=>obtain⟨e,q⟩:=x;exact⟨k _ _ (.inl rfl) e,ih q⟩
 | tbl ps=>
   have e:h.get? a=some {cls:= .none,data:= .fields ps}:=x;show h'.get? a=some {cls:= .none,data:= .fields ps};exact k a _ (.inl rfl) e
 | met f y=>
   have e:h.get? a=some (PySem.W.methodObj (.ref f) (.ref y)):=x;show h'.get? a=some (PySem.W.methodObj (.ref f) (.ref y));exact k a _ (.inl rfl) e
 | ext φ=>obtain⟨p,⟨o,e⟩,st⟩:=x;exact⟨st _ _ p fun o q=>k _ _ (.inl rfl) q,⟨o,k _ _ (.inl rfl) e⟩,st⟩
def oF.lt(x:oF P w H h)(e:H a=some o):a<h.objs.size:=(x a o e).lt
def oF.fresh(x:oF P w H h)(e:h.objs.size<=a):H a=none:=by
 cases q:H a with
 | none=>rfl
 | some u=>exact absurd (QaC (x.lt q) e) (QbB _)
def oF.kept(x:oF P w H h)(k:∀b u,h.get? b=some u->h'.get? b=some u):oF P w H h':=fun a o e=>
 (x a o e).vd (fun b u _ q=>k b u q) (fun _ q=>q) fun _ _ q=>q
def oF.laid(x:oF P w H h)(k:∀b u,h.get? b=some u->h'.get? b=some u)(hp:h.objs.size<=a)(new:gg P w (upd H a o) h' a o):oF P w (upd H a o) h':=fun b u e=>by
 have hn:=x.fresh hp;by_cases hb:b=a
 .subst hb;rw [bj] at e;cases e;exact new
 .rw [aZ hb] at e;exact(x b u e).vd (fun c v _ q=>k c v q) (fun c q=>by rw[aZ (bU q hn)];exact q) fun c xs q=>by rw[aZ (bU q hn)];exact q
end
def Rd(H:Hp)(a:Addr)(u:HO):Prop:=H a=some u\/∃o,H a=some (.lV o u)
def Rd.ok{a:Addr}{u:HO}(r:Rd H a u)(x:oF P w H h):gg P w H h a u:=by
 rcases r with r | ⟨o,r⟩
 .exact x a u r
 .obtain⟨_,q⟩:=x a _ r;exact q
def Tc:Option HO->Prop
 | some (.lst _)=>True
 | some (.dK _)=>True
 | some (.dT _)=>True
 | some (.set _ _)=>True
 | some (.ins _ _ _)=>True
 | some (.ext _)=>True
 | _=>False
section
variable {P:Program} {w:World} {H:Hp} {h h':Heap} {x e:Addr} {o':HO}
def oF.write(ok:oF P w H h)(mu:Tc (H x))(he:e=x\/H e=some (.own x))(k:∀b u,b≠e->h.get? b=some u->h'.get? b=some u)(Ls:∃u,h'.get? e=some u)
 (new:gg P w (upd H x o') h' x o'):oF P w (upd H x o') h':=fun b u q=>by
 have nown:∀c y,H c=some (.own y)->c≠x:=fun c y r z=>by subst z;rw [r] at mu;exact mu
 have ntup:∀c xs,H c=some (.tup xs)->c≠x:=fun c xs r z=>by subst z;rw [r] at mu;exact mu
 by_cases hb:b=x
 .subst hb;rw [bj] at q;cases q;exact new
 .rw [aZ hb] at q;by_cases hbe:b=e
  .have q':H b=some (.own x):=by
    rcases he with z | z
    .exact absurd (hbe.trans z) hb
    .rw [hbe];exact z
   rw[q] at q';cases q';obtain⟨v,hv⟩:=Ls;exact⟨v,by rw[hbe];exact hv⟩
  .refine(ok b u q).vd (fun c v hc r=>k c v ?_ r) (fun c r=>by rw[aZ (nown c b r)];exact r) fun c xs r=>by rw[aZ (ntup c xs r)];exact r
   rcases hc with rfl | hc
   .exact hbe
   .rintro rfl;rcases he with z | z
    .exact nown c b hc z
    .rw [hc] at z;cases z;exact hb rfl
end
structure Un (fs ex:List Addr) (H H':Hp) (h h':Heap):Prop where
 keep:∀b o,h.get? b=some o->H b=none->b ∉ fs->b ∉ ex->h'.get? b=some o
 slot:∀b o,h.get? b=some o->H b=none->b∈fs->b ∉ ex->∃sl,h'.get? b=some {o with slots:=sl}
 free:∀b o,h.get? b=some o->H b=none->b ∉ ex->H' b=none
 there:∀b o,h.get? b=some o->b ∉ ex->∃o',h'.get? b=some o'
 tups:∀b xs,H b=some (.tup xs)->H' b=some (.tup xs)
 frzs:∀b o u,H b=some (.lV o u)->H' b=some (.lV o u)
 tbls:∀b ps,H b=some (.tbl ps)->∃more,H' b=some (.tbl (ps++more))
section
variable {fs Sk ex ex':List Addr} {H H1 H2:Hp} {h h1 h2 h':Heap} {a x e:Addr} {o:HO}
def Un.any(u:Un fs ex H H1 h h1){b:Addr}{ob:Obj}(q:h.get? b=some ob)(n:H b=none)(hx:b ∉ ex):∃sl,h1.get? b=some {ob with slots:=sl}:=by
 by_cases hb:b∈fs
 .exact u.slot b ob q n hb hx
 .exact⟨ob.slots,u.keep b ob q n hb hx⟩
def Un.kept(k:∀b u,h.get? b=some u->h'.get? b=some u):Un fs ex H H h h':=
 ⟨fun b ob q _ _ _=>k b ob q,fun b ob q _ _ _=>⟨ob.slots,k b ob q⟩,fun _ _ _ n _=>n,fun b ob q _=>⟨ob,k b ob q⟩,fun _ _ q=>q,fun _ _ _ q=>q,fun _ ps q=>⟨#[],by rw[q];simp⟩⟩
def Un.refl:Un fs ex H H h h:=Un.kept fun _ _ q=>q
def Un.laid(k:∀b u,h.get? b=some u->h'.get? b=some u)(hp:h.objs.size<=a)(hn:H a=none):Un fs ex H (upd H a o) h h' where
 keep:=fun b u q _ _ _=>k b u q
 slot:=fun b u q _ _ _=>⟨u.slots,k b u q⟩
 free:=fun b u q n _=>by rw[aZ (QaO (QaC (Qaw q) hp))];exact n
 there:=fun b u q _=>⟨u,k b u q⟩
 tups:=fun b xs q=>by rw[aZ (bU q hn)];exact q
 frzs:=fun b u xs q=>by rw[aZ (bU q hn)];exact q
 tbls:=fun b ps q=>⟨#[],by rw[aZ (bU q hn),q];simp⟩
def Un.write(mu:Tc (H x))(he:e=x\/H e=some (.own x))(k:∀b u,b≠e->h.get? b=some u->h'.get? b=some u)(Ls:∃u,h'.get? e=some u):Un fs ex H (upd H x o) h h':=by
 have hx:∀b,H b=none->b≠x:=fun b n z=>by subst z;rw [n] at mu;exact mu
 have hb:∀b,H b=none->b≠e:=fun b n z=>by
  subst z;rcases he with r | r
  .exact hx b n r
  .rw [n] at r;cases r
 have hm:∀b u,H b=some u->¬Tc (some u)->b≠x:=fun b u q nm z=>by subst z;rw [q] at mu;exact nm mu
 refine⟨fun b u q n _ _=>k b u (hb b n) q,fun b u q n _ _=>⟨u.slots,k b u (hb b n) q⟩,fun b u q n _=>by rw[aZ (hx b n)];exact n,fun b u q _=>?_,
  fun b xs q=>by rw[aZ (hm b _ q fun z=>z)];exact q,fun b u xs q=>by rw[aZ (hm b _ q fun z=>z)];exact q,fun b ps q=>⟨#[],by rw[aZ (hm b _ q fun z=>z),q];simp⟩⟩
 by_cases hbe:b=e
 .subst hbe;exact Ls
 .exact⟨u,k b u hbe q⟩
end
def Lp(h:Heap)(H:Hp):List Addr:=(List.range h.objs.size).filter fun a=>(H a).isSome
def zQ(h:Heap)(H:Hp):Heap:=PySem.W.hideAll h (Lp h H)
def Hs(h:Heap)(H:Hp):(zQ h H).objs.size=h.objs.size:=PySem.W.hideAll_size _ _
def Im{h:Heap}{H:Hp}{b:Addr}{o:Obj}(e:h.get? b=some o)(n:H b=none):(zQ h H).get? b=some o:=
 QcM _ e fun hm=>by
  have q:(H b).isSome=true:=(Qbg.mp hm).2;rw[n] at q;simp at q
def MR{h:Heap}{H:Hp}{b:Addr}{o:Obj}(e:(zQ h H).get? b=some o):h.get? b=some o/\H b=none:=by
 have e':h.get? b=some o:=PySem.W.of_hideAll (Lp h H) e;refine⟨e',?_⟩;cases q:H b with
 | none=>rfl
 | some x=>
   have hm:b∈Lp h H:=Qbg.mpr ⟨QaL.mpr (Qaw e'),by simp [q]⟩
   have z:(zQ h H).get? b=none:=PySem.W.hideAll_none (Lp h H) hm;rw[z] at e;cases e
def L7(g h:Heap)(L:Addr):Aaa:=(List.range h.objs.size).filterMap fun a=>if a=L\/(g.get? a).isSome=true then none else(h.get? a).map fun o=>(a,o)
def rest(g h:Heap)(L d:Addr):Aaa:=(L7 g h L).filter fun p=>decide (p.1≠d)
structure Mod (K:Qdc) (mg:Aaf) (base:Heap):Prop where
 kin:K.In base
 glob:base.Ns mainGlobals mg
 blt:∃mb,base.Ns builtinsNs mb/\∀x:Str,x≠"__name__"->mb x=bootBuiltins x
 nolimit:base.NoLimit
structure Cx where
 prog:Program
 w:World
 K:Qdc
 mg:Aaf
 base:Heap
 A:Around
 N:List Str
 s₀:Qdd
 H₀:Hp
 env:Env
 outer:List Env
 stack:List Env
 ex:List Addr
 fn:Str->Bool
 calm:Bool
 pn:Aaa
 xe:Aab
def ro(l:List Env):List Addr:=l.filterMap (·.frame)
abbrev Cx.fs(X:Cx):List Addr:=ro X.outer
def GQ(sc:Scope)(x:Str):Prop:=sc.names.lookup x=some .local\/sc.names.lookup x=some .cell\/sc.names.lookup x=some .free
def Loc(sc:Scope)(x:Str):Prop:=sc.names.lookup x=some .local\/sc.names.lookup x=some .cell
def Look(env:Env)(h:Heap)(m:Aaf)(x:Str)(u:Value):Prop:=
 (env.kindOf x=some .local/\m x=some u)\/((env.kindOf x=some .cell\/env.kindOf x=some .free)/\∃c,env.cells.lookup x=some c/\h.IsCell c (some u))
structure Cx.Ok (X:Cx):Prop where
 mod:Mod X.K X.mg X.base
 kind:X.env.scope.kind= .function
 glob:X.env.globals=mainGlobals
 blt:X.env.builtins=builtinsNs
 above:X.s₀.heap.objs.size<=X.env.locals
 inj:∀x y c,X.env.cells.lookup x=some c->X.env.cells.lookup y=some c->x=y
 has:∀x,(X.env.kindOf x=some .cell\/X.env.kindOf x=some .free)->∃c,X.env.cells.lookup x=some c
 cab:∀x c,X.fn x=true->X.env.cells.lookup x=some c->X.s₀.heap.objs.size<=c
 hd:X.calm=true->X.A.handled=none
 frames:X.A.frames=some X.stack
 stk:X.stack=X.outer\/(X.stack=X.env ::X.outer/\X.env.frame=some X.env.locals)
 exf:∀b∈X.ex,b≠X.env.locals/\∀x c,X.env.cells.lookup x=some c->c≠b
 bs:∀b o,X.base.get? b=some o->X.s₀.heap.get? b=some o/\X.H₀ b=none
 bsz:X.base.objs.size<=X.s₀.heap.objs.size
 noex:∀b o,X.base.get? b=some o->b ∉ X.ex
 exfs:∀b∈X.ex,b ∉ X.fs
 sS:X.s₀.heap.FunFrames X.base X.outer
 frf:∀b∈X.fs,X.H₀ b=none
structure Inv (X:Cx) (pins:Aaa) (σ:List (Option V)) (H:Hp) (s:Qdd):Prop where
 ok:X.Ok
 os:s.os=X.s₀.os
 bare:AllBare s.gens
 base:Un X.fs X.ex X.H₀ H X.s₀.heap s.heap
 loc:∃m,s.heap.Ns X.env.locals m/\∀(i:Nat) (x:Str) (v:V),X.N[i]? =some x->σ[i]? =some (some v)->GQ X.env.scope x->∃u,RelV v u/\Look X.env s.heap m x u
 cell:∀x c,X.env.cells.lookup x=some c->∃v,s.heap.IsCell c v
 free:H X.env.locals=none
 freeC:∀x c,X.env.cells.lookup x=some c->H c=none
 pin:∀p∈X.pn++pins,s.heap.get? p.1=some p.2/\H p.1=none/\p.1≠X.env.locals/\p.1 ∉ X.fs/\∀v,p.2.data≠ .cell v
 hok:oF X.prog X.w H s.heap
 len:σ.length=X.N.length
section
variable {X:Cx} {pins:Aaa} {σ:List (Option V)} {H H':Hp} {s:Qdd} {h':Heap}
def Cx.Ok.Wm(ok:X.Ok){b:Addr}{o:Obj}(e:X.base.get? b=some o):b ∉ X.fs:=fun hb=>by
 have:=(ok.sS.mem hb).1;rw[e] at this;cases this
def Inv.bs(I:Inv X pins σ H s):∀b o,X.base.get? b=some o->s.heap.get? b=some o/\H b=none:=fun b o e=>
 ⟨I.base.keep b o (I.ok.bs b o e).1 (I.ok.bs b o e).2 (I.ok.Wm e) (I.ok.noex b o e),I.base.free b o (I.ok.bs b o e).1 (I.ok.bs b o e).2 (I.ok.noex b o e)⟩
def Inv.bk(I:Inv X pins σ H s):∀b o,X.base.get? b=some o->s.heap.get? b=some o:=fun b o e=>(I.bs b o e).1
def Inv.mod(I:Inv X pins σ H s):Mod X.K X.mg X.base:=I.ok.mod
def Inv.A9(I:Inv X pins σ H s):X.K.In s.heap:=I.ok.mod.kin.keeps I.bk
def Inv.lt(I:Inv X pins σ H s):X.env.locals<s.heap.objs.size:=let⟨_,hn,_⟩:=I.loc;hn.lt
def Inv.sz(I:Inv X pins σ H s):X.s₀.heap.objs.size<=s.heap.objs.size:=Qa0 I.ok.above (Nat.le_of_lt I.lt)
def Inv.VY(I:Inv X pins σ H s){a:Addr}(h:s.heap.objs.size<=a):a ∉ X.fs:=fun hb=>by
 obtain⟨_,o,ho,_⟩:=I.ok.sS.mem hb;exact absurd (QaC (Qaw ho) (Qa0 I.sz h)) (QbB _)
def Inv.KU(I:Inv X pins σ H s):∀x c,X.env.cells.lookup x=some c->c≠X.env.locals:=fun x c e z=>by
 obtain⟨v,o,ho,hd⟩:=I.cell x c e;obtain⟨m,⟨o',es,ep,C7,UD,_⟩,_⟩:=I.loc;rw[z,C7] at ho;cases ho;rw [UD] at hd;cases hd
def Inv.sS(I:Inv X pins σ H s):s.heap.FunFrames X.base X.outer:=by
 have all:∀(l:List Env),(∀b∈ro l,b∈X.fs)->X.s₀.heap.FunFrames X.base l->s.heap.FunFrames X.base l:=by
  intro l
  induction l with
  | nil=>intro _ _;trivial
  | cons env r ih=>
    intro hs hl;obtain⟨hk,⟨L,o,hf,hn,ho,hd⟩,hr⟩:=hl;have hL:L∈X.fs:=hs L (by unfold ro;rw [Qca,hf];exact Qat)
    obtain⟨sl,e⟩:=I.base.slot L o ho (I.ok.frf L hL) hL fun z=>I.ok.exfs L z hL
    exact⟨hk,⟨L,_,hf,hn,e,hd⟩,ih (fun b hb=>hs b (by unfold ro;rw [Qca,hf];exact Qai _ hb)) hr⟩
 exact all X.outer (fun _ hb=>hb) I.ok.sS
def Inv.stack(I:Inv X pins σ H s):s.heap.FunFrames X.base X.stack:=by
 rcases I.ok.stk with e | ⟨e,hf⟩
 .rw [e];exact I.sS
 .rw [e];obtain⟨m,hn,_⟩:=I.loc;refine .cons (by rw[I.ok.kind];decide) hf hn ?_ I.sS
  exact Heap.get?_none_of_le (Qa0 I.ok.bsz I.ok.above)
def Inv.D4(I:Inv X pins σ H s):∀b∈ro X.stack,b∈X.env.locals ::X.fs:=fun b hb=>by
 rcases I.ok.stk with e | ⟨e,hf⟩
 .rw [e] at hb;exact Qai _ hb
 .rw [e] at hb;unfold ro at hb;rw[Qca,hf] at hb;exact hb
def Inv.ql(I:Inv X pins σ H s):∀b∈ro X.stack,H b=none:=fun b hb=>by
 rcases Qar.mp (I.D4 b hb) with e | hb
 .rw [e];exact I.free
 .obtain⟨_,o,ho,_⟩:=I.ok.sS.mem hb;exact I.base.free b o ho (I.ok.frf b hb) fun z=>I.ok.exfs b z hb
def Inv.step{g':Array GenState}{t':Nat}{d':Drawn}{ch:List Addr}(I:Inv X pins σ H s)
 (Lv:∀b∈ch,(b∈X.ex\/X.s₀.heap.objs.size<=b)/\b≠X.env.locals/\(∀x c,X.env.cells.lookup x=some c->c≠b)/\∀p∈X.pn++pins,p.1≠b)
 (keep:∀b o,b≠X.env.locals->b ∉ X.fs->b ∉ ch->s.heap.get? b=some o->H b=none->h'.get? b=some o)
 (slot:∀b o,b≠X.env.locals->b∈X.fs->b ∉ ch->s.heap.get? b=some o->H b=none->∃sl,h'.get? b=some {o with slots:=sl}) (free:∀b o,b ∉ ch->s.heap.get? b=some o->H b=none->H' b=none)
 (there:∀b o,b ∉ ch->s.heap.get? b=some o->∃o',h'.get? b=some o')
 (tups:∀b xs,H b=some (.tup xs)->H' b=some (.tup xs)) (frzs:∀b o u,H b=some (.lV o u)->H' b=some (.lV o u)) (tbls:∀b ps,H b=some (.tbl ps)->∃more,H' b=some (.tbl (ps++more)))
 (ns:∀m,s.heap.Ns X.env.locals m->h'.Ns X.env.locals m) (hok:oF X.prog X.w H' h') (hg:AllBare g') :
 Inv X pins σ H' {s with heap:=h',gens:=g',drawn:=d',toks:=t'}:=by
 have neL:∀b o,X.s₀.heap.get? b=some o->b≠X.env.locals:=fun b o e=>QaO (QaC (Qaw e) I.ok.above)
 have neC:∀b o,X.s₀.heap.get? b=some o->b ∉ X.ex->b ∉ ch:=fun b o e hx hb=>by
  rcases(Lv b hb).1 with z | z
  .exact hx z
  .exact absurd (QaC (Qaw e) z) (QbB _)
 have cellK:∀x c,X.env.cells.lookup x=some c->∀v,s.heap.IsCell c v->h'.IsCell c v:=fun x c e v ⟨o,ho,hd⟩=>by
  have nch:c ∉ ch:=fun z=>(Lv c z).2.2.1 x c e rfl
  by_cases hc:c∈X.fs
  .obtain⟨sl,q⟩:=slot c o (I.KU x c e) hc nch ho (I.freeC x c e);exact⟨_,q,hd⟩
  .exact⟨o,keep c o (I.KU x c e) hc nch ho (I.freeC x c e),hd⟩
 refine⟨I.ok,I.os,hg,⟨fun b o e n hb hx=>?_,fun b o e n hb hx=>?_,fun b o e n hx=>?_,fun b o e hx=>?_,fun b xs e=>tups b xs (I.base.tups b xs e),fun b o xs e=>frzs b o xs (I.base.frzs b o xs e),fun b ps e=>?_⟩,?_,fun x c e=>?_,?_,fun x c e=>?_,fun p hp=>?_,hok,I.len⟩
 .exact keep b o (neL b o e) hb (neC b o e hx) (I.base.keep b o e n hb hx) (I.base.free b o e n hx)
 .obtain⟨sl,e1⟩:=I.base.slot b o e n hb hx;obtain⟨Z_,e2⟩:=slot b _ (neL b o e) hb (neC b o e hx) e1 (I.base.free b o e n hx);exact⟨Z_,e2⟩
 .obtain⟨o',e1⟩:=I.base.there b o e hx;exact free b o' (neC b o e hx) e1 (I.base.free b o e n hx)
 .obtain⟨o',e1⟩:=I.base.there b o e hx;exact there b o' (neC b o e hx) e1
 .obtain⟨m1,e1⟩:=I.base.tbls b ps e;obtain⟨m2,e2⟩:=tbls b _ e1;exact⟨m1++m2,by rw[e2,Array.append_assoc]⟩
 .obtain⟨m,hn,hl⟩:=I.loc;refine⟨m,ns m hn,fun i x v e1 e2 e3=>?_⟩
  obtain⟨u,r,l⟩:=hl i x v e1 e2 e3;refine⟨u,r,?_⟩;rcases l with l | ⟨k,c,e,z⟩
  .exact .inl l
  .exact .inr ⟨k,c,e,cellK x c e _ z⟩
 .obtain⟨v,z⟩:=I.cell x c e;exact⟨v,cellK x c e v z⟩
 .obtain⟨m,⟨o,_,_,ho,_⟩,_⟩:=I.loc;exact free _ o (fun z=>(Lv _ z).2.1 rfl) ho I.free
 .obtain⟨v,o,ho,hd⟩:=I.cell x c e;exact free c o (fun z=>(Lv c z).2.2.1 x c e rfl) ho (I.freeC x c e)
 .obtain⟨e,n,ne,nf,d⟩:=I.pin p hp;have nch:p.1 ∉ ch:=fun z=>(Lv p.1 z).2.2.2 p hp rfl
  exact⟨keep p.1 p.2 ne nf nch e n,free p.1 p.2 nch e n,ne,nf,d⟩
def Inv.un{t':Nat}(I:Inv X pins σ H s)(u:Un X.fs [] H H' s.heap h')(hok:oF X.prog X.w H' h'):Inv X pins σ H' {s with heap:=h',toks:=t'}:=by
 obtain⟨m,⟨o,es,ep,ho,r⟩,_⟩:=id I.loc;obtain⟨sl,hL⟩:=u.any ho I.free (by simp)
 exact I.step (g':=s.gens) (d':=s.drawn) (ch:=[]) (fun _ z=>nomatch z) (fun b o _ hb _ e n=>u.keep b o e n hb (by simp)) (fun b o _ hb _ e n=>u.slot b o e n hb (by simp)) (fun b o _ e n=>u.free b o e n (by simp)) (fun b o _ e=>u.there b o e (by simp)) u.tups u.frzs u.tbls (fun m' hm=>by
  obtain⟨o',Xp,Xq,C7,r'⟩:=hm;rw[ho] at C7;cases C7;exact⟨_,Xp,Xq,hL,r'⟩) hok I.bare
def Inv.call{g':Array GenState}{t':Nat}{d':Drawn}{ch:List Addr}(I:Inv X pins σ H s)(u:Un (ro X.stack) ch H H' s.heap h')(hok:oF X.prog X.w H' h')(hg:AllBare g')
 (Lv:∀b∈ch,(b∈X.ex\/X.s₀.heap.objs.size<=b)/\b≠X.env.locals/\(∀x c,X.env.cells.lookup x=some c->c≠b)/\∀p∈X.pn++pins,p.1≠b) :
 Inv X pins σ H' {s with heap:=h',gens:=g',drawn:=d',toks:=t'}:=by
 obtain⟨m,⟨o,es,ep,ho,r⟩,_⟩:=id I.loc;obtain⟨sl,hL⟩:=u.any ho I.free fun z=>(Lv _ z).2.1 rfl
 exact I.step (ch:=ch) Lv (fun b o hL hb hc e n=>u.keep b o e n (fun z=>(Qar.mp (I.D4 b z)).elim hL hb) hc) (fun b o _ _ hc e n=>u.any e n hc) (fun b o hc e n=>u.free b o e n hc) (fun b o hc e=>u.there b o e hc) u.tups u.frzs u.tbls (fun m' hm=>by
  obtain⟨o',Xp,Xq,C7,r'⟩:=hm;rw[ho] at C7;cases C7;exact⟨_,Xp,Xq,hL,r'⟩) hok hg
def Inv.turned{t':Nat}{it:Addr}(I:Inv X pins σ H s)(k:∀b o,b≠it->s.heap.get? b=some o->h'.get? b=some o)(hn:H it=none)(hL:it≠X.env.locals)
 (h1:it∈X.ex\/X.s₀.heap.objs.size<=it) (h2:∀x c,X.env.cells.lookup x=some c->c≠it) (h3:∀p∈X.pn++pins,p.1≠it):Inv X pins σ H {s with heap:=h',toks:=t'}:=by
 have nit:∀b u,H b=some u->b≠it:=fun b u e z=>by rw[z,hn] at e;cases e
 refine I.step (g':=s.gens) (d':=s.drawn) (ch:=[it]) (fun b hb=>?_) (fun b o _ _ hc e _=>k b o (fun z=>hc (by simp [z])) e) (fun b o _ _ hc e _=>⟨o.slots,k b o (fun z=>hc (by simp [z])) e⟩) (fun _ _ _ _ n=>n)
  (fun b o hc e=>⟨o,k b o (fun z=>hc (by simp [z])) e⟩) (fun _ _ e=>e) (fun _ _ _ e=>e) (fun b ps e=>⟨#[],by rw[e];simp⟩) (fun m hm=>?_) (fun b u e=>?_) I.bare
 .have e:b=it:=by simpa using hb
  subst e;exact⟨h1,hL,h2,h3⟩
 .obtain⟨o,es,ep,ho,r⟩:=hm;exact⟨o,es,ep,k _ o (Qbh hL) ho,r⟩
 .refine(I.hok b u e).vd (fun c v hc q=>k c v ?_ q) (fun _ q=>q) fun _ _ q=>q
  rcases hc with z | z
  .rw [z];exact nit b u e
  .exact nit c _ z
def Inv.tok(I:Inv X pins σ H s)(t:Nat):Inv X pins σ H {s with toks:=t}:=I.un (h':=s.heap) (t':=t) Un.refl I.hok
def Inv.kept{t':Nat}(I:Inv X pins σ H s)(k:∀b u,s.heap.get? b=some u->h'.get? b=some u):Inv X pins σ H {s with heap:=h',toks:=t'}:=I.un (Un.kept k) (I.hok.kept k)
def Inv.laid{a:Addr}{o:HO}{t':Nat}(I:Inv X pins σ H s)(k:∀b u,s.heap.get? b=some u->h'.get? b=some u)(hp:s.heap.objs.size<=a)(new:gg X.prog X.w (upd H a o) h' a o) :
 Inv X pins σ (upd H a o) {s with heap:=h',toks:=t'}:=I.un (Un.laid k hp (I.hok.fresh hp)) (I.hok.laid k hp new)
def Inv.write{x e:Addr}{o:HO}{t':Nat}(I:Inv X pins σ H s)(mu:Tc (H x))(he:e=x\/H e=some (.own x))(k:∀b u,b≠e->s.heap.get? b=some u->h'.get? b=some u)(Ls:∃u,h'.get? e=some u)
 (new:gg X.prog X.w (upd H x o) h' x o):Inv X pins σ (upd H x o) {s with heap:=h',toks:=t'}:=I.un (Un.write mu he k Ls) (I.hok.write mu he k Ls new)
def Inv.Fo{nD:Aaa}(I:Inv X pins σ H s)(h:∀p∈nD,s.heap.get? p.1=some p.2/\H p.1=none/\p.1≠X.env.locals/\p.1 ∉ X.fs/\∀v,p.2.data≠ .cell v):Inv X nD σ H s:=
 ⟨I.ok,I.os,I.bare,I.base,I.loc,I.cell,I.free,I.freeC,fun p hp=>(Qbm.mp hp).elim (fun z=>I.pin p (QcA _ z)) (h p),I.hok,I.len⟩
def xE{N:List Str}(hN:N.Nodup){i j:Nat}(a:N[i]? =some x)(b:N[j]? =some x):i=j:=by
 obtain⟨h1,e1⟩:=Qab.mp a;obtain⟨h2,e2⟩:=Qab.mp b;exact(List.getElem_inj hN).mp (e1.trans e2.symm)
def yS{M:Model}{A:Around}{E:Aab}{i:Nat}{x:Str}{v:V}{u:Value}{Q:Unit->Qdd->Prop}(I:Inv X pins σ H s)(hN:X.N.Nodup)(hi:X.N[i]? =some x)(hx:Loc X.env.scope x)(r:RelV v u)
 (h:∀s',Inv X pins (σ.set i (some v)) H s'->(∃a,Heap.SameBut a s.heap s'.heap/\(a=X.env.locals\/X.env.cells.lookup x=some a))->Q () s') (hf:X.fn x=true\/X.env.scope.names.lookup x=some .local:=by first | exact .inl rfl | exact .inr rfl | assumption):wpAny M A (storeName X.env x u) Q E s:=by
 obtain⟨m,hn,hl⟩:=id I.loc;have hcls:(X.env.scope.kind== .class || (X.env.scope.kind== .module && X.env.locals !=X.env.globals))=false:=by rw[I.ok.kind];rfl
 have hiσ:i<σ.length:=by rw[I.len];exact(Qab.mp hi).1
 have KU:=I.KU;have tracked:∀{a:Addr} {h':Heap},(∃o,s.heap.get? a=some o/\H a=none)->Heap.SameBut a s.heap h'->oF X.prog X.w H h':=fun {a h'} ha hs b ob e=>by
  obtain⟨_,_,hfree⟩:=ha;refine(I.hok b ob e).vd (fun c w' hc q=>(hs.2 c ?_).trans q) (fun _ q=>q) fun _ _ q=>q
  rintro rfl;rcases hc with rfl | hc
  .rw [hfree] at e;cases e
  .rw [hfree] at hc;cases hc
 rcases hx with hk | hk
 .refine wpAny_storeName_local hk hn (fun h' UO hs=>?_) hcls
  obtain⟨oL,_,_,hoL,_⟩:=id hn;refine h _ ⟨I.ok,I.os,I.bare,⟨fun b o e n hb hx=>?_,fun b o e n hb hx=>?_,I.base.free,fun b o e hx=>?_,I.base.tups,I.base.frzs,I.base.tbls⟩,⟨_,UO,fun j y v' e1 e2 e3=>?_⟩,fun y c e=>?_,I.free,I.freeC,fun p hp=>?_,tracked ⟨oL,hoL,I.free⟩ hs,by simpa using I.len⟩ ⟨_,hs, .inl rfl⟩
  .exact(hs.2 b (QaO (QaC (Qaw e) I.ok.above))).trans (I.base.keep b o e n hb hx)
  .obtain⟨sl,e1⟩:=I.base.slot b o e n hb hx;exact⟨sl,(hs.2 b (QaO (QaC (Qaw e) I.ok.above))).trans e1⟩
  .obtain⟨o',e1⟩:=I.base.there b o e hx;exact⟨o',(hs.2 b (QaO (QaC (Qaw e) I.ok.above))).trans e1⟩
  .by_cases hj:j=i
   .subst hj;rw[hi] at e1;cases e1;rw[Qao hiσ] at e2;cases e2;exact⟨u,r, .inl ⟨hk,by simp⟩⟩
   .rw [Qaq (Qbh hj)] at e2;obtain⟨u',r',q⟩:=hl j y v' e1 e2 e3;refine⟨u',r',?_⟩;rcases q with⟨k,e⟩ | ⟨k,c,e,z⟩
    .refine .inl ⟨k,?_⟩;have:y≠x:=fun e=>hj (xE hN e1 (e▸hi))
     simp [this,e]
    .exact .inr ⟨k,c,e,z.sameBut hs (KU y c e)⟩
  .obtain⟨w',z⟩:=I.cell y c e;exact⟨w',z.sameBut hs (KU y c e)⟩
  .obtain⟨e,n,ne,nf,d⟩:=I.pin p hp;exact⟨(hs.2 p.1 ne).trans e,n,ne,nf,d⟩
 .have hfn:X.fn x=true:=by
   rcases hf with z | z
   .exact z
   .rw [z] at hk;cases hk
  obtain⟨c,hc⟩:=I.ok.has x (.inl hk);obtain⟨w',z⟩:=I.cell x c hc;refine wpAny_storeName_cell I.ok.kind hk hc z (fun h' HJ hs=>?_)
  obtain⟨oc,hoc,hocd⟩:=id z;refine h {s with heap:=h'} ⟨I.ok,I.os,I.bare,⟨fun b o e n hb hx=>?_,fun b o e n hb hx=>?_,I.base.free,fun b o e hx=>?_,I.base.tups,I.base.frzs,I.base.tbls⟩,⟨m,hn.sameBut hs (Qbh (KU x c hc)),fun j y v' e1 e2 e3=>?_⟩,fun y c' e=>?_,I.free,I.freeC,fun p hp=>?_,tracked ⟨oc,hoc,I.freeC x c hc⟩ hs,by simpa using I.len⟩ ⟨c,hs, .inr hc⟩
  .exact(hs.2 b (QaO (QaC (Qaw e) (I.ok.cab x c hfn hc)))).trans (I.base.keep b o e n hb hx)
  .obtain⟨sl,e1⟩:=I.base.slot b o e n hb hx;exact⟨sl,(hs.2 b (QaO (QaC (Qaw e) (I.ok.cab x c hfn hc)))).trans e1⟩
  .obtain⟨o',e1⟩:=I.base.there b o e hx;exact⟨o',(hs.2 b (QaO (QaC (Qaw e) (I.ok.cab x c hfn hc)))).trans e1⟩
  .by_cases hj:j=i
   .subst hj;rw[hi] at e1;cases e1;rw[Qao hiσ] at e2;cases e2;exact⟨u,r, .inr ⟨.inl hk,c,hc,HJ⟩⟩
   .rw [Qaq (Qbh hj)] at e2;obtain⟨u',r',q⟩:=hl j y v' e1 e2 e3;refine⟨u',r',?_⟩;rcases q with q | ⟨k,c',e,z'⟩
    .exact .inl q
    .refine .inr ⟨k,c',e,z'.sameBut hs ?_⟩;rintro rfl;exact hj (xE hN e1 (I.ok.inj _ _ _ e hc▸hi))
  .by_cases hcc:c'=c
   .subst hcc;exact⟨_,HJ⟩
   .obtain⟨w2,z2⟩:=I.cell y c' e;exact⟨w2,z2.sameBut hs hcc⟩
  .obtain⟨e,n,ne,nf,d⟩:=I.pin p hp;refine⟨(hs.2 p.1 ?_).trans e,n,ne,nf,d⟩;intro q;rw[q,hoc] at e;have q':oc=p.2:=QaW e;exact d w' (by rw[<-q'];exact hocd)
def wR{M:Model}{A:Around}{E:Aab}{i:Nat}{x:Str}{v:V}{u:Value}{Q:Unit->Qdd->Prop}(I:Inv X pins σ H s)(hN:X.N.Nodup)(hi:X.N[i]? =some x)(hx:Loc X.env.scope x)(r:RelV v u)
 (h:∀s',Inv X pins (σ.set i (some v)) H s'->Q () s') (hf:X.fn x=true\/X.env.scope.names.lookup x=some .local:=by first | exact .inl rfl | exact .inr rfl | assumption):wpAny M A (storeName X.env x u) Q E s:=
 yS I hN hi hx r (fun s' I' _=>h s' I') hf
def Inv.Og{s':Qdd}{ch:List Addr}(I:Inv X pins σ H s)(ho:s'.os=s.os)(u:Un (ro X.stack) ch H H' s.heap s'.heap)(hok:oF X.prog X.w H' s'.heap)(hg:AllBare s'.gens)
 (Lv:∀b∈ch,(b∈X.ex\/X.s₀.heap.objs.size<=b)/\b≠X.env.locals/\(∀x c,X.env.cells.lookup x=some c->c≠b)/\∀p∈X.pn++pins,p.1≠b):Inv X pins σ H' s':=by
 obtain⟨h',g',d',t',o'⟩:=s';have e:o'=s.os:=ho;subst e;exact I.call (g':=g') (t':=t') (d':=d') u hok hg Lv
end
abbrev XK:=Value->Option Addr->Hp->Prop
abbrev St:=List (Option V)
abbrev VK:=V->Hp->Prop
abbrev TE:=St->Hp->VK->Prop
abbrev TT:=St->Hp->(Bool->Hp->Prop)->Prop
abbrev TA:=St->Hp->(List V->Hp->Prop)->Prop
structure Ends where
 nx:St->Hp->Prop
 rt:VK
 bk:St->Hp->Prop:=fun _ _=>False
 ct:St->Hp->Prop:=fun _ _=>False
abbrev TS:=Ends->St->Hp->Prop
def EP(X:Cx)(pins:Aaa)(σ:St)(Q:VK)(u:Value)(s':Qdd):Prop:=∃v H',Inv X pins σ H' s'/\RelV v u/\Q v H'
def TP(X:Cx)(pins:Aaa)(σ:St)(Q:Bool->Hp->Prop)(b:Bool)(s':Qdd):Prop:=∃H',Inv X pins σ H' s'/\Q b H'
def AP(X:Cx)(pins:Aaa)(σ:St)(Q:List V->Hp->Prop)(us:List Value)(s':Qdd):Prop:=∃vs H',Inv X pins σ H' s'/\Vals vs us/\Q vs H'
def SP(X:Cx)(pins:Aaa)(D:Ends)(f:Flow)(s':Qdd):Prop:=
 match f with
 | .next=>∃c7 H',Inv X pins c7 H' s'/\D.nx c7 H'
 | .brk=>∃c7 H',Inv X pins c7 H' s'/\D.bk c7 H'
 | .cont=>∃c7 H',Inv X pins c7 H' s'/\D.ct c7 H'
 | .ret u=>∃v c7 H',Inv X pins c7 H' s'/\RelV v u/\D.rt v H'
def PE(X:Cx)(e:Expr)(t:TE):Prop:=
 ∀(pins:Aaa) (s:Qdd) (σ:St) (H:Hp) (Q:VK),Inv X pins σ H s->t σ H Q->wpAny (model X.prog X.w) X.A (eval e X.env) (EP X pins σ Q) X.xe s
def PT(X:Cx)(e:Expr)(t:TT):Prop:=
 ∀(pins:Aaa) (s:Qdd) (σ:St) (H:Hp) (Q:Bool->Hp->Prop),Inv X pins σ H s->t σ H Q->wpAny (model X.prog X.w) X.A (isTrue e X.env (eval e X.env)) (TP X pins σ Q) X.xe s
def PW(X:Cx)(e:Expr)(t:TT):Prop:=
 ∀(whole:Sem Value) (pins:Aaa) (s:Qdd) (σ:St) (H:Hp) (Q:Bool->Hp->Prop),Inv X pins σ H s->t σ H Q->wpAny (model X.prog X.w) X.A (isTrue e X.env whole) (TP X pins σ Q) X.xe s
def PW.pt{X:Cx}{t:TT}(h:PW X e t):PT X e t:=h _
def PA(X:Cx)(es:List Expr)(t:TA):Prop:=
 ∀(pos:Pos) (pins:Aaa) (s:Qdd) (σ:St) (H:Hp) (Q:List V->Hp->Prop),Inv X pins σ H s->t σ H Q->wpAny (model X.prog X.w) X.A (spliced (backTo pos (starEach es X.env))) (AP X pins σ Q) X.xe s
def PS(X:Cx)(st:Stmt)(t:TS):Prop:=
 ∀(pins:Aaa) (s:Qdd) (σ:St) (H:Hp) (D:Ends),Inv X pins σ H s->t D σ H->wpAny (model X.prog X.w) X.A (exec st X.env) (SP X pins D) X.xe s
def AE(X:Cx)(st:List Stmt)(t:TS):Prop:=
 ∀(pins:Aaa) (s:Qdd) (σ:St) (H:Hp) (D:Ends),Inv X pins σ H s->t D σ H->wpAny (model X.prog X.w) X.A (execs st X.env) (SP X pins D) X.xe s
def eO{α:Type}{t:Sem α}{Q Q':α->Qdd->Prop}{M:Model}{E:Aab}{s:Qdd}(h:wpAny M A t Q E s)(hQ:∀a s,Q a s->Q' a s):wpAny M A t Q' E s:=QcB h hQ fun _ _ x=>x
section
variable {X:Cx}
def Vq(i:Nat):TE:=fun σ H Q=>∃v,σ[i]? =some (some v)/\Q v H
def tC(v:V):TE:=fun _ H Q=>Q v H
def pL{i:Nat}{pos:Pos}(hN:X.N[i]? =some x)(hv:GQ X.env.scope x)(hd:(x==("__debug__":Str))=false:=by decide)(qC:(x==("__classdict__":Str))=false:=by decide):PE X (.Name x pos) (Vq i):=by
 intro pins s σ H Q I h;obtain⟨v,e,h⟩:=h;obtain⟨m,hn,hl⟩:=I.loc;obtain⟨u,r,l⟩:=hl i x v hN e hv;have fin:EP X pins σ Q u s:=⟨v,H,I,r,h⟩;rcases l with⟨hk,hm⟩ | ⟨hk,c,hc,hcell⟩
 .exact wpAny_Name (wpAny_loadName_local I.ok.kind hk hn hm fin) hd
 .rcases hk with hk | hk
  .exact wpAny_Name (wpAny_loadName_cell I.ok.kind hk hc hcell fin) hd
  .exact wpAny_Name (wpAny_loadName_free I.ok.kind hk hc hcell fin qC) hd
def Rk{i j pos}:PE X (.Constant (.int i) j pos) (tC (.int i)):=fun _ _ _ H _ I h=>wpAny_Constant_int ⟨.int i,H,I.tok _,⟨_,rfl⟩,h⟩
def S5{b j pos}:PE X (.Constant (.bool b) j pos) (tC (.bl b)):=fun _ _ _ H _ I h=>Constant_bool ⟨.bl b,H,I,rfl,h⟩
def RC{j pos}:PE X (.Constant .none j pos) (tC .cR):=fun _ _ _ H _ I h=>Constant_none ⟨.cR,H,I,rfl,h⟩
def Rw{x j pos}:PE X (.Constant (.str x) j pos) (tC (.str x)):=fun _ _ _ H _ I h=>Calls.Constant_str ⟨.str x,H,I.tok _,⟨_,rfl⟩,h⟩
def Gl(X:Cx)(x:Str):Prop:=X.env.kindOf x=some .globalImplicit
def tL{E:Aab}{pins:Aaa}{s:Qdd}{σ:St}{H:Hp}{x:Str}{u:Value}{pos:Pos}{Q:Aab}(I:Inv X pins σ H s)(hg:Gl X x)(hm:X.mg x=some u)(h:Q u s)
 (hd:(x==("__debug__":Str))=false:=by decide):wpAny (model X.prog X.w) X.A (eval (.Name x pos) X.env) Q E s:=
 Calls.Name_function_global I.ok.kind hg (Calls.loadGlobal_global (by rw[I.ok.glob];exact I.mod.glob.keeps I.bk) hm h) hd
def n3{E:Aab}{pins:Aaa}{s:Qdd}{σ:St}{H:Hp}{x:Str}{u:Value}{pos:Pos}{Q:Aab}(I:Inv X pins σ H s)(hg:Gl X x)(hm:X.mg x=none)(hv:bootBuiltins x=some u)(h:Q u s)
 (hn:x≠"__name__":=by decide) (hd:(x==("__debug__":Str))=false:=by decide):wpAny (model X.prog X.w) X.A (eval (.Name x pos) X.env) Q E s:=by
 obtain⟨mb,h1,h2⟩:=I.mod.blt;exact Calls.Name_function_global I.ok.kind hg (Calls.loadGlobal_builtin (by rw[I.ok.glob];exact I.mod.glob.keeps I.bk) hm (by rw[I.ok.blt];exact h1.keeps I.bk) ((h2 x hn).trans hv) h) hd
def vJ{v:V}{u:Value}{pos:Pos}(hg:Gl X x)(hm:X.mg x=some u)(r:RelV v u)(hd:(x==("__debug__":Str))=false:=by decide):PE X (.Name x pos) (tC v):=
 fun _ _ _ H _ I h=>tL I hg hm ⟨v,H,I,r,h⟩ hd
def LF{v:V}{u:Value}{pos:Pos}(hg:Gl X x)(hm:X.mg x=none)(hv:bootBuiltins x=some u)(r:RelV v u)(hn:x≠"__name__":=by decide)(hd:(x==("__debug__":Str))=false:=by decide):PE X (.Name x pos) (tC v):=
 fun _ _ _ H _ I h=>n3 I hg hm hv ⟨v,H,I,r,h⟩ hn hd
def UR(ta tb:TE)(k:Int->Int->Hp->Prop):St->Hp->Prop:=fun σ H=>ta σ H fun x H1=>tb σ H1 fun y H2=>∃i j,x= .int i/\y= .int j/\k i j H2
def YW(ta tb:TE):TE:=fun σ H Q=>UR ta tb (fun i j H2=>Q (.int (i+j)) H2) σ H
def Zm(ta tb:TE):TE:=fun σ H Q=>UR ta tb (fun i j H2=>Q (.int (i - j)) H2) σ H
def YX(ta tb:TE):TE:=fun σ H Q=>UR ta tb (fun i j H2=>(-(2 ^ 64)<i/\i<2 ^ 64)/\Q (.int (i*j)) H2) σ H
variable {a b:Expr} {ta tb:TE} {pos:Pos}
def PC(X:Cx)(op:CmpOp)(a b:Expr)(t:TE):Prop:=
 ∀(pins:Aaa) (s:Qdd) (σ:St) (H:Hp) (Q:VK),Inv X pins σ H s->t σ H Q->
  wpAny (model X.prog X.w) X.A (eval a X.env) (fun v s₁=>wpAny (model X.prog X.w) X.A (eval b X.env) (fun u K9=>wpAny (model X.prog X.w) X.A (compareOp op v u) (EP X pins σ Q) X.xe K9) X.xe s₁) X.xe s
def GL(p:Int->Int->Bool)(ta tb:TE):TE:=fun σ H Q=>UR ta tb (fun i j H2=>Q (.bl (p i j)) H2) σ H
abbrev tLt:TE->TE->TE:=GL fun i j=>decide (i<j)
abbrev tLe:TE->TE->TE:=GL fun i j=>decide (i<=j)
abbrev tGt:TE->TE->TE:=GL fun i j=>decide (j<i)
abbrev tGe:TE->TE->TE:=GL fun i j=>decide (j<=i)
abbrev Zo:TE->TE->TE:=GL fun i j=>decide (i=j)
abbrev Zp:TE->TE->TE:=GL fun i j=>!decide (i=j)
def ZC(ta:TE):TE:=fun σ H Q=>ta σ H fun x H1=>Q (.bl (decide (x= .cR))) H1
def Yf(ta:TE):TE:=fun σ H Q=>ta σ H fun x H1=>Q (.bl (!decide (x= .cR))) H1
def tB(t:TE):TT:=fun σ H Q=>t σ H fun x H1=>∃c,x= .bl c/\Q c H1
variable {tA Vg:TT} {rest:List Expr}
def Vl(t u:TT):TT:=fun σ H Q=>t σ H fun c H1=>if c=true then u σ H1 Q else Q false H1
def Zf(t u:TT):TT:=fun σ H Q=>t σ H fun c H1=>if c=true then Q true H1 else u σ H1 Q
def VQ(t:TT):TT:=fun σ H Q=>t σ H fun c H1=>Q (!c) H1
def FJ(ha:PT X a tA):PW X (.BoolOp .And [a] pos) tA:=by
 intro wh pins s σ H Q I h;refine isTrue_and (eO (ha pins s σ H Q I h) fun c s1 e=>?_)
 cases c with
 | true=>exact isTrue_and_nil e
 | false=>exact e
def HZ(ha:PT X a tA):PW X (.BoolOp .Or [a] pos) tA:=by
 intro wh pins s σ H Q I h;refine isTrue_or (eO (ha pins s σ H Q I h) fun c s1 e=>?_)
 cases c with
 | false=>exact isTrue_or_nil e
 | true=>exact e
def Ks(ha:PT X a tA)(hb:PW X (.BoolOp .And (b ::rest) pos) Vg):PW X (.BoolOp .And (a ::b ::rest) pos) (Vl tA Vg):=by
 intro wh pins s σ H Q I h;refine isTrue_and (eO (ha pins s σ H _ I h) fun c s1 ⟨H1,I1,q1⟩=>?_)
 cases c with
 | true=>exact hb wh pins s1 σ H1 Q I1 q1
 | false=>exact⟨H1,I1,q1⟩
def OH(ha:PT X a tA)(hb:PW X (.BoolOp .Or (b ::rest) pos) Vg):PW X (.BoolOp .Or (a ::b ::rest) pos) (Zf tA Vg):=by
 intro wh pins s σ H Q I h;refine isTrue_or (eO (ha pins s σ H _ I h) fun c s1 ⟨H1,I1,q1⟩=>?_)
 cases c with
 | true=>exact⟨H1,I1,q1⟩
 | false=>exact hb wh pins s1 σ H1 Q I1 q1
def IX(ha:PT X a tA):PT X (.UnaryOp .Not a pos) (VQ tA):=by
 intro pins s σ H Q I h;exact isTrue_not (ha pins s σ H (fun c H1=>Q (!c) H1) I h)
def Th(ta tb:TE):TE:=fun σ H Q=>ta σ H fun x H1=>∃c,x= .bl c/\if c=true then tb σ H1 Q else Q (.bl false) H1
def Zr(ta tb:TE):TE:=fun σ H Q=>ta σ H fun x H1=>∃c,x= .bl c/\if c=true then Q (.bl true) H1 else tb σ H1 Q
def Yh(ta:TE):TE:=fun σ H Q=>ta σ H fun x H1=>∃c,x= .bl c/\Q (.bl (!c)) H1
def Qs{op}{t:TE}(h:PE X a t):PE X (.BoolOp op [a] pos) t:=fun pins s σ H Q I hw=>BoolOp_one (h pins s σ H Q I hw)
def Rh(ha:PE X a ta)(hb:PE X (.BoolOp .And (b ::rest) pos) tb):PE X (.BoolOp .And (a ::b ::rest) pos) (Th ta tb):=by
 intro pins s σ H Q I h;refine BoolOp_and (eO (ha pins s σ H _ I h) fun v s1 ⟨x,H1,I1,r1,q1⟩=>?_)
 obtain⟨c,rfl,q1⟩:=q1;cases r1;refine Qcn ?_;cases c with
 | true=>exact hb pins s1 σ H1 Q I1 q1
 | false=>exact⟨.bl false,H1,I1,rfl,q1⟩
def Zz(t:TT)(ta tb:TE):TE:=fun σ H Q=>t σ H fun c H1=>if c=true then ta σ H1 Q else tb σ H1 Q
def IV(hc:PT X c tA)(ha:PE X a ta)(hb:PE X b tb):PE X (.IfExp c a b pos) (Zz tA ta tb):=by
 intro pins s σ H Q I h;refine wpAny_IfExp (eO (hc pins s σ H _ I h) fun d s1 ⟨H1,I1,q1⟩=>?_)
 cases d with
 | true=>exact ha pins s1 σ H1 Q I1 q1
 | false=>exact hb pins s1 σ H1 Q I1 q1
end
def rB(K:Qdc)(H:Hp)(a:Addr)(xs:List V):Prop:=
 Rd H a (.lst xs)\/
  ∃(o:Obj) (its:Array Value) (n:Nat),K.lookup a=some o/\o.cls= .type "list"/\o.dict=none/\o.data= .seq its n/\its.size<=sizeLine/\Vals xs its.toList
def vm(K:Qdc)(H:Hp)(a:Addr)(xs:List V):Prop:=
 Rd H a (.tup xs)\/
  ∃(o:Obj) (its:Array Value) (n:Nat),K.lookup a=some o/\o.cls= .type "tuple"/\o.data= .seq its n/\its.size<=sizeLine/\Vals xs its.toList
def Wq:Value->Option V
 | .none=>some .cR
 | .bool b=>some (.bl b)
 | .int i _=>some (.int i)
 | .str x _=>some (.str x)
 | .bytes b _=>some (.byt b)
 | .float b _=>some (.flt b)
 | .ref a=>some (.ref a)
 | .type n=>some (.ty n)
 | _=>none
def RelV.abs{x:V}{u:Value}(r:RelV x u):Wq u=some x:=by
 cases x with
 | cR=>cases r;rfl
 | bl _=>cases r;rfl
 | int _=>obtain⟨t,rfl⟩:=r;rfl
 | str _=>obtain⟨t,rfl⟩:=r;rfl
 | byt _=>obtain⟨t,rfl⟩:=r;rfl
 | flt _=>obtain⟨t,rfl⟩:=r;rfl
 | ref _=>cases r;rfl
 | ty _=>cases r;rfl
def RelV.inj{x y:V}{u:Value}(r:RelV x u)(q:RelV y u):x=y:=QaW (r.abs.symm.trans q.abs)
theorem Vals.inj:∀{xs ys:List V} {us:List Value},Vals xs us->Vals ys us->xs=ys
 | _,_,_, .nil, .nil=>rfl
 | _,_,_, .cons r t, .cons r' t'=>by rw[r.inj r',Vals.inj t t']
section
variable {X:Cx} {pins:Aaa} {σ:St} {H:Hp} {s:Qdd} {a:Addr} {xs ys:List V}
def rB.of{K:Qdc}(h:H a=some (.lst xs)):rB K H a xs:= .inl (.inl h)
def Inv.list(I:Inv X pins σ H s)(h:rB X.K H a xs):∃its:List Value,Vals xs its/\PlainL s.heap a its.toArray/\xs.length<=sizeLine:=by
 rcases h with h | ⟨o,its,n,hk,hc,hd,hs,hz,r⟩
 .obtain⟨z,its,n,r,e⟩:=h.ok I.hok;exact⟨its,r,⟨_,n,e,rfl,rfl,rfl⟩,z⟩
 .refine⟨its.toList,r,⟨o,n,I.A9 a o hk,hc,hd,by simpa using hs⟩,?_⟩
  have e:=r.length;simp only[Array.length_toList] at e;omega
def Inv.tuple(I:Inv X pins σ H s)(h:vm X.K H a xs):∃its:List Value,Vals xs its/\IsTup s.heap a its.toArray/\xs.length<=sizeLine:=by
 rcases h with h | ⟨o,its,n,hk,hc,hs,hz,r⟩
 .obtain⟨z,its,r,p⟩:=h.ok I.hok;exact⟨its,r,p,z⟩
 .refine⟨its.toList,r,⟨o,I.A9 a o hk,hc,n,by simpa using hs⟩,?_⟩
  have e:=r.length;simp only[Array.length_toList] at e;omega
def Inv.tT(I:Inv X pins σ H s)(h:rB X.K H a xs)(h':rB X.K H a ys):xs=ys:=by
 obtain⟨its,r,⟨o,n,e,_,_,d⟩,_⟩:=I.list h;obtain⟨its',r',⟨o',n',e',_,_,d'⟩,_⟩:=I.list h';rw[e] at e';cases e';rw[d] at d';injection d' with d1 _
 have:its=its':=by simpa using Qbk Array.toList d1
 subst this;exact r.inj r'
def Inv.t6(I:Inv X pins σ H s)(h:vm X.K H a xs)(h':vm X.K H a ys):xs=ys:=by
 obtain⟨its,r,⟨o,e,_,n,d⟩,_⟩:=I.tuple h;obtain⟨its',r',⟨o',e',_,n',d'⟩,_⟩:=I.tuple h';rw[e] at e';cases e';rw[d] at d';injection d' with d1 _
 have:its=its':=by simpa using Qbk Array.toList d1
 subst this;exact r.inj r'
end
abbrev Cx.yq(X:Cx)(E:Aab):Cx:={X with xe:=E}
abbrev Cx.MG(X:Cx):Cx:=X.yq fun _ _=>False
def Cx.Ok.yq{X:Cx}(ok:X.Ok)(E:Aab):(X.yq E).Ok:=
 ⟨ok.mod,ok.kind,ok.glob,ok.blt,ok.above,ok.inj,ok.has,ok.cab,ok.hd,ok.frames,ok.stk,ok.exf,ok.bs,ok.bsz,ok.noex,ok.exfs,ok.sS,ok.frf⟩
def Cx.Ok.pj{X:Cx}{E:Aab}(ok:(X.yq E).Ok):X.Ok:=
 ⟨ok.mod,ok.kind,ok.glob,ok.blt,ok.above,ok.inj,ok.has,ok.cab,ok.hd,ok.frames,ok.stk,ok.exf,ok.bs,ok.bsz,ok.noex,ok.exfs,ok.sS,ok.frf⟩
section
variable {X:Cx} {pins:Aaa} {σ:St} {H:Hp} {s:Qdd} {E:Aab}
def Inv.yq(I:Inv X pins σ H s)(E:Aab):Inv (X.yq E) pins σ H s:=⟨I.ok.yq E,I.os,I.bare,I.base,I.loc,I.cell,I.free,I.freeC,I.pin,I.hok,I.len⟩
def Inv.pj(I:Inv (X.yq E) pins σ H s):Inv X pins σ H s:=⟨I.ok.pj,I.os,I.bare,I.base,I.loc,I.cell,I.free,I.freeC,I.pin,I.hok,I.len⟩
def SP.pj{D:Ends}{f:Flow}{s':Qdd}(h:SP (X.yq E) pins D f s'):SP X pins D f s':=by
 cases f with
 | next=>obtain⟨c7,H',I,q⟩:=h;exact⟨c7,H',I.pj,q⟩
 | brk=>obtain⟨c7,H',I,q⟩:=h;exact⟨c7,H',I.pj,q⟩
 | cont=>obtain⟨c7,H',I,q⟩:=h;exact⟨c7,H',I.pj,q⟩
 | ret u=>obtain⟨v,c7,H',I,r,q⟩:=h;exact⟨v,c7,H',I.pj,r,q⟩
def AE.MG{st:List Stmt}{t:TS}(h:AE X.MG st t):AE X st t:=fun pins s σ H D I hw=>
 QcB (h pins s σ H D (I.yq _) hw) (fun _ _ q=>q.pj) fun _ _ z=>False.elim z
end
section
variable {X:Cx} {st:Stmt} {rest:List Stmt} {t u:TS} {e:Expr} {te:TE} {pos:Pos}
def T8:TS:=fun D σ H=>D.nx σ H
def SY(t u:TS):TS:=fun D σ H=>t {D with nx:=u D} σ H
def Az:AE X [] T8:=fun _ _ σ H _ I h=>QcC ⟨σ,H,I,h⟩
def wq(h1:PS X st t)(h2:AE X rest u):AE X (st ::rest) (SY t u):=by
 intro pins s σ H D I h;refine wpAny_execs_cons (eO (h1 pins s σ H {D with nx:=u D} I h) fun f s1 q=>?_)
 cases f with
 | next=>
   obtain⟨c7,H',I',q⟩:=q;exact h2 pins s1 c7 H' D I' q
 | ret v=>exact q
 | brk=>exact q
 | cont=>exact q
def zJ(h1:PS X st t):AE X [st] t:=by
 intro pins s σ H D I h;refine wpAny_execs_cons (eO (h1 pins s σ H D I h) fun f s1 q=>?_)
 cases f with
 | next=>exact QcC q
 | ret v=>exact q
 | brk=>exact q
 | cont=>exact q
def Vv:TS:=fun D σ H=>D.bk σ H
def Yd:TS:=fun D σ H=>D.ct σ H
def Inv.quiet{pins:Aaa}{s:Qdd}(I:Inv X pins σ H s):interactive X.env=false:=by simp [interactive,I.ok.kind]
def TZ(te:TE):TS:=fun D σ H=>te σ H fun _ H1=>D.nx σ H1
def tm(he:PE X e te)(hs:swapsWith e none pos.line X.env=pure false:=by rfl):PS X (.Expr e pos) (TZ te):=by
 intro pins s σ H D I h;exact wpAny_Expr_any (eO (he pins s σ H _ I h) fun v s1 ⟨x,H1,I1,r1,q1⟩=>⟨σ,H1,I1,q1⟩) I.quiet hs
def V2(te:TE):TS:=fun D σ H=>te σ H D.rt
def Iw(he:PE X e te):PS X (.Return (some e) pos) (V2 te):=by
 intro pins s σ H D I h;exact wpAny_Return_some (eO (he pins s σ H _ I h) fun v s1 ⟨x,H1,I1,r1,q1⟩=>⟨x,σ,H1,I1,r1,q1⟩)
def Yj:TS:=fun D _ H=>D.rt .cR H
def Tg(c:TT)(t u:TS):TS:=fun D σ H=>c σ H fun b H1=>if b=true then t D σ H1 else u D σ H1
def Kg{tc:TT}(hc:PT X c tc)(ha:AE X a t)(hb:AE X b u):PS X (.If c a b pos) (Tg tc t u):=by
 intro pins s σ H D I h;refine wpAny_If (eO (hc pins s σ H _ I h) fun d s1 ⟨H1,I1,q1⟩=>?_)
 cases d with
 | true=>exact ha pins s1 σ H1 D I1 q1
 | false=>exact hb pins s1 σ H1 D I1 q1
def Wv:TS:=fun _ _ _=>False
end
abbrev TG:=V->St->Hp->(St->Hp->Prop)->Prop
abbrev JS:=List V->St->Hp->(St->Hp->Prop)->Prop
def PG(X:Cx)(target:Expr)(t:TG):Prop:=
 ∀(pins:Aaa) (s:Qdd) (σ:St) (H:Hp) (v:V) (u:Value) (Q:St->Hp->Prop),Inv X pins σ H s->RelV v u->t v σ H Q->
  wpAny (model X.prog X.w) X.A (assign target X.env u) (fun _ s'=>∃c7 H',Inv X pins c7 H' s'/\Q c7 H') X.xe s
def LP(X:Cx)(ts:List Expr)(t:JS):Prop:=
 ∀(pins:Aaa) (s:Qdd) (σ:St) (H:Hp) (vs:List V) (us:List Value) (Q:St->Hp->Prop),Inv X pins σ H s->Vals vs us->t vs σ H Q->
  wpAny (model X.prog X.w) X.A (assignInOrder ((assignEach ts X.env).map (·.2)) us) (fun _ s'=>∃c7 H',Inv X pins c7 H' s'/\Q c7 H') X.xe s
abbrev QI:=V->V->V->Hp->(Hp->Prop)->Prop
def ZI(X:Cx)(t:QI):Prop:=
 ∀(pins:Aaa) (s:Qdd) (σ:St) (H:Hp) (o i v:V) (ov iv u:Value) (Q:Hp->Prop),Inv X pins σ H s->RelV o ov->RelV i iv->RelV v u->t o i v H Q->
  wpAny (model X.prog X.w) X.A (setItem ov iv u) (fun _ s'=>∃H',Inv X pins σ H' s'/\Q H') X.xe s
abbrev U3:=V->V->Hp->VK->Prop
def PIp(X:Cx)(op:Operator)(t:U3):Prop:=
 ∀(pins:Aaa) (s:Qdd) (σ:St) (H:Hp) (x y:V) (v u:Value) (Q:VK),Inv X pins σ H s->RelV x v->RelV y u->t x y H Q->
  wpAny (model X.prog X.w) X.A (inplaceOp op v u) (EP X pins σ Q) X.xe s
section
variable {X:Cx} {pos:Pos}
def xt(i:Nat):TG:=fun v σ H Q=>Q (σ.set i (some v)) H
def FQ{i:Nat}(hN:X.N.Nodup)(hi:X.N[i]? =some x)(hx:Loc X.env.scope x)(hf:X.fn x=true\/X.env.scope.names.lookup x=some .local:=by first | exact .inl rfl | exact .inr rfl | assumption):PG X (.Name x pos) (xt i):=by
 intro pins s σ H v u Q I r h;exact wpAny_assign_Name (wR I hN hi hx r (fun s' I'=>⟨_,H,I',h⟩) hf)
def Wu:JS:=fun vs σ H Q=>vs=[]/\Q σ H
def Ui(t:TG)(u:JS):JS:=fun vs σ H Q=>∃v r,vs=v ::r/\t v σ H fun c7 H'=>u r c7 H' Q
def Fg:LP X [] Wu:=by
 intro pins s σ H vs us Q I r h;obtain⟨e,h⟩:=h;subst e;cases r;exact assignInOrder_nil ⟨σ,H,I,h⟩
def Bo{e:Expr}{es:List Expr}{t:TG}{u:JS}(h1:PG X e t)(h2:LP X es u)
 (hs:(assignEach (e ::es) X.env).map (·.2)=assign e X.env ::(assignEach es X.env).map (·.2):=by rfl):LP X (e ::es) (Ui t u):=by
 intro pins s σ H vs us Q I r h;obtain⟨v,vr,e1,h⟩:=h;subst e1;cases r with
 | cons r rr=>
   rw[hs];refine assignInOrder_cons (eO (h1 pins s σ H _ _ _ I r h) fun _ s1 ⟨RV,H1,I1,q1⟩=>?_)
   exact h2 pins s1 RV H1 _ _ Q I1 rr q1
def VW(K:Qdc)(n:Nat)(t:JS):TG:=fun v σ H Q=>∃a xs,v= .ref a/\vm K H a xs/\xs.length=n/\t xs σ H Q
def HU{es:List Expr}{k:Nat}{t:JS}{n:Nat}(hc:X.calm=true)(h:LP X es t)
 (hn:(assignEach es X.env).length=n:=by rfl) (xV:(assignEach es X.env).findIdx? (·.1)=none:=by rfl):PG X (.Tuple es k pos) (VW X.K n t):=by
 intro pins s σ H v u Q I r hw;obtain⟨a,xs,e1,hq,hl,hw⟩:=hw;subst e1;cases r;obtain⟨its,rv,ht,hz⟩:=I.tuple hq;refine assign_Tuple_tuple (I.ok.hd hc) ht (by simp [hn,<-hl,rv.length]) xV fun h' hx=>?_
 have I1:Inv X pins σ H {s with heap:=h'}:=I.kept (t':=s.toks) fun b o e=>hx b o (QaO (Qaw e)) e
 exact h pins _ σ H xs _ Q I1 (by simpa using rv) hw
def ZU(to ti:TE)(t:QI):TG:=fun v σ H Q=>to σ H fun o H1=>ti σ H1 fun i H2=>t o i v H2 fun H3=>Q σ H3
def GG(te:TE)(g:TG):TS:=fun D σ H=>te σ H fun x H1=>g x σ H1 D.nx
def Pb{tg e:Expr}{te:TE}{g:TG}(he:PE X e te)(hg:PG X tg g)(hs:swapsWithSole [tg] e pos.line X.env=pure false:=by rfl)(hw:swappedStores [tg] e X.env=pure none:=by rfl)
 (h1:(assignEach [tg] X.env).map (·.2)=[assign tg X.env]:=by rfl):PS X (.Assign [tg] e pos) (GG te g):=by
 intro pins s σ H D I h;refine wpAny_Assign_stores (eO (he pins s σ H _ I h) fun v s1 ⟨x,H1,I1,r1,q1⟩=>?_) hs hw
 rw[h1];exact eO (hg pins s1 σ H1 x v _ I1 r1 q1) fun _ s2 q=>q
def D1{i:Nat}{te:TE}(hN:X.N.Nodup)(hi:X.N[i]? =some x)(hx:Loc X.env.scope x)(he:PE X e te)(hs:swapsWith e (some (.Name x pos')) pos.line X.env=pure false:=by rfl)(hf:X.fn x=true\/X.env.scope.names.lookup x=some .local:=by first | exact .inl rfl | exact .inr rfl | assumption) :
 PS X (.Assign [.Name x pos'] e pos) (GG te (xt i)):=by
 intro pins s σ H D I h;refine wpAny_Assign_Name (eO (he pins s σ H _ I h) fun v s1 ⟨y,H1,I1,r1,q1⟩=>?_) hs
 exact wR I1 hN hi hx r1 (fun s2 I2=>⟨_,H1,I2,q1⟩) hf
def Zq(i j:Nat)(ta:TA):TS:=fun D σ H=>ta σ H fun vs H1=>∃v w,vs=[v,w]/\D.nx ((σ.set i (some v)).set j (some w)) H1
def Zx(i:Nat)(te:TE)(ti:U3):TS:=fun D σ H=>∃x,σ[i]? =some (some x)/\te σ H fun y H1=>ti x y H1 fun z H2=>D.nx (σ.set i (some z)) H2
def XT(to ti te:TE)(WZ:V->V->Hp->VK->Prop)(tip:U3)(WX:QI):TS:=fun D σ H=>to σ H fun o H1=>ti σ H1 fun i H2=>WZ o i H2 fun x H3=>te σ H3 fun y H4=>tip x y H4 fun z H5=>WX o i z H5 fun H6=>D.nx σ H6
def ZS(X:Cx)(t:V->V->Hp->VK->Prop):Prop:=
 ∀(pins:Aaa) (s:Qdd) (σ:St) (H:Hp) (o i:V) (ov iv:Value) (Q:VK),Inv X pins σ H s->RelV o ov->RelV i iv->t o i H Q->
  wpAny (model X.prog X.w) X.A (getItem ov iv) (EP X pins σ Q) X.xe s
def ipI(f:Int->Int->Int):U3:=fun x y H Q=>∃i j,x= .int i/\y= .int j/\Q (.int (f i j)) H
end
section
variable {X:Cx} {pos:Pos}
def VR(c:TT)(tb:TS):TS:=fun D σ H=>∃W:Nat->St->Hp->Prop,(∃m,W m σ H)/\∀m σ H,W m σ H->
 c σ H fun b H1=>if b=true then ∃N:St->Hp->Prop,(∀c7 H',N c7 H'->∃m',m'<m/\W m' c7 H')/\tb {D with nx:=N,ct:=N,bk:=D.nx} σ H1 else D.nx σ H1
end
structure It where
 go:Nat->Hp->Prop
 yld:Nat->Hp->V->Hp->Prop
 stop:Nat->Hp->Prop
def u_(X:Cx)(pins:Aaa)(H:Hp)(b:Addr):Prop:=
 H b=none/\b≠X.env.locals/\b ∉ X.fs/\(b∈X.ex\/X.s₀.heap.objs.size<=b)/\(∀x c,X.env.cells.lookup x=some c->c≠b)/\∀p∈X.pn++pins,p.1≠b
def Inv.wX{X:Cx}{pins:Aaa}{H H':Hp}{s:Qdd}{b:Addr}(I:Inv X pins σ H s)(hb:s.heap.objs.size<=b)(hn:H' b=none):u_ X pins H' b:=by
 refine⟨hn,Qcf (QaC I.lt hb),I.VY hb, .inr (Qa0 I.sz hb),fun x c e z=>?_,fun p hp z=>?_⟩
 .obtain⟨v,q⟩:=I.cell x c e;exact absurd (QaC q.lt (by rw[z];exact hb)) (QbB _)
 .exact absurd (QaC (Qaw (I.pin p hp).1) (by rw[z];exact hb)) (QbB _)
structure Turn (P:Program) (w:World) (K:Qdc) (tg:Expr) (J:It) (fp:List Addr) (it:Addr) (tn:Nat->Heap->Prop):Prop where
 mem:it∈fp
 obj:∀i h,tn i h->∀b∈fp,∃o,h.get? b=some o/\∀v,o.data≠ .cell v
 keep:∀i h h',tn i h->(∀b∈fp,∀o,h.get? b=some o->h'.get? b=some o)->tn i h'
 item:∀(X:Cx),X.prog=P->X.w=w->X.K=K->X.calm=true->∀(i:Nat) (pins:Aaa) (s:Qdd) (σ:St) (H:Hp) (E:Aab),Inv X pins σ H s->(∀b∈fp,u_ X pins H b)->tn i s.heap->J.go i H->
  wpAny (model P w) X.A (pyNext (.ref it)) (fun r s1=>∃u,r=some u/\
   wpAny (model P w) X.A (letOwnedTupleGo tg (.ref it) u) (fun _ s2=>∃x H',Inv X pins σ H' s2/\RelV x u/\J.yld i H x H'/\tn (i+1) s2.heap/\∀b∈fp,H' b=none) E s1) E s
 done:∀(X:Cx),X.prog=P->X.w=w->X.K=K->X.calm=true->∀(i:Nat) (pins:Aaa) (s:Qdd) (σ:St) (H:Hp) (E:Aab),Inv X pins σ H s->(∀b∈fp,u_ X pins H b)->tn i s.heap->J.stop i H->
  wpAny (model P w) X.A (pyNext (.ref it)) (fun r s1=>r=none/\Inv X pins σ H s1) E s
 self:∀(A:Around) (i:Nat) (s:Qdd) (Q:Aab) (E:Aab),tn i s.heap->Q (.ref it) s->wpAny (model P w) A (pyIter (.ref it)) Q E s
abbrev TI:=St->Hp->(It->Hp->Prop)->Prop
def X0(X:Cx)(pins:Aaa)(σ:St)(tg:Expr)(R:It->Hp->Prop)(U_:Value)(s2:Qdd):Prop:=
 ∃(it:Addr) (fp:List Addr) (tn:Nat->Heap->Prop) (J:It) (H':Hp),U_= .ref it/\Inv X pins σ H' s2/\Turn X.prog X.w X.K tg J fp it tn/\tn 0 s2.heap/\(∀b∈fp,u_ X pins H' b)/\R J H'
def PI(X:Cx)(tg iter:Expr)(wi:TI):Prop:=
 ∀(pins:Aaa) (s:Qdd) (σ:St) (H:Hp) (R:It->Hp->Prop),Inv X pins σ H s->wi σ H R->
  wpAny (model X.prog X.w) X.A (eval iter X.env) (fun v s1=>wpAny (model X.prog X.w) X.A (pyIter v) (X0 X pins σ tg R) X.xe s1) X.xe s
def Fw{M:Model}{A:Around}{E:Aab}{s:Qdd}{tg:Expr}{it:Addr}{u:Value}{o:Obj}{n:String}{vs:Array Value}{Q:Unit->Qdd->Prop}(ho:s.heap.get? it=some o)(hc:o.cls= .type n)(hd:o.data= .fields vs)
 (hn:["enumerate","zip","dict_itemiterator","dict_reverseitemiterator","odict_iterator","itertools.zip_longest","itertools.pairwise"].contains n=false) (hQ:Q () s):wpAny M A (letOwnedTupleGo tg (.ref it) u) Q E s:=by
 unfold letOwnedTupleGo;cases tg <;> first
  | exact QaK hQ
  | (cases u <;> first
      | exact QaK hQ
      | (refine Qaf (wpAny_load ho ?_)
         rw[hc,hd];show wpAny M A (if(["enumerate","zip","dict_itemiterator","dict_reverseitemiterator","odict_iterator","itertools.zip_longest","itertools.pairwise"].contains n && vs[0]? ==some (rawInt _))=true then _ else _) Q E s
         rw[QaB (by intro h;rw [hn,Bool.false_and] at h;cases h)]
         exact QaK hQ))
def X8(K:Qdc)(a:Addr):It:=
 ⟨fun i H=>∃xs x,rB K H a xs/\xs[i]? =some x,fun i H x H'=>H'=H/\∀xs,rB K H a xs->xs[i]? =some x,fun i H=>∃xs,rB K H a xs/\xs.length<=i⟩
def XI(K:Qdc)(a:Addr):It:=
 ⟨fun i H=>∃xs x,vm K H a xs/\xs[i]? =some x,fun i H x H'=>H'=H/\∀xs,vm K H a xs->xs[i]? =some x,fun i H=>∃xs,vm K H a xs/\xs.length<=i⟩
def Sx(lo:Int)(n:Nat):It:=⟨fun i _=>i<n,fun i H x H'=>H'=H/\x= .int (lo+i),fun i _=>n<=i⟩
def y_{K:Qdc}(a it:Addr):Turn P w K tg (X8 K a) [it] it (fun i h=>h.IsListIter it a i) where
 mem:=by simp
 obj:=fun i h st b hb=>by
  have e:b=it:=by simpa using hb
  subst e;obtain⟨o,e,c,d⟩:=st;exact⟨o,e,fun v z=>by rw[d] at z;cases z⟩
 keep:=fun i h h' st k=>st.at fun o e=>k it (by simp) o e
 item:=by
  intro X hP hw hK hc i pins s σ H E I hf st hg;subst hP hw hK;obtain⟨xs,x,hq,hx⟩:=hg;obtain⟨its,rv,p,hz⟩:=I.list hq;obtain⟨u,hu,ru⟩:=rv.get hx;obtain⟨f0,f1,f2,f3,f4,f5⟩:=hf it (by simp)
  refine wpAny_pyNext_list_item st p.isList (x:=u) (by simpa using hu) fun h' KZ sb=>?_
  have I1:Inv X pins σ H {s with heap:=h'}:=I.turned (t':=s.toks) (fun b o hb e=>(sb.2 b hb).trans e) f0 f1 f3 f4 f5
  obtain⟨o,e,c,d⟩:=id KZ;exact⟨u,rfl,Fw (s:={s with heap:=h'}) e c d (by decide) ⟨x,H,I1,ru,⟨rfl,fun ys hy=>by rw[I.tT hy hq];exact hx⟩,KZ,fun b hb=>(hf b hb).1⟩⟩
 done:=by
  intro X hP hw hK hc i pins s σ H E I hf st hg;subst hP hw hK;obtain⟨xs,hq,hx⟩:=hg;obtain⟨its,rv,p,hz⟩:=I.list hq;obtain⟨f0,f1,f2,f3,f4,f5⟩:=hf it (by simp)
  have hl:=rv.length;exact wpAny_pyNext_list_end (I.ok.hd hc) st p.isList (by simp;omega) fun h' eb=>⟨rfl,I.turned (t':=s.toks) (fun b o hb e=>eb b o hb e) f0 f1 f3 f4 f5⟩
 self:=fun _ _ _ _ _ st h=>wpAny_pyIter_listiter st h
def D0{K:Qdc}(a it:Addr):Turn P w K tg (XI K a) [it] it (fun i h=>h.IsTupleIter it a i) where
 mem:=by simp
 obj:=fun i h st b hb=>by
  have e:b=it:=by simpa using hb
  subst e;obtain⟨o,e,c,d⟩:=st;exact⟨o,e,fun v z=>by rw[d] at z;cases z⟩
 keep:=fun i h h' st k=>st.at fun o e=>k it (by simp) o e
 item:=by
  intro X hP hw hK hc i pins s σ H E I hf st hg;subst hP hw hK;obtain⟨xs,x,hq,hx⟩:=hg;obtain⟨its,rv,p,hz⟩:=I.tuple hq;obtain⟨u,hu,ru⟩:=rv.get hx;obtain⟨f0,f1,f2,f3,f4,f5⟩:=hf it (by simp)
  refine wpAny_pyNext_tuple_item st (show s.heap.IsTuple a its.toArray from p) (x:=u) (by simpa using hu) fun h' KZ sb=>?_
  have I1:Inv X pins σ H {s with heap:=h'}:=I.turned (t':=s.toks) (fun b o hb e=>(sb.2 b hb).trans e) f0 f1 f3 f4 f5
  obtain⟨o,e,c,d⟩:=id KZ;exact⟨u,rfl,Fw (s:={s with heap:=h'}) e c d (by decide) ⟨x,H,I1,ru,⟨rfl,fun ys hy=>by rw[I.t6 hy hq];exact hx⟩,KZ,fun b hb=>(hf b hb).1⟩⟩
 done:=by
  intro X hP hw hK hc i pins s σ H E I hf st hg;subst hP hw hK;obtain⟨xs,hq,hx⟩:=hg;obtain⟨its,rv,p,hz⟩:=I.tuple hq;obtain⟨f0,f1,f2,f3,f4,f5⟩:=hf it (by simp)
  have hl:=rv.length;exact wpAny_pyNext_tuple_end (I.ok.hd hc) st (show s.heap.IsTuple a its.toArray from p) (by simp;omega) fun h' eb=>⟨rfl,I.turned (t':=s.toks) (fun b o hb e=>eb b o hb e) f0 f1 f3 f4 f5⟩
 self:=fun _ _ _ _ _ st h=>wpAny_pyIter_tupleiter st h
def D9{K:Qdc}(it:Addr)(lo:Int)(n:Nat):Turn P w K tg (Sx lo n) [it] it (fun i h=>IsRangeIter h it (lo+(i:Nat)*1) ((n:Int) - (i:Nat)) 1) where
 mem:=by simp
 obj:=fun i h st b hb=>by
  have e:b=it:=by simpa using hb
  subst e;exact⟨_,st,fun v z=>by
   have z':Data.fields _=Data.cell v:=z;cases z'⟩
 keep:=fun i h h' st k=>k it (by simp) _ st
 item:=by
  intro X hP hw hK hc i pins s σ H E I hf st hg;subst hP hw hK;obtain⟨f0,f1,f2,f3,f4,f5⟩:=hf it (by simp)
  have W:=Walks.range (prog:=X.prog) (w:=X.w) (I.ok.hd hc) it lo 1 n;refine W.item i s _ _ hg st fun v h' tk hv KZ kk=>?_
  obtain⟨t,rfl⟩:=hv;have I1:Inv X pins σ H {s with heap:=h',toks:=tk}:=I.turned (fun b o hb e=>kk b o (by simpa using hb) e) f0 f1 f3 f4 f5
  refine⟨_,rfl,Fw (s:={s with heap:=h',toks:=tk}) (n:="range_iterator") KZ rfl rfl (by decide) ⟨.int (lo+i),H,I1,⟨t,?_⟩,⟨rfl,rfl⟩,KZ,fun b hb=>(hf b hb).1⟩⟩
  rw[Int.mul_one]
 done:=by
  intro X hP hw hK hc i pins s σ H E I hf st hg;subst hP hw hK;obtain⟨f0,f1,f2,f3,f4,f5⟩:=hf it (by simp)
  exact wpAny_pyNext_range_end (I.ok.hd hc) st (by have:n<=i:=hg;omega) fun h' eb=>⟨rfl,I.turned (t':=s.toks) (fun b o hb e=>eb b o hb e) f0 f1 f3 f4 f5⟩
 self:=fun _ _ _ _ _ st h=>wpAny_pyIter_rangeiter st h
section
variable {X:Cx} {tg:Expr}
def XU(K:Qdc)(tl:TE):TI:=fun σ H R=>tl σ H fun x H1=>∃a,x= .ref a/\(∃xs,rB K H1 a xs)/\R (X8 K a) H1
def VO(K:Qdc)(tl:TE):TI:=fun σ H R=>tl σ H fun x H1=>∃a,x= .ref a/\(∃xs,vm K H1 a xs)/\R (XI K a) H1
def Kq{pins:Aaa}{σ:St}{H:Hp}{s:Qdd}{R:It->Hp->Prop}{E:Aab}{lo hi:Int}{t u v:Tok}{tk:Nat}(I:Inv X pins σ H s)(h1: -(2 ^ 62)<=lo)(h2:lo<2 ^ 62)(h3: -(2 ^ 62)<=hi)(h4:hi<2 ^ 62)
 (q:R (Sx lo (hi - lo).toNat) H):wpAny (model X.prog X.w) X.A (pyIter (.ref s.heap.objs.size)) (X0 X pins σ tg R) E {s with heap:=s.heap.push {cls:= .type "range",data:= .fields #[.int lo t, .int hi u, .int 1 v]},toks:=tk}:=by
 refine wpAny_pyIter_range (IsRange.new ..) (small_one h1 h2 h3 h4) ?_;have I1:Inv X pins σ H {s with heap:=s.heap.push {cls:= .type "range",data:= .fields #[.int lo t, .int hi u, .int 1 v]},toks:=tk}:=I.kept fun b o e=>Qah _ e
 refine⟨(s.heap.push {cls:= .type "range",data:= .fields #[.int lo t, .int hi u, .int 1 v]}).objs.size,[(s.heap.push {cls:= .type "range",data:= .fields #[.int lo t, .int hi u, .int 1 v]}).objs.size],_,_,H,rfl,
  I1.kept (t':=tk) fun b o e=>Qah _ e,D9 _ lo (hi - lo).toNat,?_,fun b hb=>?_,q⟩
 .have e1:lo+((0:Nat):Int)*1=lo:=by simp
  have e2:(((hi - lo).toNat:Nat):Int) - ((0:Nat):Int)=Builtin.Range.rangeSize lo hi 1:=by rw[rangeSize_one];split <;> omega
  show IsRangeIter _ _ (lo+((0:Nat):Int)*1) ((((hi - lo).toNat:Nat):Int) - ((0:Nat):Int)) 1;rw[e1,e2];exact QaJ _ rfl
 .have e:b=(s.heap.push {cls:= .type "range",data:= .fields #[.int lo t, .int hi u, .int 1 v]}).objs.size:=by simpa using hb
  subst e;exact I1.wX (Qag _) (I1.hok.fresh (Qag _))
def Ct(ta:TA):TI:=fun σ H R=>ta σ H fun vs H1=>∃j:Int,vs=[.int j]/\ -(2 ^ 62)<=j/\j<2 ^ 62/\R (Sx 0 j.toNat) H1
def X_(ta:TA):TI:=fun σ H R=>ta σ H fun vs H1=>∃i j:Int,vs=[.int i, .int j]/\(-(2 ^ 62)<=i/\i<2 ^ 62/\ -(2 ^ 62)<=j/\j<2 ^ 62)/\R (Sx i (j - i).toNat) H1
def yF{ta:TA}{p pos:Pos}(hg:Gl X "range")(hm:X.mg "range"=none)(ha:PA X [a] ta)(hs:starEach [a] X.env=[(false,eval a X.env)]:=by rfl):PI X tg (.Call (.Name "range" p) [a] [] pos) (Ct ta):=by
 intro pins s σ H R I h;refine Call_ (n3 I hg hm boot_range (Qbc (eO (ha pos pins s σ H _ I h) fun us s1 ⟨vs,H1,I1,r1,q1⟩=>?_) hs rfl))
 obtain⟨j,e,q1,q2,q⟩:=q1;subst e;cases r1 with
 | cons r rr=>
   cases rr;obtain⟨t,rfl⟩:=r;exact call_range_1 (Kq I1 (by omega) (by omega) q1 q2 (by simpa using q))
def VF(wi:TI)(g:TG)(tb:TS):TS:=fun D σ H=>wi σ H fun J H1=>∃W:Nat->Nat->St->Hp->Prop,(∃m,W 0 m σ H1)/\∀i m σ H,W i m σ H->
 (J.stop i H/\D.nx σ H)\/(J.go i H/\∃N:St->Hp->Prop,(∀c7 H',N c7 H'->∃m',m'<m/\W (i+1) m' c7 H')/\∀x H',J.yld i H x H'->g x σ H' fun A0 H2=>tb {D with nx:=N,ct:=N,bk:=D.nx} A0 H2)
def ri(fp:List Addr)(h:Heap):Aaa:=fp.filterMap fun b=>(h.get? b).map fun o=>(b,o)
def nX{fp:List Addr}{h:Heap}{b:Addr}{o:Obj}(hb:b∈fp)(e:h.get? b=some o):(b,o)∈ri fp h:=QcT.mpr ⟨b,hb,by rw[e];rfl⟩
def GP{fp:List Addr}{h:Heap}{p:Addr × Obj}(hp:p∈ri fp h):p.1∈fp/\h.get? p.1=some p.2:=by
 obtain⟨b,hb,e⟩:=QcT.mp hp;cases q:h.get? b with
 | none=>rw [q] at e;cases e
 | some o=>
   rw[q] at e;have e':(b,o)=p:=QaW e;subst e';exact⟨hb,q⟩
def Inv.pinned{pins:Aaa}{s:Qdd}{fp:List Addr}(I:Inv X pins σ H s)(hf:∀b∈fp,u_ X pins H b)(ho:∀b∈fp,∃o,s.heap.get? b=some o/\∀v,o.data≠ .cell v):Inv X (pins++ri fp s.heap) σ H s:=
 I.Fo fun p hp=>(Qbm.mp hp).elim (fun z=>I.pin p (Qa5 _ z)) fun z=>by
  obtain⟨hb,e⟩:=GP z;obtain⟨f0,f1,f2,_⟩:=hf p.1 hb;obtain⟨o,e',d⟩:=ho p.1 hb;rw[e] at e';cases e';exact⟨e,f0,f1,f2,d⟩
def Inv.sf{pins pl:Aaa}{s:Qdd}(I:Inv X (pins++pl) σ H s):Inv X pins σ H s:=I.Fo fun p hp=>I.pin p (Qa5 _ (QcA _ hp))
def KC{iter:Expr}{body:List Stmt}{wi:TI}{g:TG}{tb:TS}{pos:Pos}(hp:PassesOwn (model X.prog X.w) X.A X.env X.xe)(hc:X.calm=true)(hi:PI X tg iter wi)(hg:PG X tg g)(hb:AE X body tb)
 (hs:∀x,foldedSetIterable iter X.env x=pure x:=by intro _;rfl):PS X (.For tg iter body [] pos) (VF wi g tb):=by
 intro pins s σ H D I h;refine wpAny_For (eO (hi pins s σ H _ I h) fun v s1 h1=>eO h1 fun U_ s2 h2=>?_) hs
 obtain⟨it,fp,tn,J,H2,e,I2,T,LA,f2,W,⟨m0,w0⟩,turn⟩:=h2;subst e;have stat:∀{H':Hp},(∀b∈fp,H' b=none)->∀b∈fp,u_ X pins H' b:=fun hn b hb=>⟨hn b hb,(f2 b hb).2⟩
 refine codeAny_forLoop_any (fun n s'=>∃i c7 H',Inv X pins c7 H' s'/\tn i s'.heap/\(∀b∈fp,H' b=none)/\W i n c7 H') ?_ m0 ⟨0,σ,H2,I2,LA,fun b hb=>(f2 b hb).1,w0⟩
 rintro n s3 ⟨i,NQ,H3,I3,NV,UJ,w3⟩;rcases turn i n NQ H3 w3 with⟨stop,qn⟩ | ⟨go,N,hN,step⟩
 .refine Qce hp (eO (T.done X rfl rfl rfl hc i pins s3 NQ H3 X.xe I3 (stat UJ) NV stop) fun r s4 ⟨hr,I4⟩=>?_)
  subst hr;exact QcC ⟨NQ,H3,I4,qn⟩
 .refine Qce hp (eO (T.item X rfl rfl rfl hc i pins s3 NQ H3 X.xe I3 (stat UJ) NV go) fun r s4 ⟨u,hr,h4⟩=>?_)
  subst hr;refine Qce hp (eO h4 fun _ s5 ⟨x,H5,I5,r5,y5,RL,XH⟩=>?_)
  have I5':=I5.pinned (stat XH) (T.obj _ _ RL);refine Qce hp (eO (hg _ s5 NQ H5 x u _ I5' r5 (step x H5 y5)) fun _ s6 ⟨UP,H6,I6,q6⟩=>?_)
  refine Qce hp (eO (hb _ s6 UP H6 _ I6 q6) fun f s7 q7=>?_)
  have again:∀{CV:St} {H7:Hp},Inv X (pins++ri fp s5.heap) CV H7 s7->N CV H7->∃m,m<n/\∃i c7 H',Inv X pins c7 H' s7/\tn i s7.heap/\(∀b∈fp,H' b=none)/\W i m c7 H':=fun {CV H7} I7 n7=>by
   obtain⟨m',hm,w7⟩:=hN CV H7 n7;refine⟨m',hm,i+1,CV,H7,I7.sf,T.keep _ _ _ RL fun b hb o e=>(I7.pin (b,o) (Qa5 _ (Qa5 _ (nX hb e)))).1,fun b hb=>?_,w7⟩
   obtain⟨o,e,d⟩:=T.obj _ _ RL b hb;exact(I7.pin (b,o) (Qa5 _ (Qa5 _ (nX hb e)))).2.1
  cases f with
  | next=>obtain⟨CV,H7,I7,n7⟩:=q7;exact again I7 n7
  | cont=>obtain⟨CV,H7,I7,n7⟩:=q7;exact again I7 n7
  | brk=>obtain⟨CV,H7,I7,q7⟩:=q7;exact⟨CV,H7,I7.sf,q7⟩
  | ret v=>obtain⟨x7,CV,H7,I7,r7,q7⟩:=q7;exact⟨x7,CV,H7,I7.sf,r7,q7⟩
end
abbrev R2:=V->V->Hp->VK->Prop
def oV(X:Cx)(f:Value->Value->Sem Value)(r:R2):Prop:=
 ∀(pins:Aaa) (s:Qdd) (σ:St) (H:Hp) (x y:V) (v u:Value) (Q:VK),Inv X pins σ H s->RelV x v->RelV y u->r x y H Q->
  wpAny (model X.prog X.w) X.A (f v u) (EP X pins σ Q) X.xe s
def UnR(X:Cx)(f:Value->Sem Value)(r:V->Hp->VK->Prop):Prop:=
 ∀(pins:Aaa) (s:Qdd) (σ:St) (H:Hp) (x:V) (v:Value) (Q:VK),Inv X pins σ H s->RelV x v->r x H Q->
  wpAny (model X.prog X.w) X.A (f v) (EP X pins σ Q) X.xe s
def l3(X:Cx)(f:Value)(r:List V->Hp->VK->Prop):Prop:=
 ∀(pins:Aaa) (s:Qdd) (σ:St) (H:Hp) (xs:List V) (us:List Value) (Q:VK),Inv X pins σ H s->Vals xs us->r xs H Q->
  wpAny (model X.prog X.w) X.A (call f us) (EP X pins σ Q) X.xe s
def Wc(X:Cx)(r:V->Hp->(Bool->Hp->Prop)->Prop):Prop:=
 ∀(pins:Aaa) (s:Qdd) (σ:St) (H:Hp) (x:V) (v:Value) (Q:Bool->Hp->Prop),Inv X pins σ H s->RelV x v->r x H Q->
  wpAny (model X.prog X.w) X.A (truthy v) (TP X pins σ Q) X.xe s
def R7(r:R2)(ta tb:TE):TE:=fun σ H Q=>ta σ H fun x H1=>tb σ H1 fun y H2=>r x y H2 Q
def tUn(r:V->Hp->VK->Prop)(ta:TE):TE:=fun σ H Q=>ta σ H fun x H1=>r x H1 Q
def rI(C:Int->Int->Prop)(g:Int->Int->V):R2:=fun x y H Q=>∃i j,x= .int i/\y= .int j/\C i j/\Q (g i j) H
def HE(g:Int->Int->V):R2:=fun x y H Q=>∃i j,x= .int i/\y= .int j/\Q (g i j) H
def rU(g:Int->V):V->Hp->VK->Prop:=fun x H Q=>∃i,x= .int i/\Q (g i) H
section
variable {X:Cx} {a b c:Expr} {ta tb tc:TE} {pos:Pos}
def O6(ha:PE X a ta)(hb:PE X b tb){pins:Aaa}{s:Qdd}{σ:St}{H:Hp}{R:V->V->Hp->Prop}(I:Inv X pins σ H s)
 (h:ta σ H fun x H1=>tb σ H1 fun y H2=>R x y H2) {Q:Aab} {f:Value->Value->Sem Value}
 (hf:∀v u s2 x y H2,Inv X pins σ H2 s2->RelV x v->RelV y u->R x y H2->wpAny (model X.prog X.w) X.A (f v u) Q X.xe s2) :
 wpAny (model X.prog X.w) X.A (eval a X.env) (fun v s₁=>wpAny (model X.prog X.w) X.A (eval b X.env) (fun u K9=>wpAny (model X.prog X.w) X.A (f v u) Q X.xe K9) X.xe s₁) X.xe s:=by
 refine eO (ha pins s σ H _ I h) fun v s1 ⟨x,H1,I1,r1,q1⟩=>?_
 refine eO (hb pins s1 σ H1 _ I1 q1) fun u s2 ⟨y,H2,I2,r2,q2⟩=>?_
 exact hf v u s2 x y H2 I2 r1 r2 q2
def Iu{op:Operator}{r:R2}(ho:oV X (binaryOp op) r)(ha:PE X a ta)(hb:PE X b tb):PE X (.BinOp a op b pos) (R7 r ta tb):=by
 intro pins s σ H Q I h;exact wpAny_BinOp (O6 ha hb I h fun v u s2 x y H2 I2 rx ry q=>ho pins s2 σ H2 x y v u Q I2 rx ry q)
def R0{f:Value->Value->Sem Value}{C:Int->Int->Prop}{g:Int->Int->Int}
 (rule:∀(i j:Int) (t u:Tok) (s:Qdd) (Q:Aab) (E:Aab),C i j->Q (.int (g i j) s.toks) {s with toks:=s.toks+1}->wpAny (model X.prog X.w) X.A (f (.int i t) (.int j u)) Q E s) :
 oV X f (rI C fun i j=> .int (g i j)):=by
 intro pins s σ H x y v u Q I rx ry h;obtain⟨i,j,rfl,rfl,hc,q⟩:=h;obtain⟨t,rfl⟩:=rx;obtain⟨t',rfl⟩:=ry;exact rule i j t t' s _ _ hc ⟨.int (g i j),H,I.tok _,⟨_,rfl⟩,q⟩
def Ir{f:Value->Value->Sem Value}{g:Int->Int->Int}
 (rule:∀(i j:Int) (t u:Tok) (s:Qdd) (Q:Aab) (E:Aab),Q (.int (g i j) s.toks) {s with toks:=s.toks+1}->wpAny (model X.prog X.w) X.A (f (.int i t) (.int j u)) Q E s) :
 oV X f (HE fun i j=> .int (g i j)):=by
 intro pins s σ H x y v u Q I rx ry h;obtain⟨i,j,rfl,rfl,q⟩:=h;obtain⟨t,rfl⟩:=rx;obtain⟨t',rfl⟩:=ry;exact rule i j t t' s _ _ ⟨.int (g i j),H,I.tok _,⟨_,rfl⟩,q⟩
def Qc{f:Value->Value->Sem Value}{g:Int->Int->Bool}
 (rule:∀(i j:Int) (t u:Tok) (s:Qdd) (Q:Aab) (E:Aab),Q (.bool (g i j)) s->wpAny (model X.prog X.w) X.A (f (.int i t) (.int j u)) Q E s) :
 oV X f (HE fun i j=> .bl (g i j)):=by
 intro pins s σ H x y v u Q I rx ry h;obtain⟨i,j,rfl,rfl,q⟩:=h;obtain⟨t,rfl⟩:=rx;obtain⟨t',rfl⟩:=ry;exact rule i j t t' s _ _ ⟨.bl (g i j),H,I,rfl,q⟩
def Vr(i j:Int):Prop:=0<j/\j<1073741824
def Yn(i j:Int):Prop:=j≠0/\j.natAbs<1073741824
def Tq(i j:Int):Prop:=0<=j/\j<=1000000/\i.natAbs<2 ^ 64
def PY(i j:Int):Prop:=(-(2 ^ 64)<i/\i<2 ^ 64)\/(-(2 ^ 64)<j/\j<2 ^ 64)
def PY.ok{i j:Int}(h:PY i j):IntMulOk i j:=by
 rcases h with⟨h1,h2⟩ | ⟨h1,h2⟩
 .exact .of_left (intBits_le_64 h1 h2)
 .exact .of_right (intBits_le_64 h1 h2)
def Dp(k:Nat):(0:Int)<=2 ^ k:=by
 rw[two_pow_cast];exact Int.natCast_nonneg _
def P9:oV X (binaryOp .Add) (HE fun i j=> .int (i+j)):=Ir fun _ _ _ _ _ _ _ q=>add_int q
def QE:oV X (binaryOp .Sub) (HE fun i j=> .int (i - j)):=Ir fun _ _ _ _ _ _ _ q=>sub_int q
def QC:oV X (binaryOp .Mult) (rI PY fun i j=> .int (i*j)):=R0 fun _ _ _ _ _ _ _ hc q=>mul_int q hc.ok
def MF:oV X (binaryOp .FloorDiv) (rI Vr fun i j=> .int (i / j)):=R0 fun i j _ _ _ _ _ hc q=>by
 have h1:(0:Int)<j:=hc.1;have h2:j<1073741824:=hc.2;exact floordiv_int (by omega) (by rw[QcY i (by omega)];exact q) (.inl (PyProof.noPylong_small (by omega)))
def PR:oV X (binaryOp .Mod) (rI (fun _ j=>0<j) fun i j=> .int (i % j)):=R0 fun i j _ _ _ _ _ hc q=>by
 have h1:(0:Int)<j:=hc;exact mod_int' (by omega) (by rw[Int.fmod_eq_emod_of_nonneg i (by omega)];exact q)
def Qq:oV X (binaryOp .Pow) (rI Tq fun i j=> .int (i ^ j.toNat)):=R0 fun _ _ _ _ _ _ _ hc q=>pow_int_small hc.1 hc.2.1 hc.2.2 q
def RG:oV X (binaryOp .LShift) (rI Tq fun i j=> .int (i*2 ^ j.toNat)):=R0 fun _ _ _ _ _ _ _ hc q=>lshift_int_small hc.1 hc.2.1 hc.2.2 q
def Qj:oV X (binaryOp .RShift) (rI (fun _ j=>0<=j) fun i j=> .int (i / 2 ^ j.toNat)):=R0 fun i j _ _ _ _ _ hc q=>
 rshift_int hc (by rw[QcY i (Dp _)];exact q)
def O7:oV X (binaryOp .BitAnd) (HE fun i j=> .int (Builtin.bitAnd i j)):=Ir fun _ _ _ _ _ _ _ q=>and_int q
def Uh:oV X (binaryOp .BitOr) (HE fun i j=> .int (Builtin.bitOr i j)):=Ir fun _ _ _ _ _ _ _ q=>or_int q
def OX:oV X (binaryOp .BitXor) (HE fun i j=> .int (Builtin.bitXor i j)):=Ir fun _ _ _ _ _ _ _ q=>xor_int q
end
def Sr:V->V->Bool
 | .cR, .cR=>true | .cR, .int _=>true | .int _, .cR=>true | .cR, .bl _=>true | .bl _, .cR=>true | .cR, .str _=>true | .str _, .cR=>true
 | .int _, .int _=>true | .bl _, .bl _=>true | .str _, .str _=>true | .byt _, .byt _=>true
 | .int _, .str _=>true | .str _, .int _=>true | .bl _, .str _=>true | .str _, .bl _=>true
 | _,_=>false
def Zj:R2:=fun x y H Q=>Sr x y=true/\Q (.bl (decide (x=y))) H
def ZF:R2:=fun x y H Q=>Sr x y=true/\Q (.bl (!decide (x=y))) H
def EW{i j:Int}:decide (V.int i=V.int j)=(i==j):=by
 rw[Qa6];simp
def Ij{i j:Bool}:decide (V.bl i=V.bl j)=(i==j):=by
 rw[Qa6];simp
def Fe:decide (V.str i=V.str j)=(i==j):=by
 rw[Qa6];simp
def EZ{i j:Array UInt8}:decide (V.byt i=V.byt j)=(i.toList==j.toList):=by
 rw[Qa6];cases i;cases j;simp
section
variable {X:Cx} {a b c:Expr} {ta tb tc:TE} {pos:Pos}
def cJ{pins:Aaa}{s:Qdd}{Q:VK}{k k':Bool}(I:Inv X pins σ H s)(q:Q (.bl k) H)(e:k=k'):EP X pins σ Q (.bool k') s:=by
 subst e;exact⟨.bl k,H,I,rfl,q⟩
def Io:oV X (compareOp .Eq) Zj:=by
 intro pins s σ H x y v u Q I rx ry h;obtain⟨hs,q⟩:=h;cases x with
 | cR=>
   cases rx;cases y with
   | cR=>cases ry;exact PySem.EqNone.eq_none_none (cJ I q (by simp))
   | bl j=>cases ry;exact PySem.EqNone.eq_none_bool (cJ I q (by simp))
   | int j=>obtain⟨t',rfl⟩:=ry;exact PySem.EqNone.eq_none_int (cJ I q (by simp))
   | str j=>obtain⟨t',rfl⟩:=ry;exact PySem.EqNone.eq_none_str (cJ I q (by simp))
   | _=>exact absurd (show false=true from hs) Qaz
 | bl i=>
   cases rx;cases y with
   | cR=>cases ry;exact PySem.EqNone.eq_bool_none (cJ I q (by simp))
   | bl j=>cases ry;exact eq_bool (cJ I q Ij)
   | str j=>obtain⟨t',rfl⟩:=ry;exact PySem.EqMixed.eq_bool_str (cJ I q (by simp))
   | _=>exact absurd (show false=true from hs) Qaz
 | int i=>
   obtain⟨t,rfl⟩:=rx;cases y with
   | cR=>cases ry;exact PySem.EqNone.eq_int_none (cJ I q (by simp))
   | int j=>obtain⟨t',rfl⟩:=ry;exact eq_int (cJ I q EW)
   | str j=>obtain⟨t',rfl⟩:=ry;exact PySem.EqMixed.eq_int_str (cJ I q (by simp))
   | _=>exact absurd (show false=true from hs) Qaz
 | str i=>
   obtain⟨t,rfl⟩:=rx;cases y with
   | cR=>cases ry;exact PySem.EqNone.eq_str_none (cJ I q (by simp))
   | bl j=>cases ry;exact PySem.EqMixed.eq_str_bool (cJ I q (by simp))
   | int j=>obtain⟨t',rfl⟩:=ry;exact PySem.EqMixed.eq_str_int (cJ I q (by simp))
   | str j=>obtain⟨t',rfl⟩:=ry;exact eq_str (cJ I q Fe)
   | _=>exact absurd (show false=true from hs) Qaz
 | byt i=>
   obtain⟨t,rfl⟩:=rx;cases y with
   | byt j=>obtain⟨t',rfl⟩:=ry;exact PySem.W.eq_bytes (cJ I q EZ)
   | _=>exact absurd (show false=true from hs) Qaz
 | _=>cases y <;> exact absurd (show false=true from hs) Qaz
def Jp:oV X (compareOp .NotEq) ZF:=by
 intro pins s σ H x y v u Q I rx ry h;obtain⟨hs,q⟩:=h;cases x with
 | cR=>
   cases rx;cases y with
   | cR=>cases ry;exact PySem.EqNone.ne_none_none (cJ I q (by simp))
   | bl j=>cases ry;exact PySem.EqNone.ne_none_bool (cJ I q (by simp))
   | int j=>obtain⟨t',rfl⟩:=ry;exact PySem.EqNone.ne_none_int (cJ I q (by simp))
   | str j=>obtain⟨t',rfl⟩:=ry;exact PySem.EqNone.ne_none_str (cJ I q (by simp))
   | _=>exact absurd (show false=true from hs) Qaz
 | bl i=>
   cases rx;cases y with
   | cR=>cases ry;exact PySem.EqNone.ne_bool_none (cJ I q (by simp))
   | bl j=>cases ry;exact ne_bool (cJ I q (Qbk not Ij))
   | str j=>obtain⟨t',rfl⟩:=ry;exact PySem.EqMixed.ne_bool_str (cJ I q (by simp))
   | _=>exact absurd (show false=true from hs) Qaz
 | int i=>
   obtain⟨t,rfl⟩:=rx;cases y with
   | cR=>cases ry;exact PySem.EqNone.ne_int_none (cJ I q (by simp))
   | int j=>obtain⟨t',rfl⟩:=ry;exact ne_int (cJ I q (Qbk not EW))
   | str j=>obtain⟨t',rfl⟩:=ry;exact PySem.EqMixed.ne_int_str (cJ I q (by simp))
   | _=>exact absurd (show false=true from hs) Qaz
 | str i=>
   obtain⟨t,rfl⟩:=rx;cases y with
   | cR=>cases ry;exact PySem.EqNone.ne_str_none (cJ I q (by simp))
   | bl j=>cases ry;exact PySem.EqMixed.ne_str_bool (cJ I q (by simp))
   | int j=>obtain⟨t',rfl⟩:=ry;exact PySem.EqMixed.ne_str_int (cJ I q (by simp))
   | str j=>obtain⟨t',rfl⟩:=ry;exact ne_str (cJ I q (Qbk not Fe))
   | _=>exact absurd (show false=true from hs) Qaz
 | byt i=>
   obtain⟨t,rfl⟩:=rx;cases y with
   | byt j=>obtain⟨t',rfl⟩:=ry;exact PySem.W.ne_bytes (cJ I q (Qbk not EZ))
   | _=>exact absurd (show false=true from hs) Qaz
 | _=>cases y <;> exact absurd (show false=true from hs) Qaz
def Uq:oV X (compareOp .Lt) (HE fun i j=> .bl (decide (i<j))):=Qc fun _ _ _ _ _ _ _ q=>lt_int q
def SU:oV X (compareOp .Gt) (HE fun i j=> .bl (decide (j<i))):=Qc fun _ _ _ _ _ _ _ q=>gt_int q
def Tw:oV X (compareOp .GtE) (HE fun i j=> .bl (decide (j<=i))):=Qc fun _ _ _ _ _ _ _ q=>ge_int q
def Gy:oV X (compareOp .In) (fun x y H Q=>∃i j,x= .str i/\y= .str j/\Q (.bl (!(Builtin.Str.occurrences j i 0 j.length 1).isEmpty)) H):=by
 intro pins s σ H x y v u Q I rx ry h;obtain⟨i,j,rfl,rfl,q⟩:=h;obtain⟨t,rfl⟩:=rx;obtain⟨t',rfl⟩:=ry;exact in_str (cJ I q rfl)
def Nh:oV X (compareOp .IsNot) (fun x y H Q=>y= .cR/\Q (.bl (!decide (x= .cR))) H):=by
 intro pins s σ H x y v u Q I rx ry h;obtain⟨rfl,q⟩:=h;cases ry;refine isnot_none_gen (cJ I q ?_);cases x <;> first
  | (cases rx;rfl)
  | (obtain⟨t,rfl⟩:=rx;rfl)
def isObj:HO->Bool
 | .lst _=>true
 | .ins _ _ _=>true
 | _=>false
def cw(b:Expr){op:CmpOp}(h:op≠ .In:=by decide)(h2:op≠ .NotIn:=by decide):behindInMarks op b=false:=by
 have e1:(op==CmpOp.In)=false:=by cases op <;> first | rfl | exact absurd rfl h
 have e2:(op==CmpOp.NotIn)=false:=by cases op <;> first | rfl | exact absurd rfl h2
 cases b <;> simp [behindInMarks,e1,e2]
def Fs{op:CmpOp}{r:R2}(ho:oV X (compareOp op) r)(ha:PE X a ta)(hb:PE X b tb)(hm:behindInMarks op b=false):PE X (.Compare a [op] [b] pos) (R7 r ta tb):=by
 intro pins s σ H Q I h;exact wpAny_Compare1 (O6 ha hb I h fun v u s2 x y H2 I2 rx ry q=>ho pins s2 σ H2 x y v u Q I2 rx ry q) hm
def TF(t:TE):TT:=fun σ H Q=>t σ H fun x H'=>∃k,x= .bl k/\Q k H'
def EY{op:CmpOp}{r:R2}(ho:oV X (compareOp op) r)(ha:PE X a ta)(hb:PE X b tb)(hm:behindInMarks op b=false):PT X (.Compare a [op] [b] pos) (TF (R7 r ta tb)):=by
 intro pins s σ H Q I h;refine wpAny_isTrue_Compare1 (eO (ha pins s σ H _ I h) fun v s1 ⟨x,H1,I1,r1,q1⟩=>eO (hb pins s1 σ H1 _ I1 q1) fun u s2 ⟨y,H2,I2,r2,q2⟩=>
  eO (ho pins s2 σ H2 x y v u _ I2 r1 r2 q2) fun c s3 ⟨z,H3,I3,r3,k,e,q3⟩=>?_) hm
 subst e;cases r3;exact Qcn ⟨H3,I3,q3⟩
def VX(r r':R2)(ta tb tc:TE):TE:=fun σ H Q=>ta σ H fun x H1=>tb σ H1 fun y H2=>r x y H2 fun z H3=>∃k,z= .bl k/\
 (if k=true then tc σ H3 fun w' H4=>r' y w' H4 Q else Q (.bl false) H3)
def NG(K:Qdc)(x:V)(H:Hp)(k:Bool):Prop:=
 match x with
 | .cR=>k=false
 | .bl b=>k=b
 | .int i=>k=(i !=0)
 | .str y=>y.length<=sizeLine/\k=((y.length:Int) !=0)
 | .byt y=>y.size<=sizeLine/\k=((y.size:Int) !=0)
 | .ref p=>(∃xs,rB K H p xs/\k=!xs.isEmpty)\/(∃xs,vm K H p xs/\k=!xs.isEmpty)\/∃kvs,H p=some (.dK kvs)/\k=!kvs.isEmpty
 | _=>False
def De{κ:Type}{kvs:List (κ × V)}{vs:List (κ × Value)}(r:KV kvs vs):(!vs.isEmpty)=!kvs.isEmpty:=by
 cases r <;> rfl
def wd{xs:List V}{its:List Value}(r:Vals xs its):(!its.toArray.isEmpty)=!xs.isEmpty:=by
 cases r <;> simp
def xM:(sizeLine:Nat)<2 ^ 63:=by rw[Qap];decide
def Pu:Wc X (fun x H Q=>∃k,NG X.K x H k/\Q k H):=by
 intro pins s σ H x v Q I rx h;obtain⟨k,e,q⟩:=h;have hl:=xM;have hs:sizeLine=16777216:=Qap;cases x with
 | cR=>
   cases rx;have e':k=false:=e;subst e';exact truthy_none ⟨H,I,q⟩
 | bl b=>
   cases rx;have e':k=b:=e;subst e';exact Qcn ⟨H,I,q⟩
 | int i=>
   obtain⟨t,rfl⟩:=rx;have e':k=(i !=0):=e;subst e';exact PySem.P.truthy_int ⟨H,I,q⟩
 | str y=>
   obtain⟨t,rfl⟩:=rx;obtain⟨hy,e'⟩:y.length<=sizeLine/\k=((y.length:Int) !=0):=e;subst e';exact PySem.P.truthy_str (by omega) ⟨H,I.tok _,q⟩
 | byt y=>
   obtain⟨t,rfl⟩:=rx;obtain⟨hy,e'⟩:y.size<=sizeLine/\k=((y.size:Int) !=0):=e;subst e';exact PySem.W.truthy_bytes (by omega) ⟨H,I.tok _,q⟩
 | ref p=>
   cases rx;have e':(∃xs,rB X.K H p xs/\k=!xs.isEmpty)\/(∃xs,vm X.K H p xs/\k=!xs.isEmpty)\/∃kvs,H p=some (.dK kvs)/\k=!kvs.isEmpty:=e;rcases e' with⟨xs,hx,e'⟩ | ⟨xs,hx,e'⟩ | ⟨kvs,hx,e'⟩
   .subst e';obtain⟨its,r,pl,hz⟩:=I.list hx;have hlen:=r.length;exact wpAny_truthy_list pl.isList (by simp only[QaG];omega) ⟨H,I.tok _,by rw[wd r];exact q⟩
   .subst e';obtain⟨its,r,pl,hz⟩:=I.tuple hx;have hlen:=r.length;exact truthy_tuple pl (by simp only[QaG];omega) ⟨H,I.tok _,by rw[wd r];exact q⟩
   .subst e';obtain⟨hz,hS,vs,r,m⟩:kvs.length<=sizeLine/\(p==sysModules)=false/\∃vs,KV kvs vs/\s.heap.DictOf (dZ X.prog X.w) p vs:=I.hok p _ hx;have hlen:kvs.length=vs.length:=Paired.length r;exact wpAny_truthy_dict hS m (by omega) ⟨H,I.tok _,by rw[De r];exact q⟩
 | _=>exact(show False from e).elim
def CO(ha:PE X a ta)(he:∀whole,isTrue a X.env whole=(do let v <-whole;standAt a.pos;holding [v] (truthy v))) :
 PT X a (fun σ H Q=>ta σ H fun x H'=>∃k,NG X.K x H' k/\Q k H'):=by
 intro pins s σ H Q I h;exact isTrue_plain (eO (ha pins s σ H _ I h) fun v s1 ⟨x,H1,I1,r1,q1⟩=>Pu pins s1 σ H1 x v Q I1 r1 q1) (he _)
def Ee:oV X (binaryOp .Add) (fun x y H Q=>∃i j,x= .str i/\y= .str j/\i.length+j.length<=sizeLine/\Q (.str (i++j)) H):=by
 intro pins s σ H x y v u Q I rx ry h;obtain⟨i,j,rfl,rfl,hz,q⟩:=h;obtain⟨t,rfl⟩:=rx;obtain⟨t',rfl⟩:=ry;exact add_str (fun t' tk=>⟨.str (i++j),H,I.tok _,⟨_,rfl⟩,q⟩) hz
def TQ(b:Expr):Prop:=∀o i,subscripted b false o i=operate [o,i] (getItem o i)
def vals1{x:V}{us:List Value}(r:Vals [x] us):∃u,us=[u]/\RelV x u:=by
 cases r with
 | cons r1 r2=>cases r2;exact⟨_,rfl,r1⟩
def vals2{x y:V}{us:List Value}(r:Vals [x,y] us):∃u w',us=[u,w']/\RelV x u/\RelV y w':=by
 cases r with
 | cons r1 r2=>
   cases r2 with
   | cons r3 r4=>cases r4;exact⟨_,_,rfl,r1,r3⟩
def Ih:l3 X (.builtin "abs") (fun xs H Q=>∃i,xs=[.int i]/\Q (.int (if i<0 then -i else i)) H):=by
 intro pins s σ H xs us Q I r h;obtain⟨i,rfl,q⟩:=h;obtain⟨u,rfl,t,rfl⟩:=vals1 r;exact call_abs_int fun u tk=>⟨.int (if i<0 then -i else i),H,I.tok _,⟨_,rfl⟩,q⟩
def Gs(hc:X.calm=true):l3 X (.builtin "max") (fun xs H Q=>∃i j,xs=[.int i, .int j]/\Q (.int (if j > i then j else i)) H):=by
 intro pins s σ H xs us Q I r h;obtain⟨i,j,rfl,q⟩:=h;obtain⟨u,w',rfl,⟨t,rfl⟩,⟨t',rfl⟩⟩:=vals2 r;refine max_two_ints (I.ok.hd hc) fun h' tk k=>⟨_,H,I.kept k,?_,q⟩
 by_cases hj:j > i
 .rw [QaD hj,QaD hj];exact⟨_,rfl⟩
 .rw [QaB hj,QaB hj];exact⟨_,rfl⟩
def Hq(hc:X.calm=true):l3 X (.builtin "min") (fun xs H Q=>∃i j,xs=[.int i, .int j]/\Q (.int (if j<i then j else i)) H):=by
 intro pins s σ H xs us Q I r h;obtain⟨i,j,rfl,q⟩:=h;obtain⟨u,w',rfl,⟨t,rfl⟩,⟨t',rfl⟩⟩:=vals2 r;refine min_two_ints (I.ok.hd hc) fun h' tk k=>⟨_,H,I.kept k,?_,q⟩
 by_cases hj:j<i
 .rw [QaD hj,QaD hj];exact⟨_,rfl⟩
 .rw [QaB hj,QaB hj];exact⟨_,rfl⟩
def G7:l3 X (.type "int") (fun xs H Q=>(∃i,xs=[.int i]/\Q (.int i) H)\/∃k,xs=[.bl k]/\Q (.int (if k then 1 else 0)) H):=by
 intro pins s σ H xs us Q I r h;rcases h with⟨i,rfl,q⟩ | ⟨k,rfl,q⟩
 .obtain⟨u,rfl,t,rfl⟩:=vals1 r;exact call_int_int ⟨.int i,H,I,⟨_,rfl⟩,q⟩
 .obtain⟨u,rfl,r1⟩:=vals1 r;cases r1;exact call_int_bool ⟨.int (if k then 1 else 0),H,I.tok _,⟨_,rfl⟩,q⟩
def Vn(K:Qdc)(x:V)(H:Hp)(n:Nat):Prop:=
 match x with
 | .str y=>y.length<=sizeLine/\n=y.length
 | .byt y=>y.size<=sizeLine/\n=y.size
 | .ref p=>(∃xs,rB K H p xs/\n=xs.length)\/∃xs,vm K H p xs/\n=xs.length
 | _=>False
def HN:l3 X (.builtin "len") (fun xs H Q=>∃x n,xs=[x]/\Vn X.K x H n/\Q (.int n) H):=by
 intro pins s σ H xs us Q I r h;obtain⟨x,n,rfl,e,q⟩:=h;obtain⟨u,rfl,rx⟩:=vals1 r;have hl:=xM;have hs:sizeLine=16777216:=Qap;cases x with
 | str y=>
   obtain⟨t,rfl⟩:=rx;obtain⟨hy,e'⟩:y.length<=sizeLine/\n=y.length:=e;subst e';exact len_str (by omega) ⟨.int _,H,I.tok _,⟨_,rfl⟩,q⟩
 | byt y=>
   obtain⟨t,rfl⟩:=rx;obtain⟨hy,e'⟩:y.size<=sizeLine/\n=y.size:=e;subst e';exact PySem.W.len_bytes (by omega) ⟨.int _,H,I.tok _,⟨_,rfl⟩,q⟩
 | ref p=>
   cases rx;have e':(∃xs,rB X.K H p xs/\n=xs.length)\/∃xs,vm X.K H p xs/\n=xs.length:=e;rcases e' with⟨xs,hx,e'⟩ | ⟨xs,hx,e'⟩
   .subst e';obtain⟨its,r',pl,hz⟩:=I.list hx;have hlen:=r'.length;exact Calls.call_len_list pl.isList (by simp only[QaG];omega) ⟨.int xs.length,H,I.tok _,⟨_,by simp only[QaG];rw [hlen]⟩,q⟩
   .subst e';obtain⟨its,r',pl,hz⟩:=I.tuple hx;have hlen:=r'.length;exact len_tuple pl (by simp only[QaG];omega) ⟨.int xs.length,H,I.tok _,⟨_,by simp only[QaG];rw [hlen]⟩,q⟩
 | _=>exact(show False from e).elim
end
structure Es (h:Heap) (x dx C:Addr) (mA:Aaf):Prop where
 obj:h.get? x=some (PySem.W.instObj C dx)
 ns:h.Ns1 dx mA
 ne:dx≠x
def Hc{h:Heap}{dx:Addr}{mA:Aaf}(n:h.Ns1 dx mA):∃od,h.get? dx=some od/\∀name,PySem.W.lookIn name od=some (mA name):=by
 obtain⟨o,es,ep,ho,hd,hk,_,hm⟩:=n;refine⟨o,ho,fun name=>?_⟩
 have e:=hm name;unfold nsFind findBy at e;rw[<-Array.find?_toList] at e;unfold PySem.W.lookIn;rw[hd];dsimp only;split
 .rename_i y q;rw[q] at e;exact Qbk some e
 .rename_i q;rw[q] at e;have a:es.toList.any (·.refKey)=false:=by
   rw[Qbj];intro y hy;obtain⟨z,t,hkey⟩:=hk y (Array.mem_toList_iff.mp hy);simp [DictEntry.refKey,hkey]
  have a':¬es.toList.any (·.refKey)=true:=by rw[a];exact Qaz
  rw[QaB a'];exact Qbk some e
def Es.look{x dx C:Addr}{mA:Aaf}(I:Es h x dx C mA):∃od,PySem.W.InstAt h x (PySem.W.instObj C dx) C (some od)/\∀name,PySem.W.lookIn name od=some (mA name):=
 let⟨od,ho,hl⟩:=Hc I.ns
 ⟨od,⟨I.obj,rfl,rfl,ho⟩,hl⟩
section
variable {prog:Program} {w:World} {A:Around} {E:Aab} {s:Qdd} {K:Qdc} {x dx C f:Addr} {mA:Aaf} {name:Str} {v:Value}
def get_map{expr:Bool}{Q:Aab}(X:K.In s.heap)(I:Es s.heap x dx C mA)(hg:PySem.W.plainGet K C name=true)(hh:PySem.W.hasDictIn K C=true)
 (ha:PySem.W.findIn K (.ref C) name=some none) (hv:mA name=some v) (hv':PySem.W.handedIn v=true) (h:Q v {s with toks:=s.toks+1}) :
 wpAny (model prog w) A (getAttr (.ref x) name expr) Q E s:=by
 obtain⟨od,J,hl⟩:=I.look;exact PySem.W.get_value X J (QcN hg).1 (PySem.W.findObj_own hh ha rfl (by rw[hl,hv])) hv' h
def IM{pl:Sem Bool}{Q:Value × List Value->Qdd->Prop}(X:K.In s.heap)(I:Es s.heap x dx C mA)(hg:PySem.W.plainGet K C name=true)
 (hf:PySem.W.findIn K (.ref C) name=some (some (.ref f))) (ht:PySem.W.isFn K (.ref f)=true) (hv:mA name=none) (h:Q (.ref f,[.ref x]) s) :
 wpAny (model prog w) A (getMethod (.ref x) name pl) Q E s:=by
 obtain⟨od,J,hl⟩:=I.look;exact PySem.W.method_fn X J (QcN hg).1 (QcN hg).2 hf (Qba.mp ht) (by show(PySem.W.lookIn name od).map (·.isSome)=some false;rw [hl,hv];rfl) h
def Nr{ns:List Str}{Q:Unit->Qdd->Prop}(X:K.In s.heap)(I:Es s.heap x dx C mA)
 (hs:PySem.W.findIn K (.ref C) "__setattr__"=some (some (.builtin "object.__setattr__"))) (hp:PySem.W.plainOver K C=true) (ht:PySem.W.takerIn K C name=some none) (hh:PySem.W.hasDictIn K C=true)
 (hw:PySem.Within mA ns) (HL:ns.length<=sizeLine)
 (h:∀h',Es h' x dx C (fun y=>if y=name then some v else mA y)->Heap.SameBut dx s.heap h'->Q () {s with heap:=h',toks:=s.toks+2}) :
 wpAny (model prog w) A (setAttr (.ref x) name v) Q E s:=by
 obtain⟨od,J,hl⟩:=I.look;refine PySem.W.set_plain X J hs (PySem.W.osa_open (s:={s with toks:=s.toks+1}) (r:=none) X J hp ht fun b=>?_)
 obtain⟨cd,hc,UD⟩:=PySem.W.any_some hh;have hx:s.heap.get? x=some ⟨.ref C,some dx, .plain,#[]⟩:=I.obj;refine Qaf (QaK (Qaf (Qaf (wpAny_loadPart hx (Qaf (PySem.W.Looks.here (s:={s with toks:=s.toks+1}) (PySem.W.looks_clsIn X hc) ?_))))))
 rw[UD];refine QaK (a:=some dx) (Qaf (QaK (Qaf ?_)));refine wpAny_nsSet1 (s:={s with toks:=s.toks+1}) I.ns fun h' RX Gm=>?_
 obtain⟨oD,esD,epD,hoD,hdD,hcD⟩:=RX.count (PySem.Within.cons name v hw);refine Qaf (wpAny_lookBehind hoD (by rw[hdD];exact pastItsLine_dict (Qa0 hcD (by rw[QaM];omega))) ?_)
 exact QaK (h _ ⟨(Gm.2 _ (Qbh I.ne)).trans I.obj,RX,I.ne⟩ Gm)
def Kz{R:Result->Qdd->Prop}{vs:List Value}{kw:List (Str × Value)}(X:K.In s.heap)(hm:PySem.W.makesIn K C=true)
 (hi:PySem.W.findIn K (.ref C) "__init__"=some (some (.ref f))) (hf:PySem.W.typeIn K (.ref f)=some (.type "function"))
 (h:codeAny (model prog w) (A.under (.builtin "type.__call__" ⟨.ref C ::vs,kw⟩)) (.call (.ref f) ⟨.ref (s.heap.objs.size+1) ::vs,kw⟩) (PySem.W.InitBack (s.heap.objs.size+1) R)
   {s with heap:=(s.heap.push PySem.W.emptyDict).push (PySem.W.instObj C s.heap.objs.size)}) :
 codeAny (model prog w) A (.call (.ref C) ⟨vs,kw⟩) R s:=by
 obtain⟨hh,g,d,t,os⟩:=s;exact PySem.W.make_core (PySem.W.makes_of X hm) (Qb6 X hi) (fun self=>PySem.W.bind_fn X self hf) (.inl rfl) h
end
def mz(f:Str)(v:V):List (Str × V)->List (Str × V)
 | []=>[(f,v)]
 | (g,x) ::r=>if g=f then(g,v) ::r else(g,x) ::mz f v r
theorem uP(f g:Str)(v:V):∀fs:List (Str × V),(mz f v fs).lookup g=if g=f then some v else fs.lookup g
 | []=>by
   show List.lookup g [(f,v)]=_;by_cases h:g=f
   .have hb:(g==f)=true:=Qba.mpr h;simp only[List.lookup,hb,QaD h]
   .have hb:(g==f)=false:=Qbt.mpr h;simp only[List.lookup,hb,QaB h]
 | (k,x) ::r=>by
   have ih:=uP f g v r;rw[show mz f v ((k,x) ::r)=(if k=f then(k,v) ::r else(k,x) ::mz f v r) from rfl]
   by_cases hk:k=f
   .rw [QaD hk];by_cases h:g=k
    .have hb:(g==k)=true:=Qba.mpr h;simp only[List.lookup,hb,QaD (h.trans hk)]
    .have hb:(g==k)=false:=Qbt.mpr h;simp only[List.lookup,hb,QaB (fun e:g=f=>h (e.trans hk.symm))]
   .rw [QaB hk];by_cases h:g=k
    .have hb:(g==k)=true:=Qba.mpr h;simp only[List.lookup,hb,QaB (fun e:g=f=>hk (h.symm.trans e))]
    .have hb:(g==k)=false:=Qbt.mpr h;simp only[List.lookup,hb];exact ih
theorem ub(f:Str)(v:V):∀fs:List (Str × V),f∈(mz f v fs).map (·.1)/\∀g,g∈fs.map (·.1)->g∈(mz f v fs).map (·.1)
 | []=>⟨by simp [mz],fun g h=>by simp at h⟩
 | (k,x) ::r=>by
   obtain⟨i1,i2⟩:=ub f v r;rw[show mz f v ((k,x) ::r)=(if k=f then(k,v) ::r else(k,x) ::mz f v r) from rfl]
   by_cases hk:k=f
   .rw [QaD hk];subst hk;exact⟨by simp,fun g h=>by simpa using h⟩
   .rw [QaB hk];refine⟨?_,fun g h=>?_⟩
    .rw [Qay];exact Qai _ i1
    .rw [Qay] at h ⊢;rcases Qar.mp h with e | e
     .exact Qar.mpr (.inl e)
     .exact Qai _ (i2 g e)
theorem u0(f:Str)(v:V):∀fs:List (Str × V),(mz f v fs).length<=fs.length+1
 | []=>by simp [mz]
 | (k,x) ::r=>by
   have ih:=u0 f v r;rw[show mz f v ((k,x) ::r)=(if k=f then(k,v) ::r else(k,x) ::mz f v r) from rfl]
   by_cases hk:k=f
   .rw [QaD hk,QaM,QaM];omega
   .rw [QaB hk,QaM,QaM];omega
def so.some_of{v:V}{o:Option Value}(r:so (some v) o):∃u,o=some u/\RelV v u:=by
 cases o with
 | none=>exact(show False from r).elim
 | some u=>exact⟨u,rfl,r⟩
def so.none_of{o:Option Value}(r:so none o):o=none:=by
 cases o with
 | none=>rfl
 | some u=>exact(show False from r).elim
def Hm{v:V}{u:Value}(r:RelV v u):PySem.W.handedIn u=true:=by
 cases v with
 | cR=>cases(show u=Value.none from r);rfl
 | bl b=>cases(show u=Value.bool b from r);rfl
 | int i=>obtain⟨t,e⟩:=(show ∃t,u=Value.int i t from r);cases e;rfl
 | str x=>obtain⟨t,e⟩:=(show ∃t,u=Value.str x t from r);cases e;rfl
 | byt b=>obtain⟨t,e⟩:=(show ∃t,u=Value.bytes b t from r);cases e;rfl
 | flt b=>obtain⟨t,e⟩:=(show ∃t,u=Value.float b t from r);cases e;rfl
 | ref a=>cases(show u=Value.ref a from r);rfl
 | ty n=>cases(show u=Value.type n from r);rfl
section
variable {P:Program} {w:World} {H H':Hp} {h h':Heap} {a C dx:Addr} {fs Sk:List (Str × V)}
def z7(hok:oF P w H h)(e:H a=some (.ins C dx fs)):∃mA,Es h a dx C mA/\(∀f,so (fs.lookup f) (mA f))/\PySem.Within mA (fs.map (·.1))/\fs.length<=1000/\H dx=some (.own a):=by
 obtain⟨d,z,ne,ob,mA,n,r,q⟩:=(show gg P w H h a (.ins C dx fs) from hok a _ e)
 exact⟨mA,⟨ob,n,ne⟩,r,q,z,d⟩
end
structure A6 (K:Qdc) (C:Addr):Prop where
 pg:PySem.W.plainGet K C Str.empty=true
 hd:PySem.W.hasDictIn K C=true
 po:PySem.W.plainOver K C=true
 sa:PySem.W.findIn K (.ref C) "__setattr__"=some (some (.builtin "object.__setattr__"))
def A6.get{K:Qdc}{C:Addr}(c:A6 K C)(f:Str):PySem.W.plainGet K C f=true:=c.pg
def dE(K:Qdc)(C:Addr)(f:Str):Prop:=PySem.W.findIn K (.ref C) f=some none
def dE.S6{K:Qdc}{C:Addr}(n:dE K C f):PySem.W.takerIn K C f=some none:=by
 unfold PySem.W.takerIn;rw[show PySem.W.findIn K (.ref C) f=some none from n]
 rfl
structure Y5 (K:Qdc) (C:Addr) (f:Str) (v:V) (u:Value):Prop where
 at_:PySem.W.findIn K (.ref C) f=some (some u)
 rel:RelV v u
 get:PySem.W.specialIn K u "__get__"=some none
 cp:PySem.W.copiedNames.contains f=false
structure Meth (K:Qdc) (C:Addr) (m:Str) (f:Addr):Prop where
 at_:PySem.W.findIn K (.ref C) m=some (some (.ref f))
 fn:PySem.W.isFn K (.ref f)=true
 kp:PySem.W.keepIn K (.ref f)=true
section
variable {X:Cx} {pins:Aaa} {σ:St} {H:Hp} {s:Qdd} {a C dx:Addr} {fs:List (Str × V)} {f:Str} {v:V} {A:Around} {E:Aab}
def DD{b:Bool}{Q:Aab}(I:Inv X pins σ H s)(e:H a=some (.ins C dx fs))(c:A6 X.K C)(n:dE X.K C f)(l:fs.lookup f=some v)
 (h:∀u s',Inv X pins σ H s'->RelV v u->Q u s'):wpAny (model X.prog X.w) A (getAttr (.ref a) f b) Q E s:=by
 obtain⟨mA,O,r,_,_,_⟩:=z7 I.hok e;obtain⟨u,hu,ru⟩:=so.some_of (v:=v) (o:=mA f) (by rw[<-l];exact r f)
 exact get_map I.A9 O (c.get f) c.hd n hu (Hm ru) (h u _ (I.tok _) ru)
def Em{m:Str}{g:Addr}{pl:Sem Bool}{Q:Value × List Value->Qdd->Prop}(I:Inv X pins σ H s)(e:H a=some (.ins C dx fs))(c:A6 X.K C)(k:Meth X.K C m g)(l:fs.lookup m=none)
 (h:Q (.ref g,[.ref a]) s):wpAny (model X.prog X.w) A (getMethod (.ref a) m pl) Q E s:=by
 obtain⟨mA,O,r,_,_,_⟩:=z7 I.hok e;have hn:mA m=none:=so.none_of (by rw[<-l];exact r m)
 exact IM I.A9 O (c.get m) k.at_ k.fn hn h
def Eg{y:V}{u:Value}{Q:Unit->Qdd->Prop}(I:Inv X pins σ H s)(e:H a=some (.ins C dx fs))(c:A6 X.K C)(n:dE X.K C f)(hl:fs.length<1000)(ry:RelV y u)
 (h:∀s',Inv X pins σ (upd H a (.ins C dx (mz f y fs))) s'->Q () s'):wpAny (model X.prog X.w) A (setAttr (.ref a) f u) Q E s:=by
 obtain⟨mA,O,r,wi,_,ho⟩:=z7 I.hok e;have hz:(fs.map (·.1)).length<=sizeLine:=by rw[Qaa,Qap];omega
 refine Nr I.A9 O c.sa c.po n.S6 c.hd wi hz fun h' O' sb=>h _ ?_
 have hd:∃o,h'.get? dx=some o:=let⟨o,_,_,e',_⟩:=O'.ns;⟨o,e'⟩
 refine I.write (x:=a) (e:=dx) (by rw[e];exact True.intro) (.inr ho) (fun b q hb z=>(sb.2 b hb).trans z) hd ?_
 refine⟨by rw[aZ O.ne];exact ho,?_,O.ne,O'.obj,_,O'.ns,fun g=>?_,fun g hg=>?_⟩
 .have:=u0 f y fs;omega
 .show so ((mz f y fs).lookup g) (if g=f then some u else mA g)
  rw[uP];by_cases q:g=f
  .rw [QaD q,QaD q];exact ry
  .rw [QaB q,QaB q];exact r g
 .by_cases q:g=f
  .rw [q];exact(ub f y fs).1
  .refine(ub f y fs).2 g (wi g fun z=>hg ?_)
   show(if g=f then some u else mA g)=none
   rw[QaB q];exact z
def Inv.made(I:Inv X pins σ H s):Inv X pins σ (upd (upd H s.heap.objs.size (.own (s.heap.objs.size+1))) (s.heap.objs.size+1) (.ins C s.heap.objs.size []))
 {s with heap:=(s.heap.push PySem.W.emptyDict).push (PySem.W.instObj C s.heap.objs.size)}:=by
 have e1:(s.heap.push PySem.W.emptyDict).get? s.heap.objs.size=some PySem.W.emptyDict:=QaJ s.heap rfl;have e2:((s.heap.push PySem.W.emptyDict).push (PySem.W.instObj C s.heap.objs.size)).get? (s.heap.objs.size+1)=some (PySem.W.instObj C s.heap.objs.size):=by
  have:=QaJ (s.heap.push PySem.W.emptyDict) (o:=PySem.W.instObj C s.heap.objs.size) rfl
  rwa [Qbd] at this
 have e3:(s.heap.push PySem.W.emptyDict).Ns s.heap.objs.size (fun _=>none):=⟨PySem.W.emptyDict,#[],_,e1,rfl,(fun e he=>absurd he (by simp)),fun _=>rfl⟩
 have I1:=I.laid (a:=s.heap.objs.size) (o:= .own (s.heap.objs.size+1)) (h':=s.heap.push PySem.W.emptyDict) (t':=s.toks) (fun b u q=>Qah _ q) (Qag _) ⟨_,e1⟩
 refine I1.laid (a:=s.heap.objs.size+1) (o:= .ins C s.heap.objs.size []) (t':=s.toks) (fun b u q=>Qah _ q) (Nat.le_of_eq (Qbd _ _)) ?_
 have ne:s.heap.objs.size≠s.heap.objs.size+1:=QaO (Nat.lt_succ_self _);refine⟨by rw[aZ ne,bj],QbG _,ne,e2,fun _=>none,(Heap.Ns1.of_empty e3).at fun o q=>Qah _ q,fun _=>True.intro,fun y hy=>absurd rfl hy⟩
def Mj{prog:Program}{w:World}{env:Env}{e:Expr}{f:Str}{pos:Pos}{s:Qdd}{Q:Aab}(hb:attributeBase e f env (eval e env)=eval e env)
 (h:wpAny (model prog w) A (eval e env) (fun o s₁=>wpAny (model prog w) A (getAttr o f true) Q E s₁) E s):wpAny (model prog w) A (eval (.Attribute e f pos) env) Q E s:=
 Attribute_any_ h (by rw[arm_eval_Attribute,hb])
end
def VU(K:Qdc)(ta:TE)(f:Str):TE:=fun σ H Q=>ta σ H fun x H1=>∃a C dx fs v,x= .ref a/\H1 a=some (.ins C dx fs)/\A6 K C/\dE K C f/\fs.lookup f=some v/\Q v H1
def Z1(K:Qdc)(ta:TE)(f:Str):TE:=fun σ H Q=>ta σ H fun x H1=>∃a C dx fs v u,x= .ref a/\H1 a=some (.ins C dx fs)/\A6 K C/\Y5 K C f v u/\fs.lookup f=none/\Q v H1
def Vz(K:Qdc)(ta tv:TE)(f:Str):TS:=fun D σ H=>tv σ H fun y H1=>ta σ H1 fun x H2=>∃a C dx fs,x= .ref a/\H2 a=some (.ins C dx fs)/\A6 K C/\dE K C f/\fs.length<1000/\
 D.nx σ (upd H2 a (.ins C dx (mz f y fs)))
def Y_(X:Cx)(op:Operator)(rd:V->V->Hp->VK->Prop):Prop:=
 ∀(pins:Aaa) (s:Qdd) (σ:St) (H:Hp) (x y:V) (u v:Value) (Q:VK),Inv X pins σ H s->RelV x u->RelV y v->rd x y H Q->wpAny (model X.prog X.w) X.A (inplaceOp op u v) (EP X pins σ Q) X.xe s
def U5(K:Qdc)(ta tv:TE)(rd:V->V->Hp->VK->Prop)(f:Str):TS:=fun D σ H=>ta σ H fun x H1=>∃a C dx fs v,x= .ref a/\H1 a=some (.ins C dx fs)/\A6 K C/\dE K C f/\fs.lookup f=some v/\
 tv σ H1 fun y H2=>rd v y H2 fun z H3=>∃dx' Sk,H3 a=some (.ins C dx' Sk)/\Sk.length<1000/\D.nx σ (upd H3 a (.ins C dx' (mz f z Sk)))
section
variable {X:Cx} {o e value:Expr} {f:Str} {pos pos' uB:Pos} {ta tv:TE}
def Q6(he:PE X e ta)(hb:attributeBase e f X.env (eval e X.env)=eval e X.env):PE X (.Attribute e f pos) (VU X.K ta f):=by
 intro pins s σ H Q I h;refine Mj hb (eO (he pins s σ H _ I h) fun u s1 ⟨x,H1,I1,rx,a,C,dx,fs,v,ex,ea,c,n,l,q⟩=>?_)
 subst ex;obtain rfl:u=Value.ref a:=rx;exact DD I1 ea c n l fun u' s2 I2 ru=>⟨v,H1,I2,ru,q⟩
def Pf(ha:PE X o ta)(hv:PE X value tv)(hs:swapsWith value (some (.Attribute o f pos')) pos.line X.env=pure false):PS X (.Assign [.Attribute o f pos'] value pos) (Vz X.K ta tv f):=by
 intro pins s σ H D I h;refine plainObj_wpAny_Assign_Attribute (eO (hv pins s σ H _ I h) fun u s1 ⟨y,H1,I1,ry,q⟩=>eO (ha pins s1 σ H1 _ I1 q) fun ov s2 ⟨x,H2,I2,rx,a,C,dx,fs,ex,ea,c,n,l,q2⟩=>?_) hs
 subst ex;obtain rfl:ov=Value.ref a:=rx;exact Eg I2 ea c n l ry fun s3 I3=>⟨σ,_,I3,q2⟩
def ZG:V->V->Hp->VK->Prop:=fun x y H Q=>∃i j,x= .int i/\y= .int j/\Q (.int (i+j)) H
def Z6:V->V->Hp->VK->Prop:=fun x y H Q=>∃i j,x= .int i/\y= .int j/\Q (.int (i - j)) H
end
section
variable {X:Cx} {pins:Aaa} {σ:St} {H:Hp} {s:Qdd} {A:Around} {E:Aab} {Q:Aab} {c:Value} {b:Bool}
inductive xo (K:Qdc) (H:Hp):V->Value->Prop where
 | cR:xo K H .cR (.type "NoneType")
 | bl (x:Bool):xo K H (.bl x) (.type "bool")
 | int (i:Int):xo K H (.int i) (.type "int")
 | str (x:Str):xo K H (.str x) (.type "str")
 | flt (x:UInt64):xo K H (.flt x) (.type "float")
 | lst {a:Addr} {xs:List V} (e:H a=some (.lst xs)):xo K H (.ref a) (.type "list")
 | lV {a:Addr} {o:Obj} {xs:List V} (e:H a=some (.lV o (.lst xs))):xo K H (.ref a) (.type "list")
 | tup {a:Addr} {xs:List V} (e:H a=some (.tup xs)):xo K H (.ref a) (.type "tuple")
 | dK {a:Addr} {kvs:List (Key × V)} (e:H a=some (.dK kvs)):xo K H (.ref a) (.type "dict")
 | dT {a:Addr} {kvs:List (List Key × V)} (e:H a=some (.dT kvs)):xo K H (.ref a) (.type "dict")
 | ins {a C dx:Addr} {fs:List (Str × V)} (e:H a=some (.ins C dx fs)) (cl:A6 K C) (ha:PySem.W.findIn K (.ref C) "__class__"=some (some (.builtin "object.__class__")))
    (hn:PySem.W.specialIn K (.builtin "object.__class__") "__get__"=some (some (.builtin "getset_descriptor.__get__"))) (htk:PySem.W.takesIn K (.builtin "object.__class__")=some true)
    (hm:PySem.W.mroIn K C (.type "object")=some true):xo K H (.ref a) (.ref C)
end
structure eW (k:Nat) (A:Around):Prop where
 hd:A.handled=none
 dp:A.depth+3*k+5<recursionLimit
 un:A.units+16*k+200<cLine
def eW.mono{j k:Nat}(r:eW k A)(h:j<=k):eW j A:=⟨r.hd,by have:=r.dp;omega,by have:=r.un;omega⟩
def eW.deeper{k:Nat}{A:Around}(r:eW (k+1) A)(env:Env):eW k (A.deeper env):=
 ⟨r.hd,by have:=r.dp;show A.depth+1+3*k+5<_;omega,by have:=r.un;show A.units+3+16*k+200<_;omega⟩
def Eu{A:Around}{C:Addr}{us:List Value}{kw:List (Str × Value)}:(A.under (.builtin "type.__call__" ⟨.ref C ::us,kw⟩)).depth=A.depth+1:=by
 first | rfl | simp [Around.under,Code.weight,Code.isCreation,Code.isGuard,Code.isCaller,Code.frames,Code.isFrame,guardIds]
def Ey{A:Around}{C:Addr}{us:List Value}{kw:List (Str × Value)}:(A.under (.builtin "type.__call__" ⟨.ref C ::us,kw⟩)).units=A.units+1:=by
 first | rfl | simp [Around.under,Code.cUnits,Code.frames,Code.isFrame]
def eW.make{k:Nat}{A:Around}(r:eW (k+1) A)(C:Addr)(us:List Value)(kw:List (Str × Value)):eW k (A.under (.builtin "type.__call__" ⟨.ref C ::us,kw⟩)):=
 ⟨r.hd,by have:=r.dp;rw [Eu];omega,by have:=r.un;rw [Ey];omega⟩
def eW.depth{k:Nat}{A:Around}(r:eW k A):A.depth<recursionLimit:=by have:=r.dp;omega
def eW.units{k:Nat}{A:Around}(r:eW k A):A.units+64<cLine:=by have:=r.un;omega
def Vy:TA:=fun _ H Q=>Q [] H
def Ta(ta:TE)(tr:TA):TA:=fun σ H Q=>ta σ H fun x H1=>tr σ H1 fun xs H2=>Q (x ::xs) H2
section
variable {X:Cx} {e:Expr} {es:List Expr} {te:TE} {t:TA} {pos:Pos}
def jl:PA X [] Vy:=fun _ _ _ _ H Q I h=>Calls.spliced_nil ⟨[],H,I, .nil,h⟩
def eV(ha:PE X e te)(hr:PA X es t)(hs:starEach (e ::es) X.env=(false,eval e X.env) ::starEach es X.env:=by rfl):PA X (e ::es) (Ta te t):=by
 intro pos pins s σ H Q I h;rw[hs];show wpAny _ _ (spliced ((false,eval e X.env) ::backTo pos (starEach es X.env))) _ _ s;refine QcU (eO (ha pins s σ H _ I h) fun u s1 ⟨x,H1,I1,r1,q1⟩=>?_)
 exact eO (hr pos pins s1 σ H1 _ I1 q1) fun us s2 ⟨xs,H2,I2,r2,q2⟩=>⟨x ::xs,H2,I2, .cons r1 r2,q2⟩
def Wb(t:TA):TE:=fun σ H Q=>t σ H fun xs H1=>xs.length<=sizeLine/\∀p,H1 p=none->Q (.ref p) (upd H1 p (.tup xs))
def V_(t:TA):TE:=fun σ H Q=>t σ H fun xs H1=>xs.length<=sizeLine/\∀p,H1 p=none->Q (.ref p) (upd H1 p (.lst xs))
def JT{x1}(h:PA X es t):PE X (.Tuple es x1 pos) (Wb t):=by
 intro pins s σ H Q I hq;refine wpAny_Tuple_spliced (eO (h pos pins s σ H _ I hq) fun us s1 ⟨xs,H1,I1,r,z,q⟩=>⟨by rw[<-r.length];exact z,?_⟩)
 have hf:H1 s1.heap.objs.size=none:=I1.hok.fresh (Qag _);refine⟨.ref s1.heap.objs.size,upd H1 s1.heap.objs.size (.tup xs),I1.laid (t':=s1.toks) (fun b u e=>Qah _ e) (Qag _) ?_,rfl,q _ hf⟩
 exact⟨z,us,r,⟨_,QaJ _ rfl,rfl,_,rfl⟩⟩
def J_(h:PA X es t):PE X (.List es pos) (V_ t):=by
 intro pins s σ H Q I hq;refine wpAny_List_spliced (eO (h pos pins s σ H _ I hq) fun us s1 ⟨xs,H1,I1,r,z,q⟩=>⟨by rw[<-r.length];exact z,?_⟩)
 have hf:H1 s1.heap.objs.size=none:=I1.hok.fresh (Qag _);refine⟨.ref s1.heap.objs.size,upd H1 s1.heap.objs.size (.lst xs),I1.laid (t':=s1.toks) (fun b u e=>Qah _ e) (Qag _) ?_,rfl,q _ hf⟩
 exact⟨z,us,0,r,QaJ _ rfl⟩
end
abbrev Sp:=List V->Hp->VK->XK->Prop
abbrev HG:=List Env->Hp->Qdd->XK->Value->Qdd->Prop
structure Et (P:Program) (w:World) (K:Qdc) (mg:Aaf) (base:Heap) (A:Around) (outer:List Env) (s:Qdd) (H:Hp):Prop where
 frames:A.frames=some outer
 mod:Mod K mg base
 bs:∀b o,base.get? b=some o->s.heap.get? b=some o/\H b=none
 bsz:base.objs.size<=s.heap.objs.size
 sS:s.heap.FunFrames base outer
 frf:∀b∈ro outer,H b=none
 hok:oF P w H s.heap
 bare:AllBare s.gens
def CE(outer:List Env)(P:Program)(w:World)(H:Hp)(s:Qdd)(Q:VK)(u:Value)(s':Qdd):Prop:=
 ∃v H',s'.os=s.os/\AllBare s'.gens/\Un (ro outer) [] H H' s.heap s'.heap/\oF P w H' s'.heap/\RelV v u/\Q v H'
def CR(CX:HG)(outer:List Env)(P:Program)(w:World)(H:Hp)(s:Qdd)(Q:VK)(E:XK)(r:Result)(s':Qdd):Prop:=
 match r with
 | .ok (.ret u)=>CE outer P w H s Q u s'
 | .ok _=>False
 | .error e=>CX outer H s E e s'
structure j2 (P:Program) (w:World) (K:Qdc) (mg:Aaf) (base:Heap) (CX:HG) (k:Nat) (f:Addr) (fd:FuncData) (ps:List Str) (sp:Sp):Prop where
 len:∀vs H Q E,sp vs H Q E->vs.length=ps.length
 run:∀(A:Around) (outer:List Env) (s:Qdd) (H:Hp) (args:Args) (us:List Value) (vs:List V) (Q:VK) (E:XK),eW k A->Et P w K mg base A outer s H->BindsTo s fd args (ps.zip us)->Vals vs us->sp vs H Q E->
  codeAny (model P w) A (.call (.ref f) args) (CR CX outer P w H s Q E) s
def j2.imp{P:Program}{w:World}{K:Qdc}{mg:Aaf}{base:Heap}{CX:HG}{k:Nat}{f:Addr}{fd:FuncData}{ps:List Str}{sp YL:Sp}(F:j2 P w K mg base CX k f fd ps sp)
 (h:∀vs H Q E,YL vs H Q E->sp vs H Q E):j2 P w K mg base CX k f fd ps YL:=
 ⟨fun vs H Q E q=>F.len vs H Q E (h _ _ _ _ q),fun A outer s H args us vs Q E hr he hb hv hs=>F.run A outer s H args us vs Q E hr he hb hv (h _ _ _ _ hs)⟩
def Et.make{K:Qdc}{mg:Aaf}{outer:List Env}{s:Qdd}(e:Et P w K mg base A outer s H)(C:Addr)(us:List Value)(kw:List (Str × Value)) :
 Et P w K mg base (A.under (.builtin "type.__call__" ⟨.ref C ::us,kw⟩)) outer s H:=⟨by first | exact e.frames | (simpa [Around.under,Code.envs,Code.isFrame,pushEnvs] using e.frames),e.mod,e.bs,e.bsz,e.sS,e.frf,e.hok,e.bare⟩
section
variable {X:Cx} {pins:Aaa} {σ:St} {H:Hp} {s s':Qdd}
def Inv.Ts(I:Inv X pins σ H s):Et X.prog X.w X.K X.mg X.base X.A X.stack s H:=
 ⟨I.ok.frames,I.ok.mod,I.bs,Qa0 I.ok.bsz I.sz,I.stack,I.ql,I.hok,I.bare⟩
def Inv.after{Q:VK}{u:Value}(I:Inv X pins σ H s)(h:CE X.stack X.prog X.w H s Q u s'):EP X pins σ Q u s':=by
 obtain⟨v,H',os,bare,un,hok,r,q⟩:=h;obtain⟨hh,g,d,t,oT⟩:=s';obtain rfl:oT=s.os:=os;exact⟨v,H',I.call (h':=hh) (g':=g) (d':=d) (t':=t) (ch:=[]) un hok bare (fun b z=>absurd z (by simp)),r,q⟩
end
def TB(sp:Sp)(A3:List V)(E:XK)(t:TA):TE:=fun σ H Q=>t σ H fun vs H1=>sp (vs++A3) H1 Q E
def Ur(C:Addr)(m:Str)(sp:Sp)(A3:List V)(E:XK)(ta:TE)(t:TA):TE:=fun σ H Q=>ta σ H fun x H1=>∃a dx fs,x= .ref a/\H1 a=some (.ins C dx fs)/\fs.lookup m=none/\
 t σ H1 fun vs H2=>sp (x ::(vs++A3)) H2 Q E
def S9(C:Addr)(sp:Sp)(A3:List V)(E:XK)(t:TA):TE:=fun σ H Q=>t σ H fun vs H1=>∀x dx,H1 x=none->H1 dx=none->dx≠x->
 sp (.ref x ::(vs++A3)) (upd (upd H1 dx (.own x)) x (.ins C dx [])) (fun v H2=>v= .cR/\Q (.ref x) H2) E
def Binds(K:Qdc)(fd:FuncData)(ps:List Str)(ds:List Value):Prop:=
 ∀(s:Qdd) (us:List Value),K.In s.heap->(us++ds).length=ps.length->BindsTo s fd ⟨us,[]⟩ (ps.zip (us++ds))
def Binds.all{K:Qdc}{fd:FuncData}{ps:List Str}(h:∀us:List Value,us.length=ps.length->bindArgs fd ⟨us,[]⟩=pure (ps.zip us)):Binds K fd ps []:=fun s us _ hl=>by
 rw[Qa7] at hl ⊢;exact .of_eq (h us hl)
def Passes(CX:HG)(X:Cx)(E:XK):Prop:=∀(pins:Aaa) (σ:St) (H:Hp) (s:Qdd) (e:Value) (s':Qdd),Inv X pins σ H s->CX X.stack H s E e s'->X.xe e s'
section
variable {X:Cx} {CX:HG} {k:Nat} {f C:Addr} {fd:FuncData} {ps:List Str} {sp:Sp} {A3:List V} {ds:List Value} {E:XK} {x m:Str} {p pos apos:Pos} {e o:Expr} {es:List Expr} {ta:TE} {t:TA}
def Dt{pins:Aaa}{σ:St}{H:Hp}{s:Qdd}{Q:VK}{us:List Value}{vs:List V}(F:j2 X.prog X.w X.K X.mg X.base CX k f fd ps sp)(hr:eW k X.A)(hb:Binds X.K fd ps ds)(hd:Vals A3 ds)(hx:Passes CX X E)
 (I:Inv X pins σ H s) (r:Vals vs us) (h:sp (vs++A3) H Q E):wpAny (model X.prog X.w) X.A (call (.ref f) us) (EP X pins σ Q) X.xe s:=by
 have r2:Vals (vs++A3) (us++ds):=r.append hd;have hl:(us++ds).length=ps.length:=by rw[<-r2.length];exact F.len _ _ _ _ h
 refine wpAny_call (codeAny_mono (F.run X.A X.stack s H ⟨us,[]⟩ (us++ds) (vs++A3) Q E hr I.Ts (hb s us I.A9 hl) r2 h) fun r s' hq=>?_)
 cases r with
 | error e=>exact hx pins σ H s e s' I hq
 | ok fl=>
   cases fl with
   | ret u=>exact I.after hq
   | next=>exact False.elim hq
   | brk=>exact False.elim hq
   | cont=>exact False.elim hq
def vt(F:j2 X.prog X.w X.K X.mg X.base CX k f fd ps sp)(hr:eW k X.A)(hg:Gl X x)(hm:X.mg x=some (.ref f))(hk:PySem.W.keepIn X.K (.ref f)=true)(hb:Binds X.K fd ps ds)(hd:Vals A3 ds)(hx:Passes CX X E)
 (ha:PA X (e ::es) t) (oi:(x==("__debug__":Str))=false:=by decide) (he:starEach (e ::es) X.env=(false,eval e X.env) ::starEach es X.env:=by rfl) (jY:(backTo pos (starEach es X.env)).any (·.1)=false:=by rfl) :
 PE X (.Call (.Name x p) (e ::es) [] pos) (TB sp A3 E t):=by
 intro pins s σ H Q I h;refine QbX (tL I hg hm ?_ oi);refine Qcg (h₀:=X.base) I.ok.mod.kin hk (eO (ha pos pins s σ H _ I h) fun us s1 ⟨vs,H1,I1,r,q⟩=>⟨I1.A9,?_⟩) he jY
 exact Dt F hr hb hd hx I1 r q
def LW{pl:Sem Bool}(he:PE X o ta)(c:A6 X.K C)(hm:Meth X.K C m f)(F:j2 X.prog X.w X.K X.mg X.base CX k f fd ps sp)(hr:eW k X.A)(hb:Binds X.K fd ps ds)(hd:Vals A3 ds)(hx:Passes CX X E)(ha:PA X (e ::es) t)
 (xV:starEach (e ::es) X.env=(false,eval e X.env) ::starEach es X.env:=by rfl) (jY:(backTo pos (starEach es X.env)).any (·.1)=false:=by rfl)
 (ht:eval (.Call (.Attribute o m apos) (e ::es) [] pos) X.env=(do
   let ov <-eval o X.env
   standAt apos.atName
   let(f,first) <-holding [ov] (getMethod ov m pl)
   callWith pos f first (backTo pos (starEach (e ::es) X.env)) (backToKw pos (keywordEach [] X.env))):=by rfl) :
 PE X (.Call (.Attribute o m apos) (e ::es) [] pos) (Ur C m sp A3 E ta t):=by
 intro pins s σ H Q I h;refine PySem.W.methodCall_KW (pl:=pl) (eO (he pins s σ H _ I h) fun u s1 ⟨x,H1,I1,rx,a,dx,fs,ex,ea,l,q⟩=>?_) ht
 subst ex;obtain rfl:u=Value.ref a:=rx;refine Em I1 ea c hm l ?_;refine Qcg (first:=[.ref a]) (h₀:=X.base) I.ok.mod.kin hm.kp (eO (ha pos pins s1 σ H1 _ I1 q) fun us s2 ⟨vs,H2,I2,r,q2⟩=>⟨I2.A9,?_⟩) xV jY
 exact Dt (us:= .ref a ::us) (vs:= .ref a ::vs) F hr hb hd hx I2 (.cons rfl r) q2
structure Mk (K:Qdc) (C f:Addr):Prop where
 makes:PySem.W.makesIn K C=true
 init:PySem.W.findIn K (.ref C) "__init__"=some (some (.ref f))
 fn:PySem.W.isFn K (.ref f)=true
 kp:PySem.W.keepIn K (.ref C)=true
def J3{pins:Aaa}{σ:St}{H:Hp}{s:Qdd}{Q:VK}{us:List Value}{vs:List V}(M:Mk X.K C f)(F:j2 X.prog X.w X.K X.mg X.base CX k f fd ps sp)(hr:eW (k+1) X.A)(hb:Binds X.K fd ps ds)(hd:Vals A3 ds)
 (hx:Passes CX X E) (I:Inv X pins σ H s) (r:Vals vs us)
 (h:∀x dx,H x=none->H dx=none->dx≠x->sp (.ref x ::(vs++A3)) (upd (upd H dx (.own x)) x (.ins C dx [])) (fun v H2=>v= .cR/\Q (.ref x) H2) E) :
 wpAny (model X.prog X.w) X.A (call (.ref C) us) (EP X pins σ Q) X.xe s:=by
 have hq:=h (s.heap.objs.size+1) s.heap.objs.size (I.hok.fresh (Nat.le_succ _)) (I.hok.fresh (Qag _)) (QaO (Nat.lt_succ_self _));have I2:=Inv.made (C:=C) I;have r2:Vals (V.ref (s.heap.objs.size+1) ::(vs++A3)) (Value.ref (s.heap.objs.size+1) ::(us++ds)):= .cons rfl (r.append hd);have hl:(Value.ref (s.heap.objs.size+1) ::us++ds).length=ps.length:=by
  have e:=r2.length;rw[F.len _ _ _ _ hq] at e;exact e.symm
 refine wpAny_call (Kz (f:=f) I.A9 M.makes M.init (Qba.mp M.fn) (codeAny_mono (F.run _ X.stack _ _ ⟨Value.ref (s.heap.objs.size+1) ::us,[]⟩ (Value.ref (s.heap.objs.size+1) ::(us++ds)) _ _ E (hr.make C us [])
  (I2.Ts.make C us []) (hb _ (Value.ref (s.heap.objs.size+1) ::us) I2.A9 hl) r2 hq) fun r s' UH=>?_))
 cases r with
 | error e=>exact hx pins σ _ _ e s' I2 UH
 | ok fl=>
   cases fl with
   | ret u=>
     obtain⟨v,H',I3,rv,ev,q3⟩:=I2.after UH;subst ev;exact⟨rv,⟨V.ref (s.heap.objs.size+1),H',I3,rfl,q3⟩⟩
   | next=>exact False.elim UH
   | brk=>exact False.elim UH
   | cont=>exact False.elim UH
def M8(M:Mk X.K C f)(F:j2 X.prog X.w X.K X.mg X.base CX k f fd ps sp)(hr:eW (k+1) X.A)(hg:Gl X x)(hm:X.mg x=some (.ref C))(hb:Binds X.K fd ps ds)(hd:Vals A3 ds)(hx:Passes CX X E)
 (ha:PA X (e ::es) t) (oi:(x==("__debug__":Str))=false:=by decide) (he:starEach (e ::es) X.env=(false,eval e X.env) ::starEach es X.env:=by rfl) (jY:(backTo pos (starEach es X.env)).any (·.1)=false:=by rfl) :
 PE X (.Call (.Name x p) (e ::es) [] pos) (S9 C sp A3 E t):=by
 intro pins s σ H Q I h;refine QbX (tL I hg hm ?_ oi);refine Qcg (h₀:=X.base) I.ok.mod.kin M.kp (eO (ha pos pins s σ H _ I h) fun us s1 ⟨vs,H1,I1,r,q⟩=>⟨I1.A9,?_⟩) he jY
 exact J3 M F hr hb hd hx I1 r q
end
def PK(X:Cx)(YM:List Keyword)(t:TA):Prop:=
 ∀(pos:Pos) (pins:Aaa) (s:Qdd) (σ:St) (H:Hp) (Q:List V->Hp->Prop),Inv X pins σ H s->t σ H Q->wpAny (model X.prog X.w) X.A (evalAll ((backToKw pos (keywordEach YM X.env)).map (·.2))) (AP X pins σ Q) X.xe s
section
variable {X:Cx} {CX:HG} {k:Nat} {f C:Addr} {fd:FuncData} {ps ks:List Str} {sp:Sp} {E:XK} {x m:Str} {p pos apos aaG:Pos} {e o:Expr} {es:List Expr} {YM:List Keyword} {te ta:TE} {t tk:TA} {nm:Option Str}
structure V4 (K:Qdc) (fd:FuncData) (ps ks:List Str) (g:List Value->List Value->List Value) (gV:List V->List V->List V):Prop where
 to:∀(s:Qdd) (us ws:List Value),K.In s.heap->(g us ws).length=ps.length->BindsTo s fd ⟨us,ks.zip ws⟩ (ps.zip (g us ws))
 rel:∀{vs:List V} {us:List Value} {zs:List V} {ws:List Value},Vals vs us->Vals zs ws->Vals (gV vs zs) (g us ws)
def Wj(sp:Sp)(gV:List V->List V->List V)(E:XK)(t tk:TA):TE:=fun σ H Q=>t σ H fun vs H1=>tk σ H1 fun zs H2=>sp (gV vs zs) H2 Q E
variable {g:List Value->List Value->List Value} {gV:List V->List V->List V}
end
structure aU (N P:List Str) (sc:Scope):Prop where
 kind:sc.kind= .function:=by rfl
 co:sc.isCoroutine=false:=by rfl
 gen:sc.isGenerator=false:=by rfl
 nd:N.Nodup:=by decide+kernel
 pre:N.take P.length=P:=by rfl
 par:∀x∈P,sc.names.lookup x=some .local\/sc.names.lookup x=some .cell:=by decide+kernel
 nofree:∀y∈sc.names,y.2≠ .free:=by decide+kernel
theorem zo{kindOf:Str->Option NameKind}:∀{binds:List (Str × Value)} {m:Aaf},(∀v,(x,v) ∉ binds)->bindL kindOf binds m x=m x
 | [],_,_=>rfl
 | (n,v) ::r,m,h=>by
   unfold bindL;rw[zo fun w hw=>h w (Qai _ hw)]
   split
   .have:x≠n:=by rintro rfl;exact h v Qat
    simp [this]
   .rfl
theorem zj{kindOf:Str->Option NameKind}:∀{binds:List (Str × Value)} {m:Aaf},(∀v,(x,v) ∉ binds)->bindC kindOf binds m x=m x
 | [],_,_=>rfl
 | (n,v) ::r,m,h=>by
   unfold bindC;rw[zj fun w hw=>h w (Qai _ hw)]
   split
   .rfl
   .have:x≠n:=by rintro rfl;exact h v Qat
    simp [this]
def yK{kindOf:Str->Option NameKind}{v:Value}:∀{P:List Str} {vs:List Value} {i:Nat} {m:Aaf},P.Nodup->P[i]? =some x->vs[i]? =some v->kindOf x=some .local->
 bindL kindOf (P.zip vs) m x=some v
 | [],_,_,_,_,h,_,_=>by simp at h
 | _ ::_,[],_,_,_,_,h,_=>by simp at h
 | p ::P,w ::vs,0,m,nd,h1,h2,hk=>by
   simp at h1 h2;subst h1;subst h2;show bindL kindOf ((p,w) ::P.zip vs) m p=_;unfold bindL;rw[zo fun v hv=>(QcD.mp nd).1 (List.of_mem_zip hv).1,QaD hk]
   simp
 | p ::P,w ::vs,i+1,m,nd,h1,h2,hk=>by
   show bindL kindOf ((p,w) ::P.zip vs) m x=_;unfold bindL;exact yK (i:=i) (QcD.mp nd).2 (by simpa using h1) (by simpa using h2) hk
def yR{kindOf:Str->Option NameKind}{v:Value}:∀{P:List Str} {vs:List Value} {i:Nat} {m:Aaf},P.Nodup->P[i]? =some x->vs[i]? =some v->kindOf x≠some .local->
 bindC kindOf (P.zip vs) m x=some v
 | [],_,_,_,_,h,_,_=>by simp at h
 | _ ::_,[],_,_,_,_,h,_=>by simp at h
 | p ::P,w ::vs,0,m,nd,h1,h2,hk=>by
   simp at h1 h2;subst h1;subst h2;show bindC kindOf ((p,w) ::P.zip vs) m p=_;unfold bindC;rw[zj fun v hv=>(QcD.mp nd).1 (List.of_mem_zip hv).1,QaB hk]
   simp
 | p ::P,w ::vs,i+1,m,nd,h1,h2,hk=>by
   show bindC kindOf ((p,w) ::P.zip vs) m x=_;unfold bindC;exact yR (i:=i) (QcD.mp nd).2 (by simpa using h1) (by simpa using h2) hk
def start(N:List Str)(vs:List V):St:=vs.map some++List.replicate (N.length - vs.length) none
def pN(CX:HG)(P:Program)(w:World)(K:Qdc)(mg:Aaf)(base:Heap)(N:List Str)(qual:Str)(scope:Scope)(f:Addr)(cd:Value)(A:Around)(outer:List Env)(s:Qdd)(H:Hp)(E:XK):Cx where
 prog:=P
 w:=w
 K:=K
 mg:=mg
 base:=base
 A:=A.deeper (envOfC qual scope s.heap.objs.size f cd)
 N:=N
 s₀:=s
 H₀:=H
 env:=envOfC qual scope s.heap.objs.size f cd
 outer:=outer
 stack:=envOfC qual scope s.heap.objs.size f cd ::outer
 ex:=[]
 calm:=true
 fn:=fun _=>true
 pn:=[]
 xe:=fun e s'=>wpAny (model P w) (A.deeper (envOfC qual scope s.heap.objs.size f cd)) (leaving (envOfC qual scope s.heap.objs.size f cd) e) (fun _ WN=>CX outer H s E e WN) (fun e' WN=>CX outer H s E e' WN) s'
def v7{sc:Scope}{n:Nat}(h:sc.names.lookup x=some .cell):∃c,(cellsFrom n sc.names []).lookup x=some c:=by
 have q:=PySem.W.cellsFrom_some sc.names n [] (.inl h);exact Qch.mp q
def G9{CX:HG}{P:Program}{w:World}{K:Qdc}{mg:Aaf}{base:Heap}{N ps:List Str}{qual:Str}{scope:Scope}{f:Addr}{cd:Value}{A:Around}{outer:List Env}{s s1:Qdd}{H:Hp}{E:XK}{us:List Value}{vs:List V}
 (S:aU N ps scope) (hd:A.handled=none) (e0:Et P w K mg base A outer s H) (hl:vs.length=ps.length) (r:Vals vs us)
 (x:InCallC s s.heap.objs.size (bindL (envOfC qual scope s.heap.objs.size f cd).kindOf (ps.zip us) fun _=>none) (cellsFrom (s.heap.objs.size+1) scope.names []) (bindC (envOfC qual scope s.heap.objs.size f cd).kindOf (ps.zip us) fun _=>none) s1) :
 Inv (pN CX P w K mg base N qual scope f cd A outer s H E) [] (start N vs) H s1:=by
 have jY:ps.length<=N.length:=by have:=Qbk List.length S.pre;rw [QaX] at this;omega
 obtain⟨h1,tk,rfl,hk⟩:=x.done;have noA:∀b:Addr,b ∉ (pN CX P w K mg base N qual scope f cd A outer s H E).ex:=fun b z=>absurd (show b∈([]:List Addr) from z) (by simp)
 refine⟨⟨e0.mod,S.kind,rfl,rfl,Qag _,fun y z c h1 h2=>?_,fun y hy=>?_,fun y c _ h=>?_,fun _=>hd,Around.frames_deeper e0.frames, .inr ⟨rfl,rfl⟩,fun b z=>absurd z (noA b),e0.bs,e0.bsz,fun b _ _=>noA b,fun b z=>absurd z (noA b),e0.sS,e0.frf⟩,
  rfl,e0.bare,Un.kept hk,⟨_,x.toInCall.ns,fun i y v h1 h2 h3=>?_⟩,fun y c h=>⟨_,x.cell y c h⟩,e0.hok.fresh (Qag _),fun y c h=>?_,fun p hp=>absurd (show p∈([]:Aaa) from hp) (by simp),e0.hok.kept hk,?_⟩
 .exact name_of_addr x.apart (Qbl h1) (Qbl h2)
 .have hy:scope.names.lookup y=some .cell\/scope.names.lookup y=some .free:=hy;rcases hy with hy | hy
  .exact v7 hy
  .exact absurd rfl (S.nofree _ (Qbl hy))
 .exact Nat.le_of_lt (x.above y c (Qbl h))
 .have hi:i<vs.length:=by
   unfold start at h2;by_cases hi:i<vs.length
   .exact hi
   .rw [Qae (by simpa using hi)] at h2
    rw[QaT] at h2;split at h2 <;> cases h2
  have ha:vs[i]? =some v:=by
   unfold start at h2;rw[Qam (by simpa using hi),Qad] at h2
   cases e:vs[i]? with
   | none=>rw [e] at h2;cases h2
   | some a=>rw [e] at h2;cases h2;rfl
  obtain⟨u,hu,rv⟩:=r.get ha;have hp:ps[i]? =some y:=by
   rw[<-S.pre,Qby (by omega)];exact h1
  have ndP:ps.Nodup:=by rw[<-S.pre];exact S.nd.sublist (List.take_sublist _ _)
  refine⟨u,rv,?_⟩;rcases S.par y (QaH hp) with k | k
  .exact .inl ⟨k,yK ndP hp hu k⟩
  .obtain⟨c,e⟩:=v7 (n:=s.heap.objs.size+1) k;refine .inr ⟨.inl k,c,e,?_⟩;have q:=x.cell y c e;rw[yR ndP hp hu (by show scope.names.lookup y≠_;rw [k];decide)] at q
   exact q
 .exact e0.hok.fresh (Nat.le_of_lt (x.above y c (Qbl h)))
 .unfold start;show _=N.length;rw[Qau,Qaa,QaP];omega
def Oq{CX:HG}{P:Program}{w:World}{K:Qdc}{mg:Aaf}{base:Heap}{k:Nat}{f:Addr}{name qual:Str}{params:Arguments}{body:List Stmt}{scope:Scope}{dV kV doc pm dt ct oc:Value}{an od:Option Addr}
 {K8:Array (Option Value)} {N ps:List Str} {sp:Sp} (lk:K.lookup f=some ⟨oc,od, .func (PySem.W.fnOf name qual params body scope dV kV doc pm an dt ct),K8⟩) (qC:PySem.W.codeIn K dt qual=true) (S:aU N ps scope)
 (len:∀vs H Q E,sp vs H Q E->vs.length=ps.length)
 (jf:∀(A:Around) (outer:List Env) (s:Qdd) (H:Hp) (vs:List V) (Q:VK) (E:XK),eW k (A.deeper (envOfC qual scope s.heap.objs.size f dt))->sp vs H Q E->
   ∃t,AE (pN CX P w K mg base N qual scope f dt A outer s H E) body t/\t {nx:=fun _ H'=>Q .cR H',rt:=Q} (start N vs) H) :
 j2 P w K mg base CX (k+1) f (PySem.W.fnOf name qual params body scope dV kV doc pm an dt ct) ps sp:=by
 refine⟨len,fun A outer s H args us vs Q E hr e0 hb r Lu=>?_⟩
 have hl:=len _ _ _ _ Lu;have KX:K.In s.heap:=e0.mod.kin.keeps fun b o e=>(e0.bs b o e).1
 have lim:s.heap.NoLimit:=e0.mod.nolimit.keeps fun b o e=>(e0.bs b o e).1
 have hkind:∀y∈ps.zip us,scope.names.lookup y.1=some .local\/(scope.names.lookup y.1=some .cell/\((cellsFrom (s.heap.objs.size+1) scope.names []).lookup y.1).isSome=true):=fun⟨n,v⟩ hy=>by
  rcases S.par n (List.of_mem_zip hy).1 with q | q
  .exact .inl q
  .exact .inr ⟨q,PySem.W.cellsFrom_some _ _ _ (.inl q)⟩
 refine codeAny_call_function hr.depth (KX _ _ lk) rfl S.co S.gen rfl (PySem.W.codeRec_of KX qC) (hb _ _ _ _ ?_);refine wpAny_newFunctionEnv_cells S.kind hkind fun env he s1 x=>?_
 subst he;refine⟨lim.keeps x.toInCall.keep,codeAny_func ?_⟩;obtain⟨t,ht,hq⟩:=jf A outer s H vs Q E (hr.deeper _) Lu;have I:Inv (pN CX P w K mg base N qual scope f dt A outer s H E) [] (start N vs) H s1:=G9 S hr.hd e0 hl r x;refine QcB (ht [] s1 (start N vs) H _ I hq) (fun fl s' hs=>?_) fun e s' hs=>hs
 have fin:∀{c7:St} {H':Hp} {v:V} {u:Value},Inv (pN CX P w K mg base N qual scope f dt A outer s H E) [] c7 H' s'->RelV v u->Q v H'->CE outer P w H s Q u s':=
  fun {c7 H' v u} J rv q=>⟨v,H',J.os,J.bare,J.base,J.hok,rv,q⟩
 cases fl with
 | ret u=>
   obtain⟨v,c7,H',J,rv,q⟩:=hs;exact fin J rv q
 | next=>
   obtain⟨c7,H',J,q⟩:=hs;exact fin (v:=V.cR) (u:=Value.none) J rfl q
 | brk=>
   obtain⟨_,_,_,q⟩:=hs;exact False.elim q
 | cont=>
   obtain⟨_,_,_,q⟩:=hs;exact False.elim q
section
variable {X:Cx} {x:Str} {p pos:Pos} {e:Expr} {es:List Expr} {t:TA} {id T:String} {r:List V->Hp->VK->Prop}
def X4(r:List V->Hp->VK->Prop)(t:TA):TE:=fun σ H Q=>t σ H fun vs H1=>r vs H1 Q
def Br(hc:l3 X (.builtin id) r)(hg:Gl X x)(hm:X.mg x=none)(hv:bootBuiltins x=some (.builtin id))(ha:PA X (e ::es) t)(hn:x≠"__name__":=by decide)(oi:(x==("__debug__":Str))=false:=by decide)
 (he:starEach (e ::es) X.env=(false,eval e X.env) ::starEach es X.env:=by rfl) (jY:(backTo pos (starEach es X.env)).any (·.1)=false:=by rfl):PE X (.Call (.Name x p) (e ::es) [] pos) (X4 r t):=by
 intro pins s σ H Q I h;refine QbX (n3 I hg hm hv ?_ hn oi);exact PyProof.Rows.callWith_builtin1 (eO (ha pos pins s σ H _ I h) fun us s1 ⟨vs,H1,I1,r1,q1⟩=>hc pins s1 σ H1 vs us Q I1 r1 q1) he jY
def G8(hc:l3 X (.type T) r)(hg:Gl X x)(hm:X.mg x=none)(hv:bootBuiltins x=some (.type T))(ha:PA X (e ::es) t)(hn:x≠"__name__":=by decide)(oi:(x==("__debug__":Str))=false:=by decide)
 (he:starEach (e ::es) X.env=(false,eval e X.env) ::starEach es X.env:=by rfl) (jY:(backTo pos (starEach es X.env)).any (·.1)=false:=by rfl):PE X (.Call (.Name x p) (e ::es) [] pos) (X4 r t):=by
 intro pins s σ H Q I h;refine QbX (n3 I hg hm hv ?_ hn oi);exact Qbc (eO (ha pos pins s σ H _ I h) fun us s1 ⟨vs,H1,I1,r1,q1⟩=>hc pins s1 σ H1 vs us Q I1 r1 q1) he jY
end
section
variable {κ:Type} [DecidableEq κ]
def lX(kvs:List (κ × V))(k:κ):Option V:=(kvs.find? fun kv=>decide (kv.1=k)).map (·.2)
def putK(kvs:List (κ × V))(k:κ)(v:V):List (κ × V):=
 if(kvs.any fun kv=>decide (kv.1=k))=true then kvs.map (fun kv=>if kv.1=k then(kv.1,v) else kv) else kvs++[(k,v)]
def ID(kvs:List (κ × V))(k:κ):List (κ × V):=kvs.filter fun kv=>decide (kv.1≠k)
def B0{p:κ × V}{r:List (κ × V)}{k:κ}(e:p.1=k):lX (p ::r) k=some p.2:=by simp [lX,Qbz,e]
def BL{p:κ × V}{r:List (κ × V)}{k:κ}(e:¬p.1=k):lX (p ::r) k=lX r k:=by simp [lX,Qbz,e]
def BS(kvs:List (κ × V))(k:κ)(v:V):(putK kvs k v).length<=kvs.length+1:=by
 unfold putK;split
 .rw [Qaa];omega
 .rw [Qau,QaM,List.length_nil];omega
def so.getD{o:Option V}{u:Option Value}{d:V}{d':Value}(r:so o u)(rd:RelV d d'):RelV (o.getD d) (u.getD d'):=by
 cases o with
 | none=>cases u with
   | none=>exact rd
   | some _=>exact(show False from r).elim
 | some _=>cases u with
   | none=>exact(show False from r).elim
   | some _=>exact r
def KV.val{kvs:List (κ × V)}{vs:List (κ × Value)}(r:KV kvs vs)(k:κ):so (lX kvs k) (valueAt vs k):=by
 unfold KV at r
 induction r with
 | nil=>exact True.intro
 | @cons p q ps qs h t ih=>
   obtain⟨h1,h2⟩:=h;by_cases e:p.1=k
   .have e':q.1=k:=h1.symm.trans e;have b:valueAt (q ::qs) k=some q.2:=by simp [valueAt,Qbz,e']
    rw[B0 e,b];exact h2
   .have e':¬q.1=k:=fun z=>e (h1.trans z)
    have b:valueAt (q ::qs) k=valueAt qs k:=by simp [valueAt,Qbz,e']
    rw[BL e,b];exact ih
def KV.any{kvs:List (κ × V)}{vs:List (κ × Value)}(r:KV kvs vs)(k:κ):(kvs.any fun kv=>decide (kv.1=k))=vs.any fun kv=>decide (kv.1=k):=by
 unfold KV at r
 induction r with
 | nil=>rfl
 | cons h t ih=>rw [QbC,QbC,ih,h.1]
def KV.V9{kvs:List (κ × V)}{vs:List (κ × Value)}(r:KV kvs vs)(k:κ){y:V}{u:Value}(ry:RelV y u) :
 KV (kvs.map fun kv=>if kv.1=k then(kv.1,y) else kv) (vs.map fun kv=>if kv.1=k then(kv.1,u) else kv):=by
 unfold KV at r ⊢
 induction r with
 | nil=>exact .nil
 | @cons p q ps qs h t ih=>
   rw[Qay,Qay];refine .cons ?_ ih;obtain⟨h1,h2⟩:=h;by_cases e:p.1=k
   .rw [QaD e,QaD (h1.symm.trans e)];exact⟨h1,ry⟩
   .rw [QaB e,QaB (fun z=>e (h1.trans z))];exact⟨h1,h2⟩
def KV.put{kvs:List (κ × V)}{vs:List (κ × Value)}(r:KV kvs vs)(k:κ){y:V}{u:Value}(ry:RelV y u):KV (putK kvs k y) (stored vs k u):=by
 unfold putK stored;rw[r.any k];by_cases e:(vs.any fun kv=>decide (kv.1=k))=true
 .rw [QaD e,QaD e];exact r.V9 k ry
 .rw [QaB e,QaB e];exact Paired.snoc r ⟨rfl,ry⟩
end
def Ia{k:Key}{u:Value}(r:RelV (kV k) u):(dZ P w).is k u=true:=by
 cases k with
 | inl i=>obtain⟨t,e⟩:=(show ∃t,u=Value.int i t from r);subst e;exact CN P w i t
 | inr x=>obtain⟨t,e⟩:=(show ∃t,u=Value.str x t from r);subst e;exact BJ P w x t
theorem zg:∀{ks:List Key} {us:List Value},Vals (ks.map kV) us->ItemsAre (dZ P w) ks us
 | [],_,r=>by rw[Qci] at r;cases r;exact .nil
 | k ::ks,_,r=>by
   rw[Qay] at r;cases r with
   | cons h t=>exact .cons (Ia h) (zg t)
abbrev KT(H:Hp):List (List Key × V)->List (List Key × Addr × Value)->Prop:=Paired fun p q=>p.1=q.1/\H q.2.1=some (.tup (p.1.map kV))/\RelV p.2 q.2.2
def KT.val{kvs:List (List Key × V)}{xs:List (List Key × Addr × Value)}(r:KT H kvs xs)(k:List Key):so (lX kvs k) ((atKey xs k).map (·.2)):=by
 induction r with
 | nil=>exact True.intro
 | @cons p q ps qs h t ih=>
   obtain⟨h1,_,h2⟩:=h;by_cases e:p.1=k
   .have e':q.1=k:=h1.symm.trans e;have b:atKey (q ::qs) k=some q.2:=by simp [atKey,Qbz,e']
    rw[B0 e,b];exact h2
   .have e':¬q.1=k:=fun z=>e (h1.trans z)
    have b:atKey (q ::qs) k=atKey qs k:=by simp [atKey,Qbz,e']
    rw[BL e,b];exact ih
section
variable {P:Program} {w:World} {H:Hp} {h:Heap} {a:Addr}
def N4{u:HO}(ok:oF P w H h)(e:Rd H a u):gg P w H h a u:=e.ok ok
def Jb{kvs:List (Key × V)}(ok:oF P w H h)(e:Rd H a (.dK kvs)):kvs.length<=sizeLine/\(a==sysModules)=false/\∃vs,KV kvs vs/\h.DictOf (dZ P w) a vs:=
 show gg P w H h a (.dK kvs) from N4 ok e
def TH{kvs:List (Key × V)}(ok:oF P w H h)(e:H a=some (.dK kvs)):kvs.length<=sizeLine/\(a==sysModules)=false/\∃vs,KV kvs vs/\h.DictOf (dZ P w) a vs:=Jb ok (.inl e)
def KL{ks:List Key}(ok:oF P w H h)(e:H a=some (.tup (ks.map kV))):(tupleKind (dZ P w)).is h ks a:=by
 obtain⟨_,its,r,o,h1,h2,n,h3⟩:=(show gg P w H h a (.tup (ks.map kV)) from ok a _ e)
 exact⟨o,its.toArray,n,h1,h2,h3,by simpa using zg r⟩
def N1{kvs:List (List Key × V)}(ok:oF P w H h)(e:Rd H a (.dT kvs)):kvs.length<=sizeLine/\(a==sysModules)=false/\
 ∃xs,KT H kvs xs/\h.DictOfH (tupleKind (dZ P w)) a xs:=by
 obtain⟨z,y,xs,r,o,es,ep,h1,h2,h3,h4,h5⟩:=(show gg P w H h a (.dT kvs) from N4 ok e)
 refine⟨z,y,xs,r,o,es,ep,h1,h2,h3,h4,fun x hx=>?_,h5⟩
 have all:∀{l:List (List Key × V)} {m:List (List Key × Addr × Value)},KT H l m->∀x∈m,(tupleKind (dZ P w)).is h x.1 x.2.1:=by
  intro l m q
  induction q with
  | nil=>intro x hx;exact nomatch hx
  | @cons p q ps qs hq t ih=>
    intro x hx;rcases Qar.mp hx with e | hx
    .subst e;exact KL ok (by rw[<-hq.1];exact hq.2.1)
    .exact ih x hx
 exact all r x hx
end
def xY(H:Hp)(a:Addr)(y:V)(r:Option V):Prop:=
 (∃kvs k,Rd H a (.dK kvs)/\y=kV k/\r=lX kvs k)\/∃kvs k b,Rd H a (.dT kvs)/\y= .ref b/\H b=some (.tup (k.map kV))/\r=lX kvs k
def SI(H:Hp)(a:Addr)(y v:V)(H':Hp):Prop:=
 (∃kvs k,H a=some (.dK kvs)/\y=kV k/\kvs.length<sizeLine/\H'=upd H a (.dK (putK kvs k v)))\/
 ∃kvs k b,H a=some (.dT kvs)/\y= .ref b/\H b=some (.tup (k.map kV))/\kvs.length<sizeLine/\H'=upd H a (.dT (putK kvs k v))
def xY.k{H:Hp}{a:Addr}{kvs:List (Key × V)}{k:Key}(e:H a=some (.dK kvs)):xY H a (kV k) (lX kvs k):= .inl ⟨kvs,k, .inl e,rfl,rfl⟩
section
variable {X:Cx} {pins:Aaa} {σ:St} {H:Hp} {s:Qdd} {a:Addr} {y v:V} {u r:Value} {o:Option V} {A:Around} {E:Aab}
def Inv.big(I:Inv X pins σ H s):sysModules<s.heap.objs.size:=by
 have h:mainGlobals<s.heap.objs.size:=(I.mod.glob.keeps I.bk).lt;exact Nat.lt_trans (by decide) h
def LS{h':Heap}{t':Nat}{ob:HO}(I:Inv X pins σ H s)(mu:Tc (H a))(hs:Heap.SameBut a s.heap h')(he:∃q,h'.get? a=some q)(new:gg X.prog X.w (upd H a ob) h' a ob) :
 Inv X pins σ (upd H a ob) {s with heap:=h',toks:=t'}:=
 I.write (x:=a) (e:=a) mu (.inl rfl) (fun b q hb z=>(hs.2 b hb).trans z) he new
def Pd{H':Hp}{h':Heap}{kvs:List (Key × V)}{vs:List (Key × Value)}(z:kvs.length<=sizeLine)(hd:(a==sysModules)=false)(rel:KV kvs vs)(dd:h'.DictOf (dZ P w) a vs) :
 gg P w H' h' a (.dK kvs):=⟨z,hd,vs,rel,dd⟩
end
section
variable {X:Cx} {pins:Aaa} {σ:St} {H:Hp} {s:Qdd} {a:Addr} {kvs:List (Key × V)} {k:Key} {u:Value} {A:Around} {E:Aab}
end
def Z5(i:Expr):Prop:=∀ov iv,subscripted i false ov iv=operate [ov,iv] (getItem ov iv)
def Yk(td ty:TE):TE:=fun σ H Q=>td σ H fun x H1=>ty σ H1 fun y H2=>∃a v,x= .ref a/\xY H2 a y (some v)/\Q v H2
def Y2(ty td:TE):TE:=fun σ H Q=>ty σ H fun y H1=>td σ H1 fun x H2=>∃a o,x= .ref a/\xY H2 a y o/\Q (.bl o.isSome) H2
def U2(ty td:TE):TE:=fun σ H Q=>ty σ H fun y H1=>td σ H1 fun x H2=>∃a o,x= .ref a/\xY H2 a y o/\Q (.bl (!o.isSome)) H2
def Yp(td ty tv:TE):TS:=fun D σ H=>tv σ H fun v H1=>td σ H1 fun x H2=>ty σ H2 fun y H3=>∃a H4,x= .ref a/\SI H3 a y v H4/\D.nx σ H4
def XJ(td ty tv:TE)(rd:V->V->Hp->VK->Prop):TS:=fun D σ H=>td σ H fun x H1=>ty σ H1 fun y H2=>∃a v,x= .ref a/\xY H2 a y (some v)/\
 tv σ H2 fun y2 H3=>rd v y2 H3 fun z H4=>∃H5,SI H4 a y z H5/\D.nx σ H5
def Yg(td ty:TE):TS:=fun D σ H=>td σ H fun x H1=>ty σ H1 fun y H2=>∃a kvs k,x= .ref a/\H2 a=some (.dK kvs)/\y=kV k/\(lX kvs k).isSome=true/\D.nx σ (upd H2 a (.dK (ID kvs k)))
section
variable {X:Cx} {o i e value:Expr} {pos pos' uB:Pos} {td ty tv:TE}
end
def Jv(h:Heap)(hb:sysModules<h.objs.size):gg P w H (h.push {cls:= .type "dict",data:= .dict #[]}) h.objs.size (.dK []):=
 ⟨QbG _,Qbt.mpr (Qbh (QaO hb)),[], .nil,Heap.DictOf.new h⟩
def V6:TE:=fun _ H Q=>∀p,H p=none->Q (.ref p) (upd H p (.dK []))
def Wt:TE:=fun _ H Q=>∀p,H p=none->Q (.ref p) (upd H p (.dT []))
section
variable {X:Cx} {pos:Pos}
end
def AG:List (TE × TE)->St->Hp->(List (V × V)->Hp->Prop)->Prop
 | [],_,H,Q=>Q [] H
 | (tk,tv) ::r,σ,H,Q=>tk σ H fun x H1=>tv σ H1 fun y H2=>AG r σ H2 fun ps H3=>Q ((x,y) ::ps) H3
abbrev VV:List (V × V)->List (Value × Value)->Prop:=Paired fun p q=>RelV p.1 q.1/\RelV p.2 q.2
def Td(X:Cx)(pos:Pos)(keys:List (Option Expr))(values:List Expr)(Gi:List (TE × TE)):Prop:=
 ∀(pins:Aaa) (s:Qdd) (σ:St) (H:Hp) (Q:List (V × V)->Hp->Prop),Inv X pins σ H s->AG Gi σ H Q->
  wpAny (model X.prog X.w) X.A (evalPairs (pairTrees keys values X.env pos)) (fun vs s'=>∃ps H',Inv X pins σ H' s'/\VV ps vs/\Q ps H') X.xe s
def MB{X:Cx}:Td X pos [] [] []:=fun pins s σ H Q I h=>pairTrees_nil_walk ⟨[],H,I, .nil,h⟩
def Kw{X:Cx}{ks:List (Option Expr)}{tk tv:TE}{Gi:List (TE × TE)}(hk:PE X k tk)(hv:PE X v tv)(hr:Td X pos ks vs Gi) :
 Td X pos (some k ::ks) (v ::vs) ((tk,tv) ::Gi):=fun pins s σ H Q I h=>
 pairTrees_cons_walk (eO (hk pins s σ H _ I h) fun u s1 ⟨x,H1,I1,rx,q1⟩=>eO (hv pins s1 σ H1 _ I1 q1) fun w2 s2 ⟨y,H2,I2,ry,q2⟩=>
  eO (hr pins s2 σ H2 _ I2 q2) fun ws s3 ⟨ps,H3,I3,rel,q3⟩=>⟨(x,y) ::ps,H3,I3, .cons ⟨rx,ry⟩ rel,q3⟩)
def mF(kvs more:List (Key × V)):List (Key × V):=more.foldl (fun acc kv=>putK acc kv.1 kv.2) kvs
def KV.merge:∀{more:List (Key × V)} {rs:List (Key × Value)} {kvs:List (Key × V)} {vs:List (Key × Value)},KV more rs->KV kvs vs->KV (mF kvs more) (merged vs rs):=by
 intro more rs kvs vs r;unfold KV at r
 induction r generalizing kvs vs with
 | nil=>intro q;exact q
 | @cons p q ps qs h t ih=>
   intro r0;have e:KV (putK kvs p.1 p.2) (stored vs q.1 q.2):=by
    have:=r0.put p.1 h.2;rw[<-h.1];exact this
   exact ih e
theorem qP:∀(more kvs:List (Key × V)),(mF kvs more).length<=kvs.length+more.length
 | [],kvs=>by show kvs.length<=kvs.length+0;omega
 | p ::r,kvs=>by
   have h1:=qP r (putK kvs p.1 p.2);have h2:=BS kvs p.1 p.2;show(mF (putK kvs p.1 p.2) r).length<=_;rw[QaM];omega
theorem vV:∀{kvs:List (Key × V)} {ws:List (Value × Value)},VV (kvs.map fun kv=>(kV kv.1,kv.2)) ws->∃rs,Carries (dZ P w) ws rs/\KV kvs rs
 | [],_,r=>by rw[Qci] at r;cases r;exact⟨[],True.intro, .nil⟩
 | p ::kvs,_,r=>by
   rw[Qay] at r;cases r with
   | @cons a b as bs h t=>
     obtain⟨rs,c,q⟩:=vV (P:=P) (w:=w) t;obtain⟨b1,b2⟩:=b;exact⟨(p.1,b2) ::rs,⟨Ia h.1,rfl,c⟩, .cons ⟨rfl,h.2⟩ q⟩
def Tn(Gi:List (TE × TE)):TE:=fun σ H Q=>∀p,H p=none->AG Gi σ (upd H p (.dK [])) fun ps H2=>H2 p=some (.dK [])/\∃kvs:List (Key × V),ps=kvs.map (fun kv=>(kV kv.1,kv.2))/\kvs.length<=15/\Q (.ref p) (upd H2 p (.dK (mF [] kvs)))
def MH{X:Cx}{pos:Pos}{keys:List (Option Expr)}{values:List Expr}{Gi:List (TE × TE)}(h:Td X pos keys values Gi)(K1:keys.all (·.isSome)=true)(hl:keys.length=values.length)(h0:keys≠[])
 (WI:keys.length<=15):PE X (.Dict keys values pos) (Tn Gi):=by
 intro pins s σ H Q I q;have hn:=I.hok.fresh (Qag s.heap.objs.size);have I1:=I.laid (a:=s.heap.objs.size) (o:= .dK []) (h':=s.heap.push {cls:= .type "dict",data:= .dict #[]}) (t':=s.toks) (fun _ _ q=>Qah _ q) (Qag _) (Jv s.heap I.big)
 refine wpAny_Dict_walk (knd:=dZ X.prog X.w) K1 hl h0 WI (eO (h pins _ σ _ _ I1 (q _ hn)) fun ws s2 ⟨ps,H2,I2,rel,e,kvs,ep,lk,q2⟩=>?_)
 subst ep;obtain⟨rs,c,rk⟩:=vV (P:=X.prog) (w:=X.w) rel;obtain⟨z,hd,vs0,r0,dd⟩:=TH I2.hok e;cases r0;refine⟨rs,c,dd,fun h' Ys hs=>⟨.ref s.heap.objs.size,_,?_,rfl,q2⟩⟩
 have hz:(mF [] kvs).length<=sizeLine:=by
  have h1:=qP kvs [];rw[List.length_nil] at h1;rw[Qap];omega
 have he:∃q,h'.get? s.heap.objs.size=some q:=let⟨q,_,_,hq,_⟩:=Ys;⟨q,hq⟩
 exact LS I2 (by rw[e];exact True.intro) hs he (Pd hz hd (rk.merge .nil) Ys)
structure M1 (X:Cx) (o:Expr) (m:Str) (apos:Pos) (e:Expr) (cz:Pos):Prop where
 base:attributeBase o m X.env (eval o X.env)=eval o X.env
 few:((backTo cz (starEach [e] X.env)).all (fun x=>!x.1) && (backToKw cz (keywordEach [] X.env)).all (fun x=>x.1.isSome)
  && decide (([e]:List Expr).length+([]:List Keyword).length+(if([]:List Keyword).isEmpty then 0 else 1)<30))=true
 line:(apos.endLine==cz.line)=true
 trees:backTo cz (starEach [e] X.env)=[(false,eval e X.env)]
structure M2 (X:Cx) (o:Expr) (m:Str) (apos:Pos) (e f:Expr) (cz:Pos):Prop where
 base:attributeBase o m X.env (eval o X.env)=eval o X.env
 few:((backTo cz (starEach [e,f] X.env)).all (fun x=>!x.1) && (backToKw cz (keywordEach [] X.env)).all (fun x=>x.1.isSome)
  && decide (([e,f]:List Expr).length+([]:List Keyword).length+(if([]:List Keyword).isEmpty then 0 else 1)<30))=true
 line:(apos.endLine==cz.line)=true
 trees:backTo cz (starEach [e,f] X.env)=[(false,eval e X.env),(false,eval f X.env)]
def SH(H:Hp)(a:Addr):Prop:=(∃kvs,Rd H a (.dK kvs))\/∃kvs,Rd H a (.dT kvs)
def Rb{X:Cx}{pins:Aaa}{s:Qdd}{a:Addr}(I:Inv X pins σ H s)(d:SH H a) :
 s.TypeIs (.ref a) "dict"/\(∀b,Value.ref a= .ref b->∃ob,s.heap.get? b=some ob/\ob.dict=none)/\(a==sysModules)=false:=by
 rcases d with⟨kvs,e⟩ | ⟨kvs,e⟩
 .obtain⟨_,hd,vs,_,dd⟩:=Jb I.hok e;refine⟨dd.typeIs,fun b q=>?_,hd⟩
  cases q;obtain⟨ob,_,_,h1,h2,_⟩:=dd;exact⟨ob,h1,h2.2.1⟩
 .obtain⟨_,hd,xs,_,dd⟩:=N1 I.hok e;refine⟨dd.typeIs,fun b q=>?_,hd⟩
  cases q;obtain⟨ob,_,_,h1,h2,_⟩:=dd;exact⟨ob,h1,h2.2.1⟩
section
variable {X:Cx} {pins:Aaa} {σ:St} {H:Hp} {s:Qdd} {a:Addr} {y d:V} {u r:Value} {o:Option V} {A:Around} {E:Aab}
def Pj{Q:Aab}(hu:A.units+1<cLine)(I:Inv X pins σ H s)(g:xY H a y o)(ry:RelV y u)(rd:RelV d r)(h:∀w' s',Inv X pins σ H s'->RelV (o.getD d) w'->Q w' s') :
 wpAny (model X.prog X.w) A (call (.builtin "dict.get") [.ref a,u,r]) Q E s:=by
 rcases g with⟨kvs,k,e,ey,l⟩ | ⟨kvs,k,b,e,ey,eb,l⟩
 .subst ey;obtain⟨z,hd,vs,rel,dd⟩:=Jb I.hok e;refine call_meetsIn Qcw dd.typeIs PySem.F.entry_dict_get (PySem.F.args_dict_get_3 _ _ _) (meets_dict_get_default (dZ X.prog X.w) a (Ia ry) hd r) ⟨_,dd.mapOf,h _ _ (I.tok _) ?_⟩;rw[l];exact(rel.val k).getD rd
 .subst ey;cases(show u=Value.ref b from ry)
  obtain⟨z,hd,xs,rel,dd⟩:=N1 I.hok e;refine call_meetsIn Qcw dd.typeIs PySem.F.entry_dict_get (PySem.F.args_dict_get_3 _ _ _) (meetsH_dict_get_default (tupleKind (dZ X.prog X.w)) a b hd r) ⟨tupleKind_room_in1 hu,k,xs,KL I.hok eb,dd,h _ _ (I.tok _) ?_⟩;rw[l];exact(rel.val k).getD rd
end
def VI(td ty:TE):TE:=fun σ H Q=>td σ H fun x H1=>∃a,x= .ref a/\SH H1 a/\ty σ H1 fun y H2=>∃o,xY H2 a y o/\Q (o.getD .cR) H2
def OY(td ty tx:TE):TE:=fun σ H Q=>td σ H fun x H1=>∃a,x= .ref a/\SH H1 a/\ty σ H1 fun y H2=>tx σ H2 fun z H3=>∃o,xY H3 a y o/\Q (o.getD z) H3
def VN(td ty:TE):TE:=fun σ H Q=>td σ H fun x H1=>∃a,x= .ref a/\SH H1 a/\ty σ H1 fun y H2=>∃kvs k v,H2 a=some (.dK kvs)/\y=kV k/\lX kvs k=some v/\Q v (upd H2 a (.dK (ID kvs k)))
def VS(td ty tx:TE):TE:=fun σ H Q=>td σ H fun x H1=>∃a,x= .ref a/\SH H1 a/\ty σ H1 fun y H2=>tx σ H2 fun z H3=>∃kvs k,H3 a=some (.dK kvs)/\y=kV k/\
 (∀v,lX kvs k=some v->Q v (upd H3 a (.dK (ID kvs k))))/\(lX kvs k=none->Q z H3)
section
variable {X:Cx} {o e f:Expr} {apos cz:Pos} {td ty tx:TE}
def JF(hu:X.A.units+1<cLine)(ho:PE X o td)(he:PE X e ty)(hf:PE X f tx)(m:M2 X o "get" apos e f cz):PE X (.Call (.Attribute o "get" apos) [e,f] [] cz) (OY td ty tx):=by
 intro pins s σ H Q I h;refine wpAny_Call_method m.base m.few m.line PySem.F.plainAttrs_dict Qcw PySem.F.type_dict_get (eO (ho pins s σ H _ I h) fun u s1 ⟨x,H1,I1,rx,a,ex,d,q1⟩=>?_)
 subst ex;obtain rfl:u=Value.ref a:=rx;obtain⟨t1,t2,_⟩:=Rb I1 d;refine⟨t1,t2,?_⟩;rw[m.trees];refine Calls.callWith_builtin rfl (QcE (QcU (eO (he pins s1 σ H1 _ I1 q1) fun iv s2 ⟨y,H2,I2,ry,q2⟩=>
  QcU (eO (hf pins s2 σ H2 _ I2 q2) fun fv s3 ⟨z,H3,I3,rz,ov,g,q3⟩=>Calls.spliced_nil ?_))))
 exact Pj hu I3 g ry rz fun w' s4 I4 EL=>⟨_,H3,I4,EL,q3⟩
end
section
variable {X:Cx} {pins:Aaa} {σ:St} {H:Hp} {s:Qdd} {a:Addr} {kvs:List (Key × V)} {A:Around} {E:Aab}
end
section
variable {X:Cx} {pins:Aaa} {σ:St} {H:Hp} {s:Qdd} {a:Addr} {y:V} {u:Value} {A:Around} {E:Aab}
end
end L2
namespace HT
open PySem PyProof.Rows
def lexLt:List Int->List Int->Bool
 | [],[]=>false
 | [],_ ::_=>true
 | _ ::_,[]=>false
 | x ::xs,y ::ys=>if x=y then lexLt xs ys else decide (x<y)
section
open PySem.SeqAt
open PySem.AutoSeq1 (wpAny_loadPart')
open PySem.MeetsSeq PySem.MeetsSeq2 PySem.MeetsSeq3
end
section
variable {prog:Program} {w:World} {A:Around} {E:Aab} {s:Qdd}
def NI{t b:Addr}{vs ws:List Value}{Q:Aab}(ht:IsTup s.heap t vs.toArray)(hb:IsTup s.heap b ws.toArray)(hv:vs≠[])
 (h1:ws=[]->Q (.ref t) s) (h2:ws≠[]->Q (.ref s.heap.objs.size) {s with heap:=s.heap.push {cls:= .type "tuple",data:= .seq (vs++ws).toArray}})
 (HL:vs.length+ws.length<=sizeLine):wpAny (model prog w) A (binaryOp .Add (.ref t) (.ref b)) Q E s:=by
 obtain⟨⟨cls,dd,data,sl⟩,ho,hc,n,hd⟩:=id ht;obtain⟨⟨W7,Vb,data2,OP⟩,NW,Si,n2,hd2⟩:=id hb;simp only at hc hd Si hd2;subst hc hd Si hd2;have e:vs.toArray++ws.toArray=(vs++ws).toArray:=by simp
 by_cases hw:ws=[]
 .exact concat_meets ⟨_,ho,rfl⟩ ⟨_,NW,rfl⟩ noFill_tuple_add seq_tuple_add Qcr Qcm (Qcj _ _)
   (tuple_addW1 t b vs.toArray ws.toArray n n2 dd Vb sl OP (by simpa using hv) (by simp [hw])) ⟨ho,NW,h1 hw⟩
 .refine concat_meets ⟨_,ho,rfl⟩ ⟨_,NW,rfl⟩ noFill_tuple_add seq_tuple_add Qcr Qcm (Qcj _ _)
   (tuple_addW2 t b vs.toArray ws.toArray n n2 dd Vb sl OP (by simpa using hv) (by simpa using hw) (by rw[QaG,QaG];exact HL)) ⟨ho,NW,?_⟩
  rw[e];exact h2 hw
def vE(n d:Nat):Option Int->Nat
 | none=>d
 | some v=>if v<0 then(v+(n:Int)).toNat else min v.toNat n
def Iq(n d:Nat):vE n d none=d:=rfl
def LH(n d k:Nat):vE n d (some (k:Int))=min k n:=by
 show(if(k:Int)<0 then((k:Int)+(n:Int)).toNat else min (k:Int).toNat n)=min k n
 rw[QaB (by omega),Qa4]
end
end HT
namespace L2
open PySem PySem.Spec PyProof.Rows
abbrev TO:=St->Hp->(Option Int->Hp->Prop)->Prop
def PO(X:Cx)(e:Option Expr)(t:TO):Prop:=
 ∀(pins:Aaa) (s:Qdd) (σ:St) (H:Hp) (Q:Option Int->Hp->Prop),Inv X pins σ H s->t σ H Q->
  wpAny (model X.prog X.w) X.A (evalPart e X.env) (fun u s'=>∃o H',Inv X pins σ H' s'/\IsPart u o/\Q o H') X.xe s
def Ms:TO:=fun _ H Q=>Q none H
def Ue(t:TE):TO:=fun σ H Q=>t σ H fun x H1=>∃i,x= .int i/\Q (some i) H1
section
variable {X:Cx} {e:Expr} {te:TE} {lo hi:Option Expr} {tl th:TO} {pos p2:Pos}
def NK:PO X none Ms:=by
 intro pins s σ H Q I h;rw[evalPart_none];exact QaK ⟨none,H,I, .none,h⟩
def LX(h:PE X e te):PO X (some e) (Ue te):=by
 intro pins s σ H Q I hw;rw[evalPart_some];refine eO (h pins s σ H _ I hw) fun u s1 ⟨x,H1,I1,r1,q1⟩=>?_
 obtain⟨i,rfl,q⟩:=q1;obtain⟨t,rfl⟩:=r1;exact⟨some i,H1,I1, .int i t,q⟩
def Q7(X:Cx)(r:V->Option Int->Option Int->Hp->VK->Prop):Prop:=
 ∀(pins:Aaa) (s:Qdd) (σ:St) (H:Hp) (x:V) (v vl vu:Value) (lo hi:Option Int) (sl:Addr) (Q:VK),Inv X pins σ H s->RelV x v->s.heap.IsSliceOf sl vl vu .none->IsPart vl lo->IsPart vu hi->r x lo hi H Q->
  ∃T id,typeLookup (.type T) "__getitem__"=pure (some (.builtin id))/\s.TypeIs v T/\wpAny (model X.prog X.w) X.A (getItem v (.ref sl)) (EP X pins σ Q) X.xe s
def Q7.or{r r':V->Option Int->Option Int->Hp->VK->Prop}(h:Q7 X r)(h':Q7 X r'):Q7 X (fun x lo hi H Q=>r x lo hi H Q\/r' x lo hi H Q):=by
 intro pins s σ H x v vl vu lo hi sl Q I rx hs pl pu q;rcases q with q | q
 .exact h pins s σ H x v vl vu lo hi sl Q I rx hs pl pu q
 .exact h' pins s σ H x v vl vu lo hi sl Q I rx hs pl pu q
def Zh(r:V->Option Int->Option Int->Hp->VK->Prop)(te:TE)(tl th:TO):TE:=fun σ H Q=>te σ H fun x H1=>tl σ H1 fun l H2=>th σ H2 fun u H3=>r x l u H3 Q
def Ig{r:V->Option Int->Option Int->Hp->VK->Prop}(hr:Q7 X r)(he:PE X e te)(hl:PO X lo tl)(hu:PO X hi th):PE X (.Subscript e (.Slice lo hi none p2) pos) (Zh r te tl th):=by
 intro pins s σ H Q I h;refine Subscript_ (eO (he pins s σ H _ I h) fun v s1 ⟨x,H1,I1,r1,q1⟩=>?_)
 refine wpAny_Slice (eO (hl pins s1 σ H1 _ I1 q1) fun vl s2 ⟨l,H2,I2,pl,q2⟩=>eO (hu pins s2 σ H2 _ I2 q2) fun vu s3 ⟨u,H3,I3,pu,q3⟩=>?_)
 rw[evalPart_none];refine QaK ?_;have I4:Inv X pins σ H3 {s3 with heap:=s3.heap.push {cls:= .type "slice",data:= .fields #[vl,vu, .none]}}:=I3.kept (t':=s3.toks) fun b ob q=>Qah _ q
 obtain⟨T,id,hT,ht,hg⟩:=hr pins {s3 with heap:=s3.heap.push {cls:= .type "slice",data:= .fields #[vl,vu, .none]}} σ H3 x v vl vu l u s3.heap.objs.size Q I4 r1 (Heap.IsSliceOf.new ..) pl pu q3
 show wpAny (model X.prog X.w) X.A (subscriptTail e (.Slice lo hi none p2) v (.ref s3.heap.objs.size)) (EP X pins σ Q) X.xe {s3 with heap:=s3.heap.push {cls:= .type "slice",data:= .fields #[vl,vu, .none]}}
 exact tail_any (ops:=[.ref s3.heap.objs.size,v]) ht hT hg (by with_unfolding_all rfl)
def Dn(xs:List V)(lo hi:Option Int):List V:=(xs.drop (HT.vE xs.length 0 lo)).take (HT.vE xs.length xs.length hi - HT.vE xs.length 0 lo)
def Bw(xs:List V)(lo hi:Option Int):(Dn xs lo hi).length<=xs.length:=by
 unfold Dn;rw[QaX,QbP];omega
def Z8(K:Qdc):V->Option Int->Option Int->Hp->VK->Prop:=fun x lo hi H Q=>∃a xs,x= .ref a/\vm K H a xs/\
 ¬(HT.vE xs.length 0 lo=0/\HT.vE xs.length xs.length hi=xs.length)/\∀p,H p=none->Q (.ref p) (upd H p (.tup (Dn xs lo hi)))
def Y8(K:Qdc):R2:=fun x y H Q=>∃a b ns ms,x= .ref a/\y= .ref b/\vm K H a (ns.map V.int)/\vm K H b (ms.map V.int)/\Q (.bl (HT.lexLt ns ms)) H
def Yc(K:Qdc):R2:=fun x y H Q=>∃a b xs ys,x= .ref a/\y= .ref b/\vm K H a xs/\vm K H b ys/\xs≠[]/\xs.length+ys.length<=sizeLine/\
 (ys=[]->Q (.ref a) H)/\(ys≠[]->∀p,H p=none->Q (.ref p) (upd H p (.tup (xs++ys))))
end
def HD(n:Nat)(i:Int):Option Nat:=if 0<=i then(if i<n then some i.toNat else none) else if -(n:Int)<=i then some (i+n).toNat else none
def vW{α:Type}(xs:List α)(i:Int):Option α:=(HD xs.length i).bind fun j=>xs[j]?
def Nk{n:Nat}{i:Int}{j:Nat}(h:HD n i=some j):seqIndex? i n=some j/\j<n/\ -(n:Int)<=i/\i<n:=by
 unfold HD at h;by_cases h0:0<=i
 .rw [QaD h0] at h;by_cases h1:i<n
  .rw [QaD h1] at h;have e:i.toNat=j:=QaW h;exact⟨by rw[seqIndex_of h0 h1,e],by omega,by omega,h1⟩
  .rw [QaB h1] at h;cases h
 .rw [QaB h0] at h;by_cases h1: -(n:Int)<=i
  .rw [QaD h1] at h;have e:(i+n).toNat=j:=QaW h;exact⟨by rw[seqIndex_neg (by omega) h1,e],by omega,h1,by omega⟩
  .rw [QaB h1] at h;cases h
def AS{α:Type}{xs:List α}{i:Int}{v:α}(h:vW xs i=some v):∃j,seqIndex? i xs.length=some j/\xs[j]? =some v/\j<xs.length/\ -(xs.length:Int)<=i/\i<xs.length:=by
 unfold vW at h;cases e:HD xs.length i with
 | none=>rw [e] at h;cases h
 | some j=>
   rw[e] at h;obtain⟨h1,h2,h3,h4⟩:=Nk e;exact⟨j,h1,h,h2,h3,h4⟩
def vC(b:Expr):Prop:=∀o i,subscripted b false o i=operate [o,i] (getItem o i)
def Me(X:Cx)(r:R2):Prop:=
 ∀(value slice:Expr) (pins:Aaa) (s:Qdd) (σ:St) (H:Hp) (x y:V) (v u:Value) (Q:VK),Inv X pins σ H s->RelV x v->RelV y u->r x y H Q->
  subscripted slice false v u=operate [v,u] (getItem v u)->wpAny (model X.prog X.w) X.A (subscriptTail value slice v u) (EP X pins σ Q) X.xe s
def ZV(X:Cx)(id:String)(r:V->List V->Hp->VK->Prop):Prop:=
 ∀(pins:Aaa) (s:Qdd) (σ:St) (H:Hp) (x:V) (xs:List V) (v:Value) (us:List Value) (Q:VK),Inv X pins σ H s->RelV x v->Vals xs us->r x xs H Q->
  wpAny (model X.prog X.w) X.A (call (.builtin id) (v ::us)) (EP X pins σ Q) X.xe s
section
variable {X:Cx} {a b:Expr} {ta tb:TE} {pos:Pos}
def Me.or{r r':R2}(h:Me X r)(h':Me X r'):Me X (fun x y H Q=>r x y H Q\/r' x y H Q):=by
 intro value slice pins s σ H x y v u Q I rx ry q hs;rcases q with q | q
 .exact h value slice pins s σ H x y v u Q I rx ry q hs
 .exact h' value slice pins s σ H x y v u Q I rx ry q hs
def Ol{r:R2}(hr:Me X r)(ha:PE X a ta)(hb:PE X b tb)(hs:vC b):PE X (.Subscript a b pos) (R7 r ta tb):=by
 intro pins s σ H Q I h;exact Subscript_ (O6 ha hb I h fun v u s2 x y H2 I2 rx ry q=>hr a b pins s2 σ H2 x y v u Q I2 rx ry q (hs _ _))
def TN(K:Qdc):R2:=fun x y H Q=>∃p xs i v,x= .ref p/\y= .int i/\rB K H p xs/\vW xs i=some v/\Q v H
def T7(K:Qdc):R2:=fun x y H Q=>∃p xs i v,x= .ref p/\y= .int i/\vm K H p xs/\vW xs i=some v/\Q v H
def SQ:R2:=fun x y H Q=>∃z i c,x= .str z/\y= .int i/\z.length<=sizeLine/\vW z.cps.toList i=some c/\Q (.str ⟨#[c]⟩) H
def MV:Me X (TN X.K):=by
 intro value slice pins s σ H x y v u Q I rx ry h hs;obtain⟨p,xs,i,z,rfl,rfl,hq,he,q⟩:=h;cases rx;obtain⟨t,rfl⟩:=ry;obtain⟨its,r,pl,hz⟩:=I.list hq;obtain⟨j,h1,h2,h3,h4,h5⟩:=AS he;obtain⟨w,ew,EL⟩:=r.get h2;have hl:=r.length;have hn:=xM;have fin:EP X pins σ Q w s:=⟨z,H,I,EL,q⟩;by_cases h0:0<=i
 .have hj:i.toNat=j:=by
   rw[seqIndex_of h0 h5] at h1;exact QaW h1
  exact item_listR pl.isList h0 (by omega) (by rw[hj];simpa using ew) fin hs
 .have hj:(i+(its.toArray.size:Int)).toNat=j:=by
   rw[seqIndex_neg (by omega) h4] at h1
   rw[QaG,<-hl];exact QaW h1
  exact subscriptTail_builtinR (x:=w) pl.isList.typeIs slot_list_getitem.lookup
   (wpAny_getItem_list_neg (Q:=fun r s'=>r=w/\EP X pins σ Q r s') pl.isList (by omega) (by rw[QaG] <;> omega) (by omega) (by rw[hj];simpa using ew) ⟨rfl,fin⟩) hs
def QR:Me X (T7 X.K):=by
 intro value slice pins s σ H x y v u Q I rx ry h hs;obtain⟨p,xs,i,z,rfl,rfl,hq,he,q⟩:=h;cases rx;obtain⟨t,rfl⟩:=ry;obtain⟨its,r,pl,hz⟩:=I.tuple hq;obtain⟨j,h1,h2,h3,h4,h5⟩:=AS he;obtain⟨w,ew,EL⟩:=r.get h2;have hl:=r.length;have hn:=xM;have fin:EP X pins σ Q w s:=⟨z,H,I,EL,q⟩;exact subscriptTail_builtinR (x:=w) pl.typeIs slot_tuple_getitem.lookup
  (getItem_tuple (j:=j) (Q:=fun r s'=>r=w/\EP X pins σ Q r s') pl (by omega) (by omega) (by rw[QaG,<-hl];exact h1) (by simpa using ew) ⟨rfl,fin⟩) hs
def Qe:Me X SQ:=by
 intro value slice pins s σ H x y v u Q I rx ry h hs;obtain⟨z,i,c,rfl,rfl,hz,he,q⟩:=h;obtain⟨t,rfl⟩:=rx;obtain⟨t',rfl⟩:=ry;obtain⟨j,h1,h2,h3,h4,h5⟩:=AS he;have hl:z.cps.toList.length=z.length:=by simp [Str.length]
 rw[hl] at h1 h4 h5;have hn:=xM;exact tail_any (typeIs_str s z t) slot_str_getitem.lookup (getItem_str (c:=c) (by
  have e1:decide (i < -(2 ^ 63:Int))=false:=QaY (by omega)
  have e2:decide (i>=2 ^ 63)=false:=QaY (by omega)
  rw[e1,e2,Bool.or_false]) (by rw[h1];simpa using h2) ⟨.str ⟨#[c]⟩,H,I.tok _,⟨_,rfl⟩,q⟩) hs
def VM(K:Qdc):R2:=fun x y H Q=>TN K x y H Q\/T7 K x y H Q\/SQ x y H Q
def KW:Me X (VM X.K):=MV.or (QR.or Qe)
def XQ:V->V->V->Hp->(Hp->Prop)->Prop:=fun o i v H Q=>∃p xs k j,o= .ref p/\i= .int k/\H p=some (.lst xs)/\HD xs.length k=some j/\Q (upd H p (.lst (xs.set j v)))
def zM(lo hi:Option Int)(n:Nat):(sliceBounds lo hi none n).1=((HT.vE n 0 lo:Nat):Int)/\(sliceBounds lo hi none n).2.1=((HT.vE n n hi:Nat):Int)/\(sliceBounds lo hi none n).2.2=1:=by
 refine⟨?_,?_,rfl⟩
 .cases lo with
  | none=>simp [sliceBounds,HT.vE]
  | some i=>
    simp only[sliceBounds,HT.vE,Option.getD_none,show(1:Int) > 0 by decide,QbO]
    by_cases h:i<0
    .simp only[h,QbO] <;> omega
    .simp only[h,if_false] <;> omega
 .cases hi with
  | none=>simp [sliceBounds,HT.vE]
  | some i=>
    simp only[sliceBounds,HT.vE,Option.getD_none,show(1:Int) > 0 by decide,QbO]
    by_cases h:i<0
    .simp only[h,QbO] <;> omega
    .simp only[h,if_false] <;> omega
def x8(its:List Value)(lo hi:Option Int):slicePick its.toArray lo hi none=((its.drop (HT.vE its.length 0 lo)).take (HT.vE its.length its.length hi - HT.vE its.length 0 lo)).toArray:=by
 obtain⟨h1,h2,h3⟩:=zM lo hi its.toArray.size;unfold slicePick;rw[h1,h2,h3];simp only[sliceRange_one,pick_run,QaG] <;> rfl
def VJ(K:Qdc):V->Option Int->Option Int->Hp->VK->Prop:=fun x lo hi H Q=>∃a xs,x= .ref a/\rB K H a xs/\∀p,H p=none->Q (.ref p) (upd H p (.lst (Dn xs lo hi)))
def L4:Q7 X (VJ X.K):=by
 intro pins s σ H x v vl vu lo hi sl Q I rx hs pl pu h;obtain⟨a,xs,rfl,hx,q⟩:=h;cases rx;obtain⟨its,r,ht,hz⟩:=I.list hx;have hlen:=r.length;refine⟨"list",_,slot_list_getitem.lookup,ht.isList.typeIs,?_⟩;refine wpAny_getItem_list_slice ht.isList hs pl pu .none (by simp) ?_ (by rw[QaG] <;> omega)
 rw[x8,<-hlen];refine⟨.ref s.heap.objs.size,_,I.laid (t':=s.toks) (o:= .lst (Dn xs lo hi)) (fun b ob q=>Qah _ q) (Qag _) ?_,rfl,q _ (I.hok.fresh (Qag _))⟩
 exact⟨Qa0 (Bw xs lo hi) hz,_,0,(r.drop (HT.vE xs.length 0 lo)).take (HT.vE xs.length xs.length hi - HT.vE xs.length 0 lo),QaJ _ rfl⟩
def oJ:V->Bool
 | .cR=>true
 | .bl _=>true
 | .int _=>true
 | .str _=>true
 | _=>false
def Oj:V->V->Bool
 | .cR, .cR=>true
 | .bl a, .bl b=>a==b
 | .bl a, .int b=>(if a then 1 else 0)==b
 | .int a, .bl b=>a==(if b then 1 else 0)
 | .int a, .int b=>a==b
 | .str a, .str b=>a==b
 | _,_=>false
def Ri{s:Qdd}{y x:V}{u v:Value}(ry:RelV y u)(rx:RelV x v)(fy:oJ y=true)(fx:oJ x=true):SeqAt.EqAt A s u v (Oj y x):=by
 cases y with
 | cR=>
   cases ry;cases x with
   | cR=>cases rx;exact SeqAt.EqAt.same _
   | bl b=>cases rx;exact SeqAt.EqAt.none_bool b
   | int b=>obtain⟨t,rfl⟩:=rx;exact SeqAt.EqAt.none_int b t
   | str b=>obtain⟨t,rfl⟩:=rx;exact SeqAt.EqAt.none_str b t
   | _=>exact absurd (show false=true from fx) Qaz
 | bl a=>
   cases ry;cases x with
   | cR=>cases rx;exact SeqAt.EqAt.bool_none a
   | bl b=>cases rx;exact SeqAt.EqAt.bool_bool a b
   | int b=>obtain⟨t,rfl⟩:=rx;exact SeqAt.EqAt.bool_int a b t
   | str b=>obtain⟨t,rfl⟩:=rx;exact SeqAt.EqAt.bool_str a b t
   | _=>exact absurd (show false=true from fx) Qaz
 | int a=>
   obtain⟨t',rfl⟩:=ry;cases x with
   | cR=>cases rx;exact SeqAt.EqAt.int_none a t'
   | bl b=>cases rx;exact SeqAt.EqAt.int_bool a t' b
   | int b=>obtain⟨t,rfl⟩:=rx;exact SeqAt.EqAt.int_int a t' b t
   | str b=>obtain⟨t,rfl⟩:=rx;exact SeqAt.EqAt.int_str a t' b t
   | _=>exact absurd (show false=true from fx) Qaz
 | str a=>
   obtain⟨t',rfl⟩:=ry;cases x with
   | cR=>cases rx;exact SeqAt.EqAt.str_none a t'
   | bl b=>cases rx;exact SeqAt.EqAt.str_bool a t' b
   | int b=>obtain⟨t,rfl⟩:=rx;exact SeqAt.EqAt.str_int a t' b t
   | str b=>obtain⟨t,rfl⟩:=rx;exact SeqAt.EqAt.str_str a t' b t
   | _=>exact absurd (show false=true from fx) Qaz
 | _=>exact absurd (show false=true from fy) Qaz
def Nn(x:V)(u:Value):Bool:=match u with
 | .none=>Oj .cR x
 | .bool b=>Oj (.bl b) x
 | .int i _=>Oj (.int i) x
 | .str z _=>Oj (.str z) x
 | _=>false
def HQ{x y:V}{u:Value}(r:RelV y u)(f:oJ y=true):Nn x u=Oj y x:=by
 cases y with
 | cR=>cases r;rfl
 | bl b=>cases r;rfl
 | int i=>obtain⟨t,rfl⟩:=r;rfl
 | str z=>obtain⟨t,rfl⟩:=r;rfl
 | _=>exact absurd (show false=true from f) Qaz
theorem Af{x:V}:∀{xs:List V} {us:List Value},Vals xs us->xs.all oJ=true->us.any (Nn x)=xs.any fun y=>Oj y x
 | _,_, .nil,_=>rfl
 | y ::xs,u ::us, .cons r t,f=>by
   rw[List.all_cons,Qbn] at f;rw[QbC,QbC,HQ r f.1,Af t f.2]
theorem vN{s:Qdd}{x:V}{v:Value}(rx:RelV x v)(fx:oJ x=true):∀{xs:List V} {us:List Value},Vals xs us->xs.all oJ=true->∀u∈us,SeqAt.EqAt A s u v (Nn x u)
 | _,_, .nil,_=>fun u hu=>by cases hu
 | y ::xs,u ::us, .cons r t,f=>fun u' hu=>by
   rw[List.all_cons,Qbn] at f;rcases Qar.mp hu with rfl | hu
   .rw [HQ r f.1];exact Ri r rx f.1 fx
   .exact vN rx fx t f.2 u' hu
def Ov(x:V)(xs:List V):Bool:=xs.any fun y=>Oj y x
def XS(K:Qdc)(neg:Bool):R2:=fun x y H Q=>∃p xs,y= .ref p/\(rB K H p xs\/vm K H p xs)/\oJ x=true/\xs.all oJ=true/\Q (.bl (if neg then !Ov x xs else Ov x xs)) H
def Gq:oV X (compareOp .In) (XS X.K false):=by
 intro pins s σ H x y v u Q I rx ry h;obtain⟨p,xs,rfl,hq,fx,fs,q⟩:=h;cases ry;rcases hq with hq | hq
 .obtain⟨its,r,pl,hz⟩:=I.list hq;refine SeqAt.in_listAt (Nn x) pl.isList (fun w hw=>vN rx fx r fs w (by simpa using hw)) ⟨.bl _,H,I,rfl,?_⟩
  rw[show its.toArray.any (Nn x)=its.any (Nn x) by simp,Af r fs]
  exact q
 .obtain⟨its,r,pl,hz⟩:=I.tuple hq;refine SeqAt.in_tupleAt (Nn x) pl (fun w hw=>vN rx fx r fs w (by simpa using hw)) ⟨.bl _,H,I,rfl,?_⟩
  rw[show its.toArray.any (Nn x)=its.any (Nn x) by simp,Af r fs]
  exact q
def yd:l3 X (.type "tuple") (fun xs H Q=>∃p ys,xs=[.ref p]/\((rB X.K H p ys/\∀l,H l=none->Q (.ref l) (upd H l (.tup ys)))\/(vm X.K H p ys/\Q (.ref p) H))):=by
 intro pins s σ H xs us Q I r h;obtain⟨p,ys,rfl,h⟩:=h;obtain⟨u,rfl,rx⟩:=vals1 r;cases rx;rcases h with⟨hq,q⟩ | ⟨hq,q⟩
 .obtain⟨its,r',pl,hz⟩:=I.list hq;have hlen:=r'.length;refine call_tuple_list pl.isList (fun h' kp=>?_) (by simp only[QaG] <;> omega)
  have I1:Inv X pins σ H {s with heap:=h'}:=I.kept (t':=s.toks) kp
  have I2:Inv X pins σ (upd H h'.objs.size (.tup ys)) {s with heap:=h'.push {cls:= .type "tuple",data:= .seq its.toArray}}:=
   I1.laid (t':=s.toks) (fun b o e=>Qah _ e) (Qag _) (show gg X.prog X.w _ _ _ (.tup ys) from⟨hz,its,r',IsTup.new _ _⟩)
  exact⟨.ref h'.objs.size,_,I2,rfl,q _ (I1.hok.fresh (Qag _))⟩
 .obtain⟨its,r',pl,hz⟩:=I.tuple hq;exact call_tuple_same pl ⟨.ref p,H,I,rfl,q⟩
def Vm(K:Qdc)(T:String)(x:V)(H:Hp):Prop:=match x with
 | .str _=>T="str"
 | .int _=>T="int"
 | .ref p=>(T="list"/\∃xs,rB K H p xs)\/(T="tuple"/\∃o,K.lookup p=some o/\o.cls= .type "tuple"/\o.dict=none)\/
    (T="dict"/\((∃kvs,H p=some (.dK kvs))\/∃kvs,H p=some (.dT kvs)))\/(T="set"/\∃S n,H p=some (.set S n))
 | _=>False
def QZ{pins:Aaa}{s:Qdd}{T:String}{x:V}{v:Value}(I:Inv X pins σ H s)(r:RelV x v)(ty:Vm X.K T x H) :
 s.TypeIs v T/\∀a,v= .ref a->∃ob,s.heap.get? a=some ob/\ob.dict=none:=by
 cases x with
 | str z=>
   obtain⟨t,rfl⟩:=r;cases(show T="str" from ty)
   exact⟨typeIs_str s z t,fun _ e=>nomatch e⟩
 | int i=>
   obtain⟨t,rfl⟩:=r;cases(show T="int" from ty)
   exact⟨typeIs_int s i t,fun _ e=>nomatch e⟩
 | ref p=>
   cases r;rcases ty with⟨rfl,xs,hq⟩ | ⟨rfl,o,hk,hc,hd⟩ | ⟨rfl,hk⟩ | ⟨rfl,S,n,hk⟩
   .obtain⟨its,_,pl,_⟩:=I.list hq;refine⟨pl.isList.typeIs,fun a e=>?_⟩
    cases e;obtain⟨o,n,e,c,hd,_⟩:=pl;exact⟨o,e,hd⟩
   .refine⟨⟨o,I.A9 p o hk,hc⟩,fun a e=>?_⟩
    cases e;exact⟨o,I.A9 _ o hk,hd⟩
   .have z:∃o,s.heap.get? p=some o/\o.ExactDict:=by
     rcases hk with⟨kvs,hk⟩ | ⟨kvs,hk⟩
     .obtain⟨_,_,_,_,o,_,_,e,ex,_⟩:=I.hok p _ hk;exact⟨o,e,ex⟩
     .obtain⟨_,_,_,_,o,_,_,e,ex,_⟩:=I.hok p _ hk;exact⟨o,e,ex⟩
    obtain⟨o,e,ex⟩:=z;refine⟨⟨o,e,ex.1⟩,fun a e2=>?_⟩
    cases e2;exact⟨o,e,ex.2.1⟩
   .obtain⟨o,_,_,_,e,ex,_⟩:=I.hok p _ hk;refine⟨⟨o,e,ex.1⟩,fun a e2=>?_⟩
    cases e2;exact⟨o,e,ex.2.1⟩
 | _=>exact False.elim ty
def YR(K:Qdc)(T:String)(r:V->List V->Hp->VK->Prop)(to:TE):TE:=fun σ H Q=>to σ H fun x H1=>Vm K T x H1/\r x [] H1 Q
def ZE(K:Qdc)(T:String)(r:V->List V->Hp->VK->Prop)(to:TE)(t:TA):TE:=fun σ H Q=>to σ H fun x H1=>Vm K T x H1/\t σ H1 fun xs H2=>r x xs H2 Q
variable {o e:Expr} {es:List Expr} {to:TE} {t:TA} {name:Str} {apos cz:Pos} {T id:String} {r:V->List V->Hp->VK->Prop}
def Gd(pa:PlainAttrs T)(slot:Slot T name id)(hty:typeOf (.builtin id)=pure (.type "method_descriptor"))(hm:ZV X id r)(ho:PE X o to)(ha:PA X (e ::es) t)
 (lT:attributeBase o name X.env (eval o X.env)=eval o X.env:=by rfl)
 (rV:((backTo cz (starEach (e ::es) X.env)).all (fun x=>!x.1) && (backToKw cz (keywordEach [] X.env)).all (fun x=>x.1.isSome)
   && decide ((e ::es).length+([]:List Keyword).length+(if([]:List Keyword).isEmpty then 0 else 1)<30))=true:=by rfl)
 (lR:(apos.endLine==cz.line)=true:=by rfl) (hs:starEach (e ::es) X.env=(false,eval e X.env) ::starEach es X.env:=by rfl) (RM:(backTo cz (starEach es X.env)).any (·.1)=false:=by rfl) :
 PE X (.Call (.Attribute o name apos) (e ::es) [] cz) (ZE X.K T r to t):=by
 intro pins s σ H Q I h;refine wpAny_Call_method_late lT rV lR rfl (eO (ho pins s σ H _ I h) fun v s1 ⟨x,H1,I1,r1,ty,q1⟩=>?_)
 obtain⟨h1,h2⟩:=QZ I1 r1 ty;refine⟨T,id,pa,slot,hty,h1,h2,?_⟩;have hA:=ha cz pins s1 σ H1 _ I1 q1;rw[hs] at hA ⊢;refine Calls.callWith_builtin (by show(false || (backTo cz (starEach es X.env)).any (·.1))=false;rw [RM] <;> rfl) (QcE ?_)
 exact eO hA fun us s2 ⟨vs,H2,I2,r2,q2⟩=>hm pins s2 σ H2 x vs v us Q I2 r1 r2 q2
end
def VC(X:Cx)(id:String)(r:V->List V->Hp->VK->Prop):Prop:=
 ∀(pins:Aaa) (s:Qdd) (σ:St) (H:Hp) (x:V) (xs:List V) (v:Value) (us:List Value) (Q:VK),Inv X pins σ H s->RelV x v->Vals xs us->r x xs H Q->
  wpAny (model X.prog X.w) X.A (call (.builtin id) (v ::us)) (EP X pins σ Q) X.xe s
theorem Vals.one:∀{x:V} {us:List Value},Vals [x] us->∃u,us=[u]/\RelV x u
 | _,_, .cons r .nil=>⟨_,rfl,r⟩
theorem Vals.rep{xs:List V}{us:List Value}(h:Vals xs us):∀k:Nat,Vals (List.replicate k xs).flatten (List.replicate k us).flatten
 | 0=> .nil
 | k+1=>by
   rw[Qa8,Qa8,Qbr,Qbr];exact Vals.append h (Vals.rep h k)
def foldl_rep(its:List Value):∀(k:Nat) (acc:List Value),
 List.foldl (fun x1 x2=>x1++x2) acc.toArray (List.replicate k its.toArray)=(acc++(List.replicate k its).flatten).toArray
 | 0,acc=>by simp
 | k+1,acc=>by
   have e:acc.toArray++its.toArray=(acc++its).toArray:=by simp
   have e2:(acc++its)++(List.replicate k its).flatten=acc++(List.replicate (k+1) its).flatten:=by
    rw[Qa8,Qbr,QaN]
   rw[<-e2,<-foldl_rep its k (acc++its),<-e,Qa8,QbY]
section
variable {X:Cx} {pins:Aaa} {σ:St} {H:Hp} {s:Qdd} {l b:Addr} {xs ys zs:List V}
def Inv.OZ{its its':List Value}{n:Nat}{f:Array Value->Array Value}{t':Nat}(I:Inv X pins σ H s)(hH:H l=some (.lst xs))
 (e:s.heap.get? l=some {cls:= .type "list",data:= .seq its.toArray n}) (hf:f its.toArray=its'.toArray) (hv:Vals ys its') (hz:ys.length<=sizeLine) :
 Inv X pins σ (upd H l (.lst ys)) {s with heap:=s.heap.update l (Obj.mapSeq f),toks:=t'}:=by
 have q:=PySem.IsL.update e f;rw[hf] at q;refine I.write (x:=l) (e:=l) (by rw[hH];exact trivial) (.inl rfl) (fun b' u hb hu=>(Heap.get?_update_other s.heap (Obj.mapSeq f) (Qbh hb)).trans hu) ⟨_,q⟩ ?_
 exact⟨hz,its',_,hv,q⟩
def Inv.NJ{its:List Value}{t':Nat}(I:Inv X pins σ H s)(hv:Vals ys its)(hz:ys.length<=sizeLine) :
 Inv X pins σ (upd H s.heap.objs.size (.lst ys)) {s with heap:=s.heap.push {cls:= .type "list",data:= .seq its.toArray},toks:=t'}:=
 I.laid (fun _ _ q=>Qah _ q) (Qag _) ⟨hz,its,0,hv,QaJ _ rfl⟩
def Inv.fresh(I:Inv X pins σ H s):H s.heap.objs.size=none:=I.hok.fresh (Qag _)
def Inv.IH(I:Inv X pins σ H s)(hH:H l=some (.lst xs)):xs.length<=sizeLine/\∃(its:List Value) (n:Nat),Vals xs its/\xs.length=its.length/\s.heap.get? l=some {cls:= .type "list",data:= .seq its.toArray n}:=by
 obtain⟨z,its,n,r,e⟩:=I.hok l _ hH;exact⟨z,its,n,r,r.length,e⟩
def wM{n:Nat}(h:n<=sizeLine):Builtin.List.listTooLong n=false:=by
 unfold Builtin.List.listTooLong;exact QaY (by omega)
end
section
variable {X:Cx}
def NF:V->List V->Hp->VK->Prop:=fun x vs H Q=>∃l xs y,x= .ref l/\vs=[y]/\H l=some (.lst xs)/\xs.length<sizeLine/\Q .cR (upd H l (.lst (xs++[y])))
def um:VC X "list.append" NF:=by
 intro pins s σ H x vs v us Q I rx rv h;obtain⟨l,xs,y,rfl,rfl,hH,hz,q⟩:=h;cases rx;obtain⟨u,rfl,ru⟩:=rv.one;obtain⟨z,its,n,r,hl,e⟩:=I.IH hH;refine call_meets F.slot_list_append ⟨_,e,rfl⟩ F.entry_list_append (F.args_list_append_2 _ _) (PySem.list_append l its.toArray n u (by rw[QaG];omega)) ⟨e,?_⟩
 refine⟨.cR,_,I.OZ (its':=its++[u]) hH e (by simp) (r.append (.cons ru .nil)) ?_,rfl,q⟩
 rw[Qau,Qcx];omega
def M5:V->List V->Hp->VK->Prop:=fun x vs H Q=>∃l b xs zs,x= .ref l/\vs=[.ref b]/\H l=some (.lst xs)/\H b=some (.lst zs)/\xs.length+zs.length<=sizeLine/\Q .cR (upd H l (.lst (xs++zs)))
def Hl:VC X "list.extend" M5:=by
 intro pins s σ H x vs v us Q I rx rv h;obtain⟨l,b,xs,zs,rfl,rfl,hH,hB,hz,q⟩:=h;cases rx;obtain⟨u,rfl,ru⟩:=rv.one;cases ru;obtain⟨z,its,n,r,hl,e⟩:=I.IH hH;obtain⟨z2,uA,n2,r2,HC,e2⟩:=I.IH hB;have HL:its.toArray.size+uA.toArray.size<=sizeLine:=by rw[QaG,QaG];omega
 have hlong:¬(!its.toArray.isEmpty && Builtin.List.listTooLong (its.toArray.size+uA.toArray.size))=true:=by
  rw[wM HL,Bool.and_false];exact Qaz
 refine call_meets F.slot_list_extend ⟨_,e,rfl⟩ F.entry_list_extend (F.args_list_extend_2 _ _)
  (Qcu l its.toArray n b uA.toArray n2 hlong (by rw[QaG];omega) (by omega)) ⟨e,e2,?_⟩
 refine⟨.cR,_,I.OZ (its':=its++uA) hH e (by simp) (r.append r2) ?_,rfl,q⟩
 rw[Qau];omega
def Zk:V->List V->Hp->VK->Prop:=fun x vs H Q=>∃l xs y,x= .ref l/\vs=[]/\H l=some (.lst xs)/\xs[xs.length - 1]? =some y/\Q y (upd H l (.lst xs.dropLast))
def Wg:V->List V->Hp->VK->Prop:=fun x vs H Q=>∃l xs i k y,x= .ref l/\vs=[.int i]/\H l=some (.lst xs)/\ -(2 ^ 63)<=i/\i<2 ^ 63/\seqIndex? i xs.length=some k/\xs[k]? =some y/\Q y (upd H l (.lst (xs.eraseIdx k)))
def TR:V->List V->Hp->VK->Prop:=fun x vs H Q=>∃l xs,x= .ref l/\vs=[]/\H l=some (.lst xs)/\Q .cR (upd H l (.lst xs.reverse))
def VG:V->List V->Hp->VK->Prop:=fun x vs H Q=>∃l xs,x= .ref l/\vs=[]/\H l=some (.lst xs)/\Q .cR (upd H l (.lst []))
def Z7:R2:=fun x y H Q=>∃l b xs zs,x= .ref l/\y= .ref b/\H l=some (.lst xs)/\H b=some (.lst zs)/\xs.length+zs.length<=sizeLine/\∀p,H p=none->Q (.ref p) (upd H p (.lst (xs++zs)))
def Wn:R2:=fun x y H Q=>∃l k xs,x= .ref l/\y= .int k/\H l=some (.lst xs)/\ -(2 ^ 63)<=k/\k<2 ^ 63/\xs.length*k.toNat<=sizeLine/\
 ∀p,H p=none->Q (.ref p) (upd H p (.lst (List.replicate k.toNat xs).flatten))
def len_rep{α:Type}(xs:List α)(k:Nat):(List.replicate k xs).flatten.length=k*xs.length:=by
 induction k with
 | zero=>simp
 | succ k ih=>rw [Qa8,Qbr,Qau,ih,Nat.succ_mul,Nat.add_comm]
def O3:oV X (binaryOp .Mult) Wn:=by
 intro pins s σ H x y v u Q I rx ry h;obtain⟨l,k,xs,rfl,rfl,hH,h1,h2,hz,q⟩:=h;cases rx;obtain⟨t,rfl⟩:=ry;obtain⟨z,its,n,r,hl,e⟩:=I.IH hH;have hlen:its.toArray.size*k.toNat<=sizeLine:=by rw[QaG,<-hl];exact hz
 have hcap:¬its.toArray.size*k.toNat > (2 ^ 63 - 1) / 8:=by
  have:(sizeLine:Nat)<=(2 ^ 63 - 1) / 8:=by decide
  omega
 have hfit:¬(!Builtin.List.listFitsIndex k)=true:=by
  rw[fitsIndex_both h1 h2];exact Qaz
 have hlong:¬Builtin.List.listTooLong (its.toArray.size*k.toNat)=true:=by
  rw[wM hlen];exact Qaz
 have hnew:List.foldl (fun x1 x2=>x1++x2) #[] (List.replicate (if its.toArray.isEmpty=true then 0 else k.toNat) its.toArray)=(List.replicate k.toNat its).flatten.toArray:=by
  have f0:∀m:Nat,List.foldl (fun x1 x2=>x1++x2) #[] (List.replicate m its.toArray)=(List.replicate m its).flatten.toArray:=fun m=>by
   have:=foldl_rep its m [];rw[QaA] at this;exact this
  rw[f0];cases its with
  | nil=>simp
  | cons a r'=>rw [QaB (by simp)]
 refine wpAny_binaryOp_repeat_ref (T:="list") (U:="int") (by decide) ⟨_,e,rfl⟩ (fun s'=>typeIs_int s' k t) noFill_list_mul F.fills_int_mul F.slot_int_rmul repeat_list F.slot_int_index.lookup
  (call_meets F.slot_int_rmul (typeIs_int s k t) F.entry_int_rmul (F.args_int_rmul_2 _ _) (int___rmul___int_list k t l its.toArray n)
    ⟨e,rfl,⟨_,e,rfl⟩,call_meets F.slot_list_mul ⟨_,e,rfl⟩ F.entry_list_mul (F.args_list_mul_2 _ _) (AutoListH.list___mul___list_int_3 l its.toArray n k t hfit hcap hlong) ⟨e,?_⟩⟩)
 rw[hnew];exact⟨.ref _,_,I.NJ (t':=s.toks) (r.rep k.toNat) (by rw[len_rep,Qb3];exact hz),rfl,q _ I.fresh⟩
end
section
variable {prog:Program} {w:World} {A:Around} {E:Aab} {s:Qdd}
set_option maxRecDepth 100000 in
end
section
variable {X:Cx}
end
end L2
namespace Att
open PySem PySem.W PySem.Calls PyProof.Rows
def vf{P:Params}:∀(ns:List Int) (vs:List Value),WellAll P h vs (ns.map WData.int)->IntsAre vs ns:=by
 intro ns
 induction ns with
 | nil=>
   intro vs w;rw[Qci] at w;cases w;exact .nil
 | cons n ns ih=>
   intro vs w;rw[Qay] at w;cases w with
   | cons a b=>
     cases a;exact .cons _ _ (ih _ b)
def GW{l:OpenLaw}{n:Nat}(hn:l.most=some n){P:Params}{h:Heap}{args:List WData}{vals:List Value}
 (EM:l.row.toRowW.claim.pre args=true) (HA:WellAll P h vals args) :
 ∃a vs ns,vals=[Value.ref a]/\args=[WData.list (ns.map WData.int)]/\h.get? a=some {cls:= .type "list",data:= .seq vs.toArray}/\IntsAre vs ns/\ns.length<=n:=by
 have hsh:WShape.hasAll [] args [.list .int]=true:=(pre_splitW EM).1;have hc:l.pre.holds [] {args:=args}=true:=(pre_splitW EM).2;obtain⟨d,r,rfl,h1,h2⟩:=hasAllW_cons hsh;obtain rfl:=hasAllW_nil h2;obtain⟨xs,rfl,h3⟩:=hasW_list h1;obtain⟨ns,rfl⟩:=items_int h3;have hlen:ns.length<=n:=by
  unfold OpenLaw.pre at hc;have h4:(WTm.not (.lt (.lit (.int (n:Int))) (.len (.arg 0)))).holds [] {args:=[.list (ns.map .int)]}=true:=by
   have h4:=(holds_andW hc).1;rw[hn] at h4;exact h4
  have h5:=condW_of h4 (w_not (w_lt w_lit (w_len_list (w_arg rfl))));rw[Qaa] at h5;refine Nat.le_of_not_lt fun q=>?_
  have q':(n:Int)<((ns.length:Nat):Int):=by omega
  first
   | (rw [QaE q'] at h5;exact absurd h5 (by decide))
   | (simp at h5;omega)
 cases HA with
 | cons w1 w2=>
   cases w2;cases w1 with
   | list ho K1=>exact⟨_,_,ns,rfl,rfl,ho,vf ns _ K1,hlen⟩
def Hb(l:OpenLaw)(args:List WData):l.row.toRowW.claim.post args (.bool true) args=true:=
 postW_of (r:=l.row.toRowW) (X:=(true==true))
  (show WShape.has [] (.bool true) .bool=true by first | rfl | decide | simp [WShape.has,WShape.arms,WShape.armsAll])
  (show(WTm.eq .res (.lit (.bool true))).value [] {args:=args,res:=some (.bool true),after:=args}=some (.bool (true==true)) from w_eq_bool (w_res rfl) w_lit) rfl
def BI{l:OpenLaw}{n:Nat}{q:Program}{loose:List Str}{XP:(Str->Option Value)->Heap->Prop}{YP:World->Heap->Prop}{d:DefRec}
 (hn:l.most=some n) (Xi:d.params.defaults=[])
 (call:∀(w:World) (s₀ s₁:Qdd) (mg mb:Aaf) (fa:Addr) (o:Obj) (pm cd doc:Value) (a:Addr) (vs:List Value) (ns:List Int),
   Ground q loose [] XP w s₀ mg mb s₁.heap->YP w s₁.heap->
   s₁.heap.get? fa=some o->o.data= .func (docDef d.name d.params d.body d.scope pm cd doc)->s₁.heap.CodeRec cd d.name->mg d.name=some (.ref fa)->
   s₁.heap.get? a=some {cls:= .type "list",data:= .seq vs.toArray}->IntsAre vs ns->ns.length<=n->s₁.gens=#[]->
   codeAny (model l.prog w) callerA (.call (.ref fa) ⟨[.ref a],[]⟩) (fun r s'=>r= .ok (.ret (.bool true))/\OldK s₁.heap s'.heap/\s'.os=s₁.os/\AllBare s'.gens) s₁) :
 WalkO q loose XP YP l.row.toRowW d [] (fun f vs=>PySem.call f vs):=by
 intro w s₀ s₁ mg mb G Y fa o pm cd doc dV kV ho hd qC hD OK hg args vals as EM hlay hrd HA hlo;obtain rfl:dV= .none:=Dflts.none hD Xi;obtain rfl:kV= .none:=Dflts.noKw hD;obtain⟨a,vs,ns,rfl,rfl,RQ,hints,hlen⟩:=GW hn EM HA;refine enter_call (codeAny_mono (call w s₀ s₁ mg mb fa o pm cd doc a vs ns G Y ho (fd_plain hd) qC OK RQ hints hlen hg) fun r s' hq=>?_)
 obtain⟨rfl,h2,h3,h4⟩:=hq;exact⟨.inl ⟨.bool true, .bool true,[],rfl,fun _=>rfl, .bool true,Hb l _,fun _=>⟨List.Pairwise.nil,fun _ hm=>(nomatch hm)⟩⟩,h2,h3,h4⟩
section
variable {prog:Program} {w:World} {A:Around} {E:Aab} {s:Qdd} {K:Frag}
def VL(h:Heap):Heap:={h with objs:=#[]}
def ledger(h:Heap)(L d:Addr):Aaa:=(List.range h.objs.size).filterMap fun a=>if a=L\/a=d then none else(h.get? a).map fun o=>(a,o)
end
end Att
namespace L2
open PySem PySem.Spec PyProof.Rows
theorem yO:∀{vs:List Value} {ns:List Int},IntsAre vs ns->Vals (ns.map V.int) vs
 | _,_, .nil=> .nil
 | _,_, .cons n t h=> .cons ⟨t,rfl⟩ (yO h)
def TM(H:Hp):Prop:=∀b,H b=none\/∃o xs,H b=some (.lV o (.lst xs))
abbrev eh{K:Qdc}{h:Heap}(_:K.In h):Qdc:=K
def inClass(s:Stmt)(j:Nat):Stmt:=match s with
 | .ClassDef _ _ _ body _ _ _ _ _ _ _=>body.getD j (.Pass ⟨0,0,0,0⟩)
 | _=> .Pass ⟨0,0,0,0⟩
def iL(s:Stmt):Arguments:=match s with
 | .FunctionDef _ a _ _ _ _ _ _ _ _=>a
 | _=>{posonlyargs:=[],args:=[],vararg:=none,kwonlyargs:=[],kw_defaults:=[],kwarg:=none,defaults:=[]}
def aO(s:Stmt):List Stmt:=match s with
 | .FunctionDef _ _ b _ _ _ _ _ _ _=>b
 | _=>[]
def aD(s:Stmt):Scope:=match s with
 | .FunctionDef _ _ _ _ _ _ sc _ _ _=>sc
 | _=>{kind:= .function,names:=[],isGenerator:=false,isCoroutine:=false}
abbrev yn:HG:=fun _ _ _ _ _ _=>False
abbrev E0:XK:=fun _ _ _=>False
def Cg{X:Cx}:Passes yn X E0:=fun _ _ _ _ _ _ _ h=>h.elim
structure D_ (K:Qdc) (x qual:Str) (st:Stmt) (f:Addr) (fd:FuncData):Prop where
 ex:∃(oc:Value) (od:Option Addr) (kV doc pm:Value) (an:Option Addr) (dt ct:Value) (K8:Array (Option Value)),
  fd=PySem.W.fnOf x qual (iL st) (aO st) (aD st) .none kV doc pm an dt ct/\K.lookup f=some ⟨oc,od, .func fd,K8⟩/\PySem.W.codeIn K dt qual=true
 kp:PySem.W.keepIn K (.ref f)=true
section
variable {P:Program} {w:World} {K:Qdc} {mg:Aaf} {base:Heap}
def D_.ok{x qual:Str}{st:Stmt}{f:Addr}{fd:FuncData}{N ps:List Str}{k:Nat}{sp:Sp}(F:D_ K x qual st f fd)(S:aU N ps (aD st))(len:∀vs H Q E,sp vs H Q E->vs.length=ps.length)
 (jf:∀(dt:Value) (A:Around) (outer:List Env) (s:Qdd) (H:Hp) (vs:List V) (Q:VK) (E:XK),eW k (A.deeper (envOfC qual (aD st) s.heap.objs.size f dt))->sp vs H Q E->
   ∃t,AE (pN yn P w K mg base N qual (aD st) f dt A outer s H E).MG (aO st) t/\t {nx:=fun _ H'=>Q .cR H',rt:=Q} (start N vs) H):j2 P w K mg base yn (k+1) f fd ps sp:=by
 obtain⟨oc,od,kV,doc,pm,an,dt,ct,K8,rfl,lk,qC⟩:=F.ex;refine Oq lk qC S len fun A outer s H vs Q E hr Lu=>?_
 obtain⟨t,h,q⟩:=jf dt A outer s H vs Q E hr Lu;exact⟨t,h.MG,q⟩
def D_.binds{x qual:Str}{st:Stmt}{f:Addr}{fd:FuncData}{ps:List Str}(F:D_ K x qual st f fd)
 (h:∀(kV doc pm:Value) (an:Option Addr) (dt ct:Value) (us:List Value),us.length=ps.length->bindArgs (PySem.W.fnOf x qual (iL st) (aO st) (aD st) .none kV doc pm an dt ct) ⟨us,[]⟩=pure (ps.zip us)):Binds K fd ps []:=by
 obtain⟨oc,od,kV,doc,pm,an,dt,ct,K8,rfl,lk,qC⟩:=F.ex;exact .all (h kV doc pm an dt ct)
def rG{x qual:Str}{st:Stmt}{f:Addr}{oc:Value}{od an:Option Addr}{K8:Array (Option Value)}{kV doc pm dt ct:Value}(l:K.lookup f=some ⟨oc,od, .func (PySem.W.fnOf x qual (iL st) (aO st) (aD st) .none kV doc pm an dt ct),K8⟩)
 (c:PySem.W.codeIn K dt qual=true) (k:PySem.W.keepIn K (.ref f)=true):D_ K x qual st f (PySem.W.fnOf x qual (iL st) (aO st) (aD st) .none kV doc pm an dt ct):=⟨⟨oc,od,kV,doc,pm,an,dt,ct,K8,rfl,l,c⟩,k⟩
end
def Tr{A:Around}{k:Nat}(hr:eW k A):A.units+1<cLine:=Nat.lt_of_le_of_lt (Nat.add_le_add_left (by decide:1<=64) _) hr.units
section
variable {X:Cx}
end
def Jq{A B:Prop}(h:B):if false=true then A else B:=by
 rw[QaB Qaz];exact h
def Je{A B:Prop}(h:A):if true=true then A else B:=by
 rw[QaD rfl];exact h
def aX(H H':Hp):Prop:=∀b o,H b=some o->H' b=some o
def aX.refl(H:Hp):aX H H:=fun _ _ h=>h
def aX.trans(a:aX H H1)(b:aX H1 H2):aX H H2:=fun c o h=>b c o (a c o h)
def aX.free{H H':Hp}(e:aX H H'){l:Addr}(h:H' l=Option.none):H l=Option.none:=by
 cases q:H l with
 | none=>rfl
 | some o=>
   rw[e l o q] at h;cases h
section
variable {κ:Type} [DecidableEq κ]
end
def qz(cells:List (Str × Addr)):List (Str × NameKind)->List (Str × Addr)->List (Str × Addr)
 | [],acc=>acc
 | (n,k) ::r,acc=>qz cells r (if k==NameKind.free then(n,(cells.lookup n).getD 0) ::acc else acc)
def nR{env:Env}:∀(names:List (Str × NameKind)) (acc:List (Str × Addr)),(∀y∈names,y.2= .free->∃c,env.cells.lookup y.1=some c)->
 (forIn names acc fun(x:Str × NameKind) (cs:List (Str × Addr))=>(match x with
   | (name,kind)=>if kind== .free then do let a <-cellOf env name;pure (ForInStep.yield ((name,a) ::cs)) else pure (ForInStep.yield cs):Sem (ForInStep (List (Str × Addr)))))=pure (qz env.cells names acc)
 | [],acc,_=>by simp [qz]
 | (n,k) ::r,acc,h=>by
   rw[List.forIn_cons];by_cases hk:k=NameKind.free
   .subst hk;obtain⟨c,hc⟩:=h (n, .free) Qat rfl;have e:cellOf env n=pure c:=by unfold cellOf;rw [hc]
    simp only[Qbe,QbO,e,pure_bind,qz,hc,Option.getD_some];exact nR r _ fun y hy=>h y (Qai _ hy)
   .have hb:(k==NameKind.free)=false:=by simpa using hk
    simp only[hb,QbZ,if_false,pure_bind,qz];exact nR r _ fun y hy=>h y (Qai _ hy)
def oI{env:Env}{scope:Scope}(h:∀y∈scope.names,y.2= .free->∃c,env.cells.lookup y.1=some c):closureFor scope env=pure (qz env.cells scope.names []):=by
 unfold closureFor;have:=nR (env:=env) scope.names [] h;simp only[bind_pure];exact this
def l9{cells:List (Str × Addr)}:∀(names:List (Str × NameKind)) (acc:List (Str × Addr)) {x:Str} {c:Addr},(qz cells names acc).lookup x=some c->
 acc.lookup x=some c\/((x,NameKind.free)∈names/\c=(cells.lookup x).getD 0)
 | [],acc,x,c,h=> .inl h
 | (n,k) ::r,acc,x,c,h=>by
   rcases l9 r _ h with q | ⟨q1,q2⟩
   .by_cases hk:k=NameKind.free
    .subst hk;simp only[Qbe,QbO] at q;cases hx:x==n with
     | true=>
       have e:x=n:=by simpa using hx
       subst e;rw[Qal,hx] at q;exact .inr ⟨Qat,(QaW q).symm⟩
     | false=>
       rw[Qal,hx] at q;exact .inl q
    .have hb:(k==NameKind.free)=false:=by simpa using hk
     simp only[hb,QbZ,if_false] at q;exact .inl q
   .exact .inr ⟨Qai _ q1,q2⟩
theorem Ce{cells:List (Str × Addr)}:∀(names:List (Str × NameKind)) (acc:List (Str × Addr)) {x:Str},((x,NameKind.free)∈names\/∃c,acc.lookup x=some c)->∃c,(qz cells names acc).lookup x=some c
 | [],acc,x,h=>by
   rcases h with h | h
   .simp at h
   .exact h
 | (n,k) ::r,acc,x,h=>by
   refine Ce r _ ?_;rcases h with h | ⟨c,h⟩
   .rcases Qar.mp h with e | e
    .cases e;exact .inr ⟨(cells.lookup n).getD 0,by simp [Qal]⟩
    .exact .inl e
   .by_cases hk:k=NameKind.free
    .subst hk;simp only[Qbe,QbO];cases hx:x==n with
     | true=>exact .inr ⟨(cells.lookup n).getD 0,by rw[Qal,hx]⟩
     | false=>exact .inr ⟨c,by rw[Qal,hx];exact h⟩
    .have hb:(k==NameKind.free)=false:=by simpa using hk
     simp only[hb,QbZ,if_false];exact .inr ⟨c,h⟩
theorem AM:∀(names:List (Str × NameKind)) (n:Nat) (acc:List (Str × Addr)) {x:Str},(x,NameKind.cell) ∉ names->(cellsFrom n names acc).lookup x=acc.lookup x
 | [],_,_,_,_=>rfl
 | (y,k) ::r,n,acc,x,h=>by
   unfold cellsFrom;split
   .rename_i hk;have hk:k= .cell:=by simpa using hk
    subst hk;rw[AM r _ _ fun z=>h (Qai _ z),Qal]
    cases hx:x==y with
    | true=>
      have e:x=y:=by simpa using hx
      subst e;exact absurd Qat h
    | false=>rfl
   .exact AM r _ _ fun z=>h (Qai _ z)
theorem qV:∀(names:List (Str × NameKind)) (n:Nat) (acc:List (Str × Addr)),cellsFrom n names acc=cellsFrom n names []++acc
 | [],_,_=>rfl
 | (y,k) ::r,n,acc=>by
   unfold cellsFrom;split
   .rw [qV r (n+1) ((y,n) ::acc),qV r (n+1) [(y,n)],QaN];rfl
   .exact qV r n acc
def Du{a b:List (Str × Addr)}{c:Addr}(h:(a++b).lookup x=some c):(x,c)∈a\/b.lookup x=some c:=by
 induction a with
 | nil=>exact .inr h
 | cons y r ih=>
   obtain⟨n,v⟩:=y;rw[Qav,Qal] at h;cases hx:x==n with
   | true=>
     rw[hx] at h;have e:x=n:=by simpa using hx
     subst e;cases h;exact .inl Qat
   | false=>
     rw[hx] at h;exact(ih h).imp (Qai _) id
def o_{a b:List (Str × Addr)}(h:∃c,b.lookup x=some c):∃c,(a++b).lookup x=some c:=by
 induction a with
 | nil=>exact h
 | cons y r ih=>
   rw[Qav,Qal];cases x==y.1 with
   | true=>exact⟨_,rfl⟩
   | false=>exact ih
def Ar{a b:List (Str × Addr)}{c:Addr}(h:a.lookup x=some c):∃c,(a++b).lookup x=some c:=by
 induction a with
 | nil=>cases h
 | cons y r ih=>
   rw[Qav,Qal];rw[Qal] at h;cases hx:x==y.1 with
   | true=>exact⟨_,rfl⟩
   | false=>rw [hx] at h;exact ih h
def yT{M:Model}{A:Around}{E:Aab}{s:Qdd}{scope:Scope}{cl:List (Str × Addr)}{qual:Str}{env:Env}{Q:Env->Qdd->Prop}(hQ:∀h',h'.Ns s.heap.objs.size (fun _=>none)->(∀b o,s.heap.get? b=some o->h'.get? b=some o)->CellsOk h' (s.heap.objs.size+1) (cellsFrom (s.heap.objs.size+1) scope.names [])->
 Q (newEnv scope s.heap.objs.size env.globals (cellsFrom (s.heap.objs.size+1) scope.names cl) qual none .none (some env) builtinsNs) {s with heap:=h'}) :
 wpAny M A (newFunctionEnv scope env.globals cl [] qual none .none (some env)) Q E s:=by
 simp only[newFunctionEnv,Option.isSome_some,QbO];refine Qaf (wpAny_alloc ?_);refine Qaf (wpAny_layCells _ (fun name kind cells=>by cases hkc:kind==NameKind.cell <;> simp [hkc]) _ _ _ _ ?_)
 have ok:=cellsFrom_ok scope.names (s.heap.push {cls:= .type "dict",data:= .dict #[]}) (s.heap.objs.size+1) [] ⟨fun _ _ hm=>(nomatch hm),List.Pairwise.nil⟩ (by rw[Qbd];exact Qag _)
 rw[Qbd] at ok;rw[show({s with heap:=s.heap.push {cls:= .type "dict",data:= .dict #[]}}:Qdd).heap.objs.size=s.heap.objs.size+1 from Qbd ..]
 rw[List.forIn_nil];refine Qaf (QaK (QaK ?_));exact hQ _ ((Heap.Ns.new s.heap (.type "dict")).keeps (pushCells_keeps _ _)) (fun b o e=>pushCells_keeps _ _ b o (Qah _ e)) ok
def bx(X:Cx)(scope:Scope)(N':List Str)(fp:List Addr)(s:Qdd)(H:Hp):Cx where
 prog:=X.prog
 w:=X.w
 K:=X.K
 mg:=X.mg
 base:=X.base
 A:=X.A
 N:=N'
 s₀:=s
 H₀:=H
 env:=compEnvC scope (cellsFrom (s.heap.objs.size+1) scope.names (qz X.env.cells scope.names [])) s.heap.objs.size X.env
 outer:=X.stack
 stack:=X.stack
 ex:=fp
 fn:=fun x=>scope.names.lookup x==some .cell
 calm:=X.calm
 pn:=[]
 xe:=fun _ _=>False
structure bg (X:Cx) (scope:Scope) (own:List Str) (kp:List Nat) (kn:List Str):Prop where
 kind:scope.kind= .function
 cel:∀y∈scope.names,y.2= .cell->scope.names.lookup y.1=some .cell
 nd:∀y∈scope.names,y.2= .local->scope.names.lookup y.1=some .local
 free:∀y∈scope.names,y.2= .free->X.env.kindOf y.1=some .cell\/X.env.kindOf y.1=some .free
 frl:∀y∈scope.names,y.2= .free->scope.names.lookup y.1=some .free
 names:kn.length=kp.length
 at_:∀(j i:Nat) (x:Str),kp[j]? =some i->kn[j]? =some x->X.N[i]? =some x
 isfree:∀x∈kn,scope.names.lookup x=some .free
def ee(own:List Str)(kp:List Nat)(σ:St):St:=List.replicate own.length none++kp.map fun i=>(σ[i]?).getD none
section
variable {X:Cx} {scope:Scope} {own:List Str} {kp:List Nat} {kn:List Str}
def fY{env:Env}:∀{names:List (Str × NameKind)} {x:Str} {k:NameKind},
 (names.map fun(n,k)=>if(k==NameKind.free && env.scope.kind== .function && env.kindOf n==some .cell) then(n,NameKind.cell) else(n,k)).lookup x=some k->
 names.lookup x=some k\/(k= .cell/\names.lookup x=some .free)
 | [],_,_,h=>by simp at h
 | (n,k) ::r,x,k',h=>by
   have ih:=@fY env r x k';have h:List.lookup x ((if(k==NameKind.free && env.scope.kind== .function && env.kindOf n==some .cell)=true then(n,NameKind.cell) else(n,k)) ::_)=some k':=h
   by_cases hc:(k==NameKind.free && env.scope.kind== .function && env.kindOf n==some .cell)=true
   .rw [QaD hc] at h;have hkf:k= .free:=by
     simp only[Qbn,Qba] at hc;exact hc.1.1
    cases hx:x==n with
    | true=>
      rw[Qal,hx] at h;cases h;exact .inr ⟨rfl,by rw[Qal,hx,hkf]⟩
    | false=>
      rw[Qal,hx] at h;rw[Qal,hx];exact ih h
   .rw [QaB hc] at h;cases hx:x==n with
    | true=>
      rw[Qal,hx] at h;rw[Qal,hx];exact .inl h
    | false=>
      rw[Qal,hx] at h;rw[Qal,hx];exact ih h
def rm{pins:Aaa}{s:Qdd}(C:bg X scope own kp kn)(I:Inv X pins σ H s):∀y∈scope.names,y.2= .free->∃c,X.env.cells.lookup y.1=some c:=fun y hy hf=>
 I.ok.has y.1 (C.free y hy hf)
def JD{pins:Aaa}{σ:St}{H:Hp}{s:Qdd}{fp:List Addr}{kz:Heap}{tk:Nat}(C:bg X scope own kp kn)(I:Inv X pins σ H s)(hf:∀b∈fp,u_ X pins H b)(hb:∀b∈fp,b<s.heap.objs.size)
 (hn:kz.Ns s.heap.objs.size (fun _=>none)) (hk:∀b o,s.heap.get? b=some o->kz.get? b=some o) (hC:CellsOk kz (s.heap.objs.size+1) (cellsFrom (s.heap.objs.size+1) scope.names [])):Inv (bx X scope (own++kn) fp s H) [] (ee own kp σ) H {s with heap:=kz,toks:=tk}:=by
 have cl:∀x c,(qz X.env.cells scope.names []).lookup x=some c->X.env.cells.lookup x=some c:=fun x c e=>by
  rcases l9 scope.names [] e with q | ⟨q1,q2⟩
  .simp at q
  .obtain⟨c',HJ⟩:=rm C I (x, .free) q1 rfl;have HJ:X.env.cells.lookup x=some c':=HJ;rw[HJ] at q2;rw[HJ,q2];rfl
 have clA:∀x c,(cellsFrom (s.heap.objs.size+1) scope.names (qz X.env.cells scope.names [])).lookup x=some c->(x,c)∈cellsFrom (s.heap.objs.size+1) scope.names []\/(qz X.env.cells scope.names []).lookup x=some c:=fun x c e=>by
  rw[qV] at e;exact Du e
 have old:∀x c,(qz X.env.cells scope.names []).lookup x=some c->c<s.heap.objs.size:=fun x c e=>by
  obtain⟨v,h⟩:=I.cell x c (cl x c e);exact h.lt
 have new:∀x c,(x,c)∈cellsFrom (s.heap.objs.size+1) scope.names []->s.heap.objs.size<=c:=fun x c e=>Nat.le_of_lt (hC.empty x c e).2
 have clh:∀x,scope.names.lookup x=some .free->∃c,(qz X.env.cells scope.names []).lookup x=some c:=fun x hx=>Ce scope.names [] (.inl (Qbl hx))
 refine⟨⟨I.ok.mod,C.kind,I.ok.glob,I.ok.blt,Qag _,fun x y c h1 h2=>?inj,fun x hx=>?_,fun x c hn h=>?cab,I.ok.hd,I.ok.frames, .inl rfl,fun b qB=>⟨QaO (hb b qB),fun x c e z=>?exf⟩,
  fun b o e=>I.bs b o e,Qa0 I.ok.bsz I.sz,fun b o e qB=>?_,fun b qB hs=>?_,I.stack,I.ql⟩,
  rfl,I.bare,Un.kept hk,⟨_,hn,fun i x v h1 h2 h3=>?_⟩,fun x c e=>?_,I.hok.fresh (Qag _),fun x c e=>?frc,fun p hp=>(by cases hp),I.hok.kept hk,?_⟩
 case inj=>
  rcases clA x c h1 with a | a <;> rcases clA y c h2 with b | b
  .exact name_of_addr hC.apart a b
  .exact absurd (QaC (old y c b) (new x c a)) (QbB _)
  .exact absurd (QaC (old x c a) (new y c b)) (QbB _)
  .exact I.ok.inj x y c (cl x c a) (cl y c b)
 case cab=>
  have hn:(scope.names.lookup x==some .cell)=true:=hn;rcases clA x c h with a | a
  .exact new x c a
  .rcases l9 scope.names [] a with q | ⟨q1,q2⟩
   .simp at q
   .have hx:scope.names.lookup x=some .cell:=by simpa using hn
    have h7:scope.names.lookup x=some .free:=C.frl _ q1 rfl;rw[hx] at h7;cases h7
 case exf=>
  rcases clA x c e with a | a
  .subst z;exact absurd (QaC (hb _ qB) (new x _ a)) (QbB _)
  .exact(hf b qB).2.2.2.2.1 x c (cl x c a) z
 case frc=>
  rcases clA x c e with a | a
  .exact I.hok.fresh (new x c a)
  .exact I.freeC x c (cl x c a)
 .have hx:(relabel scope X.env).names.lookup x=some .cell\/(relabel scope X.env).names.lookup x=some .free:=hx;show ∃c,(cellsFrom (s.heap.objs.size+1) scope.names (qz X.env.cells scope.names [])).lookup x=some c;rcases hx with hx | hx
  .rcases fY hx with q | ⟨_,q⟩
   .rw [qV];obtain⟨c,hc⟩:=v7 (n:=s.heap.objs.size+1) q;exact Ar hc
   .rw [qV];exact o_ (clh x q)
  .rcases fY hx with q | ⟨q,_⟩
   .rw [qV];exact o_ (clh x q)
   .cases q
 .rcases(hf b qB).2.2.2.1 with z | z
  .exact I.ok.noex b o e z
  .exact absurd (QaC (Qaw (I.ok.bs b o e).1) z) (QbB _)
 .rcases Qar.mp (I.D4 b hs) with z | z
  .exact(hf b qB).2.1 z
  .exact(hf b qB).2.2.1 z
 .-- a kept name
  have h1:(own++kn)[i]? =some x:=h1;have h2:(ee own kp σ)[i]? =some (some v):=h2;unfold ee at h2;by_cases hi:i<own.length
  .rw [Qam (by simpa using hi),QaT] at h2
   split at h2 <;> cases h2
  .rw [Qae (by simpa using hi),QaP,Qad] at h2
   rw[Qae (by simpa using hi)] at h1
   cases e:kp[i - own.length]? with
   | none=>rw [e] at h2;cases h2
   | some j=>
     rw[e] at h2;have h2:(σ[j]?).getD none=some v:=QaW h2;have hj:X.N[j]? =some x:=C.at_ _ j x e h1;have K0:σ[j]? =some (some v):=by
      cases q:σ[j]? with
      | none=>rw [q] at h2;cases h2
      | some y=>rw [q] at h2;exact Qbk some h2
     have hfree:scope.names.lookup x=some .free:=C.isfree x (QaH h1);have hkind:=C.free (x, .free) (Qbl hfree) rfl;obtain⟨m,hm,hl⟩:=I.loc;obtain⟨u,r,l⟩:=hl j x v hj K0 (hkind.elim (fun q=>Or.inr (Or.inl q)) fun q=>Or.inr (Or.inr q))
     refine⟨u,r, .inr ⟨?_,?_⟩⟩
     .have h3:(relabel scope X.env).names.lookup x=some .local\/(relabel scope X.env).names.lookup x=some .cell\/(relabel scope X.env).names.lookup x=some .free:=h3;rcases h3 with q | q | q
      .rcases fY q with z | ⟨z,_⟩
       .rw [hfree] at z;cases z
       .cases z
      .exact .inl q
      .exact .inr q
     .rcases l with⟨k,_⟩ | ⟨_,c,hc,hcell⟩
      .rcases hkind with q | q
       .rw [show X.env.kindOf x=some .cell from q] at k;cases k
       .rw [show X.env.kindOf x=some .free from q] at k;cases k
      .obtain⟨c',HJ⟩:=clh x hfree;have:=cl x c' HJ;rw[hc] at this;cases this;obtain⟨o,ho,hd⟩:=hcell;exact⟨c,(AM _ _ _ fun z=>by have:=C.cel _ z rfl;rw [hfree] at this;cases this).trans HJ,o,hk c o ho,hd⟩
 .rcases clA x c e with a | a
  .exact⟨_,(hC.empty x c a).1⟩
  obtain⟨v,o,ho,hd⟩:=I.cell x c (cl x c a);exact⟨v,o,hk c o ho,hd⟩
 .show(ee own kp σ).length=(own++kn).length;unfold ee;rw[Qau,QaP,Qaa,Qau,C.names]
def wK{pins:Aaa}{s s':Qdd}{fp:List Addr}{N':List Str}(I:Inv X pins σ H s)(hf:∀b∈fp,u_ X pins H b)(J:Inv (bx X scope N' fp s H) [] c7 H' s'):Inv X pins σ H' s':=
 I.Og (ch:=fp) J.os J.base J.hok J.bare fun b hb=>⟨(hf b hb).2.2.2.1,(hf b hb).2.1,(hf b hb).2.2.2.2.1,(hf b hb).2.2.2.2.2⟩
end
def sL(X:Cx)(ifs:List Expr)(t:TT):Prop:=
 ∀(pins:Aaa) (s:Qdd) (σ:St) (H:Hp) (Q:Bool->Hp->Prop),Inv X pins σ H s->t σ H Q->
  wpAny (model X.prog X.w) X.A (forIn ifs true fun c r=>if r=true then do let ok <-isTrue c X.env (eval c X.env);pure (ForInStep.yield ok) else pure (ForInStep.yield r)) (TP X pins σ Q) X.xe s
def V1:TT:=fun _ H Q=>Q true H
def Bd{X:Cx}:sL X [] V1:=fun _ _ _ H _ I h=>wpAny_tests_nil ⟨H,I,h⟩
def Cj{X:Cx}{t:TT}(h:PT X c t):sL X [c] t:=fun pins s σ H Q I hq=>wpAny_tests_one (h pins s σ H Q I hq)
def EU(wi:TI)(g:TG)(tc:TT)(te:TE)(own:List Str)(kp:List Nat):TE:=fun σ H Q=>wi σ H fun J H1=>∀D,H1 D=none->
 ∃W:Nat->Nat->List V->Hp->Prop,(∃m,W 0 m [] (upd H1 D (.lst [])))/\∀i m ys H,W i m ys H->
  (J.stop i H/\Q (.ref D) H)\/(J.go i H/\∀x H',J.yld i H x H'->g x (ee own kp σ) H' fun A0 H2=>tc A0 H2 fun c H3=>
    if c=true then te A0 H3 fun y H4=>H4 D=some (.lst ys)/\ys.length<sizeLine/\∃m',m'<m/\W (i+1) m' (ys++[y]) (upd H4 D (.lst (ys++[y])))
    else ∃m',m'<m/\W (i+1) m' ys H3)
section
variable {X:Cx} {scope:Scope} {own:List Str} {kp:List Nat} {kn:List Str} {tg iter elt:Expr} {ifs:List Expr} {wi:TI} {g:TG} {tc:TT} {te:TE} {pos:Pos}
def CK{pins:Aaa}{σ:St}{H:Hp}{s:Qdd}{fp:List Addr}{it D:Addr}{tn:Nat->Heap->Prop}{J:It}{Q:VK}{kz:Heap}{tk:Nat}{R:Result->Qdd->Prop}
 (hc:X.calm=true) (C:bg X scope own kp kn) (I:Inv X pins σ H s) (hf:∀b∈fp,u_ X pins H b) (hb:∀b∈fp,b<s.heap.objs.size) (T:Turn X.prog X.w X.K tg J fp it tn)
 (hg:PG (bx X scope (own++kn) fp s H) tg g) (hi:sL (bx X scope (own++kn) fp s H) ifs tc) (he:PE (bx X scope (own++kn) fp s H) elt te)
 (hn:kz.Ns s.heap.objs.size (fun _=>none)) (hk:∀b o,s.heap.get? b=some o->kz.get? b=some o) (hC:CellsOk kz (s.heap.objs.size+1) (cellsFrom (s.heap.objs.size+1) scope.names [])) (st:tn 0 s.heap)
 (W:Nat->Nat->List V->Hp->Prop) (w0:∃m,W 0 m [] H)
 (turn:∀i m ys H,W i m ys H->
   (J.stop i H/\Q (.ref D) H)\/(J.go i H/\∀x H',J.yld i H x H'->g x (ee own kp σ) H' fun A0 H2=>tc A0 H2 fun c H3=>
     if c=true then te A0 H3 fun y H4=>H4 D=some (.lst ys)/\ys.length<sizeLine/\∃m',m'<m/\W (i+1) m' (ys++[y]) (upd H4 D (.lst (ys++[y])))
     else ∃m',m'<m/\W (i+1) m' ys H3))
 (hR:∀H' s' c7,Inv (bx X scope (own++kn) fp s H) [] c7 H' s'->Q (.ref D) H'->R (.ok .next) s') :
 codeAny (model X.prog X.w) X.A (.compStart (.ListComp elt [⟨tg,iter,ifs,0⟩] scope pos) 0 (.ref it) (.ref D) (bx X scope (own++kn) fp s H).env) R {s with heap:=kz,toks:=tk}:=by
 have I1:Inv (bx X scope (own++kn) fp s H) [] (ee own kp σ) H {s with heap:=kz,toks:=tk}:=JD C I hf hb hn hk hC
 have Yz:tn 0 kz:=T.keep _ _ _ st fun b _ o e=>hk b o e
 have fp1:∀{H':Hp} {p:Aaa},(∀b∈fp,H' b=none)->(∀b∈fp,∀q∈p,q.1≠b)->∀b∈fp,u_ (bx X scope (own++kn) fp s H) p H' b:=fun {H' p} hn hp b qB=>
  ⟨hn b qB,(I1.ok.exf b qB).1,I1.ok.exfs b qB, .inl qB,fun x c e=>(I1.ok.exf b qB).2 x c e,fun q hq=>hp b qB q hq⟩
 obtain⟨m0,w0⟩:=w0;have loop:codeAny (model X.prog X.w) X.A (.compLoop (.ListComp elt [⟨tg,iter,ifs,0⟩] scope pos) 0 (.ref it) (.ref D) (bx X scope (own++kn) fp s H).env) R {s with heap:=kz,toks:=tk}:=by
  refine codeAny_loop rfl (fun n s'=>∃i ys H',Inv (bx X scope (own++kn) fp s H) [] (ee own kp σ) H' s'/\tn i s'.heap/\(∀b∈fp,H' b=none)/\W i n ys H') (fun n s' hI=>?_) m0 ⟨0,[],H,I1,Yz,fun b qB=>(hf b qB).1,w0⟩
  obtain⟨i,ys,H3,I3,NV,UJ,w3⟩:=hI;show wpAny _ _ ((compTurn (.ListComp elt [⟨tg,iter,ifs,0⟩] scope pos) 0 (.ref it) (.ref D) (bx X scope (own++kn) fp s H).env).onRaise (fun x=>do noteFrame x (bx X scope (own++kn) fp s H).env;theTreesLotGoes x)) _ _ s'
  refine wpAny_noted (wpAny_noRaise ?_);rw[compTurn_list];refine Qaf (wpAny_standAt (Qaf ?_));rcases turn i n ys H3 w3 with⟨stop,q⟩ | ⟨go,step⟩
  .refine eO (T.done (bx X scope (own++kn) fp s H) rfl rfl rfl hc i [] s' _ H3 _ I3 (fp1 UJ (fun _ _ q hq=>by cases hq)) NV stop) fun r s4 ⟨hr,I4⟩=>?_
   subst hr;exact QaK (hR H3 s4 _ I4 q)
  .refine eO (T.item (bx X scope (own++kn) fp s H) rfl rfl rfl hc i [] s' _ H3 _ I3 (fp1 UJ (fun _ _ q hq=>by cases hq)) NV go) fun r s4 ⟨u,hr,h4⟩=>?_
   subst hr;refine Qaf (eO h4 fun _ s5 ⟨x,H5,I5,r5,y5,RL,XH⟩=>?_)
   have I5':=I5.pinned (fp1 XH (fun _ _ q hq=>by cases hq)) (T.obj _ _ RL)
   have keepIt:∀{CV:St} {H7:Hp} {s7:Qdd},Inv (bx X scope (own++kn) fp s H) ([]++ri fp s5.heap) CV H7 s7->tn (i+1) s7.heap/\∀b∈fp,H7 b=none:=fun {CV H7 s7} I7=>by
    refine⟨T.keep _ _ _ RL fun b hb o e=>(I7.pin (b,o) (Qa5 _ (Qa5 _ (nX hb e)))).1,fun b hb=>?_⟩
    obtain⟨o,e,d⟩:=T.obj _ _ RL b hb;exact(I7.pin (b,o) (Qa5 _ (Qa5 _ (nX hb e)))).2.1
   have reset:∀{CV:St} {H7:Hp} {s7:Qdd},Inv (bx X scope (own++kn) fp s H) ([]++ri fp s5.heap) CV H7 s7->Inv (bx X scope (own++kn) fp s H) [] (ee own kp σ) H7 s7:=fun {CV H7 s7} I7=>by
    have I8:=I7.sf;have hun:Un (ro X.stack) fp H H7 s.heap s7.heap:=I8.base;have I9:Inv X pins σ H7 s7:=wK I hf I8;refine⟨I8.ok,I8.os,I8.bare,I8.base,?_,I8.cell,I8.free,I8.freeC,I8.pin,I8.hok,I1.len⟩;obtain⟨m,hm,_⟩:=I8.loc;refine⟨m,hm,fun i x v h1 h2 h3=>?_⟩
    obtain⟨m1,Lx,Lw⟩:=I1.loc;obtain⟨u1,r1,l1⟩:=Lw i x v h1 h2 h3;have h1:(own++kn)[i]? =some x:=h1;have h2:(ee own kp σ)[i]? =some (some v):=h2;unfold ee at h2;by_cases hi:i<own.length
    .rw [Qam (by simpa using hi),QaT] at h2
     split at h2 <;> cases h2
    .rw [Qae (by simpa using hi),QaP,Qad] at h2
     rw[Qae (by simpa using hi)] at h1
     cases e:kp[i - own.length]? with
     | none=>rw [e] at h2;cases h2
     | some j=>
       rw[e] at h2;have h2:(σ[j]?).getD none=some v:=QaW h2;have hj:X.N[j]? =some x:=C.at_ _ j x e h1;have K0:σ[j]? =some (some v):=by
        cases q:σ[j]? with
        | none=>rw [q] at h2;cases h2
        | some y=>rw [q] at h2;exact Qbk some h2
       have hfree:scope.names.lookup x=some .free:=C.isfree x (QaH h1);have hkind:=C.free (x, .free) (Qbl hfree) rfl;obtain⟨m9,hm9,hl9⟩:=I9.loc;obtain⟨u,r,l⟩:=hl9 j x v hj K0 (hkind.elim (fun q=>Or.inr (Or.inl q)) fun q=>Or.inr (Or.inr q))
       refine⟨u,r, .inr ?_⟩;rcases l1 with⟨k,k2⟩ | ⟨k,c,hc,hcell⟩
       .have k:(relabel scope X.env).names.lookup x=some .local:=k;rcases fY k with z | ⟨z,_⟩
        .rw [hfree] at z;cases z
        .cases z
       .refine⟨k,c,hc,?_⟩;rcases l with⟨k',_⟩ | ⟨_,c',HJ,RW⟩
        .rcases hkind with q | q
         .rw [show X.env.kindOf x=some .cell from q] at k';cases k'
         .rw [show X.env.kindOf x=some .free from q] at k';cases k'
        .have hcl:(qz X.env.cells scope.names []).lookup x=some c:=(AM _ _ _ fun z=>by have:=C.cel _ z rfl;rw [hfree] at this;cases this).symm.trans hc
         rcases l9 scope.names [] hcl with q | ⟨q1,q2⟩
         .simp at q
         .rw [HJ] at q2;have q2:c=c':=q2;rw[q2];exact RW
   have hmm:=hg ([]++ri fp s5.heap) s5 (ee own kp σ) H5 x u _ I5' r5 (step x H5 y5);refine Qaf (eO hmm fun _ s6 ⟨UP,H6,I6,q6⟩=>?_)
   refine Qaf (eO (hi _ s6 UP H6 _ I6 q6) fun ok s7 ⟨H7,I7,q7⟩=>?_)
   cases ok with
   | false=>
     simp only[QbZ,if_false] at q7 ⊢;obtain⟨m',RY,w7⟩:=q7;obtain⟨a1,a2⟩:=keepIt I7;exact QaK ⟨rfl,m',RY,i+1,ys,H7,reset I7,a1,a2,w7⟩
   | true=>
     simp only[QbO] at q7 ⊢;refine Qaf (Qaf (eO (he _ s7 UP H7 _ I7 q7) fun yv s8 ⟨y,H8,I8,r8,hD,nE,m',RY,w8⟩=>Qaf ?_))
     obtain⟨a1,a2⟩:=keepIt I8;refine eO (um _ s8 UP H8 (.ref D) [y] (.ref D) [yv] (fun v H9=>v= .cR/\H9=upd H8 D (.lst (ys++[y]))) I8 rfl (.cons r8 .nil) ⟨D,ys,y,rfl,rfl,hD,nE,rfl,rfl⟩) fun _ s9 ⟨v9,H9,I9,_,_,e9⟩=>?_
     subst e9;obtain⟨b1,b2⟩:=keepIt I9;exact QaK (QaK ⟨rfl,m',RY,i+1,ys++[y],_,reset I9,b1,b2,w8⟩)
 exact codeAny_compStart_list loop (T.self _ _ _ _ _ Yz loop)
def FP(hc:X.calm=true)(C:bg X scope own kp kn)(hi:PI X tg iter wi)(hg:∀fp s H,PG (bx X scope (own++kn) fp s H) tg g)(A4:∀fp s H,sL (bx X scope (own++kn) fp s H) ifs tc)
 (he:∀fp s H,PE (bx X scope (own++kn) fp s H) elt te) (hs:∀x,foldedSetIterable iter X.env x=pure x:=by intro _;rfl):PE X (.ListComp elt [⟨tg,iter,ifs,0⟩] scope pos) (EU wi g tc te own kp):=by
 intro pins s σ H Q I h;rw[eval_ListComp];refine wpAny_comprehension_free (use:=none) rfl hs (oI (rm C I)) C.kind C.nd (eO (hi pins s σ H _ I h) fun v s1 h1=>eO h1 fun U_ s2 h2=>?_)
 obtain⟨it,fp,tn,J,H2,e,I2,T,LA,f2,q⟩:=h2;subst e;refine Qco ?_;have I3:Inv X pins σ (upd H2 s2.heap.objs.size (.lst [])) {s2 with heap:=s2.heap.push {cls:= .type "list",dict:=none,data:= .seq ([]:List Value).toArray}}:=I2.NJ (its:=[]) (t':=s2.toks) .nil (QbG _)
 obtain⟨W,w0,turn⟩:=q s2.heap.objs.size I2.fresh;have fne:∀b∈fp,b<s2.heap.objs.size:=fun b hb=>let⟨o,e,_⟩:=T.obj _ _ LA b hb;Qaw e
 have f3:∀b∈fp,u_ X pins (upd H2 s2.heap.objs.size (.lst [])) b:=fun b hb=>⟨by rw[aZ (QaO (fne b hb))];exact(f2 b hb).1,(f2 b hb).2⟩
 generalize hs3:({s2 with heap:=s2.heap.push {cls:= .type "list",dict:=none,data:= .seq ([]:List Value).toArray}}:Qdd)=s3 at I3 ⊢
 have NV:tn 0 s3.heap:=by rw[<-hs3];exact T.keep _ _ _ LA fun b _ o e=>Qah _ e
 have fne3:∀b∈fp,b<s3.heap.objs.size:=fun b hb=>by rw[<-hs3];exact QaC (fne b hb) (by rw[Qbd];exact Nat.le_succ _)
 refine yT fun kz EK hk hC=>?_
 refine CK (D:=s2.heap.objs.size) hc C I3 f3 fne3 T (hg fp s3 _) (A4 fp s3 _) (he fp s3 _) EK hk hC NV W w0 turn fun H' s' c7 J' hq=>?_
 have B:=wK I3 f3 J';obtain⟨m',RY,_⟩:=J'.loc;refine⟨m',RY,fun h' sb=>⟨.ref s2.heap.objs.size,H',?_,rfl,hq⟩⟩
 have fC:=I3.wX (H':=H') (b:=s3.heap.objs.size) (Qag _) J'.free;exact B.turned (it:=s3.heap.objs.size) (t':=s'.toks) (fun b o hb e=>(sb.2 b hb).trans e) fC.1 fC.2.1 fC.2.2.2.1 fC.2.2.2.2.1 fC.2.2.2.2.2
def nS{i:Nat}{x:Str}{pos' qh:Pos}(hc:X.calm=true)(hN:X.N.Nodup)(hx:X.N[i]? =some x)(HM:X.env.scope.names.lookup x=some .local)(C:bg X scope own kp kn)(hi:PI X tg iter wi)
 (hg:∀fp s H,PG (bx X scope (own++kn) fp s H) tg g) (A4:∀fp s H,sL (bx X scope (own++kn) fp s H) ifs tc)
 (he:∀fp s H,PE (bx X scope (own++kn) fp s H) elt te)
 (vn:swapsWith (.ListComp elt [⟨tg,iter,ifs,0⟩] scope pos) (some (.Name x pos')) qh.line X.env=pure true:=by rfl)
 (hs:∀x,foldedSetIterable iter X.env x=pure x:=by intro _;rfl) :
 PS X (.Assign [.Name x pos'] (.ListComp elt [⟨tg,iter,ifs,0⟩] scope pos) qh) (GG (EU wi g tc te own kp) (xt i)):=by
 intro pins s σ H D I h;rw[exec_Assign_Name_used _ _ _ _ vn];refine Qaf (wpAny_standAt (Qaf ?_));show wpAny _ X.A (do let _ <-comprehension (.ListComp elt [⟨tg,iter,ifs,0⟩] scope pos) scope X.env _ (newList []) false (eval iter X.env) (some (assign (.Name x pos') X.env))) _ _ s
 refine Qaf (QcB (wpAny_comprehension_free (use:=some (assign (.Name x pos') X.env)) (Q:=fun _ s'=>SP X pins D .next s') rfl hs (oI (rm C I)) C.kind C.nd
  (eO (hi pins s σ H _ I h) fun v s1 h1=>eO h1 fun U_ s2 h2=>?_)) (fun _ s' hq=>QaK (QaK hq)) fun _ _ e=>e)
 obtain⟨it,fp,tn,J,H2,e,I2,T,LA,f2,q⟩:=h2;subst e;refine Qco ?_;have I3:Inv X pins σ (upd H2 s2.heap.objs.size (.lst [])) {s2 with heap:=s2.heap.push {cls:= .type "list",dict:=none,data:= .seq ([]:List Value).toArray}}:=I2.NJ (its:=[]) (t':=s2.toks) .nil (QbG _)
 obtain⟨W,w0,turn⟩:=q s2.heap.objs.size I2.fresh;have fne:∀b∈fp,b<s2.heap.objs.size:=fun b hb=>let⟨o,e,_⟩:=T.obj _ _ LA b hb;Qaw e
 have f3:∀b∈fp,u_ X pins (upd H2 s2.heap.objs.size (.lst [])) b:=fun b hb=>⟨by rw[aZ (QaO (fne b hb))];exact(f2 b hb).1,(f2 b hb).2⟩
 generalize hs3:({s2 with heap:=s2.heap.push {cls:= .type "list",dict:=none,data:= .seq ([]:List Value).toArray}}:Qdd)=s3 at I3 ⊢
 have NV:tn 0 s3.heap:=by rw[<-hs3];exact T.keep _ _ _ LA fun b _ o e=>Qah _ e
 have fne3:∀b∈fp,b<s3.heap.objs.size:=fun b hb=>by rw[<-hs3];exact QaC (fne b hb) (by rw[Qbd];exact Nat.le_succ _)
 refine yT fun kz EK hk hC=>?_
 refine CK (Q:=fun x H1=>xt i x σ H1 D.nx) (D:=s2.heap.objs.size) hc C I3 f3 fne3 T (hg fp s3 _) (A4 fp s3 _) (he fp s3 _) EK hk hC NV W w0 turn fun H' s' c7 J' hq=>?_
 have B:=wK I3 f3 J';obtain⟨m',RY,_⟩:=J'.loc;have fC:=I3.wX (H':=H') (b:=s3.heap.objs.size) (Qag _) J'.free;show wpAny _ X.A (assign (.Name x pos') X.env (.ref s2.heap.objs.size)) _ _ s';refine wpAny_assign_Name (yS B hN hx (.inl HM) (v:= .ref s2.heap.objs.size) rfl (fun s4 I4 ⟨a,sb,ha⟩=>?_) (.inr HM))
 have ha':s3.heap.objs.size≠a:=by
  rcases ha with rfl | z
  .exact fC.2.1
  .exact fun e=>fC.2.2.2.2.1 x a z e.symm
 refine⟨m',RY.sameBut sb ha',fun h' sb'=>⟨_,H',?_,hq⟩⟩
 exact I4.turned (it:=s3.heap.objs.size) (t':=s4.toks) (fun b o hb e=>(sb'.2 b hb).trans e) fC.1 fC.2.1 fC.2.2.2.1 fC.2.2.2.2.1 fC.2.2.2.2.2
end
inductive D where
 | cR | bl (b:Bool) | int (i:Int) | str (x:Str) | lst (ds:List D) | tup (ds:List D) | dct (ks:List Key) (ds:List D)
inductive R (α:Type) where
 | ok (a:α) | ex (c:Nat) | no
def R.bind{α β:Type}:R α->(α->R β)->R β
 | .ok a,f=>f a
 | .ex c,_=> .ex c
 | .no,_=> .no
def R.aq{α β:Type}{r:R α}{f:α->R β}{b:β}(h:r.bind f= .ok b):∃a,r= .ok a/\f a= .ok b:=by
 cases r with
 | ok a=>exact⟨a,rfl,h⟩
 | ex c=>cases h
 | no=>cases h
@[simp] theorem R.aS{α β:Type}(a:α)(f:α->R β):(R.ok a).bind f=f a:=rfl
def R.bV{α:Type}(c:Bool)(r:R α):R α:=if c then r else .no
def R.ba{α:Type}{c:Bool}{r:R α}{a:α}(h:R.bV c r= .ok a):c=true/\r= .ok a:=by
 cases c with
 | true=>exact⟨rfl,h⟩
 | false=>cases h
@[simp] theorem R.R1{α:Type}(r:R α):R.bV true r=r:=rfl
def wF(K:Qdc)(B:List Addr)(H:Hp)(a:Addr)(xs:List V):Prop:=
 (a ∉ B/\Rd H a (.lst xs))\/∃(its:List Value) (n:Nat),K.lookup a=some {cls:= .type "list",data:= .seq its.toArray n}/\xs.length<=sizeLine/\Vals xs its
def za(K:Qdc)(B:List Addr)(H:Hp)(a:Addr)(xs:List V):Prop:=
 (a ∉ B/\Rd H a (.tup xs))\/∃(o:Obj) (its:Array Value) (n:Nat),K.lookup a=some o/\o.cls= .type "tuple"/\o.data= .seq its n/\its.size<=sizeLine/\Vals xs its.toList
def wF.sq{K:Qdc}{B:List Addr}{a:Addr}{xs:List V}(h:wF K B H a xs):rB K H a xs:=by
 rcases h with z | ⟨its,n,hk,hz,r⟩
 .exact .inl z.2
 .exact .inr ⟨_,its.toArray,n,hk,rfl,rfl,rfl,by rw[QaG,<-r.length];exact hz,by simpa using r⟩
def za.sq{K:Qdc}{B:List Addr}{a:Addr}{xs:List V}(h:za K B H a xs):vm K H a xs:=h.elim (fun z=> .inl z.2) .inr
mutual
def Rep(K:Qdc)(B:List Addr)(H:Hp):D->V->Prop
 | .cR,v=>v= .cR
 | .bl b,v=>v= .bl b
 | .int i,v=>v= .int i
 | .str x,v=>v= .str x
 | .lst ds,v=>∃a xs,v= .ref a/\wF K B H a xs/\aL K B H ds xs
 | .tup ds,v=>∃a xs,v= .ref a/\za K B H a xs/\aL K B H ds xs
 | .dct ks ds,v=>∃(a:Addr) (kvs:List (Key × V)),v= .ref a/\(a ∉ B/\H a=some (.dK kvs))/\kvs.map (·.1)=ks/\aL K B H ds (kvs.map (·.2))
def aL(K:Qdc)(B:List Addr)(H:Hp):List D->List V->Prop
 | [],xs=>xs=[]
 | d ::ds,xs=>∃x r,xs=x ::r/\Rep K B H d x/\aL K B H ds r
end
def dQ(B:List Addr)(H:Hp)(B':List Addr)(H':Hp):Prop:=∀b o,H b=some o->b ∉ B->H' b=some o/\b ∉ B'
def dQ.rd{B B':List Addr}(p:dQ B H B' H'){a:Addr}{u:HO}(h:Rd H a u)(n:a ∉ B):Rd H' a u/\a ∉ B':=by
 rcases h with e | ⟨o,e⟩
 .exact⟨.inl (p a _ e n).1,(p a _ e n).2⟩
 .exact⟨.inr ⟨o,(p a _ e n).1⟩,(p a _ e n).2⟩
def dQ.trans{B B' UA:List Addr}(p:dQ B H B' H')(q:dQ B' H' UA qv):dQ B H UA qv:=fun b o e n=>
 let⟨e1,n1⟩:=p b o e n;q b o e1 n1
def dQ.same{B:List Addr}(s:aX H H'):dQ B H B H':=fun b o e n=>⟨s b o e,n⟩
def dQ.refl(B:List Addr)(H:Hp):dQ B H B H:=dQ.same (aX.refl H)
def wF.bw{K:Qdc}{B B':List Addr}(p:dQ B H B' H'){a:Addr}{xs:List V}(l:wF K B H a xs):wF K B' H' a xs:=
 l.elim (fun z=> .inl ⟨(p.rd z.2 z.1).2,(p.rd z.2 z.1).1⟩) .inr
mutual
theorem Rep.bw{K:Qdc}{B B':List Addr}(p:dQ B H B' H'):∀{d:D} {v:V},Rep K B H d v->Rep K B' H' d v
 | .cR,_,h=>h
 | .bl _,_,h=>h
 | .int _,_,h=>h
 | .str _,_,h=>h
 | .lst ds,v,h=>by
   unfold Rep at h ⊢;obtain⟨a,xs,e,l,r⟩:=h;exact⟨a,xs,e,l.bw p,aL.bw p r⟩
 | .tup ds,v,h=>by
   unfold Rep at h ⊢;obtain⟨a,xs,e,l,r⟩:=h;exact⟨a,xs,e,l.elim (fun z=> .inl ⟨(p.rd z.2 z.1).2,(p.rd z.2 z.1).1⟩) .inr,aL.bw p r⟩
 | .dct ks ds,v,h=>by
   unfold Rep at h ⊢;obtain⟨a,kvs,e,⟨n,l⟩,k,r⟩:=h;exact⟨a,kvs,e,⟨(p a _ l n).2,(p a _ l n).1⟩,k,aL.bw p r⟩
theorem aL.bw{K:Qdc}{B B':List Addr}(p:dQ B H B' H'):∀{ds:List D} {xs:List V},aL K B H ds xs->aL K B' H' ds xs
 | [],_,h=>h
 | d ::ds,xs,h=>by
   unfold aL at h ⊢;obtain⟨x,r,e,h1,h2⟩:=h;exact⟨x,r,e,Rep.bw p h1,aL.bw p h2⟩
end
def Rep.same{K:Qdc}{B:List Addr}{d:D}{v:V}(h:Rep K B H d v)(s:aX H H'):Rep K B H' d v:=h.bw (dQ.same s)
def aL.same{K:Qdc}{B:List Addr}{d:List D}{v:List V}(h:aL K B H d v)(s:aX H H'):aL K B H' d v:=h.bw (dQ.same s)
def aL.nil{K:Qdc}{B:List Addr}:aL K B H [] []:=by unfold aL;rfl
def aL.cons{K:Qdc}{B:List Addr}{d:D}{ds:List D}{x:V}{xs:List V}(h:Rep K B H d x)(t:aL K B H ds xs):aL K B H (d ::ds) (x ::xs):=by
 unfold aL;exact⟨x,xs,rfl,h,t⟩
def aL.cN{K:Qdc}{B:List Addr}{d:D}{ds:List D}{xs:List V}(h:aL K B H (d ::ds) xs):∃x r,xs=x ::r/\Rep K B H d x/\aL K B H ds r:=by
 unfold aL at h;exact h
theorem aL.length{K:Qdc}{B:List Addr}:∀{ds:List D} {xs:List V},aL K B H ds xs->ds.length=xs.length
 | [],_,h=>by unfold aL at h;rw [h];rfl
 | d ::ds,xs,h=>by
   obtain⟨x,r,rfl,_,h2⟩:=h.cN;simp [h2.length]
theorem aL.get{K:Qdc}{B:List Addr}:∀{ds:List D} {xs:List V} {i:Nat} {d:D},aL K B H ds xs->ds[i]? =some d->∃x,xs[i]? =some x/\Rep K B H d x
 | [],_,_,_,_,e=>by simp at e
 | d ::ds,xs,0,d',h,e=>by
   obtain⟨x,r,rfl,h1,h2⟩:=h.cN;simp at e;subst e;exact⟨x,rfl,h1⟩
 | d ::ds,xs,i+1,d',h,e=>by
   obtain⟨x,r,rfl,h1,h2⟩:=h.cN;obtain⟨y,e1,e2⟩:=aL.get (i:=i) h2 (by simpa using e)
   exact⟨y,by simpa using e1,e2⟩
theorem aL.append{K:Qdc}{B:List Addr}:∀{ds es:List D} {xs ys:List V},aL K B H ds xs->aL K B H es ys->aL K B H (ds++es) (xs++ys)
 | [],_,_,_,h,t=>by unfold aL at h;subst h;exact t
 | d ::ds,es,xs,ys,h,t=>by
   obtain⟨x,r,rfl,h1,h2⟩:=h.cN;exact aL.cons h1 (aL.append h2 t)
theorem aL.drop{K:Qdc}{B:List Addr}:∀{ds:List D} {xs:List V} (n:Nat),aL K B H ds xs->aL K B H (ds.drop n) (xs.drop n)
 | _,_,0,h=>h
 | [],_,n+1,h=>by unfold aL at h;subst h;exact aL.nil
 | d ::ds,xs,n+1,h=>by
   obtain⟨x,r,rfl,h1,h2⟩:=h.cN;exact aL.drop n h2
theorem aL.take{K:Qdc}{B:List Addr}:∀{ds:List D} {xs:List V} (n:Nat),aL K B H ds xs->aL K B H (ds.take n) (xs.take n)
 | _,_,0,h=>aL.nil
 | [],_,n+1,h=>by unfold aL at h;subst h;exact aL.nil
 | d ::ds,xs,n+1,h=>by
   obtain⟨x,r,rfl,h1,h2⟩:=h.cN;exact aL.cons h1 (aL.take n h2)
def D.atom:D->Bool
 | .cR=>true | .bl _=>true | .int _=>true | .str _=>true | _=>false
def Rep.atom{K:Qdc}{B B':List Addr}{d:D}{v:V}(a:d.atom=true)(h:Rep K B H d v):Rep K B' H' d v:=by
 cases d <;> first | exact h | cases a
inductive Sl where
 | un | val (d:D) | bld (ds:List D)
abbrev az:=List Sl
structure eD (K:Qdc) (Z B:List Addr) (H:Hp) (σ:St) (δ:az):Prop where
 len:δ.length=σ.length
 bs:∀a∈B,∃o,H a=some o
 zb:∀a∈Z,a∈B
 val:∀(i:Nat) (d:D),δ[i]? =some (.val d)->∃v,σ[i]? =some (some v)/\Rep K B H d v
 bld:∀(i:Nat) (ds:List D),δ[i]? =some (.bld ds)->∃a xs,σ[i]? =some (some (.ref a))/\a∈B/\a ∉ Z/\H a=some (.lst xs)/\aL K B H ds xs
 dis:∀(i j:Nat) (a:Addr) (ds es:List D),δ[i]? =some (.bld ds)->δ[j]? =some (.bld es)->σ[i]? =some (some (.ref a))->σ[j]? =some (some (.ref a))->i=j
def eD.same{K:Qdc}{Z B:List Addr}{δ:az}(E:eD K Z B H σ δ)(s:aX H H'):eD K Z B H' σ δ where
 len:=E.len
 bs:=fun a ha=>let⟨o,e⟩:=E.bs a ha;⟨o,s a o e⟩
 zb:=E.zb
 val:=fun i d e=>let⟨v,h1,h2⟩:=E.val i d e;⟨v,h1,h2.same s⟩
 bld:=fun i ds e=>let⟨a,xs,h1,h2,h3,h4,h5⟩:=E.bld i ds e;⟨a,xs,h1,h2,h3,s a _ h4,h5.same s⟩
 dis:=E.dis
def wa(δ:az):az:=δ.map fun x=>match x with | .bld ds=> .val (.lst ds) | y=>y
def eD.wa{K:Qdc}{Z B:List Addr}{δ:az}(E:eD K Z B H σ δ):eD K [] [] H σ (wa δ) where
 len:=by unfold L2.wa;rw [Qaa];exact E.len
 bs:=fun a ha=>by cases ha
 zb:=fun a ha=>by cases ha
 val:=fun i d e=>by
  unfold L2.wa at e;rw[Qad] at e;have p:dQ B H [] H:=fun b o e _=>⟨e,by simp⟩
  cases q:δ[i]? with
  | none=>rw [q] at e;cases e
  | some x=>
    rw[q] at e;cases x with
    | un=>cases e
    | val d'=>cases e;obtain⟨v,h1,h2⟩:=E.val i d q;exact⟨v,h1,h2.bw p⟩
    | bld ds=>
      cases e;obtain⟨a,xs,h1,_,_,h4,h5⟩:=E.bld i ds q;refine⟨.ref a,h1,?_⟩;unfold Rep;exact⟨a,xs,rfl, .inl ⟨by simp, .inl h4⟩,h5.bw p⟩
 bld:=fun i ds e=>by
  unfold L2.wa at e;rw[Qad] at e;cases q:δ[i]? with
  | none=>rw [q] at e;cases e
  | some x=>rw [q] at e;cases x <;> cases e
 dis:=fun i j a ds es e=>by
  unfold L2.wa at e;rw[Qad] at e;cases q:δ[i]? with
  | none=>rw [q] at e;cases e
  | some x=>rw [q] at e;cases x <;> cases e
def PE.imp{X:Cx}{t t':TE}(h:PE X e t)(w:∀σ H Q,t' σ H Q->t σ H Q):PE X e t':=fun pins s σ H Q I hq=>h pins s σ H Q I (w σ H Q hq)
def PT.imp{X:Cx}{t t':TT}(h:PT X e t)(w:∀σ H Q,t' σ H Q->t σ H Q):PT X e t':=fun pins s σ H Q I hq=>h pins s σ H Q I (w σ H Q hq)
def PA.imp{X:Cx}{t t':TA}(h:PA X e t)(w:∀σ H Q,t' σ H Q->t σ H Q):PA X e t':=fun pos pins s σ H Q I hq=>h pos pins s σ H Q I (w σ H Q hq)
def PS.imp{X:Cx}{t t':TS}(h:PS X e t)(w:∀D σ H,t' D σ H->t D σ H):PS X e t':=fun pins s σ H D I hq=>h pins s σ H D I (w D σ H hq)
def AE.imp{X:Cx}{t t':TS}(h:AE X e t)(w:∀D σ H,t' D σ H->t D σ H):AE X e t':=fun pins s σ H D I hq=>h pins s σ H D I (w D σ H hq)
def PG.imp{X:Cx}{t t':TG}(h:PG X e t)(w:∀v σ H Q,t' v σ H Q->t v σ H Q):PG X e t':=fun pins s σ H v u Q I r hq=>h pins s σ H v u Q I r (w v σ H Q hq)
def PI.imp{X:Cx}{t t':TI}(h:PI X tg e t)(w:∀σ H Q,t' σ H Q->t σ H Q):PI X tg e t':=fun pins s σ H Q I hq=>h pins s σ H Q I (w σ H Q hq)
abbrev FD:=az->R D
def tD(K:Qdc)(f:FD):TE:=fun σ H Q=>∃Z B δ d,eD K Z B H σ δ/\f δ= .ok d/\∀v H',aX H H'->Rep K B H' d v->Q v H'
def tN(K:Qdc)(f:az->R (List D)):TE:=fun σ H Q=>∃Z B δ ds,eD K Z B H σ δ/\f δ= .ok ds/\∀a xs H',aX H H'->H a=none->H' a=some (.lst xs)->aL K (a ::B) H' ds xs->Q (.ref a) H'
def N7(K:Qdc)(f:az->R Bool):TT:=fun σ H Q=>∃Z B δ b,eD K Z B H σ δ/\f δ= .ok b/\∀H',aX H H'->Q b H'
def X3(K:Qdc)(f:az->R (List D)):TA:=fun σ H Q=>∃Z B δ ds,eD K Z B H σ δ/\f δ= .ok ds/\∀vs H',aX H H'->aL K B H' ds vs->Q vs H'
abbrev PD(X:Cx)(e:Expr)(f:FD):Prop:=PE X e (tD X.K f)
abbrev PN(X:Cx)(e:Expr)(f:az->R (List D)):Prop:=PE X e (tN X.K f)
abbrev PB(X:Cx)(e:Expr)(f:az->R Bool):Prop:=PT X e (N7 X.K f)
abbrev Lr(X:Cx)(es:List Expr)(f:az->R (List D)):Prop:=PA X es (X3 X.K f)
section
variable {X:Cx}
def eNew(f:az->R (List D)):FD:=fun δ=>(f δ).bind fun ds=> .ok (.lst ds)
def PL{f:az->R (List D)}(h:PN X e f):PD X e (eNew f):=h.imp fun σ H Q ⟨Z,B,δ,d,E,hf,q⟩=>by
 obtain⟨ds,h1,h2⟩:=R.aq hf;cases h2;refine⟨Z,B,δ,ds,E,h1,fun a xs H' s n e r=>q _ H' s ?_⟩
 unfold Rep;refine⟨a,xs,rfl, .inl ⟨fun ha=>?_, .inl e⟩,r.bw fun b o e nb=>⟨e,fun hb=>nb (Qai _ hb)⟩⟩
 obtain⟨o,ho⟩:=E.bs a ha;rw[n] at ho;cases ho
def CB{B:List Addr}{H:Hp}{p:Addr}{o:HO}(h:H p=none):dQ B H (p ::B) (upd H p o):=fun b u e nb=>
 ⟨by rw[aZ (bU e h)];exact e,fun hb=>by
   rcases Qar.mp hb with z | z
   .exact bU e h z
   .exact nb z⟩
def Bq(f:FD):FD:=fun δ=>(f (wa δ)).bind fun d=>R.bV d.atom (.ok d)
def Na(h:PD X e f):PD X e (Bq f):=h.imp fun σ H Q ⟨Z,B,δ,d,E,hf,q⟩=>by
 obtain⟨d',h1,h2⟩:=R.aq hf;obtain⟨ha,h3⟩:=R.ba h2;cases h3;exact⟨[],[],L2.wa δ,d,E.wa,h1,fun v H' s r=>q v H' s (r.atom ha)⟩
def X6(f:az->R Bool):az->R Bool:=fun δ=>f (wa δ)
def af(i:Nat):FD:=fun δ=>match δ[i]? with | some (.val d)=> .ok d | _=> .no
def eC(d:D):FD:=fun _=> .ok d
def Qd(i:Nat){x:Str}{pos:Pos}(hN:X.N[i]? =some x:=by rfl)(hv:GQ X.env.scope x:=by first | exact Or.inl rfl | exact Or.inr Qc9 | exact Or.inr (Or.inr rfl))(hd:(x==("__debug__":Str))=false:=by decide)
 (qC:(x==("__classdict__":Str))=false:=by decide):PD X (.Name x pos) (af i):=(pL hN hv hd qC).imp fun σ H Q ⟨Z,B,δ,d,E,hf,q⟩=>by
 unfold af at hf;split at hf
 .rename_i d' e;cases hf;obtain⟨v,h1,h2⟩:=E.val i d e;exact⟨v,h1,q v H (aX.refl H) h2⟩
 .cases hf
def pG{v:V}{d:D}(h:PE X e (tC v))(r:∀B H,Rep X.K B H d v):PD X e (eC d):=h.imp fun σ H Q ⟨Z,B,δ,d',E,hf,q⟩=>by
 cases hf;exact q v H (aX.refl H) (r B H)
def Rg{i j pos}:PD X (.Constant (.int i) j pos) (eC (.int i)):=pG Rk fun _ _=>by unfold Rep;rfl
def Ss{b j pos}:PD X (.Constant (.bool b) j pos) (eC (.bl b)):=pG S5 fun _ _=>by unfold Rep;rfl
def Ql{j pos}:PD X (.Constant .none j pos) (eC .cR):=pG RC fun _ _=>by unfold Rep;rfl
def RJ{x j pos}:PD X (.Constant (.str x) j pos) (eC (.str x)):=pG Rw fun _ _=>by unfold Rep;rfl
def Glob(K:Qdc)(mg:Aaf)(x:Str)(d:D):Prop:=∃(u:Value) (v:V),mg x=some u/\RelV v u/\∀B H,Rep K B H d v
def LB{d:D}{pos:Pos}(g:Glob X.K X.mg x d)(hg:Gl X x)(hd:(x==("__debug__":Str))=false:=by decide):PD X (.Name x pos) (eC d):=by
 obtain⟨u,v,hm,r,h⟩:=g;exact pG (vJ hg hm r hd) h
def aH:az->R (List D):=fun _=> .ok []
def aj(f:FD)(g:az->R (List D)):az->R (List D):=fun δ=>(f δ).bind fun d=>(g δ).bind fun ds=> .ok (d ::ds)
def MS:Lr X [] aH:=jl.imp fun σ H Q ⟨Z,B,δ,d,E,hf,q⟩=>by
 cases hf;exact q [] H (aX.refl H) aL.nil
def Jj{g:az->R (List D)}(h:PD X e f)(t:Lr X es g)(hs:starEach (e ::es) X.env=(false,eval e X.env) ::starEach es X.env:=by rfl):Lr X (e ::es) (aj f g):=
 (eV h t hs).imp fun σ H Q ⟨Z,B,δ,d,E,hf,q⟩=>by
   obtain⟨d1,h1,h2⟩:=R.aq hf;obtain⟨ds,h3,h4⟩:=R.aq h2;cases h4;exact⟨Z,B,δ,d1,E,h1,fun v H1 s1 r1=>⟨Z,B,δ,ds,E.same s1,h3,fun vs H2 s2 r2=>q _ H2 (s1.trans s2) (aL.cons (r1.same s2) r2)⟩⟩
def dk(g:az->R (List D)):FD:=fun δ=>(g δ).bind fun ds=>R.bV (decide (ds.length<=sizeLine)) (.ok (.tup ds))
def gH(g:az->R (List D)):az->R (List D):=fun δ=>(g δ).bind fun ds=>R.bV (decide (ds.length<=sizeLine)) (.ok ds)
def bf{H:Hp}{p:Addr}{o:HO}(h:H p=none):aX H (upd H p o):=fun b u e=>by rw[aZ (bU e h)];exact e
def Rv{g:az->R (List D)}{x1 pos}(h:Lr X es g):PD X (.Tuple es x1 pos) (dk g):=(JT h).imp fun σ H Q ⟨Z,B,δ,d,E,hf,q⟩=>by
 obtain⟨ds,h1,h2⟩:=R.aq hf;obtain⟨hl,h3⟩:=R.ba h2;cases h3;refine⟨Z,B,δ,ds,E,h1,fun vs H1 s1 r1=>⟨by rw[<-r1.length];exact Qak hl,fun p hp=>q _ _ (s1.trans (bf hp)) ?_⟩⟩
 unfold Rep;refine⟨p,vs,rfl, .inl ⟨fun ha=>?_, .inl bj⟩,r1.same (bf hp)⟩
 obtain⟨o,ho⟩:=(E.same s1).bs p ha;rw[hp] at ho;cases ho
def QY{g:az->R (List D)}{pos}(h:Lr X es g):PN X (.List es pos) (gH g):=(J_ h).imp fun σ H Q ⟨Z,B,δ,d,E,hf,q⟩=>by
 obtain⟨ds,h1,h2⟩:=R.aq hf;obtain⟨hl,h3⟩:=R.ba h2;cases h3;exact⟨Z,B,δ,_,E,h1,fun vs H1 s1 r1=>⟨by rw[<-r1.length];exact Qak hl,fun p hp=>q p vs _ (s1.trans (bf hp)) (s1.free hp) bj (r1.bw (CB hp))⟩⟩
def nL(X:Cx)(f:Value->Value->Sem Value)(g:D->D->R D):Prop:=
 ∀(pins:Aaa) (s:Qdd) (σ:St) (H:Hp) (B:List Addr) (da db d:D) (x y:V) (v u:Value),Inv X pins σ H s->(∀a∈B,∃o,H a=some o)->RelV x v->RelV y u->Rep X.K B H da x->Rep X.K B H db y->g da db= .ok d->
  wpAny (model X.prog X.w) X.A (f v u) (EP X pins σ fun z H'=>aX H H'/\Rep X.K B H' d z) X.xe s
def e2(g:D->D->R D)(fa fb:FD):FD:=fun δ=>(fa δ).bind fun a=>(fb δ).bind fun b=>g a b
def nL.r{f:Value->Value->Sem Value}{g:D->D->R D}(h:nL X f g):oV X f (fun x y H Q=>∃B da db d,(∀a∈B,∃o,H a=some o)/\Rep X.K B H da x/\Rep X.K B H db y/\g da db= .ok d/\∀z H',aX H H'->Rep X.K B H' d z->Q z H'):=by
 intro pins s σ H x y v u Q I rx ry ⟨B,da,db,d,hb,ha,qB,hg,q⟩;exact eO (h pins s σ H B da db d x y v u I hb rx ry ha qB hg) fun z s' ⟨zv,H',I',r',s1,r1⟩=>⟨zv,H',I',r',q zv H' s1 r1⟩
def Ro{K:Qdc}{g:D->D->R D}{Q:VK}(h:tD K (e2 g fa fb) σ H Q) :
 R7 (fun x y H Q=>∃B da db d,(∀a∈B,∃o,H a=some o)/\Rep K B H da x/\Rep K B H db y/\g da db= .ok d/\∀z H',aX H H'->Rep K B H' d z->Q z H') (tD K fa) (tD K fb) σ H Q:=by
 obtain⟨Z,B,δ,d,E,hf,q⟩:=h;obtain⟨d1,h1,h2⟩:=R.aq hf;obtain⟨d2,h3,h4⟩:=R.aq h2;exact⟨Z,B,δ,d1,E,h1,fun v1 H1 s1 r1=>⟨Z,B,δ,d2,E.same s1,h3,fun v2 H2 s2 r2=>⟨B,d1,d2,d,(E.same (s1.trans s2)).bs,r1.same s2,r2,h4,fun z H' s3 r3=>q z H' (s1.trans (s2.trans s3)) r3⟩⟩⟩
def TJ{op:Operator}{g:D->D->R D}(ho:nL X (binaryOp op) g)(ha:PD X a fa)(hb:PD X b fb):PD X (.BinOp a op b pos) (e2 g fa fb):=
 (Iu ho.r ha hb).imp fun σ H Q h=>Ro h
def Q5{op:CmpOp}{g:D->D->R D}(ho:nL X (compareOp op) g)(ha:PD X a fa)(hb:PD X b fb)(hm:behindInMarks op b=false):PD X (.Compare a [op] [b] pos) (e2 g fa fb):=
 (Fs ho.r ha hb hm).imp fun σ H Q h=>Ro h
def b2(g:D->D->R D)(fa fb:FD):az->R Bool:=fun δ=>(e2 g fa fb δ).bind fun d=>match d with | .bl b=> .ok b | _=> .no
def QF{op:CmpOp}{g:D->D->R D}(ho:nL X (compareOp op) g)(ha:PD X a fa)(hb:PD X b fb)(hm:behindInMarks op b=false):PB X (.Compare a [op] [b] pos) (b2 g fa fb):=
 (EY ho.r ha hb hm).imp fun σ H Q ⟨Z,B,δ,b,E,hf,q⟩=>by
   obtain⟨d,h1,h2⟩:=R.aq hf;cases d with
   | bl k=>
     cases h2;exact Ro (g:=g) (Q:=fun x H'=>∃k,x= .bl k/\Q k H') ⟨Z,B,δ, .bl b,E,h1,fun v H' s r=>⟨b,by unfold Rep at r;exact r,q H' s⟩⟩
   | _=>cases h2
def Wr(g g':D->D->R D)(fa fb fc:FD):FD:=fun δ=>(fa δ).bind fun a=>(fb δ).bind fun b=>(g a b).bind fun r=>match r with
 | .bl true=>(fc δ).bind fun c=>g' b c
 | .bl false=> .ok (.bl false)
 | _=> .no
def L6:D->R Bool
 | .cR=> .ok false
 | .bl b=> .ok b
 | .int i=> .ok (i !=0)
 | .str x=>R.bV (decide (x.length<=sizeLine)) (.ok ((x.length:Int) !=0))
 | .lst ds=> .ok (!ds.isEmpty)
 | .tup ds=> .ok (!ds.isEmpty)
 | .dct _ _=> .no
def sO(f:FD):az->R Bool:=fun δ=>(f δ).bind L6
def aL.isEmpty{K:Qdc}{B:List Addr}{ds:List D}{xs:List V}(h:aL K B H ds xs):ds.isEmpty=xs.isEmpty:=by
 have:=h.length;cases ds <;> cases xs <;> simp_all
def IW{K:Qdc}{B:List Addr}{d:D}{v:V}{b:Bool}(r:Rep K B H d v)(h:L6 d= .ok b):NG K v H b:=by
 cases d with
 | cR=>unfold Rep at r;subst r;cases h;exact rfl
 | bl k=>unfold Rep at r;subst r;cases h;exact rfl
 | int i=>unfold Rep at r;subst r;cases h;exact rfl
 | str x=>unfold Rep at r;subst r;obtain⟨h1,h2⟩:=R.ba h;cases h2;exact⟨Qak h1,rfl⟩
 | lst ds=>unfold Rep at r;obtain⟨a,xs,rfl,l,r⟩:=r;cases h;exact .inl ⟨xs,l.sq,by rw[r.isEmpty]⟩
 | tup ds=>unfold Rep at r;obtain⟨a,xs,rfl,l,r⟩:=r;cases h;exact .inr (.inl ⟨xs,l.sq,by rw[r.isEmpty]⟩)
 | dct _ _=>cases h
def Rz{a:Expr}(ha:PD X a f)(he:∀whole,isTrue a X.env whole=(do let v <-whole;standAt a.pos;holding [v] (truthy v)):=by intro _;rfl):PB X a (sO f):=
 (CO ha he).imp fun σ H Q ⟨Z,B,δ,b,E,hf,q⟩=>by
   obtain⟨d,h1,h2⟩:=R.aq hf;exact⟨Z,B,δ,d,E,h1,fun v H' s r=>⟨b,IW r h2,q H' s⟩⟩
def Ht(f g:az->R Bool):az->R Bool:=fun δ=>(f δ).bind fun b=>if b then g δ else .ok false
def TX(f g:az->R Bool):az->R Bool:=fun δ=>(f δ).bind fun b=>if b then .ok true else g δ
def xy(f:az->R Bool):az->R Bool:=fun δ=>(f δ).bind fun b=> .ok (!b)
def Lk(X:Cx)(e:Expr)(f:az->R Bool):Prop:=PW X e (N7 X.K f)
def Lk.pb{f:az->R Bool}(h:Lk X e f):PB X e f:=PW.pt h
def JI{f:az->R Bool}(h:PB X a f):Lk X (.BoolOp .And [a] pos) f:=FJ h
def MC{f:az->R Bool}(h:PB X a f):Lk X (.BoolOp .Or [a] pos) f:=HZ h
def LR{rest:List Expr}{f g:az->R Bool}(ha:PB X a f)(hb:Lk X (.BoolOp .And (b ::rest) pos) g):Lk X (.BoolOp .And (a ::b ::rest) pos) (Ht f g):=by
 intro wh pins s σ H Q I ⟨Z,B,δ,k,E,hf,q⟩;refine Ks ha hb wh pins s σ H Q I ?_;obtain⟨c,h1,h2⟩:=R.aq hf;refine⟨Z,B,δ,c,E,h1,fun H1 s1=>?_⟩
 cases c with
 | true=>rw [QaD rfl] at h2 ⊢;exact⟨Z,B,δ,k,E.same s1,h2,fun H' s2=>q H' (s1.trans s2)⟩
 | false=>rw [QaB (by decide)] at h2 ⊢;cases h2;exact q H1 s1
def Qm{rest:List Expr}{f g:az->R Bool}(ha:PB X a f)(hb:Lk X (.BoolOp .Or (b ::rest) pos) g):Lk X (.BoolOp .Or (a ::b ::rest) pos) (TX f g):=by
 intro wh pins s σ H Q I ⟨Z,B,δ,k,E,hf,q⟩;refine OH ha hb wh pins s σ H Q I ?_;obtain⟨c,h1,h2⟩:=R.aq hf;refine⟨Z,B,δ,c,E,h1,fun H1 s1=>?_⟩
 cases c with
 | true=>rw [QaD rfl] at h2 ⊢;cases h2;exact q H1 s1
 | false=>rw [QaB (by decide)] at h2 ⊢;exact⟨Z,B,δ,k,E.same s1,h2,fun H' s2=>q H' (s1.trans s2)⟩
def P2{f:az->R Bool}(ha:PB X a f):PB X (.UnaryOp .Not a pos) (xy f):=(IX ha).imp fun σ H Q ⟨Z,B,δ,k,E,hf,q⟩=>by
 obtain⟨c,h1,h2⟩:=R.aq hf;cases h2;exact⟨Z,B,δ,c,E,h1,fun H1 s1=>q H1 s1⟩
def Sb(f:FD):az->R Bool:=fun δ=>(f δ).bind fun d=>match d with | .bl b=> .ok b | _=> .no
def JR(f g:FD):FD:=fun δ=>(Sb f δ).bind fun b=>if b then g δ else .ok (.bl false)
def eOr(f g:FD):FD:=fun δ=>(Sb f δ).bind fun b=>if b then .ok (.bl true) else g δ
def ZW(f:FD):FD:=fun δ=>(Sb f δ).bind fun b=> .ok (.bl (!b))
def Rm{f:FD}{δ:az}{b:Bool}(h:Sb f δ= .ok b):f δ= .ok (.bl b):=by
 obtain⟨d,h1,h2⟩:=R.aq h;cases d with
 | bl k=>cases h2;exact h1
 | _=>cases h2
def Q8{op}(h:PD X a f):PD X (.BoolOp op [a] pos) f:=Qs h
def Q4{rest:List Expr}(ha:PD X a f)(hb:PD X (.BoolOp .And (b ::rest) pos) g):PD X (.BoolOp .And (a ::b ::rest) pos) (JR f g):=(Rh ha hb).imp fun σ H Q ⟨Z,B,δ,k,E,hf,q⟩=>by
 obtain⟨c,h1,h2⟩:=R.aq hf;refine⟨Z,B,δ, .bl c,E,Rm h1,fun v H1 s1 r1=>⟨c,by unfold Rep at r1;exact r1,?_⟩⟩
 cases c with
 | true=>rw [QaD rfl] at h2 ⊢;exact⟨Z,B,δ,k,E.same s1,h2,fun v H' s2 r2=>q v H' (s1.trans s2) r2⟩
 | false=>rw [QaB (by decide)] at h2 ⊢;cases h2;exact q _ H1 s1 (by unfold Rep;rfl)
def Qy(c:az->R Bool)(f g:FD):FD:=fun δ=>(c δ).bind fun b=>if b then f δ else g δ
def T9{fc:az->R Bool}(hc:PB X c fc)(ha:PD X a f)(hb:PD X b g):PD X (.IfExp c a b pos) (Qy fc f g):=(IV hc ha hb).imp fun σ H Q ⟨Z,B,δ,k,E,hf,q⟩=>by
 obtain⟨c,h1,h2⟩:=R.aq hf;refine⟨Z,B,δ,c,E,h1,fun H1 s1=>?_⟩
 cases c with
 | true=>rw [QaD rfl] at h2 ⊢;exact⟨Z,B,δ,k,E.same s1,h2,fun v H' s2 r2=>q v H' (s1.trans s2) r2⟩
 | false=>rw [QaB (by decide)] at h2 ⊢;exact⟨Z,B,δ,k,E.same s1,h2,fun v H' s2 r2=>q v H' (s1.trans s2) r2⟩
def dn(X:Cx)(f:Value)(g:List D->R D):Prop:=
 ∀(pins:Aaa) (s:Qdd) (σ:St) (H:Hp) (B:List Addr) (ds:List D) (d:D) (xs:List V) (us:List Value),Inv X pins σ H s->(∀a∈B,∃o,H a=some o)->Vals xs us->aL X.K B H ds xs->g ds= .ok d->
  wpAny (model X.prog X.w) X.A (call f us) (EP X pins σ fun z H'=>aX H H'/\Rep X.K B H' d z) X.xe s
def aJ(g:List D->R D)(fs:az->R (List D)):FD:=fun δ=>(fs δ).bind g
def dn.r{f:Value}{g:List D->R D}(h:dn X f g):l3 X f (fun xs H Q=>∃B ds d,(∀a∈B,∃o,H a=some o)/\aL X.K B H ds xs/\g ds= .ok d/\∀z H',aX H H'->Rep X.K B H' d z->Q z H'):=by
 intro pins s σ H xs us Q I rx ⟨B,ds,d,hb,hr,hg,q⟩;exact eO (h pins s σ H B ds d xs us I hb rx hr hg) fun z s' ⟨zv,H',I',r',s1,r1⟩=>⟨zv,H',I',r',q zv H' s1 r1⟩
def Fh{K:Qdc}{g:List D->R D}{fs:az->R (List D)}{Q:VK}(h:tD K (aJ g fs) σ H Q) :
 X3 K fs σ H fun vs H1=>∃B ds d,(∀a∈B,∃o,H1 a=some o)/\aL K B H1 ds vs/\g ds= .ok d/\∀z H',aX H1 H'->Rep K B H' d z->Q z H':=by
 obtain⟨Z,B,δ,d,E,hf,q⟩:=h;obtain⟨ds,h1,h2⟩:=R.aq hf;exact⟨Z,B,δ,ds,E,h1,fun vs H1 s1 r1=>⟨B,ds,d,(E.same s1).bs,r1,h2,fun z H' s2 r2=>q z H' (s1.trans s2) r2⟩⟩
def HV{g:List D->R D}{x:Str}{id:String}{p pos:Pos}{e:Expr}{es:List Expr}{fs:az->R (List D)}(hc:dn X (.builtin id) g)(hg:Gl X x)(hm:X.mg x=none)(hv:bootBuiltins x=some (.builtin id))(ha:Lr X (e ::es) fs)(hn:x≠"__name__":=by decide)(oi:(x==("__debug__":Str))=false:=by decide)
 (he:starEach (e ::es) X.env=(false,eval e X.env) ::starEach es X.env:=by rfl) (jY:(backTo pos (starEach es X.env)).any (·.1)=false:=by rfl):PD X (.Call (.Name x p) (e ::es) [] pos) (aJ g fs):=
 (Br hc.r hg hm hv ha hn oi he jY).imp fun σ H Q h=>Fh h
def Hh{g:List D->R D}{x:Str}{T:String}{p pos:Pos}{e:Expr}{es:List Expr}{fs:az->R (List D)}(hc:dn X (.type T) g)(hg:Gl X x)(hm:X.mg x=none)(hv:bootBuiltins x=some (.type T))(ha:Lr X (e ::es) fs)(hn:x≠"__name__":=by decide)(oi:(x==("__debug__":Str))=false:=by decide)
 (he:starEach (e ::es) X.env=(false,eval e X.env) ::starEach es X.env:=by rfl) (jY:(backTo pos (starEach es X.env)).any (·.1)=false:=by rfl):PD X (.Call (.Name x p) (e ::es) [] pos) (aJ g fs):=
 (G8 hc.r hg hm hv ha hn oi he jY).imp fun σ H Q h=>Fh h
def Ik(K:Qdc)(n:Nat)(g:List D->R D):Sp:=fun vs H Q _=>vs.length=n/\∃B ds d,(∀a∈B,∃o,H a=some o)/\aL K B H ds vs/\g ds= .ok d/\∀z H',aX H H'->Rep K B H' d z->Q z H'
def MU{g:List D->R D}{k n:Nat}{f:Addr}{fd:FuncData}{ps:List Str}{x:Str}{p pos:Pos}{e:Expr}{es:List Expr}{fs:az->R (List D)}
 (F:j2 X.prog X.w X.K X.mg X.base yn k f fd ps (Ik X.K n g)) (hr:eW k X.A) (hg:Gl X x) (hm:X.mg x=some (.ref f)) (hk:PySem.W.keepIn X.K (.ref f)=true) (hb:Binds X.K fd ps []) (ha:Lr X (e ::es) fs)
 (hn:∀δ ds,fs δ= .ok ds->ds.length=n) (oi:(x==("__debug__":Str))=false:=by decide) (he:starEach (e ::es) X.env=(false,eval e X.env) ::starEach es X.env:=by rfl) (jY:(backTo pos (starEach es X.env)).any (·.1)=false:=by rfl) :
 PD X (.Call (.Name x p) (e ::es) [] pos) (aJ g fs):=
 (vt F hr hg hm hk hb .nil Cg ha oi he jY).imp fun σ H Q ⟨Z,B,δ,d,E,hf,q⟩=>by
   obtain⟨ds,h1,h2⟩:=R.aq hf;refine⟨Z,B,δ,ds,E,h1,fun vs H1 s1 r1=>?_⟩
   show Ik X.K n g (vs++[]) H1 Q E0;rw[Qa7];exact⟨by rw[<-r1.length];exact hn δ ds h1,B,ds,d,(E.same s1).bs,r1,h2,fun z H' s2 r2=>q z H' (s1.trans s2) r2⟩
end
end L2
end
section
namespace L2
open PySem PySem.Spec PyProof.Rows
inductive Out where
 | nx (δ:az) | rt (d:D)
abbrev FS:=az->R Out
structure Ev (Z B:List Addr) (H:Hp) (B':List Addr) (H':Hp):Prop where
 bw:dQ B H B' H'
 zs:∀b o,H b=some o->b∈Z->H' b=some o/\b∈B'
def Ev.refl(Z B:List Addr)(H:Hp)(zb:∀a∈Z,a∈B):Ev Z B H B H:=⟨dQ.refl B H,fun b o e z=>⟨e,zb b z⟩⟩
def Ev.trans{Z B B' UA:List Addr}(a:Ev Z B H B' H')(b:Ev Z B' H' UA qv):Ev Z B H UA qv:=
 ⟨a.bw.trans b.bw,fun c o e z=>let⟨e1,_⟩:=a.zs c o e z;b.zs c o e1 z⟩
def Ev.same{Z B:List Addr}(zb:∀a∈Z,a∈B)(s:aX H H'):Ev Z B H B H':=⟨dQ.same s,fun b o e z=>⟨s b o e,zb b z⟩⟩
def FL(K:Qdc)(Z B:List Addr)(H:Hp)(D:Ends):Out->Prop
 | .nx eT=>∀c7 B' H',Ev Z B H B' H'->eD K Z B' H' c7 eT->D.nx c7 H'
 | .rt d=>∀v B' H',Ev Z B H B' H'->(∀a∈Z,a∈B')->Rep K B' H' d v->D.rt v H'
def FL.ev{K:Qdc}{Z B B1:List Addr}{D:Ends}{o:Out}(q:FL K Z B H D o)(ev:Ev Z B H B1 H1):FL K Z B1 H1 D o:=by
 cases o with
 | nx eT=>exact fun c7 B' H' HB E'=>q c7 B' H' (ev.trans HB) E'
 | rt d=>exact fun v B' H' HB z r=>q v B' H' (ev.trans HB) z r
def sD(K:Qdc)(F:FS):TS:=fun D σ H=>∃Z B δ o,eD K Z B H σ δ/\F δ= .ok o/\FL K Z B H D o
abbrev JZ(X:Cx)(st:Stmt)(F:FS):Prop:=PS X st (sD X.K F)
abbrev vh(X:Cx)(st:List Stmt)(F:FS):Prop:=AE X st (sD X.K F)
section
variable {X:Cx}
def vc:FS:=fun δ=> .ok (.nx δ)
def fG(F G:FS):FS:=fun δ=>(F δ).bind fun o=>match o with | .nx eT=>G eT | .rt d=> .ok (.rt d)
def NH:vh X [] vc:=Az.imp fun D σ H ⟨Z,B,δ,o,E,hf,q⟩=>by
 cases hf;exact q σ B H (Ev.refl Z B H E.zb) E
def Qr{K:Qdc}{F G:FS}{D:Ends}(h:sD K (fG F G) D σ H):SY (sD K F) (sD K G) D σ H:=by
 obtain⟨Z,B,δ,o,E,hf,q⟩:=h;obtain⟨o1,h1,h2⟩:=R.aq hf;refine⟨Z,B,δ,o1,E,h1,?_⟩;cases o1 with
 | nx cX=>
   intro RV B1 H1 ev E1;refine⟨Z,B1,cX,o,E1,h2,?_⟩;cases o with
   | nx ef=>exact fun c7 B' H' HB E'=>q c7 B' H' (ev.trans HB) E'
   | rt d=>exact fun v B' H' HB z r=>q v B' H' (ev.trans HB) z r
 | rt d=>
   cases h2;exact q
def Ic{st:Stmt}{rest:List Stmt}{F G:FS}(h1:JZ X st F)(h2:vh X rest G):vh X (st ::rest) (fG F G):=(wq h1 h2).imp fun D σ H h=>Qr h
def Mi{st:Stmt}{F:FS}(h1:JZ X st F):vh X [st] F:=zJ h1
def eD.set{K:Qdc}{Z B:List Addr}{σ:St}{δ:az}(E:eD K Z B H σ δ){i:Nat}{d:D}{v:V}(hi:i<σ.length)(r:Rep K B H d v):eD K Z B H (σ.set i (some v)) (δ.set i (.val d)) where
 len:=by rw[QaZ,QaZ];exact E.len
 bs:=E.bs
 zb:=E.zb
 val:=fun j d' e=>by
  by_cases h:i=j
  .subst h;rw[Qao (by rw[E.len];exact hi)] at e
   cases e;exact⟨v,Qao hi,r⟩
  .rw [Qaq h] at e ⊢;exact E.val j d' e
 bld:=fun j ds e=>by
  by_cases h:i=j
  .subst h;rw[Qao (by rw[E.len];exact hi)] at e
   cases e
  .rw [Qaq h] at e ⊢;exact E.bld j ds e
 dis:=fun j k a ds es e1 e2 e3 e4=>by
  by_cases h:i=j
  .subst h;rw[Qao (by rw[E.len];exact hi)] at e1
   cases e1
  .by_cases h':i=k
   .subst h';rw[Qao (by rw[E.len];exact hi)] at e2
    cases e2
   .rw [Qaq h] at e1 e3;rw[Qaq h'] at e2 e4;exact E.dis j k a ds es e1 e2 e3 e4
def eD.setB{K:Qdc}{Z B:List Addr}{H:Hp}{σ:St}{δ:az}(E:eD K Z B H σ δ){i:Nat}{ds:List D}{a:Addr}{xs:List V}(hi:i<σ.length)(hB:a∈B)(hZ:a ∉ Z)(hH:H a=some (.lst xs))(r:aL K B H ds xs)
 (new:∀j es,j≠i->δ[j]? =some (.bld es)->σ[j]?≠some (some (.ref a))):eD K Z B H (σ.set i (some (.ref a))) (δ.set i (.bld ds)) where
 len:=by rw[QaZ,QaZ];exact E.len
 bs:=E.bs
 zb:=E.zb
 val:=fun j d' e=>by
  by_cases h:i=j
  .subst h;rw[Qao (by rw[E.len];exact hi)] at e
   cases e
  .rw [Qaq h] at e ⊢;exact E.val j d' e
 bld:=fun j es e=>by
  by_cases h:i=j
  .subst h;rw[Qao (by rw[E.len];exact hi)] at e
   cases e;exact⟨a,xs,Qao hi,hB,hZ,hH,r⟩
  .rw [Qaq h] at e ⊢;exact E.bld j es e
 dis:=fun j k b Ux UL e1 e2 e3 e4=>by
  by_cases h:i=j
  .subst h;by_cases h':i=k
   .exact h'
   .rw [Qao hi] at e3;cases e3;rw[Qaq h'] at e2 e4;exact absurd e4 (new k UL (Qbh h') e2)
  .by_cases h':i=k
   .subst h';rw[Qao hi] at e4;cases e4;rw[Qaq h] at e1 e3;exact absurd e3 (new j Ux (Qbh h) e1)
   .rw [Qaq h] at e1 e3;rw[Qaq h'] at e2 e4;exact E.dis j k b Ux UL e1 e2 e3 e4
def ny(i:Nat)(f:FD):FS:=fun δ=>(f δ).bind fun d=>R.bV (decide (i<δ.length)) (.ok (.nx (δ.set i (.val d))))
def J1{K:Qdc}{i:Nat}{D:Ends}(h:sD K (ny i f) D σ H):GG (tD K f) (xt i) D σ H:=by
 obtain⟨Z,B,δ,o,E,hf,q⟩:=h;obtain⟨d,h1,h2⟩:=R.aq hf;obtain⟨hi,h3⟩:=R.ba h2;cases h3;refine⟨Z,B,δ,d,E,h1,fun v H1 s1 r1=>?_⟩
 exact q _ B H1 (Ev.same E.zb s1) ((E.same s1).set (by rw[<-E.len];exact Qak hi) r1)
def Mt{i:Nat}{pos pos':Pos}(hN:X.N.Nodup)(hi:X.N[i]? =some x)(hx:Loc X.env.scope x)(he:PD X e f)(hs:swapsWith e (some (.Name x pos')) pos.line X.env=pure false:=by rfl)(hf:X.fn x=true\/X.env.scope.names.lookup x=some .local:=by first | exact .inl rfl | exact .inr rfl | assumption) :
 JZ X (.Assign [.Name x pos'] e pos) (ny i f):=(D1 hN hi hx he hs hf).imp fun D σ H h=>J1 h
def Bj(i:Nat)(f:az->R (List D)):FS:=fun δ=>(f δ).bind fun ds=>R.bV (decide (i<δ.length)) (.ok (.nx (δ.set i (.bld ds))))
def Ru{K:Qdc}{i:Nat}{f:az->R (List D)}{D:Ends}(h:sD K (Bj i f) D σ H):GG (tN K f) (xt i) D σ H:=by
 obtain⟨Z,B,δ,o,E,hf,q⟩:=h;obtain⟨ds,h1,h2⟩:=R.aq hf;obtain⟨hi,h3⟩:=R.ba h2;cases h3;refine⟨Z,B,δ,ds,E,h1,fun a xs H1 s1 n e r=>?_⟩
 have E1:=E.same s1;have aB:a ∉ B:=fun ha=>by obtain⟨o,ho⟩:=E.bs a ha;rw [n] at ho;cases ho
 have nZ:a ∉ Z:=fun ha=>aB (E.zb a ha)
 have p0:dQ B H (a ::B) H1:=fun b o e' nb=>⟨s1 b o e',fun hb=>by
  rcases Qar.mp hb with z | z
  .subst z;rw [n] at e';cases e'
  .exact nb z⟩
 have E2:eD K Z (a ::B) H1 σ δ:={
  len:=E.len
  bs:=fun b hb=>by
   rcases Qar.mp hb with z | z
   .subst z;exact⟨_,e⟩
   .exact E1.bs b z
  zb:=fun b hb=>Qai _ (E.zb b hb)
  val:=fun j d e=>let⟨v,q1,q2⟩:=E.val j d e;⟨v,q1,q2.bw p0⟩
  bld:=fun j es e=>let⟨b,ys,q1,q2,q3,q4,q5⟩:=E.bld j es e;⟨b,ys,q1,Qai _ q2,q3,s1 b _ q4,q5.bw p0⟩
  dis:=E.dis}
 refine q _ (a ::B) H1 ⟨p0,fun b o e' hb=>⟨s1 b o e',Qai _ (E.zb b hb)⟩⟩ (E2.setB (by rw[<-E.len];exact Qak hi) Qat nZ e r fun j es hj ej K0=>?_)
 obtain⟨b,ys,q1,_,_,q4,_⟩:=E.bld j es ej;rw[K0] at q1;cases q1;rw[n] at q4;cases q4
def Md{i:Nat}{f:az->R (List D)}{pos pos':Pos}(hN:X.N.Nodup)(hi:X.N[i]? =some x)(hx:Loc X.env.scope x)(he:PN X e f)(hs:swapsWith e (some (.Name x pos')) pos.line X.env=pure false:=by rfl)(hf:X.fn x=true\/X.env.scope.names.lookup x=some .local:=by first | exact .inl rfl | exact .inr rfl | assumption) :
 JZ X (.Assign [.Name x pos'] e pos) (Bj i f):=(D1 hN hi hx he hs hf).imp fun D σ H h=>Ru h
def eD.grow{K:Qdc}{Z B:List Addr}{H:Hp}{σ:St}{δ:az}(E:eD K Z B H σ δ){i:Nat}{ds es:List D}{a:Addr}{xs ys:List V}(hd:δ[i]? =some (.bld ds))(K0:σ[i]? =some (some (.ref a)))(hB:a∈B)(hH:H a=some (.lst xs))(r:aL K B H es ys) :
 eD K Z B (upd H a (.lst ys)) σ (δ.set i (.bld es))/\dQ B H B (upd H a (.lst ys)):=by
 have p:dQ B H B (upd H a (.lst ys)):=fun b o e nb=>⟨by rw[aZ (fun(z:b=a)=>nb (by rw[z];exact hB))];exact e,nb⟩
 have hi:i<δ.length:=(Qab.mp hd).1;refine⟨{
  len:=by rw[QaZ];exact E.len
  bs:=fun b hb=>by
   by_cases z:b=a
   .subst z;exact⟨_,bj⟩
   .rw [aZ z];exact E.bs b hb
  zb:=E.zb
  val:=fun j d e=>by
   by_cases h:i=j
   .subst h;rw [Qao hi] at e;cases e
   .rw [Qaq h] at e;obtain⟨v,q1,q2⟩:=E.val j d e;exact⟨v,q1,q2.bw p⟩
  bld:=fun j fs e=>by
   by_cases h:i=j
   .subst h;rw [Qao hi] at e;cases e;obtain⟨b,zs,q1,q2,q3,_,_⟩:=E.bld i ds hd;rw[K0] at q1;cases q1;exact⟨a,ys,K0,hB,q3,bj,r.bw p⟩
   .rw [Qaq h] at e;obtain⟨b,zs,q1,q2,q3,q4,q5⟩:=E.bld j fs e;have ne:b≠a:=fun z=>by subst z;exact h (E.dis i j b ds fs hd e K0 q1)
    exact⟨b,zs,q1,q2,q3,by rw[aZ ne];exact q4,q5.bw p⟩
  dis:=fun j k b Ux UL e1 e2 e3 e4=>by
   have f1:∃fs,δ[j]? =some (.bld fs):=by
    by_cases h:i=j
    .subst h;exact⟨ds,hd⟩
    .rw [Qaq h] at e1;exact⟨_,e1⟩
   have f2:∃fs,δ[k]? =some (.bld fs):=by
    by_cases h:i=k
    .subst h;exact⟨ds,hd⟩
    .rw [Qaq h] at e2;exact⟨_,e2⟩
   obtain⟨_,f1⟩:=f1;obtain⟨_,f2⟩:=f2;exact E.dis j k b _ _ f1 f2 e3 e4},p⟩
def Ev.grow{Z B:List Addr}{a:Addr}{o:HO}(zb:∀a∈Z,a∈B)(hZ:a ∉ Z)(p:dQ B H B (upd H a o)):Ev Z B H B (upd H a o):=
 ⟨p,fun b u e hb=>⟨by rw[aZ (fun(z:b=a)=>hZ (by rw[<-z];exact hb))];exact e,zb b hb⟩⟩
def vT(δ:az)(i:Nat):R (List D):=match δ[i]? with | some (.bld ds)=> .ok ds | _=> .no
def Bg{δ:az}{i:Nat}{ds:List D}(h:vT δ i= .ok ds):δ[i]? =some (.bld ds):=by
 unfold vT at h;split at h
 .rename_i q;cases h;exact q
 .cases h
def Cw(i:Nat)(f:FD):FS:=fun δ=>(f δ).bind fun d=>(vT δ i).bind fun ds=>R.bV (decide (ds.length<sizeLine)) (.ok (.nx (δ.set i (.bld (ds++[d])))))
def Nx{i:Nat}{x:Str}{e:Expr}{f:FD}{eP apos cz pos:Pos}(hN:X.N[i]? =some x)(hv:GQ X.env.scope x)(he:PD X e f)
 (hd:(x==("__debug__":Str))=false:=by decide) (qC:(x==("__classdict__":Str))=false:=by decide)
 (hs:starEach [e] X.env=(false,eval e X.env) ::starEach [] X.env:=by rfl) (lR:(apos.endLine==cz.line)=true:=by rfl)
 (rV:((backTo cz (starEach [e] X.env)).all (fun x=>!x.1) && (backToKw cz (keywordEach [] X.env)).all (fun x=>x.1.isSome)
   && decide (([e]:List Expr).length+([]:List Keyword).length+(if([]:List Keyword).isEmpty then 0 else 1)<30))=true:=by rfl)
 (vn:swapsWith (.Call (.Attribute (.Name x eP) "append" apos) [e] [] cz) none pos.line X.env=pure false:=by rfl)
 (lT:attributeBase (.Name x eP) "append" X.env (eval (.Name x eP) X.env)=eval (.Name x eP) X.env:=by rfl) :
 JZ X (.Expr (.Call (.Attribute (.Name x eP) "append" apos) [e] [] cz) pos) (Cw i f):=by
 refine(tm (Gd (X:=X) QbU Qc5 Qc6 um (pL hN hv hd qC) (eV he jl hs) lT rV lR hs) vn).imp fun D σ H ⟨Z,B,δ,o,E,hf,q⟩=>?_
 obtain⟨d,h1,h2⟩:=R.aq hf;obtain⟨ds,h3,h4⟩:=R.aq h2;obtain⟨hl,h5⟩:=R.ba h4;cases h5;have hb:=Bg h3;obtain⟨a,xs,q1,q2,q3,q4,q5⟩:=E.bld i ds hb;refine⟨.ref a,q1, .inl ⟨rfl,xs,rB.of q4⟩,⟨Z,B,δ,d,E,h1,fun v H1 s1 r1=>?_⟩⟩
 have E1:=E.same s1;refine⟨a,xs,v,rfl,rfl,s1 a _ q4,by rw[<-q5.length];exact Qak hl,?_⟩
 obtain⟨E2,p2⟩:=E1.grow (es:=ds++[d]) (ys:=xs++[v]) hb q1 q2 (s1 a _ q4) ((q5.same s1).append (aL.cons r1 aL.nil));exact q σ B _ ((Ev.same E.zb s1).trans (Ev.grow E.zb q3 p2)) E2
def Nc(i:Nat)(f:az->R (List D)):FS:=fun δ=>(f δ).bind fun es=>(vT δ i).bind fun ds=>R.bV (decide (ds.length+es.length<=sizeLine)) (.ok (.nx (δ.set i (.bld (ds++es)))))
def Mb{i:Nat}{x:Str}{e:Expr}{f:az->R (List D)}{eP apos cz pos:Pos}(hN:X.N[i]? =some x)(hv:GQ X.env.scope x)(he:PN X e f)
 (hd:(x==("__debug__":Str))=false:=by decide) (qC:(x==("__classdict__":Str))=false:=by decide)
 (hs:starEach [e] X.env=(false,eval e X.env) ::starEach [] X.env:=by rfl) (lR:(apos.endLine==cz.line)=true:=by rfl)
 (rV:((backTo cz (starEach [e] X.env)).all (fun x=>!x.1) && (backToKw cz (keywordEach [] X.env)).all (fun x=>x.1.isSome)
   && decide (([e]:List Expr).length+([]:List Keyword).length+(if([]:List Keyword).isEmpty then 0 else 1)<30))=true:=by rfl)
 (vn:swapsWith (.Call (.Attribute (.Name x eP) "extend" apos) [e] [] cz) none pos.line X.env=pure false:=by rfl)
 (lT:attributeBase (.Name x eP) "extend" X.env (eval (.Name x eP) X.env)=eval (.Name x eP) X.env:=by rfl) :
 JZ X (.Expr (.Call (.Attribute (.Name x eP) "extend" apos) [e] [] cz) pos) (Nc i f):=by
 refine(tm (Gd (X:=X) QbU Qc7 Qc8 Hl (pL hN hv hd qC) (eV he jl hs) lT rV lR hs) vn).imp fun D σ H ⟨Z,B,δ,o,E,hf,q⟩=>?_
 obtain⟨es,h1,h2⟩:=R.aq hf;obtain⟨ds,h3,h4⟩:=R.aq h2;obtain⟨hl,h5⟩:=R.ba h4;cases h5;have hb:=Bg h3;obtain⟨a,xs,q1,q2,q3,q4,q5⟩:=E.bld i ds hb;refine⟨.ref a,q1, .inl ⟨rfl,xs,rB.of q4⟩,⟨Z,B,δ,es,E,h1,fun b ys H1 s1 n e r=>?_⟩⟩
 have E1:=E.same s1;have r':aL X.K B H1 es ys:=r.bw fun b o e nb=>⟨e,fun hb=>nb (Qai _ hb)⟩
 refine⟨a,b,xs,ys,rfl,rfl,s1 a _ q4,e,by rw[<-q5.length,<-r'.length];exact Qak hl,?_⟩
 obtain⟨E2,p2⟩:=E1.grow (es:=ds++es) (ys:=xs++ys) hb q1 q2 (s1 a _ q4) ((q5.same s1).append r');exact q σ B _ ((Ev.same E.zb s1).trans (Ev.grow E.zb q3 p2)) E2
def lV(i:Nat)(δ:az):az:=match δ[i]? with | some (.bld ds)=>δ.set i (.val (.lst ds)) | _=>δ
def eD.lV{K:Qdc}{Z B:List Addr}{δ:az}(E:eD K Z B H σ δ)(i:Nat):∃B',Ev Z B H B' H/\eD K Z B' H σ (lV i δ):=by
 unfold L2.lV;cases hd:δ[i]? with
 | none=>exact⟨B,Ev.refl Z B H E.zb,E⟩
 | some x=>
   cases x with
   | un=>exact⟨B,Ev.refl Z B H E.zb,E⟩
   | val d=>exact⟨B,Ev.refl Z B H E.zb,E⟩
   | bld ds=>
     obtain⟨a,xs,q1,q2,q3,q4,q5⟩:=E.bld i ds hd;have hi:i<δ.length:=(Qab.mp hd).1;have p:dQ B H (B.filter fun b=>decide (b≠a)) H:=fun b o e nb=>⟨e,fun hb=>nb (Qbg.mp hb).1⟩
     have zb:∀b∈Z,b∈B.filter fun b=>decide (b≠a):=fun b hb=>Qbg.mpr ⟨E.zb b hb,QaE fun z=>q3 (z▸hb)⟩
     refine⟨B.filter fun b=>decide (b≠a),⟨p,fun b o e hb=>⟨e,zb b hb⟩⟩,{
      len:=by rw[QaZ];exact E.len
      bs:=fun b hb=>E.bs b (Qbg.mp hb).1
      zb:=zb
      val:=fun j d e=>by
       by_cases h:i=j
       .subst h;rw [Qao hi] at e;cases e;refine⟨.ref a,q1,?_⟩;unfold Rep;exact⟨a,xs,rfl, .inl ⟨fun hb=>by simpa using(Qbg.mp hb).2, .inl q4⟩,q5.bw p⟩
       .rw [Qaq h] at e;obtain⟨v,z1,z2⟩:=E.val j d e;exact⟨v,z1,z2.bw p⟩
      bld:=fun j fs e=>by
       by_cases h:i=j
       .subst h;rw [Qao hi] at e;cases e
       .rw [Qaq h] at e;obtain⟨b,zs,z1,z2,z3,z4,z5⟩:=E.bld j fs e;exact⟨b,zs,z1,Qbg.mpr ⟨z2,QaE fun z=>by subst z;exact h (E.dis i j b ds fs hd e q1 z1)⟩,z3,z4,z5.bw p⟩
      dis:=fun j k b Ux UL e1 e2 e3 e4=>by
       by_cases h:i=j
       .subst h;rw [Qao hi] at e1;cases e1
       .by_cases h':i=k
        .subst h';rw [Qao hi] at e2;cases e2
        .rw [Qaq h] at e1;rw[Qaq h'] at e2;exact E.dis j k b Ux UL e1 e2 e3 e4}⟩
def G6(i:Nat)(F:FS):FS:=fun δ=>F (lV i δ)
def PM{K:Qdc}{i:Nat}{F:FS}{D:Ends}(h:sD K (G6 i F) D σ H):sD K F D σ H:=by
 obtain⟨Z,B,δ,o,E,hf,q⟩:=h;obtain⟨B1,ev,E1⟩:=E.lV i;refine⟨Z,B1,L2.lV i δ,o,E1,hf,?_⟩;cases o with
 | nx eT=>exact fun c7 B' H' HB E'=>q c7 B' H' (ev.trans HB) E'
 | rt d=>exact fun v B' H' HB z r=>q v B' H' (ev.trans HB) z r
def NB(i:Nat){F:FS}(h:vh X OM F):vh X OM (G6 i F):=h.imp fun D σ H h=>PM h
def gp(f:FD):FS:=fun δ=>(f δ).bind fun d=> .ok (.rt d)
def Nf(he:PD X e f):JZ X (.Return (some e) pos) (gp f):=(Iw he).imp fun D σ H ⟨Z,B,δ,o,E,hf,q⟩=>by
 obtain⟨d,h1,h2⟩:=R.aq hf;cases h2;exact⟨Z,B,δ,d,E,h1,fun v H1 s1 r1=>q v B H1 (Ev.same E.zb s1) E.zb r1⟩
def CL(c:az->R Bool)(F G:FS):FS:=fun δ=>(c δ).bind fun b=>if b then F δ else G δ
def Rc{fc:az->R Bool}{F G:FS}(hc:PB X c fc)(ha:vh X a F)(hb:vh X b G):JZ X (.If c a b pos) (CL fc F G):=(Kg hc ha hb).imp fun D σ H ⟨Z,B,δ,o,E,hf,q⟩=>by
 obtain⟨k,h1,h2⟩:=R.aq hf;refine⟨Z,B,δ,k,E,h1,fun H1 s1=>?_⟩
 have q':=q.ev (Ev.same E.zb s1);cases k with
 | true=>rw [QaD rfl] at h2;exact Je ⟨Z,B,δ,o,E.same s1,h2,q'⟩
 | false=>rw [QaB (by decide)] at h2;exact Jq ⟨Z,B,δ,o,E.same s1,h2,q'⟩
abbrev FT:=D->az->R az
def gD(K:Qdc)(t:FT):TG:=fun v σ H Q=>∃Z B δ d eT,eD K Z B H σ δ/\Rep K B H d v/\t d δ= .ok eT/\∀c7 H',aX H H'->eD K Z B H' c7 eT->c7.length=σ.length->Q c7 H'
abbrev QW(X:Cx)(tg:Expr)(t:FT):Prop:=PG X tg (gD X.K t)
def aC(i:Nat):FT:=fun d δ=>R.bV (decide (i<δ.length)) (.ok (δ.set i (.val d)))
def II{i:Nat}{pos:Pos}(hN:X.N.Nodup)(hi:X.N[i]? =some x)(hx:Loc X.env.scope x)(hf:X.fn x=true\/X.env.scope.names.lookup x=some .local:=by first | exact .inl rfl | exact .inr rfl | assumption):QW X (.Name x pos) (aC i):=
 (FQ hN hi hx hf).imp fun v σ H Q ⟨Z,B,δ,d,eT,E,r,ht,q⟩=>by
   obtain⟨hi,h⟩:=R.ba ht;cases h;exact q _ H (aX.refl H) (E.set (by rw[<-E.len];exact Qak hi) r) (QaZ ..)
abbrev KH:=List D->az->R az
def ZQ(K:Qdc)(t:KH):JS:=fun vs σ H Q=>∃Z B δ ds eT,eD K Z B H σ δ/\aL K B H ds vs/\t ds δ= .ok eT/\∀c7 H',aX H H'->eD K Z B H' c7 eT->c7.length=σ.length->Q c7 H'
abbrev JA(X:Cx)(ts:List Expr)(t:KH):Prop:=LP X ts (ZQ X.K t)
def LP.imp{X:Cx}{t t':JS}(h:LP X e t)(w:∀v σ H Q,t' v σ H Q->t v σ H Q):LP X e t':=fun pins s σ H v u Q I r hq=>h pins s σ H v u Q I r (w v σ H Q hq)
def ei:KH:=fun ds δ=>match ds with | []=> .ok δ | _=> .no
def bh(t:FT)(u:KH):KH:=fun ds δ=>match ds with | d ::r=>(t d δ).bind fun eT=>u r eT | []=> .no
def KR:JA X [] ei:=Fg.imp fun vs σ H Q ⟨Z,B,δ,ds,eT,E,r,ht,q⟩=>by
 cases ds with
 | nil=>unfold aL at r;cases ht;exact⟨r,q σ H (aX.refl H) E rfl⟩
 | cons=>cases ht
def GF{u:KH}(h1:QW X e t)(h2:JA X es u)(hs:(assignEach (e ::es) X.env).map (·.2)=assign e X.env ::(assignEach es X.env).map (·.2):=by rfl):JA X (e ::es) (bh t u):=
 (Bo h1 h2 hs).imp fun vs σ H Q ⟨Z,B,δ,ds,eT,E,r,ht,q⟩=>by
   cases ds with
   | nil=>cases ht
   | cons d ds=>
     obtain⟨x,xs,rfl,r1,r2⟩:=r.cN;obtain⟨cX,h1,h2⟩:=R.aq ht;exact⟨x,xs,rfl,Z,B,δ,d,cX,E,r1,h1,fun RV H1 s1 E1 l1=>⟨Z,B,cX,ds,eT,E1,r2.same s1,h2,fun A0 H2 s2 E2 l2=>q A0 H2 (s1.trans s2) E2 (l2.trans l1)⟩⟩
def eg(n:Nat)(t:KH):FT:=fun d δ=>match d with | .tup ds=>R.bV (decide (ds.length=n)) (t ds δ) | _=> .no
def LC{k:Nat}{t:KH}{n:Nat}{pos:Pos}(hc:X.calm=true)(h:JA X es t)(hn:(assignEach es X.env).length=n:=by rfl)(xV:(assignEach es X.env).findIdx? (·.1)=none:=by rfl):QW X (.Tuple es k pos) (eg n t):=
 (HU hc h hn xV).imp fun v σ H Q ⟨Z,B,δ,d,eT,E,r,ht,q⟩=>by
   cases d with
   | tup ds=>
     unfold Rep at r;obtain⟨a,xs,rfl,l,r⟩:=r;obtain⟨hl,h⟩:=R.ba ht;exact⟨a,xs,rfl,l.sq,by rw[<-r.length];exact Qak hl,Z,B,δ,ds,eT,E,r,h,q⟩
   | _=>cases ht
def YS(f:FD)(t:FT):FS:=fun δ=>(f δ).bind fun d=>(t d δ).bind fun eT=> .ok (.nx eT)
def Ko(K:Qdc)(B:List Addr)(H:Hp)(J:It)(ds:List D):Prop:=∀B' H',dQ B H B' H'->(∀(i:Nat) (d:D),ds[i]? =some d->J.go i H'/\∀x qv,J.yld i H' x qv->(∀a∈B',∃o,H' a=some o)->aX H' qv/\Rep K B' qv d x)/\J.stop ds.length H'
def iD(K:Qdc)(f:az->R (List D)):TI:=fun σ H R=>∃Z B δ ds,eD K Z B H σ δ/\f δ= .ok ds/\∀J H1,aX H H1->Ko K B H1 J ds->R J H1
abbrev Q0(X:Cx)(tg e:Expr)(f:az->R (List D)):Prop:=PI X tg e (iD X.K f)
def cF(f:FD):az->R (List D):=fun δ=>(f δ).bind fun d=>match d with | .lst ds=> .ok ds | .tup ds=> .ok ds | _=> .no
def Nt(h:PD X e f):Q0 X tg e (cF f):=by
 intro pins s σ H RR I ⟨Z,B,δ,ds,E,hf,q⟩;obtain⟨d,h1,h2⟩:=R.aq hf;refine eO (h pins s σ H (fun v H1=>aX H H1/\Rep X.K B H1 d v) I ⟨Z,B,δ,d,E,h1,fun v H1 s1 r1=>⟨s1,r1⟩⟩) fun v s1 ⟨x,H1,I1,r1,ss,rr⟩=>?_
 cases d with
 | lst es=>
   cases h2;unfold Rep at rr;obtain⟨a,xs,rfl,l,rr⟩:=rr;cases r1;obtain⟨its,rv,p,hz⟩:=I1.list l.sq;refine Qcp p.isList ?_;refine⟨s1.heap.objs.size,[s1.heap.objs.size],_,_,H1,rfl,I1.kept (t':=s1.toks) fun b o e=>Qah _ e,y_ a _,⟨_,QaJ _ rfl,rfl,rfl⟩,fun b hb=>?_,q _ H1 ss fun B' H' pr=>?_⟩
   .have e:b=s1.heap.objs.size:=by simpa using hb
    subst e;exact I1.wX (Qag _) (I1.hok.fresh (Qag _))
   .have l':wF X.K B' H' a xs:=l.bw pr;have RT:=rr.bw pr;refine⟨fun i d hd=>?_,⟨xs,l'.sq,by rw[rr.length];exact Qag _⟩⟩
    obtain⟨x,hx,rx⟩:=RT.get hd;exact⟨⟨xs,x,l'.sq,hx⟩,fun y qv ⟨e1,e2⟩ _=>by
     subst e1;have:=e2 xs l'.sq;rw[hx] at this;cases this;exact⟨aX.refl _,rx⟩⟩
 | tup es=>
   cases h2;unfold Rep at rr;obtain⟨a,xs,rfl,l,rr⟩:=rr;cases r1;obtain⟨its,rv,p,hz⟩:=I1.tuple l.sq;refine Qck (show s1.heap.IsTuple a its.toArray from p) ?_
   refine⟨s1.heap.objs.size,[s1.heap.objs.size],_,_,H1,rfl,I1.kept (t':=s1.toks) fun b o e=>Qah _ e,D0 a _,⟨_,QaJ _ rfl,rfl,rfl⟩,fun b hb=>?_,q _ H1 ss fun B' H' pr=>?_⟩
   .have e:b=s1.heap.objs.size:=by simpa using hb
    subst e;exact I1.wX (Qag _) (I1.hok.fresh (Qag _))
   .have l':za X.K B' H' a xs:=l.elim (fun z=> .inl ⟨(pr.rd z.2 z.1).2,(pr.rd z.2 z.1).1⟩) .inr
    have RT:=rr.bw pr;refine⟨fun i d hd=>?_,⟨xs,l'.sq,by rw[rr.length];exact Qag _⟩⟩
    obtain⟨x,hx,rx⟩:=RT.get hd;exact⟨⟨xs,x,l'.sq,hx⟩,fun y qv ⟨e1,e2⟩ _=>by
     subst e1;have:=e2 xs l'.sq;rw[hx] at this;cases this;exact⟨aX.refl _,rx⟩⟩
 | _=>cases h2
def ip(lo:Int)(n:Nat):List D:=(List.range n).map fun(i:Nat)=>D.int (lo+i)
def IG{K:Qdc}{B:List Addr}(lo:Int)(n:Nat):Ko K B H (Sx lo n) (ip lo n):=fun B' H' _=>by
 refine⟨fun i d hd=>?_,?_⟩
 .unfold ip at hd;rw[Qad] at hd;cases e:(List.range n)[i]? with
  | none=>rw [e] at hd;cases hd
  | some j=>
    rw[e] at hd;cases hd;obtain⟨hi,ej⟩:=Qab.mp e;rw[List.getElem_range] at ej;subst ej;rw[Qaj] at hi;exact⟨hi,fun x qv ⟨e1,e2⟩ _=>by subst e1 e2;exact⟨aX.refl _,by unfold Rep;rfl⟩⟩
 .show n<=(ip lo n).length;unfold ip;rw[Qaa,Qaj];exact Qag _
def cH(f:FD):az->R (List D):=fun δ=>(f δ).bind fun d=>match d with | .int j=>R.bV (decide (-(2 ^ 62)<=j/\j<2 ^ 62)) (.ok (ip 0 j.toNat)) | _=> .no
def EE{tg a:Expr}{p pos:Pos}(h:PD X a f)(hg:Gl X "range")(hm:X.mg "range"=none)(hs:starEach [a] X.env=[(false,eval a X.env)]:=by rfl):Q0 X tg (.Call (.Name "range" p) [a] [] pos) (cH f):=
 (yF hg hm (eV h jl hs) hs).imp fun σ H RR ⟨Z,B,δ,ds,E,hf,q⟩=>by
   obtain⟨d,h1,h2⟩:=R.aq hf;cases d with
   | int j=>
     obtain⟨hb,h3⟩:=R.ba h2;cases h3;have hb:=Qak hb;refine⟨Z,B,δ, .int j,E,h1,fun v H1 s1 r1=>⟨j,?_,hb.1,hb.2,q _ H1 s1 (IG 0 _)⟩⟩
     unfold Rep at r1;rw[r1]
   | _=>cases h2
def Wk(f g:FD):az->R (List D):=fun δ=>(f δ).bind fun d=>(g δ).bind fun e=>match d,e with
 | .int i, .int j=>R.bV (decide (-(2 ^ 62)<=i/\i<2 ^ 62/\ -(2 ^ 62)<=j/\j<2 ^ 62)) (.ok (ip i (j - i).toNat)) | _,_=> .no
def qJ(t:FT)(body:FS):List D->FS
 | [],δ=> .ok (.nx δ)
 | d ::ds,δ=>(t d δ).bind fun cX=>(body cX).bind fun o=>match o with | .nx ef=>qJ t body ds ef | .rt r=> .ok (.rt r)
def vg(it:az->R (List D))(t:FT)(body:FS):FS:=fun δ=>(it δ).bind fun ds=>qJ t body ds δ
def M3{tg iter:Expr}{body:List Stmt}{it:az->R (List D)}{t:FT}{F:FS}{pos:Pos}(hp:PassesOwn (model X.prog X.w) X.A X.env X.xe)(hc:X.calm=true)(hi:Q0 X tg iter it)(hg:QW X tg t)(hb:vh X body F)
 (hs:∀x,foldedSetIterable iter X.env x=pure x:=by intro _;rfl):JZ X (.For tg iter body [] pos) (vg it t F):=(KC hp hc hi hg hb hs).imp fun D σ H ⟨Z,B,δ,o,E,hf,q⟩=>by
 obtain⟨ds,h1,h2⟩:=R.aq hf;refine⟨Z,B,δ,ds,E,h1,fun J H1 s1 ir=>?_⟩
 refine⟨fun i m c7 H'=>m=ds.length - i/\i<=ds.length/\∃B' eT,Ev Z B H1 B' H'/\eD X.K Z B' H' c7 eT/\qJ t F (ds.drop i) eT= .ok o,⟨ds.length,rfl,QbG _,B,δ,Ev.refl Z B H1 E.zb,E.same s1,by simpa using h2⟩,?_⟩
 rintro i m c7 H' ⟨rfl,hi,B',eT,ev,E',hl⟩;obtain⟨go,stop⟩:=ir B' H' ev.bw;by_cases nE:i<ds.length
 .have hd:ds[i]? =some ds[i]:=Qac nE;have hdrop:ds.drop i=ds[i] ::ds.drop (i+1):=Qbx nE;rw[hdrop] at hl;obtain⟨cX,h3,h4⟩:=R.aq hl;obtain⟨o1,h5,h6⟩:=R.aq h4;obtain⟨g1,g2⟩:=go i _ hd;refine .inr ⟨g1,fun A0 H2=>∃B2 ef,Ev Z B H1 B2 H2/\eD X.K Z B2 H2 A0 ef/\qJ t F (ds.drop (i+1)) ef= .ok o,fun A0 H2 n=>⟨ds.length - (i+1),by omega,rfl,nE,n⟩,fun x qv y=>?_⟩
  obtain⟨ss,rr⟩:=g2 x qv y E'.bs;refine⟨Z,B',eT,ds[i],cX,E'.same ss,rr,h3,fun A0 H2 s2 E2 l2=>⟨Z,B',cX,o1,E2,h5,?_⟩⟩
  have ev2:Ev Z B H1 B' H2:=ev.trans (Ev.same E'.zb (ss.trans s2));cases o1 with
  | nx ef=>exact fun NQ B3 H3 Xs E3=>⟨B3,ef,ev2.trans Xs,E3,h6⟩
  | rt d=>
    cases h6;exact fun v B3 H3 Xs z r=>q v B3 H3 ((Ev.same E.zb s1).trans (ev2.trans Xs)) z r
 .have e:i=ds.length:=by omega
  subst e;rw[Qcv] at hl;cases hl;exact .inl ⟨stop,q c7 B' H' ((Ev.same E.zb s1).trans ev) E'⟩
def JP(c:az->R Bool)(body:FS):Nat->FS
 | 0,_=> .no
 | n+1,δ=>(c δ).bind fun b=>if b then(body δ).bind fun o=>match o with | .nx ef=>JP c body n ef | .rt r=> .ok (.rt r) else .ok (.nx δ)
def V0(n:Nat)(c:az->R Bool)(body:FS):FS:=fun δ=>JP c body n δ
def kD(δ:az)(i:Nat):Sl:=match δ[i]? with | some (.val d)=> .val d | _=> .un
def pd(own:List Str)(kp:List Nat)(δ:az):az:=List.replicate own.length .un++kp.map (kD δ)
def oM(t:FT)(c:az->R Bool)(f:FD)(δ:az):List D->R (List D)
 | []=> .ok []
 | d ::ds=>(t d δ).bind fun cX=>(c cX).bind fun b=>if b then(f cX).bind fun y=>(oM t c f δ ds).bind fun ys=> .ok (y ::ys) else oM t c f δ ds
def cj(it:az->R (List D))(t:FT)(c:az->R Bool)(f:FD)(own:List Str)(kp:List Nat):az->R (List D):=fun δ=>(it δ).bind fun ds=>R.bV (decide (ds.length<=sizeLine)) (oM t c f (pd own kp δ) ds)
def PH{K:Qdc}{Z B B':List Addr}{H H':Hp}{δ:az}{own:List Str}{kp:List Nat}(E:eD K Z B H σ δ)(p:dQ B H B' H')(hB:∀a∈B',∃o,H' a=some o):eD K [] B' H' (ee own kp σ) (pd own kp δ) where
 len:=by unfold ee pd;simp
 bs:=hB
 zb:=fun a ha=>by cases ha
 val:=fun i d e=>by
  unfold pd at e;unfold ee;by_cases hi:i<own.length
  .rw [Qam (by simpa using hi),QaT] at e
   split at e <;> cases e
  .rw [Qae (by simpa using hi),QaP,Qad] at e ⊢
   cases q:kp[i - own.length]? with
   | none=>rw [q] at e;cases e
   | some j=>
     rw[q] at e;have e:kD δ j= .val d:=QaW e;unfold kD at e;split at e
     .rename_i d' ed;cases e;obtain⟨v,h1,h2⟩:=E.val j d ed;exact⟨v,by simp [h1],h2.bw p⟩
     .cases e
 bld:=fun i ds e=>by
  unfold pd at e;by_cases hi:i<own.length
  .rw [Qam (by simpa using hi),QaT] at e
   split at e <;> cases e
  .rw [Qae (by simpa using hi),QaP,Qad] at e
   cases q:kp[i - own.length]? with
   | none=>rw [q] at e;cases e
   | some j=>
     rw[q] at e;have e:kD δ j= .bld ds:=QaW e;unfold kD at e;split at e <;> cases e
 dis:=fun i j a ds es e=>by
  unfold pd at e;by_cases hi:i<own.length
  .rw [Qam (by simpa using hi),QaT] at e
   split at e <;> cases e
  .rw [Qae (by simpa using hi),QaP,Qad] at e
   cases q:kp[i - own.length]? with
   | none=>rw [q] at e;cases e
   | some j=>
     rw[q] at e;have e:kD δ j= .bld ds:=QaW e;unfold kD at e;split at e <;> cases e
def vx{K:Qdc}{it:az->R (List D)}{c:az->R Bool}{own:List Str}{kp:List Nat}{Q:VK}(h:tN K (cj it t c f own kp) σ H Q) :
 EU (iD K it) (gD K t) (N7 K c) (tD K f) own kp σ H Q:=by
 obtain⟨Z,B,δ,ds,E,hf,q⟩:=h;obtain⟨es,h1,h2⟩:=R.aq hf;obtain⟨hl,h3⟩:=R.ba h2;have hl:=Qak hl;refine⟨Z,B,δ,es,E,h1,fun J H1 s1 ir Dd hD=>?_⟩
 have E1:=E.same s1;have pD:dQ B H1 (Dd ::B) (upd H1 Dd (.lst [])):=CB hD;refine⟨fun i m ys H'=>m=es.length - i/\i<=es.length/\ys.length<=i/\H' Dd=some (.lst ys)/\aX H1 H'/\∃done rest,ds=done++rest/\aL K (Dd ::B) H' done ys/\oM t c f (pd own kp δ) (es.drop i)= .ok rest,
  ⟨es.length,rfl,QbG _,Qag _,bj,bf hD,[],ds,rfl,aL.nil,by simpa using h3⟩,?_⟩
 rintro i m ys H' ⟨rfl,hi,hy,hDl,ss,done,rest,rfl,rd,hc⟩;have dB:Dd ∉ B:=fun hb=>by obtain⟨o,ho⟩:=E1.bs Dd hb;rw [hD] at ho;cases ho
 have p':dQ B H1 (Dd ::B) H':=fun b o e nb=>⟨ss b o e,fun hb=>by
  rcases Qar.mp hb with z | z
  .exact bU e hD z
  .exact nb z⟩
 have Ld:∀a∈Dd ::B,∃o,H' a=some o:=fun a ha=>by
  rcases Qar.mp ha with z | z
  .subst z;exact⟨_,hDl⟩
  .obtain⟨o,ho⟩:=E1.bs a z;exact⟨o,ss a o ho⟩
 obtain⟨go,stop⟩:=ir (Dd ::B) H' p';by_cases nE:i<es.length
 .have hd:es[i]? =some es[i]:=Qac nE;have hdrop:es.drop i=es[i] ::es.drop (i+1):=Qbx nE;rw[hdrop] at hc;obtain⟨cX,h4,h5⟩:=R.aq hc;obtain⟨b,h6,h7⟩:=R.aq h5;obtain⟨g1,g2⟩:=go i _ hd;refine .inr ⟨g1,fun x H2 y=>?_⟩
  obtain⟨sy,ry⟩:=g2 x H2 y Ld;have Ec:eD K [] (Dd ::B) H2 (ee own kp σ) (pd own kp δ):=PH E1 (p'.trans (dQ.same sy)) fun a ha=>let⟨o,ho⟩:=Ld a ha;⟨o,sy a o ho⟩
  refine⟨[],Dd ::B,pd own kp δ,es[i],cX,Ec,ry,h4,fun NQ H3 s3 E3 _=>⟨[],Dd ::B,cX,b,E3,h6,fun H4 s4=>?_⟩⟩
  have sAll:aX H' H4:=sy.trans (s3.trans s4);cases b with
  | true=>
    rw[QaD rfl] at h7;refine Je ?_;obtain⟨yv,h8,h9⟩:=R.aq h7;obtain⟨rs,WL,Xn⟩:=R.aq h9;cases Xn;refine⟨[],Dd ::B,cX,yv,E3.same s4,h8,fun v H5 s5 r5=>?_⟩
    have s':aX H' H5:=sAll.trans s5;have WU:H5 Dd=some (.lst ys):=s' Dd _ hDl;have pu:dQ (Dd ::B) H5 (Dd ::B) (upd H5 Dd (.lst (ys++[v]))):=fun b o e nb=>⟨by rw[aZ (fun(z:b=Dd)=>nb (by rw[z];exact Qat))];exact e,nb⟩
    refine⟨WU,by omega,es.length - (i+1),by omega,rfl,nE,by rw[Qau,Qcx];omega,bj,fun b o e=>?_,done++[yv],rs,by simp,((rd.same s').append (aL.cons r5 aL.nil)).bw pu,WL⟩
    rw[aZ (bU e hD)];exact s' b o (ss b o e)
  | false=>
    rw[QaB (by decide)] at h7
    refine Jq ?_;exact⟨es.length - (i+1),by omega,rfl,nE,by omega,sAll Dd _ hDl,ss.trans sAll,done,rest,rfl,rd.same sAll,h7⟩
 .have e:i=es.length:=by omega
  subst e;rw[Qcv] at hc;cases hc;rw[Qa7] at q;exact .inl ⟨stop,q Dd ys H' (s1.trans ss) (s1.free hD) hDl rd⟩
def LV{scope:Scope}{own:List Str}{kp:List Nat}{kn:List Str}{tg iter elt:Expr}{ifs:List Expr}{it:az->R (List D)}{t:FT}{c:az->R Bool}{f:FD}{pos:Pos}(hc:X.calm=true)(C:bg X scope own kp kn)(hi:Q0 X tg iter it)
 (hg:∀fp s H,QW (bx X scope (own++kn) fp s H) tg t) (A4:∀fp s H,sL (bx X scope (own++kn) fp s H) ifs (N7 X.K c)) (he:∀fp s H,PD (bx X scope (own++kn) fp s H) elt f)
 (hs:∀x,foldedSetIterable iter X.env x=pure x:=by intro _;rfl):PN X (.ListComp elt [⟨tg,iter,ifs,0⟩] scope pos) (cj it t c f own kp):=
 (FP hc C hi hg A4 he hs).imp fun σ H Q h=>vx h
def dC:az->R Bool:=fun _=> .ok true
def Jr:sL X [] (N7 X.K dC):=fun pins s σ H Q I ⟨Z,B,δ,b,E,hf,q⟩=>Bd pins s σ H Q I (by cases hf;exact q H (aX.refl H))
def MN{c:az->R Bool}(h:PB X e c):sL X [e] (N7 X.K c):=Cj h
def Bn{i:Nat}{x:Str}{pos' qh:Pos}{scope:Scope}{own:List Str}{kp:List Nat}{kn:List Str}{tg iter elt:Expr}{ifs:List Expr}{it:az->R (List D)}{t:FT}{c:az->R Bool}{f:FD}{pos:Pos}(hc:X.calm=true)
 (hN:X.N.Nodup) (hx:X.N[i]? =some x) (HM:X.env.scope.names.lookup x=some .local) (C:bg X scope own kp kn) (hi:Q0 X tg iter it)
 (hg:∀fp s H,QW (bx X scope (own++kn) fp s H) tg t) (A4:∀fp s H,sL (bx X scope (own++kn) fp s H) ifs (N7 X.K c)) (he:∀fp s H,PD (bx X scope (own++kn) fp s H) elt f)
 (vn:swapsWith (.ListComp elt [⟨tg,iter,ifs,0⟩] scope pos) (some (.Name x pos')) qh.line X.env=pure true:=by rfl)
 (hs:∀x,foldedSetIterable iter X.env x=pure x:=by intro _;rfl):JZ X (.Assign [.Name x pos'] (.ListComp elt [⟨tg,iter,ifs,0⟩] scope pos) qh) (ny i (eNew (cj it t c f own kp))):=
 (nS hc hN hx HM C hi hg A4 he vn hs).imp fun D σ H h=>by
   have h1:=J1 h;obtain⟨Z,B,δ,d,E,hf,q⟩:=h1;obtain⟨ds,h2,h3⟩:=R.aq hf;cases h3;refine vx ⟨Z,B,δ,ds,E,h2,fun a xs H' s n e r=>q _ H' s ?_⟩
   unfold Rep;refine⟨a,xs,rfl, .inl ⟨fun ha=>?_, .inl e⟩,r.bw fun b o e nb=>⟨e,fun hb=>nb (Qai _ hb)⟩⟩
   obtain⟨o,ho⟩:=E.bs a ha;rw[n] at ho;cases ho
end
def dj(N:List Str)(ds:List D):az:=ds.map .val++List.replicate (N.length - ds.length) .un
def uV(N:List Str)(F:FS):List D->R D:=fun ds=>(F (dj N ds)).bind fun o=>match o with | .rt d=> .ok d | .nx _=> .ok .cR
def Mo{K:Qdc}{B:List Addr}{H:Hp}{N:List Str}{ds:List D}{vs:List V}(hB:∀a∈B,∃o,H a=some o)(r:aL K B H ds vs):eD K B B H (start N vs) (dj N ds) where
 len:=by unfold start dj;simp [r.length]
 bs:=hB
 zb:=fun a ha=>ha
 val:=fun i d e=>by
  unfold dj at e;unfold start;by_cases hi:i<ds.length
  .rw [Qam (by simpa using hi),Qad] at e
   cases q:ds[i]? with
   | none=>rw [q] at e;cases e
   | some d'=>
     rw[q] at e;cases e;obtain⟨x,h1,h2⟩:=r.get q;exact⟨x,by rw[Qam (by rw[Qaa,<-r.length];exact hi),Qad,h1];rfl,h2⟩
  .rw [Qae (by simpa using hi),QaT] at e
   split at e <;> cases e
 bld:=fun i es e=>by
  unfold dj at e;by_cases hi:i<ds.length
  .rw [Qam (by simpa using hi),Qad] at e
   cases q:ds[i]? with
   | none=>rw [q] at e;cases e
   | some d'=>rw [q] at e;cases e
  .rw [Qae (by simpa using hi),QaT] at e
   split at e <;> cases e
 dis:=fun i j a es fs e=>by
  unfold dj at e;by_cases hi:i<ds.length
  .rw [Qam (by simpa using hi),Qad] at e
   cases q:ds[i]? with
   | none=>rw [q] at e;cases e
   | some d'=>rw [q] at e;cases e
  .rw [Qae (by simpa using hi),QaT] at e
   split at e <;> cases e
def Mf{P:Program}{w:World}{K:Qdc}{mg:Aaf}{base:Heap}{x qual:Str}{st:Stmt}{f:Addr}{fd:FuncData}{N ps:List Str}{k:Nat}{F:FS}(Fn:D_ K x qual st f fd)(S:aU N ps (aD st))
 (jf:∀(dt:Value) (A:Around) (outer:List Env) (s:Qdd) (H:Hp) (E:XK),eW k (A.deeper (envOfC qual (aD st) s.heap.objs.size f dt))->
   vh (pN yn P w K mg base N qual (aD st) f dt A outer s H E).MG (aO st) F):j2 P w K mg base yn (k+1) f fd ps (Ik K ps.length (uV N F)):=by
 refine Fn.ok S (fun vs H Q E h=>h.1) (fun dt A outer s H vs Q E hr h=>⟨_,jf dt A outer s H E hr,?_⟩)
 obtain⟨_,B,ds,d,hB,r,hg,q⟩:=h;obtain⟨o,h1,h2⟩:=R.aq hg;refine⟨B,B,dj N ds,o,Mo hB r,h1,?_⟩;have sm:∀{B':List Addr} {H':Hp},Ev B B H B' H'->aX H H':=fun {B' H'} ev b u e=>by
  by_cases hb:b∈B
  .exact(ev.zs b u e hb).1
  .exact(ev.bw b u e hb).1
 cases o with
 | nx eT=>
   cases h2;exact fun c7 B' H' ev _=>q _ H' (sm ev) (by unfold Rep;rfl)
 | rt d'=>
   cases h2;exact fun v B' H' ev z rr=>q v H' (sm ev) (rr.bw fun b o e nb=>⟨e,fun hb=>nb (z b hb)⟩)
def Rep.int{K:Qdc}{B:List Addr}{i:Int}{v:V}:Rep K B H (.int i) v↔v= .int i:=by unfold Rep;exact Iff.rfl
def Rep.bl{K:Qdc}{B:List Addr}{i:Bool}{v:V}:Rep K B H (.bl i) v↔v= .bl i:=by unfold Rep;exact Iff.rfl
def Rep.str{K:Qdc}{B:List Addr}{v:V}:Rep K B H (.str i) v↔v= .str i:=by unfold Rep;exact Iff.rfl
def Rep.cR{K:Qdc}{B:List Addr}{v:V}:Rep K B H .cR v↔v= .cR:=by unfold Rep;exact Iff.rfl
def Rep.lst{K:Qdc}{B:List Addr}{ds:List D}{v:V}:Rep K B H (.lst ds) v↔∃a xs,v= .ref a/\wF K B H a xs/\aL K B H ds xs:=by rw[Rep]
def Rep.tup{K:Qdc}{B:List Addr}{ds:List D}{v:V}:Rep K B H (.tup ds) v↔∃a xs,v= .ref a/\za K B H a xs/\aL K B H ds xs:=by rw[Rep]
section
variable {X:Cx}
def nL.of{f:Value->Value->Sem Value}{r:R2}{g:D->D->R D}(h:oV X f r)
 (w:∀(B:List Addr) (H:Hp) (da db d:D) (x y:V) (Q:VK),(∀a∈B,∃o,H a=some o)->Rep X.K B H da x->Rep X.K B H db y->g da db= .ok d->(∀z H',aX H H'->Rep X.K B H' d z->Q z H')->r x y H Q):nL X f g:=by
 intro pins s σ H B da db d x y v u I hb rx ry ra rb hg;exact h pins s σ H x y v u _ I rx ry (w B H da db d x y _ hb ra rb hg fun z H' s1 r1=>⟨s1,r1⟩)
def dn.of{f:Value}{r:List V->Hp->VK->Prop}{g:List D->R D}(h:l3 X f r)
 (w:∀(B:List Addr) (H:Hp) (ds:List D) (d:D) (xs:List V) (Q:VK),(∀a∈B,∃o,H a=some o)->aL X.K B H ds xs->g ds= .ok d->(∀z H',aX H H'->Rep X.K B H' d z->Q z H')->r xs H Q):dn X f g:=by
 intro pins s σ H B ds d xs us I hb rx rs hg;exact h pins s σ H xs us _ I rx (w B H ds d xs _ hb rs hg fun z H' s1 r1=>⟨s1,r1⟩)
def dn.or{f:Value}{g g1 g2:List D->R D}(h1:dn X f g1)(h2:dn X f g2)(e:∀a d,g a= .ok d->g1 a= .ok d\/g2 a= .ok d):dn X f g:=by
 intro pins s σ H B ds d xs us I hb rx rs hg;rcases e ds d hg with q | q
 .exact h1 pins s σ H B ds d xs us I hb rx rs q
 .exact h2 pins s σ H B ds d xs us I hb rx rs q
def Oa(C:Int->Int->Bool)(g:Int->Int->Int):D->D->R D
 | .int i, .int j=>R.bV (C i j) (.ok (.int (g i j)))
 | _,_=> .no
def B6{f:Value->Value->Sem Value}{C:Int->Int->Bool}{Cp:Int->Int->Prop}{g:Int->Int->Int}(h:oV X f (rI Cp fun i j=> .int (g i j)))(hc:∀i j,C i j=true->Cp i j):nL X f (Oa C g):=
 nL.of h fun B H da db d x y Q _ ra rb hg q=>by
  unfold Oa at hg;split at hg
  .obtain⟨h1,h2⟩:=R.ba hg;cases h2;exact⟨_,_,Rep.int.mp ra,Rep.int.mp rb,hc _ _ h1,q _ H (aX.refl H) (Rep.int.mpr rfl)⟩
  .cases hg
def G_(g:Int->Int->Int):D->D->R D
 | .int i, .int j=> .ok (.int (g i j))
 | _,_=> .no
def Am{f:Value->Value->Sem Value}{g:Int->Int->Int}(h:oV X f (HE fun i j=> .int (g i j))):nL X f (G_ g):=
 nL.of h fun B H da db d x y Q _ ra rb hg q=>by
  unfold G_ at hg;split at hg
  .cases hg;exact⟨_,_,Rep.int.mp ra,Rep.int.mp rb,q _ H (aX.refl H) (Rep.int.mpr rfl)⟩
  .cases hg
def RZ(g:Int->Int->Bool):D->D->R D
 | .int i, .int j=> .ok (.bl (g i j))
 | _,_=> .no
def Kc{f:Value->Value->Sem Value}{g:Int->Int->Bool}(h:oV X f (HE fun i j=> .bl (g i j))):nL X f (RZ g):=
 nL.of h fun B H da db d x y Q _ ra rb hg q=>by
  unfold RZ at hg;split at hg
  .cases hg;exact⟨_,_,Rep.int.mp ra,Rep.int.mp rb,q _ H (aX.refl H) (Rep.bl.mpr rfl)⟩
  .cases hg
abbrev qy:D->D->R D:=G_ fun i j=>i - j
def sN:nL X (binaryOp .Sub) qy:=Am QE
abbrev uR:D->D->R D:=Oa (fun _ j=>decide (0<j/\j<1073741824)) fun i j=>i / j
def xm:nL X (binaryOp .FloorDiv) uR:=B6 MF fun i j h=>(Qak h:0<j/\j<1073741824)
abbrev lZ:D->D->R D:=Oa (fun _ j=>decide (0<j)) fun i j=>i % j
def j8:nL X (binaryOp .Mod) lZ:=B6 PR fun i j h=>Qak h
abbrev QM:D->D->R D:=Oa (fun i j=>decide (0<=j/\j<=1000000/\i.natAbs<2 ^ 64)) fun i j=>i ^ j.toNat
def TV:nL X (binaryOp .Pow) QM:=B6 Qq fun i j h=>(Qak h:0<=j/\j<=1000000/\i.natAbs<2 ^ 64)
abbrev BV:D->D->R D:=Oa (fun _ j=>decide (0<=j)) fun i j=>i / 2 ^ j.toNat
def N3:nL X (binaryOp .RShift) BV:=B6 Qj fun i j h=>Qak h
abbrev EB:D->D->R D:=G_ fun i j=>Builtin.bitAnd i j
def AQ:nL X (binaryOp .BitAnd) EB:=Am O7
abbrev Ln:D->D->R D:=G_ fun i j=>Builtin.bitOr i j
def Ck:nL X (binaryOp .BitOr) Ln:=Am Uh
abbrev HF:D->D->R D:=G_ fun i j=>Builtin.bitXor i j
def Bp:nL X (binaryOp .BitXor) HF:=Am OX
abbrev VB:D->D->R D:=RZ fun i j=>decide (i<j)
def VP:nL X (compareOp .Lt) VB:=Kc Uq
abbrev dLe:D->D->R D:=RZ fun i j=>decide (i<=j)
abbrev RE:D->D->R D:=RZ fun i j=>decide (j<i)
def O1:nL X (compareOp .Gt) RE:=Kc SU
abbrev Wa:D->D->R D:=RZ fun i j=>decide (j<=i)
def Wi:nL X (compareOp .GtE) Wa:=Kc Tw
def wF.Kb{K:Qdc}{B:List Addr}{H:Hp}{a:Addr}{xs:List V}(h:H a=some (.lst xs))(n:a ∉ B):wF K B H a xs:= .inl ⟨n, .inl h⟩
def Inv.N5{pins:Aaa}{s:Qdd}{a:Addr}{xs:List V}{B:List Addr}(I:Inv X pins σ H s)(h:wF X.K B H a xs):∃(its:List Value) (n:Nat),Vals xs its/\s.heap.get? a=some {cls:= .type "list",data:= .seq its.toArray n}/\xs.length<=sizeLine:=by
 rcases h with⟨_,h⟩ | ⟨its,n,hk,hz,r⟩
 .obtain⟨z,its,n,r,e⟩:=h.ok I.hok;exact⟨its,n,r,e,z⟩
 .exact⟨its,n,r,I.A9 a _ hk,hz⟩
def EO:oV X (binaryOp .Add) (fun x y H Q=>∃B l b xs zs,x= .ref l/\y= .ref b/\wF X.K B H l xs/\wF X.K B H b zs/\xs.length+zs.length<=sizeLine/\∀p,H p=none->Q (.ref p) (upd H p (.lst (xs++zs)))):=by
 intro pins s σ H x y v u Q I rx ry h;obtain⟨B,l,b,xs,zs,rfl,rfl,hH,hB,hz,q⟩:=h;cases rx;cases ry;obtain⟨its,n,r,e,_⟩:=I.N5 hH;obtain⟨uA,n2,r2,e2,_⟩:=I.N5 hB;have l1:=r.length;have l2:=r2.length;refine PySem.P.add_list e e2 ?_ (by rw[QaG,QaG];omega)
 have ea:its.toArray++uA.toArray=(its++uA).toArray:=by simp
 rw[ea];exact⟨.ref _,_,I.NJ (t':=s.toks) (r.append r2) (by rw[Qau];omega),rfl,q _ I.fresh⟩
def dO:D->D->R D
 | .int i, .int j=> .ok (.int (i+j))
 | .str a, .str b=>R.bV (decide (a.length+b.length<=sizeLine)) (.ok (.str (a++b)))
 | .lst a, .lst b=>R.bV (decide (a.length+b.length<=sizeLine)) (.ok (.lst (a++b)))
 | _,_=> .no
def dM:nL X (binaryOp .Add) dO:=by
 intro pins s σ H B da db d x y v u I hb rx ry ra rb hg;unfold dO at hg;split at hg
 .cases hg;exact P9 pins s σ H x y v u _ I rx ry ⟨_,_,Rep.int.mp ra,Rep.int.mp rb,aX.refl H,Rep.int.mpr rfl⟩
 .obtain⟨h1,h2⟩:=R.ba hg;cases h2;exact Ee pins s σ H x y v u _ I rx ry ⟨_,_,Rep.str.mp ra,Rep.str.mp rb,Qak h1,aX.refl H,Rep.str.mpr rfl⟩
 .obtain⟨h1,h2⟩:=R.ba hg;cases h2;obtain⟨a1,WV,rfl,l1,r1⟩:=Rep.lst.mp ra;obtain⟨a2,Xt,rfl,l2,r2⟩:=Rep.lst.mp rb;refine EO pins s σ H _ _ v u _ I rx ry ⟨B,a1,a2,WV,Xt,rfl,rfl,l1,l2,by rw[<-r1.length,<-r2.length];exact Qak h1,fun p hp=>⟨bf hp,Rep.lst.mpr ⟨p,_,rfl, .Kb bj fun ha=>?_,(r1.append r2).same (bf hp)⟩⟩⟩
  obtain⟨o,ho⟩:=hb p ha;rw[hp] at ho;cases ho
 .cases hg
def Mp:oV X (binaryOp .Mult) (fun x y H Q=>∃z n,x= .str z/\y= .int n/\MulOk z n/\Q (.str (Txt.mul z n)) H):=by
 intro pins s σ H x y v u Q I rx ry h;obtain⟨z,n,rfl,rfl,hm,q⟩:=h;obtain⟨t,rfl⟩:=rx;obtain⟨t',rfl⟩:=ry;exact SB.mul hm fun t2 k=>⟨.str _,H,I.tok _,⟨_,rfl⟩,q⟩
end
section
variable {X:Cx}
def mulOk_of{x:Str}{n:Int}(h1: -(2 ^ 63)<=n)(h2:n<2 ^ 63)(h3:x.length*n.toNat<=sizeLine):MulOk x n:=by
 refine⟨by simp only[Bool.or_eq_false_iff,decide_eq_false_iff_not];omega,fun hn _=>?_,fun hn _=>?_⟩
 .have hz:=Qap;have e:(n.toNat:Int)=n:=by omega
  have h4:(x.length:Int)*n<=16777216:=by
   have:((x.length*n.toNat:Nat):Int)<=((16777216:Nat):Int):=Int.ofNat_le.mpr (by omega)
   rw[Int.natCast_mul,e] at this;exact this
  have:(x.length:Int)<=(2 ^ 63 - 1) / n:=(Int.le_ediv_iff_mul_le (by omega)).mpr (by omega)
  omega
 .unfold Builtin.Str.tooLong;exact QaY (by omega)
def nG:D->D->R D
 | .int i, .int j=>R.bV (decide ((-(2 ^ 64)<i/\i<2 ^ 64)\/(-(2 ^ 64)<j/\j<2 ^ 64))) (.ok (.int (i*j)))
 | .str x, .int n=>R.bV (decide (-(2 ^ 63)<=n/\n<2 ^ 63/\x.length*n.toNat<=sizeLine)) (.ok (.str (Txt.mul x n)))
 | _,_=> .no
def pk:nL X (binaryOp .Mult) nG:=by
 intro pins s σ H B da db d x y v u I hb rx ry ra rb hg;unfold nG at hg;split at hg
 .obtain⟨h1,h2⟩:=R.ba hg;cases h2;have h1:=Qak h1;exact QC pins s σ H x y v u _ I rx ry ⟨_,_,Rep.int.mp ra,Rep.int.mp rb,h1,aX.refl H,Rep.int.mpr rfl⟩
 .obtain⟨h1,h2⟩:=R.ba hg;cases h2;have h1:=Qak h1;exact Mp pins s σ H x y v u _ I rx ry ⟨_,_,Rep.str.mp ra,Rep.int.mp rb,mulOk_of h1.1 h1.2.1 h1.2.2,aX.refl H,Rep.str.mpr rfl⟩
 .cases hg
mutual
def toPy:D->PyData
 | .cR=> .none
 | .bl b=> .bool b
 | .int i=> .int i
 | .str x=> .str x
 | .lst ds=> .list (oP ds)
 | .tup ds=> .tuple (oP ds)
 | .dct _ _=> .dict []
def oP:List D->List PyData
 | []=>[]
 | d ::ds=>toPy d ::oP ds
end
mutual
def fK:D->Bool
 | .dct _ _=>false
 | .lst ds=>l_ ds
 | .tup ds=>l_ ds
 | _=>true
def l_:List D->Bool
 | []=>true
 | d ::ds=>fK d && l_ ds
end
mutual
theorem Rep.reads{pins:Aaa}{s:Qdd}{B:List Addr}(I:Inv X pins σ H s):∀{d:D} {v:V} {u:Value},fK d=true->Rep X.K B H d v->RelV v u->∃as,Reads s.heap u (toPy d) as
 | .cR,v,u,_,r,q=>by rw[Rep.cR.mp r] at q;cases q;unfold toPy;exact⟨_, .none⟩
 | .bl b,v,u,_,r,q=>by rw[Rep.bl.mp r] at q;cases q;unfold toPy;exact⟨_, .bool b⟩
 | .int i,v,u,_,r,q=>by rw[Rep.int.mp r] at q;obtain⟨t,rfl⟩:=q;unfold toPy;exact⟨_, .int i t⟩
 | .str x,v,u,_,r,q=>by rw[Rep.str.mp r] at q;obtain⟨t,rfl⟩:=q;unfold toPy;exact⟨_, .str x t⟩
 | .lst ds,v,u,hp,r,q=>by
   obtain⟨a,xs,rfl,l,rs⟩:=Rep.lst.mp r;cases q;obtain⟨its,rv,⟨o,n,e,hc,hd,he⟩,_⟩:=I.list l.sq;obtain⟨as,ra⟩:=aL.reads I (by unfold fK at hp;exact hp) rs rv
   unfold toPy;exact⟨_, .list e hc he (by simpa using ra)⟩
 | .tup ds,v,u,hp,r,q=>by
   obtain⟨a,xs,rfl,l,rs⟩:=Rep.tup.mp r;cases q;obtain⟨its,rv,⟨o,e,hc,n,hd⟩,_⟩:=I.tuple l.sq;obtain⟨as,ra⟩:=aL.reads I (by unfold fK at hp;exact hp) rs rv
   unfold toPy;exact⟨_, .tuple e hc hd (by simpa using ra)⟩
 | .dct _ _,v,u,hp,r,q=>by unfold fK at hp;cases hp
theorem aL.reads{pins:Aaa}{s:Qdd}{B:List Addr}(I:Inv X pins σ H s):∀{ds:List D} {vs:List V} {us:List Value},l_ ds=true->aL X.K B H ds vs->Vals vs us->∃as,ReadsAll s.heap us (oP ds) as
 | [],vs,us,_,r,q=>by unfold aL at r;subst r;cases q;unfold oP;exact⟨_, .nil⟩
 | d ::ds,vs,us,hp,r,q=>by
   obtain⟨x,xs,rfl,r1,r2⟩:=r.cN;cases q with
   | cons q1 q2=>
     unfold l_ at hp;obtain⟨h1,h2⟩:=QbL.mp hp;obtain⟨as,a1⟩:=Rep.reads I h1 r1 q1;obtain⟨bs,a2⟩:=aL.reads I h2 r2 q2;unfold oP;exact⟨_, .cons a1 a2⟩
end
def Mx:D->D->R Bool
 | .int i, .int j=> .ok (decide (i=j))
 | .str x, .str y=> .ok (decide (x=y))
 | .bl a, .bl b=> .ok (decide (a=b))
 | d,e=>R.bV (fK d && fK e && SeqAt.shaped (toPy d) && SeqAt.shaped (toPy e)) (.ok (PyData.eqv (toPy d) (toPy e)))
def oQ(d e:D):R D:=(Mx d e).bind fun b=> .ok (.bl b)
def Cn(d e:D):R D:=(Mx d e).bind fun b=> .ok (.bl (!b))
def nC(hu:X.A.units+64<cLine):nL X (compareOp .Eq) oQ:=by
 intro pins s σ H B da db d x y v u I hb rx ry ra rb hg;obtain⟨b,h1,h2⟩:=R.aq hg;cases h2;unfold Mx at h1;split at h1
 .cases h1;rename_i i j;have:=Io pins s σ H x y v u (fun z H'=>aX H H'/\Rep X.K B H' (.bl (decide (i=j))) z) I rx ry
  rw[Rep.int.mp ra,Rep.int.mp rb] at this;refine this ⟨rfl,aX.refl H,Rep.bl.mpr ?_⟩;simp [V.int.injEq]
 .cases h1;rename_i i j;have:=Io pins s σ H x y v u (fun z H'=>aX H H'/\Rep X.K B H' (.bl (decide (i=j))) z) I rx ry
  rw[Rep.str.mp ra,Rep.str.mp rb] at this;refine this ⟨rfl,aX.refl H,Rep.bl.mpr ?_⟩;simp [V.str.injEq]
 .cases h1;rename_i i j;have:=Io pins s σ H x y v u (fun z H'=>aX H H'/\Rep X.K B H' (.bl (decide (i=j))) z) I rx ry
  rw[Rep.bl.mp ra,Rep.bl.mp rb] at this;refine this ⟨rfl,aX.refl H,Rep.bl.mpr ?_⟩;simp [V.bl.injEq]
 .obtain⟨h3,h4⟩:=R.ba h1;cases h4;simp only[Qbn] at h3;obtain⟨⟨⟨p1,p2⟩,s1⟩,s2⟩:=h3;obtain⟨as,r1⟩:=ra.reads I p1 rx;obtain⟨bs,r2⟩:=rb.reads I p2 ry;exact eq_dataH r1 r2 s1 s2 hu ⟨.bl _,H,I,rfl,aX.refl H,Rep.bl.mpr rfl⟩
def CG(hu:X.A.units+64<cLine):nL X (compareOp .NotEq) Cn:=by
 intro pins s σ H B da db d x y v u I hb rx ry ra rb hg;obtain⟨b,h1,h2⟩:=R.aq hg;cases h2;unfold Mx at h1;split at h1
 .cases h1;rename_i i j;have:=Jp pins s σ H x y v u (fun z H'=>aX H H'/\Rep X.K B H' (.bl (!decide (i=j))) z) I rx ry
  rw[Rep.int.mp ra,Rep.int.mp rb] at this;refine this ⟨rfl,aX.refl H,Rep.bl.mpr ?_⟩;simp [V.int.injEq]
 .cases h1;rename_i i j;have:=Jp pins s σ H x y v u (fun z H'=>aX H H'/\Rep X.K B H' (.bl (!decide (i=j))) z) I rx ry
  rw[Rep.str.mp ra,Rep.str.mp rb] at this;refine this ⟨rfl,aX.refl H,Rep.bl.mpr ?_⟩;simp [V.str.injEq]
 .cases h1;rename_i i j;have:=Jp pins s σ H x y v u (fun z H'=>aX H H'/\Rep X.K B H' (.bl (!decide (i=j))) z) I rx ry
  rw[Rep.bl.mp ra,Rep.bl.mp rb] at this;refine this ⟨rfl,aX.refl H,Rep.bl.mpr ?_⟩;simp [V.bl.injEq]
 .obtain⟨h3,h4⟩:=R.ba h1;cases h4;simp only[Qbn] at h3;obtain⟨⟨⟨p1,p2⟩,s1⟩,s2⟩:=h3;obtain⟨as,r1⟩:=ra.reads I p1 rx;obtain⟨bs,r2⟩:=rb.reads I p2 ry;exact ne_dataH r1 r2 s1 s2 hu ⟨.bl _,H,I,rfl,aX.refl H,Rep.bl.mpr rfl⟩
def strs?:List D->Option (List Str)
 | []=>some []
 | .str x ::ds=>(strs? ds).map (x ::·)
 | _ ::_=>none
theorem m6{K:Qdc}{B:List Addr}:∀{ds:List D} {xs:List V} {ss:List Str},aL K B H ds xs->strs? ds=some ss->xs=ss.map V.str
 | [],xs,ss,r,h=>by unfold aL at r;subst r;cases h;rfl
 | d ::ds,xs,ss,r,h=>by
   obtain⟨x,r',rfl,r1,r2⟩:=r.cN;cases d with
   | str z=>
     unfold strs? at h;cases e:strs? ds with
     | none=>rw [e] at h;cases h
     | some tt=>
       rw[e] at h;cases h;rw[Rep.str.mp r1,m6 r2 e];rfl
   | _=>cases h
def ints?:List D->Option (List Int)
 | []=>some []
 | .int x ::ds=>(ints? ds).map (x ::·)
 | _ ::_=>none
theorem dR{K:Qdc}{B:List Addr}:∀{ds:List D} {xs:List V} {ss:List Int},aL K B H ds xs->ints? ds=some ss->xs=ss.map V.int
 | [],xs,ss,r,h=>by unfold aL at r;subst r;cases h;rfl
 | d ::ds,xs,ss,r,h=>by
   obtain⟨x,r',rfl,r1,r2⟩:=r.cN;cases d with
   | int z=>
     unfold ints? at h;cases e:ints? ds with
     | none=>rw [e] at h;cases h
     | some tt=>
       rw[e] at h;cases h;rw[Rep.int.mp r1,dR r2 e];rfl
   | _=>cases h
def inD(d e:D):R Bool:=match d,e with
 | .str x, .lst ds=>(match strs? ds with | some ss=> .ok (ss.contains x) | none=> .no)
 | .str x, .tup ds=>(match strs? ds with | some ss=> .ok (ss.contains x) | none=> .no)
 | .str x, .str y=> .ok (!(Builtin.Str.occurrences y x 0 y.length 1).isEmpty)
 | .int x, .lst ds=>(match ints? ds with | some ss=> .ok (ss.contains x) | none=> .no)
 | .int x, .tup ds=>(match ints? ds with | some ss=> .ok (ss.contains x) | none=> .no)
 | _,_=> .no
def OB(d e:D):R D:=(inD d e).bind fun b=> .ok (.bl b)
def VD(d e:D):R D:=(inD d e).bind fun b=> .ok (.bl (!b))
theorem wJ(x:Str):∀ss:List Str,Ov (.str x) (ss.map V.str)=ss.contains x
 | []=>rfl
 | y ::ss=>by
   unfold Ov;rw[Qay,QbC];have ih:=wJ x ss;unfold Ov at ih;rw[ih];show(y==x || ss.contains x)=_
   rw[List.contains_cons];congr 1;exact Qa6.mpr ⟨fun h=>by simpa using(Qba.mp h).symm,fun h=>by simpa using(Qba.mp h).symm⟩
theorem wt(x:Int):∀ss:List Int,Ov (.int x) (ss.map V.int)=ss.contains x
 | []=>rfl
 | y ::ss=>by
   unfold Ov;rw[Qay,QbC];have ih:=wt x ss;unfold Ov at ih;rw[ih];show(y==x || ss.contains x)=_
   rw[List.contains_cons];congr 1;exact Qa6.mpr ⟨fun h=>by simpa using(Qba.mp h).symm,fun h=>by simpa using(Qba.mp h).symm⟩
def zk(ss:List Int):(ss.map V.int).all oJ=true:=by
 rw[List.all_map];simp [Qbu,oJ]
def y4(ss:List Str):(ss.map V.str).all oJ=true:=by
 rw[List.all_map];simp [Qbu,oJ]
def Qh{neg:Bool}{op:CmpOp}{g:D->D->R D}(h1:oV X (compareOp op) (XS X.K neg))(h2:oV X (compareOp op) (fun x y H Q=>∃i j,x= .str i/\y= .str j/\Q (.bl (if neg then !(!(Builtin.Str.occurrences j i 0 j.length 1).isEmpty) else(!(Builtin.Str.occurrences j i 0 j.length 1).isEmpty))) H))
 (hg:∀d e r,g d e= .ok r->∃b,inD d e= .ok b/\r= .bl (if neg then !b else b)):nL X (compareOp op) g:=by
 intro pins s σ H B da db d x y v u I hb rx ry ra rb hg';obtain⟨b,hi,rfl⟩:=hg da db d hg';unfold inD at hi;split at hi
 .rename_i z ds;split at hi
  .rename_i ss e;cases hi;obtain⟨a,xs,rfl,l,rs⟩:=Rep.lst.mp rb;refine h1 pins s σ H x _ v u _ I rx ry ⟨a,xs,rfl, .inl l.sq,by rw[Rep.str.mp ra];rfl,by rw[m6 rs e];exact y4 _,aX.refl H,Rep.bl.mpr ?_⟩
   rw[m6 rs e,Rep.str.mp ra,wJ]
  .cases hi
 .rename_i z ds;split at hi
  .rename_i ss e;cases hi;obtain⟨a,xs,rfl,l,rs⟩:=Rep.tup.mp rb;refine h1 pins s σ H x _ v u _ I rx ry ⟨a,xs,rfl, .inr l.sq,by rw[Rep.str.mp ra];rfl,by rw[m6 rs e];exact y4 _,aX.refl H,Rep.bl.mpr ?_⟩
   rw[m6 rs e,Rep.str.mp ra,wJ]
  .cases hi
 .cases hi;exact h2 pins s σ H x y v u _ I rx ry ⟨_,_,Rep.str.mp ra,Rep.str.mp rb,aX.refl H,Rep.bl.mpr rfl⟩
 .rename_i z ds;split at hi
  .rename_i ss e;cases hi;obtain⟨a,xs,rfl,l,rs⟩:=Rep.lst.mp rb;refine h1 pins s σ H x _ v u _ I rx ry ⟨a,xs,rfl, .inl l.sq,by rw[Rep.int.mp ra];rfl,by rw[dR rs e];exact zk _,aX.refl H,Rep.bl.mpr ?_⟩
   rw[dR rs e,Rep.int.mp ra,wt]
  .cases hi
 .rename_i z ds;split at hi
  .rename_i ss e;cases hi;obtain⟨a,xs,rfl,l,rs⟩:=Rep.tup.mp rb;refine h1 pins s σ H x _ v u _ I rx ry ⟨a,xs,rfl, .inr l.sq,by rw[Rep.int.mp ra];rfl,by rw[dR rs e];exact zk _,aX.refl H,Rep.bl.mpr ?_⟩
   rw[dR rs e,Rep.int.mp ra,wt]
  .cases hi
 .cases hi
def L9:nL X (compareOp .In) OB:=Qh (neg:=false) Gq Gy fun d e r h=>by
 obtain⟨b,h1,h2⟩:=R.aq h;cases h2;exact⟨b,h1,rfl⟩
def bH(d e:D):R D:=match d,e with
 | .lst ds, .int i=>(match vW ds i with | some x=> .ok x | none=> .no)
 | .tup ds, .int i=>(match vW ds i with | some x=> .ok x | none=> .no)
 | .str x, .int i=>R.bV (decide (x.length<=sizeLine)) (match vW x.cps.toList i with | some c=> .ok (.str ⟨#[c]⟩) | none=> .no)
 | _,_=> .no
def sx{K:Qdc}{B:List Addr}{ds:List D}{xs:List V}{i:Int}{d:D}(r:aL K B H ds xs)(h:vW ds i=some d):∃x,vW xs i=some x/\Rep K B H d x:=by
 unfold vW at h ⊢;rw[<-r.length];cases e:HD ds.length i with
 | none=>rw [e] at h;cases h
 | some j=>
   rw[e] at h;exact r.get h
def Uo(ha:PD X a fa)(hb:PD X b fb)(hs:vC b):PD X (.Subscript a b pos) (e2 bH fa fb):=by
 refine(Ol (r:=VM X.K) KW ha hb hs).imp fun σ H Q ⟨Z,B,δ,d,E,hf,q⟩=>?_
 obtain⟨d1,h1,h2⟩:=R.aq hf;obtain⟨d2,h3,h4⟩:=R.aq h2;refine⟨Z,B,δ,d1,E,h1,fun v1 H1 s1 r1=>⟨Z,B,δ,d2,E.same s1,h3,fun v2 H2 s2 r2=>?_⟩⟩
 have zu:=r1.same s2;unfold bH at h4;split at h4
 .split at h4
  .rename_i e;cases h4;obtain⟨p,xs,rfl,l,rs⟩:=Rep.lst.mp zu;obtain⟨y,e1,e2⟩:=sx rs e;exact .inl ⟨p,xs,_,y,rfl,Rep.int.mp r2,l.sq,e1,q y H2 (s1.trans s2) e2⟩
  .cases h4
 .split at h4
  .rename_i e;cases h4;obtain⟨p,xs,rfl,l,rs⟩:=Rep.tup.mp zu;obtain⟨y,e1,e2⟩:=sx rs e;exact .inr (.inl ⟨p,xs,_,y,rfl,Rep.int.mp r2,l.sq,e1,q y H2 (s1.trans s2) e2⟩)
  .cases h4
 .obtain⟨hl,h5⟩:=R.ba h4;split at h5
  .rename_i e;cases h5;exact .inr (.inr ⟨_,_,_,Rep.str.mp zu,Rep.int.mp r2,Qak hl,e,q _ H2 (s1.trans s2) (Rep.str.mpr rfl)⟩)
  .cases h5
 .cases h4
abbrev FO:=az->R (Option Int)
def Z2(K:Qdc)(f:FO):TO:=fun σ H Q=>∃Z B δ o,eD K Z B H σ δ/\f δ= .ok o/\∀H',aX H H'->Q o H'
def PO.imp{X:Cx}{e:Option Expr}{t t':TO}(h:PO X e t)(w:∀σ H Q,t' σ H Q->t σ H Q):PO X e t':=fun pins s σ H Q I hq=>h pins s σ H Q I (w σ H Q hq)
abbrev PP(X:Cx)(e:Option Expr)(f:FO):Prop:=PO X e (Z2 X.K f)
def Jm:FO:=fun _=> .ok none
def BE(f:FD):FO:=fun δ=>(f δ).bind fun d=>match d with | .int i=> .ok (some i) | _=> .no
def M0:PP X none Jm:=NK.imp fun σ H Q ⟨Z,B,δ,o,E,hf,q⟩=>by cases hf;exact q H (aX.refl H)
def MD(h:PD X e f):PP X (some e) (BE f):=(LX h).imp fun σ H Q ⟨Z,B,δ,o,E,hf,q⟩=>by
 obtain⟨d,h1,h2⟩:=R.aq hf;cases d with
 | int i=>cases h2;exact⟨Z,B,δ, .int i,E,h1,fun v H1 s1 r1=>⟨i,Rep.int.mp r1,q H1 s1⟩⟩
 | _=>cases h2
def Qz:Q7 X (fun x lo hi H Q=>∃z,x= .str z/\z.length<=sizeLine/\Q (.str (Txt.slice z lo hi)) H):=by
 intro pins s σ H x v vl vu lo hi sl Q I rx hs pl pu h;obtain⟨z,rfl,hz,q⟩:=h;obtain⟨t,rfl⟩:=rx;refine⟨"str",_,F.slot_str_getitem.lookup,typeIs_str _ _ _,?_⟩;have fin:∀t' k,EP X pins σ Q (.str (Txt.slice z lo hi) t') {s with toks:=k}:=fun t' k=>⟨.str _,H,I.tok _,⟨_,rfl⟩,q⟩
 obtain⟨o,ho,hc,hd⟩:=hs;cases pl with
 | none=>
   cases pu with
   | none=>exact QbV (l:=none) (u:=none) (st:=none) ⟨o,ho,hc,hd⟩ rfl (QcF ⟨Qa0 (Txt.slice_le z _ _) hz,fin⟩)
   | int j u=>exact QbV (l:=none) (u:=some (j,u)) (st:=none) ⟨o,ho,hc,hd⟩ rfl (QcF ⟨Qa0 (Txt.slice_le z _ _) hz,fin⟩)
 | int i t1=>
   cases pu with
   | none=>exact QbV (l:=some (i,t1)) (u:=none) (st:=none) ⟨o,ho,hc,hd⟩ rfl (QcF ⟨Qa0 (Txt.slice_le z _ _) hz,fin⟩)
   | int j u=>exact QbV (l:=some (i,t1)) (u:=some (j,u)) (st:=none) ⟨o,ho,hc,hd⟩ rfl (QcF ⟨Qa0 (Txt.slice_le z _ _) hz,fin⟩)
def cutD{α:Type}(xs:List α)(lo hi:Option Int):List α:=(xs.drop (HT.vE xs.length 0 lo)).take (HT.vE xs.length xs.length hi - HT.vE xs.length 0 lo)
def SE(d:D)(lo hi:Option Int):R D:=match d with
 | .str x=>R.bV (decide (x.length<=sizeLine)) (.ok (.str (Txt.slice x lo hi)))
 | .lst ds=> .ok (.lst (cutD ds lo hi))
 | _=> .no
def Ki{K:Qdc}{B:List Addr}{ds:List D}{xs:List V}(r:aL K B H ds xs)(lo hi:Option Int):aL K B H (cutD ds lo hi) (Dn xs lo hi):=by
 unfold cutD Dn;rw[<-r.length];exact(r.drop _).take _
def Tj(f:FD)(fl fh:FO):FD:=fun δ=>(f δ).bind fun d=>(fl δ).bind fun lo=>(fh δ).bind fun hi=>SE d lo hi
def SK{lo hi:Option Expr}{fl fh:FO}(he:PD X e f)(hl:PP X lo fl)(hh:PP X hi fh):PD X (.Subscript e (.Slice lo hi none p2) pos) (Tj f fl fh):=by
 refine(Ig (Qz.or L4) he hl hh).imp fun σ H Q ⟨Z,B,δ,d,E,hf,q⟩=>?_
 obtain⟨d1,h1,h2⟩:=R.aq hf;obtain⟨l,h3,h4⟩:=R.aq h2;obtain⟨h,h5,h6⟩:=R.aq h4;refine⟨Z,B,δ,d1,E,h1,fun v1 H1 s1 r1=>⟨Z,B,δ,l,E.same s1,h3,fun H2 s2=>⟨Z,B,δ,h,(E.same s1).same s2,h5,fun H3 s3=>?_⟩⟩⟩
 have sA:aX H H3:=s1.trans (s2.trans s3);have zu:=r1.same (s2.trans s3);unfold SE at h6;split at h6
 .obtain⟨hz,h7⟩:=R.ba h6;cases h7;exact .inl ⟨_,Rep.str.mp zu,Qak hz,q _ H3 sA (Rep.str.mpr rfl)⟩
 .cases h6;obtain⟨a,xs,rfl,ls,rs⟩:=Rep.lst.mp zu;refine .inr ⟨a,xs,rfl,ls.sq,fun p hp=>q _ _ (sA.trans (bf hp)) (Rep.lst.mpr ⟨p,_,rfl, .Kb bj fun ha=>?_,(Ki rs l h).same (bf hp)⟩)⟩
  obtain⟨o,ho⟩:=(E.same sA).bs p ha;rw[hp] at ho;cases ho
 .cases h6
end
end L2
end
section
namespace L2
open PySem PySem.Spec PyProof.Rows
section
variable {X:Cx}
def aL.one{K:Qdc}{B:List Addr}{d:D}{xs:List V}(h:aL K B H [d] xs):∃x,xs=[x]/\Rep K B H d x:=by
 obtain⟨x,r,rfl,h1,h2⟩:=h.cN;unfold aL at h2;subst h2;exact⟨x,rfl,h1⟩
def aL.two{K:Qdc}{B:List Addr}{d e:D}{xs:List V}(h:aL K B H [d,e] xs):∃x y,xs=[x,y]/\Rep K B H d x/\Rep K B H e y:=by
 obtain⟨x,r,rfl,h1,h2⟩:=h.cN;obtain⟨y,rfl,h3⟩:=h2.one;exact⟨x,y,rfl,h1,h3⟩
def dU:List D->R D
 | [.str x]=>R.bV (decide (x.length<=sizeLine)) (.ok (.int x.length))
 | [.lst ds]=> .ok (.int ds.length)
 | [.tup ds]=> .ok (.int ds.length)
 | _=> .no
def dI:dn X (.builtin "len") dU:=dn.of HN fun B H ds d xs Q _ rs hg q=>by
 unfold dU at hg;split at hg
 .obtain⟨h1,h2⟩:=R.ba hg;cases h2;obtain⟨x,rfl,r⟩:=rs.one;exact⟨x,_,rfl,by rw[Rep.str.mp r];exact⟨Qak h1,rfl⟩,q _ H (aX.refl H) (Rep.int.mpr rfl)⟩
 .cases hg;obtain⟨x,rfl,r⟩:=rs.one;obtain⟨a,ys,rfl,l,r⟩:=Rep.lst.mp r;exact⟨_,_,rfl, .inl ⟨ys,l.sq,rfl⟩,q _ H (aX.refl H) (Rep.int.mpr (by rw[r.length]))⟩
 .cases hg;obtain⟨x,rfl,r⟩:=rs.one;obtain⟨a,ys,rfl,l,r⟩:=Rep.tup.mp r;exact⟨_,_,rfl, .inr ⟨ys,l.sq,rfl⟩,q _ H (aX.refl H) (Rep.int.mpr (by rw[r.length]))⟩
 .cases hg
def cInt:List D->R D
 | [.int i]=> .ok (.int i)
 | [.bl b]=> .ok (.int (if b then 1 else 0))
 | _=> .no
def Sq:dn X (.type "int") cInt:=dn.of G7 fun B H ds d xs Q _ rs hg q=>by
 unfold cInt at hg;split at hg
 .cases hg;obtain⟨x,rfl,r⟩:=rs.one;exact .inl ⟨_,by rw[Rep.int.mp r],q _ H (aX.refl H) (Rep.int.mpr rfl)⟩
 .cases hg;obtain⟨x,rfl,r⟩:=rs.one;exact .inr ⟨_,by rw[Rep.bl.mp r],q _ H (aX.refl H) (Rep.int.mpr rfl)⟩
 .cases hg
def cStr:List D->R D
 | [.int i]=>R.bV (decide (i.natAbs.log2<1920)) (.ok (.str (toString i)))
 | _=> .no
def O0:List D->R D
 | [.int i, .int j]=> .ok (.int (if j<i then j else i))
 | _=> .no
def Uk(hc:X.calm=true):dn X (.builtin "min") O0:=dn.of (Hq hc) fun B H ds d xs Q _ rs hg q=>by
 unfold O0 at hg;split at hg
 .cases hg;obtain⟨x,y,rfl,r1,r2⟩:=rs.two;exact⟨_,_,by rw[Rep.int.mp r1,Rep.int.mp r2],q _ H (aX.refl H) (Rep.int.mpr rfl)⟩
 .cases hg
def RI:List D->R D
 | [.int i, .int j]=> .ok (.int (if j > i then j else i))
 | _=> .no
def So(hc:X.calm=true):dn X (.builtin "max") RI:=dn.of (Gs hc) fun B H ds d xs Q _ rs hg q=>by
 unfold RI at hg;split at hg
 .cases hg;obtain⟨x,y,rfl,r1,r2⟩:=rs.two;exact⟨_,_,by rw[Rep.int.mp r1,Rep.int.mp r2],q _ H (aX.refl H) (Rep.int.mpr rfl)⟩
 .cases hg
def il:List D->R D
 | [.lst ds]=> .ok (.tup ds)
 | [.tup ds]=> .ok (.tup ds)
 | _=> .no
def kR:dn X (.type "tuple") il:=dn.of yd fun B H ds d xs Q hb rs hg q=>by
 unfold il at hg;split at hg
 .cases hg;obtain⟨x,rfl,r⟩:=rs.one;obtain⟨a,ys,rfl,l,r⟩:=Rep.lst.mp r;refine⟨a,ys,rfl, .inl ⟨l.sq,fun p hp=>q _ _ (bf hp) (Rep.tup.mpr ⟨p,ys,rfl, .inl ⟨fun ha=>?_, .inl bj⟩,r.same (bf hp)⟩)⟩⟩
  obtain⟨o,ho⟩:=hb p ha;rw[hp] at ho;cases ho
 .cases hg;obtain⟨x,rfl,r⟩:=rs.one;have r0:=r;obtain⟨a,ys,rfl,l,r⟩:=Rep.tup.mp r;exact⟨a,ys,rfl, .inr ⟨l.sq,q _ H (aX.refl H) r0⟩⟩
 .cases hg
def X1:List D->R D
 | [.lst ds]=> .ok (.lst ds)
 | [.tup ds]=> .ok (.lst ds)
 | _=> .no
def cAbs:List D->R D
 | [.int i]=> .ok (.int (if i<0 then -i else i))
 | _=> .no
def Ob:dn X (.builtin "abs") cAbs:=dn.of Ih fun B H ds d xs Q _ rs hg q=>by
 unfold cAbs at hg;split at hg
 .cases hg;obtain⟨x,rfl,r⟩:=rs.one;exact⟨_,by rw[Rep.int.mp r],q _ H (aX.refl H) (Rep.int.mpr rfl)⟩
 .cases hg
def O4:List D->R D
 | [.lst ds]=>(match ints? ds with | some ns=> .ok (.int ns.sum) | none=> .no)
 | _=> .no
theorem gL:∀{ns:List Int} {us:List Value},Vals (ns.map V.int) us->∃l:List (Int × Tok),us=l.map (fun p=>Value.int p.1 p.2)/\l.map (·.1)=ns
 | [],_, .nil=>⟨[],rfl,rfl⟩
 | n ::ns,_, .cons r t=>by
   obtain⟨l,rfl,e⟩:=gL t;obtain⟨tk,rfl⟩:=r;exact⟨(n,tk) ::l,rfl,by rw[Qay,e]⟩
def Sw(hc:X.calm=true):dn X (.builtin "sum") O4:=by
 intro pins s σ H B ds d xs us I hb rx rs hg;unfold O4 at hg;split at hg
 .split at hg
  .rename_i es ns e;cases hg;obtain⟨x,rfl,r⟩:=rs.one;obtain⟨a,ys,rfl,l,r⟩:=Rep.lst.mp r;obtain⟨u,rfl,ru⟩:=vals1 rx;cases ru;obtain⟨its,n,rv,e1,hz⟩:=I.N5 l;rw[dR r e] at rv;obtain⟨ps,rfl,rfl⟩:=gL rv;have hl:s.heap.IsList a (intItems ps.toArray):=⟨_,e1,rfl,n,by simp [intItems]⟩
   refine sum_intListG (I.ok.hd hc) hl fun h' tk t' k=>⟨.int _,H,I.kept k,⟨t',rfl⟩,aX.refl H,Rep.int.mpr ?_⟩
   rw[preSum_eq,Qbi (by simp)]
  .cases hg
 .cases hg
def tyName:D->String
 | .cR=>"NoneType" | .bl _=>"bool" | .int _=>"int" | .str _=>"str" | .lst _=>"list" | .tup _=>"tuple" | .dct _ _=>"dict"
def ZL(T:String)(f:FD):FD:=fun δ=>(f δ).bind fun d=>R.bV (tyName d==T && d.atom) (.ok (.bl true))
def MtD(X:Cx)(id:String)(g:D->List D->R D):Prop:=
 ∀(pins:Aaa) (s:Qdd) (σ:St) (H:Hp) (B:List Addr) (da d:D) (ds:List D) (x:V) (xs:List V) (v:Value) (us:List Value),Inv X pins σ H s->(∀a∈B,∃o,H a=some o)->RelV x v->Vals xs us->Rep X.K B H da x->aL X.K B H ds xs->g da ds= .ok d->
  wpAny (model X.prog X.w) X.A (call (.builtin id) (v ::us)) (EP X pins σ fun z H'=>aX H H'/\Rep X.K B H' d z) X.xe s
def eMt(T:String)(g:D->List D->R D)(f:FD)(fs:az->R (List D)):FD:=fun δ=>(f δ).bind fun d=>R.bV (tyName d==T && (d.atom || T=="list")) ((fs δ).bind fun ds=>g d ds)
def X7(d:D)(ds:List D):R D:=match d,ds with
 | .str sep,[.lst es]=>(match strs? es with | some ss=>R.bV (JoinOk sep ss) (.ok (.str (Str.join sep ss))) | none=> .no)
 | _,_=> .no
abbrev PJ(X:Cx)(es:List Expr)(f:az->R (List Str)):Prop:=
 ∀(pins:Aaa) (s:Qdd) (σ:St) (H:Hp) (Z B:List Addr) (δ:az) (acc:Str) (ss:List Str) (Q:VK),Inv X pins σ H s->eD X.K Z B H σ δ->f δ= .ok ss->(ss.foldl (·++·) acc).length<=sizeLine->(∀H',aX H H'->Q (.str (ss.foldl (·++·) acc)) H')->
  wpAny (model X.prog X.w) X.A (joinParts acc (evalEach es X.env)) (EP X pins σ Q) X.xe s
theorem zl:∀(ss:List Str) (acc:Str),acc.length<=(ss.foldl (·++·) acc).length
 | [],acc=>Qag _
 | s ::ss,acc=>Qa0 (by rw[Str.length_append];exact Nat.le_add_right _ _) (zl ss (acc++s))
def Qo:az->R (List Str):=fun _=> .ok []
def E_(f:FD)(g:az->R (List Str)):az->R (List Str):=fun δ=>(f δ).bind fun d=>match d with | .str x=>(g δ).bind fun ss=> .ok (x ::ss) | _=> .no
def P8:PJ X [] Qo:=by
 intro pins s σ H Z B δ acc ss Q I E hf hl q;cases hf;exact joinParts_nil ⟨.str _,H,I.tok _,⟨_,rfl⟩,q H (aX.refl H)⟩ hl
def MZ{g:az->R (List Str)}(he:PD X e f)(hr:PJ X es g)(Xo:evalEach (e ::es) X.env=eval e X.env ::evalEach es X.env:=by rfl):PJ X (e ::es) (E_ f g):=by
 intro pins s σ H Z B δ acc ss Q I E hf hl q;rw[Xo];obtain⟨d,h1,h2⟩:=R.aq hf;cases d with
 | str x=>
   obtain⟨YK,h3,h4⟩:=R.aq h2;cases h4;refine joinParts_cons (eO (he pins s σ H (fun v H'=>aX H H'/\v= .str x) I ⟨Z,B,δ, .str x,E,h1,fun v H' s1 r1=>⟨s1,Rep.str.mp r1⟩⟩) fun v s1 ⟨xv,H1,I1,r1,UN,e1⟩=>?_)
   subst e1;obtain⟨t,rfl⟩:=r1;exact⟨Qa0 (zl YK (acc++x)) hl,hr pins s1 σ H1 Z B δ (acc++x) YK Q I1 (E.same UN) h3 hl fun H' s2=>q H' (UN.trans s2)⟩
 | _=>cases h2
def AF(g:az->R (List Str)):FD:=fun δ=>(g δ).bind fun ss=>R.bV (decide ((ss.foldl (·++·) Str.empty).length<=sizeLine)) (.ok (.str (ss.foldl (·++·) Str.empty)))
def Hj{rest:List Expr}{g:az->R (List Str)}(h:PJ X (K6 ::Le ::rest) g):PD X (.JoinedStr (K6 ::Le ::rest) pos) (AF g):=by
 intro pins s σ H Q I ⟨Z,B,δ,d,E,hf,q⟩;obtain⟨ss,h1,h2⟩:=R.aq hf;obtain⟨h3,h4⟩:=R.ba h2;cases h4;rw[arm_eval_JoinedStr];exact h pins s σ H Z B δ Str.empty ss Q I E h1 (Qak h3) fun H' s1=>q _ H' s1 (Rep.str.mpr rfl)
def Uc:D->R D
 | .str x=>R.bV (decide (x.length<=sizeLine)) (.ok (.str x))
 | .int i=>R.bV (decide (i.natAbs.log2<1920)) (.ok (.str (toString i)))
 | _=> .no
def Pg(f:FD):FD:=fun δ=>(f δ).bind Uc
def Pc(h:PD X e f):PD X (.FormattedValue e (-1) none pos) (Pg f):=by
 intro pins s σ H Q I ⟨Z,B,δ,d,E,hf,q⟩;obtain⟨d1,h1,h2⟩:=R.aq hf;refine FormattedValue_plain (eO (h pins s σ H (fun v H'=>aX H H'/\Rep X.K B H' d1 v) I ⟨Z,B,δ,d1,E,h1,fun v H' s1 r1=>⟨s1,r1⟩⟩) fun v s1 ⟨xv,H1,I1,r1,UN,e1⟩=>?_)
 unfold Uc at h2;split at h2
 .obtain⟨h3,h4⟩:=R.ba h2;cases h4;rw[Rep.str.mp e1] at r1;obtain⟨t,rfl⟩:=r1;exact formatField_str (fun t' tk=>⟨.str _,H1,I1.tok _,⟨_,rfl⟩,q _ H1 UN (Rep.str.mpr rfl)⟩) (Qak h3)
 .obtain⟨h3,h4⟩:=R.ba h2;cases h4;rw[Rep.int.mp e1] at r1;obtain⟨t,rfl⟩:=r1;exact formatField_int_small (Qak h3) ⟨.str _,H1,I1.tok _,⟨_,rfl⟩,q _ H1 UN (Rep.str.mpr rfl)⟩
 .cases h2
def T4:List (D × D)->Str->R (Option D)
 | [],_=> .ok none
 | (.str y,d) ::r,x=>(T4 r x).bind fun o=> .ok (match o with | some e=>some e | none=>if y=x then some d else none)
 | _ ::_,_=> .no
def SJ(x:Str):List D:=x.cps.toList.map fun c=> .str ⟨#[c]⟩
def Its(x:Str):It:=⟨fun i _=>i<x.cps.size,fun i H v H'=>H'=H/\∃c,x.cps[i]? =some c/\v= .str ⟨#[c]⟩,fun i _=>x.cps.size<=i⟩
def XR(f:FD):az->R (List D):=fun δ=>(f δ).bind fun d=>match d with | .str x=> .ok (SJ x) | _=> .no
def ZK(K:Qdc)(a:Addr):It:=
 ⟨fun i H=>∃xs x,rB K H a xs/\xs[i]? =some x,fun i H v H'=>∃p x,H p=none/\v= .ref p/\(∀xs,rB K H a xs->xs[i]? =some x)/\H'=upd H p (.tup [.int i,x]),fun i H=>∃xs,rB K H a xs/\xs.length<=i⟩
def GC{K:Qdc}{k:Nat}(a e it:Addr)(Sg:e≠it):Turn P w K (.Tuple elts k pos) (ZK K a) [e,it] e (fun i h=>(∃old,IsEnum h e it ((i:Nat):Int) old)/\h.IsListIter it a i) where
 mem:=by simp
 obj:=fun i h st b hb=>by
  obtain⟨⟨old,he⟩,o,ho,c,d⟩:=st;rcases Qar.mp hb with rfl | hb
  .exact⟨_,he,fun v z=>by cases z⟩
  .have e:b=it:=by simpa using hb
   subst e;exact⟨o,ho,fun v z=>by rw[d] at z;cases z⟩
 keep:=fun i h h' st k=>by
  obtain⟨⟨old,he⟩,hi⟩:=st;exact⟨⟨old,k e (by simp) _ he⟩,hi.at fun o x=>k it (by simp) o x⟩
 item:=by
  intro X hP hw hK hc i pins s σ H E I hf st hg;subst hP hw hK;obtain⟨xs,x,hq,hx⟩:=hg;obtain⟨its,rv,p,hz⟩:=I.list hq;obtain⟨u,hu,ru⟩:=rv.get hx;obtain⟨⟨old,he⟩,hit⟩:=st;obtain⟨f0,f1,f2,f3,f4,f5⟩:=hf e (by simp)
  obtain⟨g0,g1,g2,g3,g4,g5⟩:=hf it (by simp)
  refine wpAny_pyNext_enum_item he hit p.isList (x:=u) (by simpa using hu) Sg fun kz Ls EH Lg qQ zt=>⟨_,rfl,?_⟩
  refine wpAny_letOwnedTupleGo_enum Ls fun ia K2 dq=>?_
  replace dq:Heap.SameBut e kz ia:=dq
  have hel:e<s.heap.objs.size:=Qaw he;have CZ:ia.get? s.heap.objs.size=some {cls:= .type "tuple",data:= .seq #[.int i s.toks,u]}:=(dq.2 _ (Qcf hel)).trans Lg;have kk:∀b o,b≠e->b≠it->s.heap.get? b=some o->ia.get? b=some o:=fun b o h1 h2 q=>(dq.2 b h1).trans (zt b o h1 h2 q)
  have hn:H s.heap.objs.size=none:=I.fresh;have sm:aX H (upd H s.heap.objs.size (.tup [.int i,x])):=bf hn;have nit:∀b o,H b=some o->b≠e/\b≠it:=fun b o q=>⟨fun z=>(by rw[z,f0] at q;cases q),fun z=>(by rw[z,g0] at q;cases q)⟩
  have hok:oF X.prog X.w (upd H s.heap.objs.size (.tup [.int i,x])) ia:=fun b ob q=>by
   by_cases hb:b=s.heap.objs.size
   .subst hb;rw[bj] at q;cases q;exact⟨by show 2<=sizeLine;decide,[.int i s.toks,u], .cons ⟨_,rfl⟩ (.cons ru .nil),⟨_,CZ,rfl,_,rfl⟩⟩
   .rw [aZ hb] at q;refine(I.hok b ob q).vd (fun c v hc z=>?_) (fun c z=>sm c _ z) fun c ys z=>sm c _ z
    rcases hc with rfl | hc
    .exact kk c v (nit c _ q).1 (nit c _ q).2 z
    .exact kk c v (nit c _ hc).1 (nit c _ hc).2 z
  have nch:∀b,b ∉ [e,it]->b≠e/\b≠it:=fun b hb=>⟨fun z=>hb (by simp [z]),fun z=>hb (by simp [z])⟩
  have I2:Inv X pins σ (upd H s.heap.objs.size (.tup [.int i,x])) {s with heap:=ia,toks:=s.toks+1}:=by
   refine I.step (g':=s.gens) (d':=s.drawn) (ch:=[e,it]) (fun b hb=>?_) (fun b o _ _ hb q _=>kk b o (nch b hb).1 (nch b hb).2 q) (fun b o _ _ hb q _=>⟨o.slots,kk b o (nch b hb).1 (nch b hb).2 q⟩)
    (fun b o hb q n=>by rw[aZ (QaO (Qaw q))];exact n) (fun b o hb q=>⟨o,kk b o (nch b hb).1 (nch b hb).2 q⟩) (fun b ys z=>sm b _ z) (fun b o u z=>sm b _ z) (fun b ps z=>⟨#[],by rw[sm b _ z];simp⟩) (fun m hm=>?_) hok I.bare
   .rcases Qar.mp hb with rfl | hb
    .exact⟨f3,f1,f4,f5⟩
    .have z:b=it:=by simpa using hb
     subst z;exact⟨g3,g1,g4,g5⟩
   .obtain⟨o,es,ep,ho,r⟩:=hm;exact⟨o,es,ep,kk _ o (Qbh f1) (Qbh g1) ho,r⟩
  refine⟨.ref s.heap.objs.size,_,I2,rfl,⟨s.heap.objs.size,x,hn,rfl,fun ys hy=>(by rw[I.tT hy hq];exact hx),rfl⟩,⟨⟨_,by simpa using K2⟩,EH.at fun o q=>(dq.2 it (Qbh Sg)).trans q⟩,fun b hb=>?_⟩
  rcases Qar.mp hb with rfl | hb
  .rw [aZ (QaO hel)];exact f0
  .have z:b=it:=by simpa using hb
   subst z;obtain⟨o,ho,_⟩:=hit;rw[aZ (QaO (Qaw ho))];exact g0
 done:=by
  intro X hP hw hK hc i pins s σ H E I hf st hg;subst hP hw hK;obtain⟨xs,hq,hx⟩:=hg;obtain⟨its,rv,p,hz⟩:=I.list hq;obtain⟨⟨old,he⟩,hit⟩:=st;obtain⟨g0,g1,g2,g3,g4,g5⟩:=hf it (by simp)
  have hl:=rv.length;exact wpAny_pyNext_enum_end (I.ok.hd hc) he hit p.isList (by simp;omega) fun h' eb=>⟨rfl,I.turned (t':=s.toks) (fun b o hb q=>eb b o hb q) g0 g1 g3 g4 g5⟩
 self:=fun A i s Q E st h=>let⟨⟨_,he⟩,_⟩:=st;Qcq he h
def cY(ds:List D):List D:=ds.zipIdx.map fun p=> .tup [.int p.2,p.1]
def ib(f:FD):az->R (List D):=fun δ=>(f δ).bind fun d=>match d with | .lst ds=> .ok (cY ds) | _=> .no
def B7{elts:List Expr}{k:Nat}{uB:Pos}{p pos:Pos}(h:PD X a f)(hg:Gl X "enumerate")(hm:X.mg "enumerate"=none)(hs:starEach [a] X.env=[(false,eval a X.env)]:=by rfl):Q0 X (.Tuple elts k uB) (.Call (.Name "enumerate" p) [a] [] pos) (ib f):=by
 intro pins s σ H RR I ⟨Z,B,δ,ds,E,hf,q⟩;obtain⟨d,h1,h2⟩:=R.aq hf;have hA:=eV h jl hs pos pins s σ H (fun vs H1=>aX H H1/\∃v,vs=[v]/\Rep X.K B H1 d v) I ⟨Z,B,δ,d,E,h1,fun v H1 s1 r1=>⟨s1,v,rfl,r1⟩⟩
 refine Call_ (n3 I hg hm boot_enumerate (Qbc (eO hA fun us s1 ⟨vs,H1,I1,r1,ss,v,ev,rr⟩=>?_) hs rfl))
 subst ev;obtain⟨u,rfl,ru⟩:=vals1 r1;cases d with
 | lst es=>
   cases h2;obtain⟨b,xs,rfl,l,rs⟩:=Rep.lst.mp rr;cases ru;obtain⟨its,n,rv,e1,hz⟩:=I1.N5 l;refine call_enumerate_list (items:=its.toArray) ⟨_,e1,rfl,n,rfl⟩ fun h' he hit HL kk=>Qcq he ?_
   have I2:Inv X pins σ H1 {s1 with heap:=h'}:=I1.kept (t':=s1.toks) kk
   refine⟨s1.heap.objs.size+1,[s1.heap.objs.size+1,s1.heap.objs.size],_,_,H1,rfl,I2,GC b (s1.heap.objs.size+1) s1.heap.objs.size (Nat.succ_ne_self _),⟨⟨_,he⟩,hit⟩,fun c hc=>?_,q _ H1 ss fun B' H' pr=>?_⟩
   .have hle:s1.heap.objs.size<=c:=by
     rcases Qar.mp hc with z | hc
     .rw [z];exact Nat.le_succ _
     .have z:c=s1.heap.objs.size:=by simpa using hc
      rw[z];exact Qag _
    exact I1.wX hle (I1.hok.fresh hle)
   .have l':wF X.K B' H' b xs:=l.bw pr;have rs':=rs.bw pr;refine⟨fun i d hd=>?_,⟨xs,l'.sq,by rw[<-rs.length];unfold cY;simp⟩⟩
    unfold cY at hd;rw[Qad,QbM] at hd;cases e:es[i]? with
    | none=>rw [e] at hd;cases hd
    | some d0=>
      rw[e] at hd;have hd:D.tup [.int ((0+i:Nat):Int),d0]=d:=QaW hd;rw[QbQ] at hd;obtain⟨x,hx,rx⟩:=rs'.get e;refine⟨⟨xs,x,l'.sq,hx⟩,fun v qv y Ld=>?_⟩
      obtain⟨p,y,hp,rfl,hy,rfl⟩:=y;refine⟨bf hp,?_⟩;subst hd;have A_:=hy xs l'.sq;rw[hx] at A_;cases A_;refine Rep.tup.mpr ⟨p,_,rfl, .inl ⟨fun ha=>?_, .inl bj⟩,aL.cons (Rep.int.mpr rfl) (aL.cons (rx.same (bf hp)) aL.nil)⟩
      obtain⟨o,ho⟩:=Ld p ha;rw[hp] at ho;cases ho
 | _=>cases h2
end
def Def(K:Qdc)(mg:Aaf)(x:Str)(st:Stmt):Prop:=∃f fd,D_ K x x st f fd/\mg x=some (.ref f)
def Callee(P:Program)(w:World)(K:Qdc)(mg:Aaf)(base:Heap)(k:Nat)(x:Str)(n:Nat)(g:List D->R D):Prop:=
 ∃f fd ps,j2 P w K mg base yn k f fd ps (Ik K n g)/\mg x=some (.ref f)/\PySem.W.keepIn K (.ref f)=true/\Binds K fd ps []
def bX:∀(δ:az) (ds:List D),aH δ= .ok ds->ds.length=0:=fun δ ds h=>by cases h;rfl
def aQ{g:az->R (List D)}{n:Nat}(h:∀(δ:az) (ds:List D),g δ= .ok ds->ds.length=n):∀(δ:az) (ds:List D),aj f g δ= .ok ds->ds.length=n+1:=fun δ ds e=>by
 obtain⟨d,h1,h2⟩:=R.aq e;obtain⟨es,h3,h4⟩:=R.aq h2;cases h4;rw[QaM,h δ es h3]
def IU{P:Program}{w:World}{K:Qdc}{mg:Aaf}{base:Heap}{x qual:Str}{st:Stmt}{f:Addr}{fd:FuncData}{N ps:List Str}{k:Nat}{F:FS}{b:List Stmt}{sc:Scope}(hb:aO st=b)(hs:aD st=sc)(Fn:D_ K x qual st f fd)(S:aU N ps sc)
 (jf:∀(dt:Value) (A:Around) (outer:List Env) (s:Qdd) (H:Hp) (E:XK),eW k (A.deeper (envOfC qual sc s.heap.objs.size f dt))->
   vh (pN yn P w K mg base N qual sc f dt A outer s H E).MG b F):j2 P w K mg base yn (k+1) f fd ps (Ik K ps.length (uV N F)):=by
 subst hb hs;exact Mf Fn S jf
section
variable {X:Cx}
def HW{g:List D->R D}{k j n:Nat}{x:Str}{p pos:Pos}{e:Expr}{es:List Expr}{fs:az->R (List D)}(C:Callee X.prog X.w X.K X.mg X.base k x n g)(hr:eW j X.A)(EG:k<=j)(hg:Gl X x)(ha:Lr X (e ::es) fs)
 (hn:∀δ ds,fs δ= .ok ds->ds.length=n) (oi:(x==("__debug__":Str))=false:=by decide) (he:starEach (e ::es) X.env=(false,eval e X.env) ::starEach es X.env:=by rfl) (jY:(backTo pos (starEach es X.env)).any (·.1)=false:=by rfl) :
 PD X (.Call (.Name x p) (e ::es) [] pos) (aJ g fs):=by
 obtain⟨f,fd,ps,F,hm,hk,hb⟩:=C;exact MU F (hr.mono EG) hg hm hk hb ha hn oi he jY
def Sz(sc:Scope)(N:List Str)(scope:Scope)(kp:List Nat)(kn:List Str):Bool:=
 decide (scope.kind= .function) && scope.names.all (fun y=>decide (y.2= .cell->scope.names.lookup y.1=some .cell)) && scope.names.all (fun y=>decide (y.2= .local->scope.names.lookup y.1=some .local))
  && scope.names.all (fun y=>decide (y.2= .free->(sc.names.lookup y.1=some .cell\/sc.names.lookup y.1=some .free))) && scope.names.all (fun y=>decide (y.2= .free->scope.names.lookup y.1=some .free)) && decide (kn.length=kp.length)
  && (List.range kp.length).all (fun j=>decide ((kp[j]?).bind (N[·]?)=kn[j]?)) && kn.all (fun x=>decide (scope.names.lookup x=some .free))
def bg.of{own:List Str}{kp:List Nat}{kn:List Str}{N:List Str}(h1:X.env.scope=sc)(h2:X.N=N)(h:Sz sc N scope kp kn=true):bg X scope own kp kn:=by
 unfold Sz at h;simp only[Qbn,Qc2,Qbu] at h;obtain⟨⟨⟨⟨⟨⟨⟨a1,a2⟩,a3⟩,a4⟩,a8⟩,a5⟩,a6⟩,a7⟩:=h;refine⟨a1,a2,a3,fun y hy hf=>?_,a8,a5,fun j i x hj hx=>?_,a7⟩
 .have:=a4 y hy hf;unfold Env.kindOf;rw[h1];exact this
 .have nE:j<kp.length:=(Qab.mp hj).1;have:=a6 j (QaL.mpr nE);rw[hj] at this;rw[h2];exact this.trans hx
def ZA(kvs:List (Key × V))(f g:FD):FD:=fun δ=>(f δ).bind fun k=>(g δ).bind fun d=>match k with
 | .str x=>(match lX (mF [] kvs) (Sum.inr x) with | some (.int i)=> .ok (.int i) | none=> .ok d | _=> .no)
 | _=> .no
def Dq:VC X "list.extend" (fun x vs H Q=>∃l b xs zs,x= .ref l/\vs=[.ref b]/\H l=some (.lst xs)/\(∃B,wF X.K B H b zs)/\xs.length+zs.length<=sizeLine/\Q .cR (upd H l (.lst (xs++zs)))):=by
 intro pins s σ H x vs v us Q I rx rv h;obtain⟨l,b,xs,zs,rfl,rfl,hH,⟨_,hB⟩,hz,q⟩:=h;cases rx;obtain⟨u,rfl,ru⟩:=rv.one;cases ru;obtain⟨z,its,n,r,hl,e⟩:=I.IH hH;obtain⟨uA,n2,r2,e2,z2⟩:=I.N5 hB;have HC:=r2.length;have HL:its.toArray.size+uA.toArray.size<=sizeLine:=by rw[QaG,QaG];omega
 have hlong:¬(!its.toArray.isEmpty && Builtin.List.listTooLong (its.toArray.size+uA.toArray.size))=true:=by
  rw[wM HL,Bool.and_false];exact Qaz
 refine call_meets F.slot_list_extend ⟨_,e,rfl⟩ F.entry_list_extend (F.args_list_extend_2 _ _)
  (Qcu l its.toArray n b uA.toArray n2 hlong (by rw[QaG];omega) (by omega)) ⟨e,e2,?_⟩
 refine⟨.cR,_,I.OZ (its':=its++uA) hH e (by simp) (r.append r2) ?_,rfl,q⟩
 rw[Qau];omega
def XM(i:Nat)(f:FD):FS:=fun δ=>(f δ).bind fun d=>match d with
 | .lst es=>(vT δ i).bind fun ds=>R.bV (decide (ds.length+es.length<=sizeLine)) (.ok (.nx (δ.set i (.bld (ds++es)))))
 | _=> .no
end
structure QD (X:Cx) (e:Expr) (f:FD):Prop where
 h:PD X e f
structure QN (X:Cx) (e:Expr) (f:az->R (List D)):Prop where
 h:PN X e f
structure QB (X:Cx) (e:Expr) (f:az->R Bool):Prop where
 h:PB X e f
structure QH (X:Cx) (e:Expr) (f:az->R Bool):Prop where
 h:Lk X e f
structure N_ (X:Cx) (e:List Expr) (f:az->R (List D)):Prop where
 h:Lr X e f
structure Lh (X:Cx) (e:Stmt) (f:FS):Prop where
 h:JZ X e f
structure yb (X:Cx) (e:List Stmt) (f:FS):Prop where
 h:vh X e f
structure Oz (X:Cx) (e:Expr) (f:FT):Prop where
 h:QW X e f
structure Ng (X:Cx) (e:List Expr) (f:KH):Prop where
 h:JA X e f
structure A7 (X:Cx) (tg e:Expr) (f:az->R (List D)):Prop where
 h:Q0 X tg e f
structure QP (X:Cx) (e:Option Expr) (f:FO):Prop where
 h:PP X e f
structure QJ (X:Cx) (e:List Expr) (f:az->R (List Str)):Prop where
 h:PJ X e f
structure GB (X:Cx) (e:List Expr) (c:az->R Bool):Prop where
 h:sL X e (N7 X.K c)
section
variable {X:Cx}
def bR{f:az->R (List D)}(h:QN X e f):QD X e (eNew f):=⟨PL h.1⟩
def JY(h:QD X e f):QD X e (Bq f):=⟨Na h.1⟩
def aa(i:Nat){pos:Pos}(hN:X.N[i]? =some x:=by rfl)(hv:GQ X.env.scope x:=by first | exact Or.inl rfl | exact Or.inr Qc9 | exact Or.inr (Or.inr rfl))(hd:(x==("__debug__":Str))=false:=by decide)(qC:(x==("__classdict__":Str))=false:=by decide):QD X (.Name x pos) (af i):=⟨Qd i hN hv hd qC⟩
def ag{i j pos}:QD X (.Constant (.int i) j pos) (eC (.int i)):=⟨Rg⟩
def fH{b j pos}:QD X (.Constant (.bool b) j pos) (eC (.bl b)):=⟨Ss⟩
def sj{j pos}:QD X (.Constant .none j pos) (eC .cR):=⟨Ql⟩
def bC{x j pos}:QD X (.Constant (.str x) j pos) (eC (.str x)):=⟨RJ⟩
def JV{d:D}{pos:Pos}(g:Glob X.K X.mg x d)(hg:Gl X x)(hd:(x==("__debug__":Str))=false:=by decide):QD X (.Name x pos) (eC d):=⟨LB g hg hd⟩
def ah:N_ X [] aH:=⟨MS⟩
def ae{g:az->R (List D)}(h:QD X e f)(t:N_ X es g)(hs:starEach (e ::es) X.env=(false,eval e X.env) ::starEach es X.env:=by rfl):N_ X (e ::es) (aj f g):=⟨Jj h.1 t.1 hs⟩
def bq{g:az->R (List D)}{x1 pos}(h:N_ X es g):QD X (.Tuple es x1 pos) (dk g):=⟨Rv h.1⟩
def cP{g:az->R (List D)}{pos}(h:N_ X es g):QN X (.List es pos) (gH g):=⟨QY h.1⟩
def aF{op:Operator}{g:D->D->R D}(ho:nL X (binaryOp op) g)(ha:QD X a fa)(hb:QD X b fb):QD X (.BinOp a op b pos) (e2 g fa fb):=⟨TJ ho ha.1 hb.1⟩
def n6{op:CmpOp}{g:D->D->R D}(ho:nL X (compareOp op) g)(ha:QD X a fa)(hb:QD X b fb)(hm:behindInMarks op b=false):QD X (.Compare a [op] [b] pos) (e2 g fa fb):=⟨Q5 ho ha.1 hb.1 hm⟩
def cS{op:CmpOp}{g:D->D->R D}(ho:nL X (compareOp op) g)(ha:QD X a fa)(hb:QD X b fb)(hm:behindInMarks op b=false):QB X (.Compare a [op] [b] pos) (b2 g fa fb):=⟨QF ho ha.1 hb.1 hm⟩
def qm{a:Expr}(ha:QD X a f)(he:∀whole,isTrue a X.env whole=(do let v <-whole;standAt a.pos;holding [v] (truthy v)):=by intro _;rfl):QB X a (sO f):=⟨Rz ha.1 he⟩
def zN{f:az->R Bool}(h:QH X e f):QB X e f:=⟨Lk.pb h.1⟩
def y8{f:az->R Bool}(h:QB X a f):QH X (.BoolOp .And [a] pos) f:=⟨JI h.1⟩
def Jn{f:az->R Bool}(h:QB X a f):QH X (.BoolOp .Or [a] pos) f:=⟨MC h.1⟩
def Bk{rest:List Expr}{f g:az->R Bool}(ha:QB X a f)(hb:QH X (.BoolOp .And (b ::rest) pos) g):QH X (.BoolOp .And (a ::b ::rest) pos) (Ht f g):=⟨LR ha.1 hb.1⟩
def Nl{rest:List Expr}{f g:az->R Bool}(ha:QB X a f)(hb:QH X (.BoolOp .Or (b ::rest) pos) g):QH X (.BoolOp .Or (a ::b ::rest) pos) (TX f g):=⟨Qm ha.1 hb.1⟩
def z6{f:az->R Bool}(ha:QB X a f):QB X (.UnaryOp .Not a pos) (xy f):=⟨P2 ha.1⟩
def LQ{op}(h:QD X a f):QD X (.BoolOp op [a] pos) f:=⟨Q8 h.1⟩
def M7{rest:List Expr}(ha:QD X a f)(hb:QD X (.BoolOp .And (b ::rest) pos) g):QD X (.BoolOp .And (a ::b ::rest) pos) (JR f g):=⟨Q4 ha.1 hb.1⟩
def DL{fc:az->R Bool}(hc:QB X c fc)(ha:QD X a f)(hb:QD X b g):QD X (.IfExp c a b pos) (Qy fc f g):=⟨T9 hc.1 ha.1 hb.1⟩
def aK{g:List D->R D}{id:String}{p pos:Pos}{fs:az->R (List D)}(hc:dn X (.builtin id) g)(hg:Gl X x)(hm:X.mg x=none)(hv:bootBuiltins x=some (.builtin id))(ha:N_ X (e ::es) fs)(hn:x≠"__name__":=by decide)(oi:(x==("__debug__":Str))=false:=by decide)(he:starEach (e ::es) X.env=(false,eval e X.env) ::starEach es X.env:=by rfl)(jY:(backTo pos (starEach es X.env)).any (·.1)=false:=by rfl):QD X (.Call (.Name x p) (e ::es) [] pos) (aJ g fs):=⟨HV hc hg hm hv ha.1 hn oi he jY⟩
def cW{g:List D->R D}{T:String}{p pos:Pos}{fs:az->R (List D)}(hc:dn X (.type T) g)(hg:Gl X x)(hm:X.mg x=none)(hv:bootBuiltins x=some (.type T))(ha:N_ X (e ::es) fs)(hn:x≠"__name__":=by decide)(oi:(x==("__debug__":Str))=false:=by decide)(he:starEach (e ::es) X.env=(false,eval e X.env) ::starEach es X.env:=by rfl)(jY:(backTo pos (starEach es X.env)).any (·.1)=false:=by rfl):QD X (.Call (.Name x p) (e ::es) [] pos) (aJ g fs):=⟨Hh hc hg hm hv ha.1 hn oi he jY⟩
def iS:yb X [] vc:=⟨NH⟩
def br{st:Stmt}{rest:List Stmt}{F G:FS}(h1:Lh X st F)(h2:yb X rest G):yb X (st ::rest) (fG F G):=⟨Ic h1.1 h2.1⟩
def bb{st:Stmt}{F:FS}(h1:Lh X st F):yb X [st] F:=⟨Mi h1.1⟩
def fV{i:Nat}{pos pos':Pos}(hN:X.N.Nodup)(hi:X.N[i]? =some x)(hx:Loc X.env.scope x)(he:QD X e f)(hs:swapsWith e (some (.Name x pos')) pos.line X.env=pure false:=by rfl)(hf:X.fn x=true\/X.env.scope.names.lookup x=some .local:=by first | exact .inl rfl | exact .inr rfl | assumption):Lh X (.Assign [.Name x pos'] e pos) (ny i f):=⟨Mt hN hi hx he.1 hs hf⟩
def vZ{i:Nat}{f:az->R (List D)}{pos pos':Pos}(hN:X.N.Nodup)(hi:X.N[i]? =some x)(hx:Loc X.env.scope x)(he:QN X e f)(hs:swapsWith e (some (.Name x pos')) pos.line X.env=pure false:=by rfl)(hf:X.fn x=true\/X.env.scope.names.lookup x=some .local:=by first | exact .inl rfl | exact .inr rfl | assumption):Lh X (.Assign [.Name x pos'] e pos) (Bj i f):=⟨Md hN hi hx he.1 hs hf⟩
def sT{i:Nat}{x:Str}{e:Expr}{f:FD}{eP apos cz pos:Pos}(hN:X.N[i]? =some x)(hv:GQ X.env.scope x)(he:QD X e f)(hd:(x==("__debug__":Str))=false:=by decide)(qC:(x==("__classdict__":Str))=false:=by decide)(hs:starEach [e] X.env=(false,eval e X.env) ::starEach [] X.env:=by rfl)(lR:(apos.endLine==cz.line)=true:=by rfl)(rV:((backTo cz (starEach [e] X.env)).all (fun x=>!x.1) && (backToKw cz (keywordEach [] X.env)).all (fun x=>x.1.isSome)
 && decide (([e]:List Expr).length+([]:List Keyword).length+(if([]:List Keyword).isEmpty then 0 else 1)<30))=true:=by rfl) (vn:swapsWith (.Call (.Attribute (.Name x eP) "append" apos) [e] [] cz) none pos.line X.env=pure false:=by rfl) (lT:attributeBase (.Name x eP) "append" X.env (eval (.Name x eP) X.env)=eval (.Name x eP) X.env:=by rfl):Lh X (.Expr (.Call (.Attribute (.Name x eP) "append" apos) [e] [] cz) pos) (Cw i f):=⟨Nx hN hv he.1 hd qC hs lR rV vn lT⟩
def IK{i:Nat}{x:Str}{e:Expr}{f:az->R (List D)}{eP apos cz pos:Pos}(hN:X.N[i]? =some x)(hv:GQ X.env.scope x)(he:QN X e f)(hd:(x==("__debug__":Str))=false:=by decide)(qC:(x==("__classdict__":Str))=false:=by decide)(hs:starEach [e] X.env=(false,eval e X.env) ::starEach [] X.env:=by rfl)(lR:(apos.endLine==cz.line)=true:=by rfl)(rV:((backTo cz (starEach [e] X.env)).all (fun x=>!x.1) && (backToKw cz (keywordEach [] X.env)).all (fun x=>x.1.isSome)
 && decide (([e]:List Expr).length+([]:List Keyword).length+(if([]:List Keyword).isEmpty then 0 else 1)<30))=true:=by rfl) (vn:swapsWith (.Call (.Attribute (.Name x eP) "extend" apos) [e] [] cz) none pos.line X.env=pure false:=by rfl) (lT:attributeBase (.Name x eP) "extend" X.env (eval (.Name x eP) X.env)=eval (.Name x eP) X.env:=by rfl):Lh X (.Expr (.Call (.Attribute (.Name x eP) "extend" apos) [e] [] cz) pos) (Nc i f):=⟨Mb hN hv he.1 hd qC hs lR rV vn lT⟩
def xg(i:Nat){F:FS}(h:yb X OM F):yb X OM (G6 i F):=⟨NB i h.1⟩
def bN(he:QD X e f):Lh X (.Return (some e) pos) (gp f):=⟨Nf he.1⟩
def jS{fc:az->R Bool}{F G:FS}(hc:QB X c fc)(ha:yb X a F)(hb:yb X b G):Lh X (.If c a b pos) (CL fc F G):=⟨Rc hc.1 ha.1 hb.1⟩
def aG{i:Nat}{pos:Pos}(hN:X.N.Nodup)(hi:X.N[i]? =some x)(hx:Loc X.env.scope x)(hf:X.fn x=true\/X.env.scope.names.lookup x=some .local:=by first | exact .inl rfl | exact .inr rfl | assumption):Oz X (.Name x pos) (aC i):=⟨II hN hi hx hf⟩
def dA:Ng X [] ei:=⟨KR⟩
def bp{u:KH}(h1:Oz X e t)(h2:Ng X es u)(hs:(assignEach (e ::es) X.env).map (·.2)=assign e X.env ::(assignEach es X.env).map (·.2):=by rfl):Ng X (e ::es) (bh t u):=⟨GF h1.1 h2.1 hs⟩
def eF{k:Nat}{t:KH}{n:Nat}{pos:Pos}(hc:X.calm=true)(h:Ng X es t)(hn:(assignEach es X.env).length=n:=by rfl)(xV:(assignEach es X.env).findIdx? (·.1)=none:=by rfl):Oz X (.Tuple es k pos) (eg n t):=⟨LC hc h.1 hn xV⟩
def bu(h:QD X e f):A7 X tg e (cF f):=⟨Nt h.1⟩
def bo{tg a:Expr}{p pos:Pos}(h:QD X a f)(hg:Gl X "range")(hm:X.mg "range"=none)(hs:starEach [a] X.env=[(false,eval a X.env)]:=by rfl):A7 X tg (.Call (.Name "range" p) [a] [] pos) (cH f):=⟨EE h.1 hg hm hs⟩
def j9{it:az->R (List D)}{F:FS}{pos:Pos}(hp:PassesOwn (model X.prog X.w) X.A X.env X.xe)(hc:X.calm=true)(hi:A7 X tg iter it)(hg:Oz X tg t)(hb:yb X body F)(hs:∀x,foldedSetIterable iter X.env x=pure x:=by intro _;rfl):Lh X (.For tg iter body [] pos) (vg it t F):=⟨M3 hp hc hi.1 hg.1 hb.1 hs⟩
def bO{own:List Str}{kp:List Nat}{kn:List Str}{it:az->R (List D)}{c:az->R Bool}{pos:Pos}(hc:X.calm=true)(C:bg X scope own kp kn)(hi:A7 X tg iter it)(hg:∀fp s H,Oz (bx X scope (own++kn) fp s H) tg t)(A4:∀fp s H,GB (bx X scope (own++kn) fp s H) ifs c)(he:∀fp s H,QD (bx X scope (own++kn) fp s H) elt f)(hs:∀x,foldedSetIterable iter X.env x=pure x:=by intro _;rfl):QN X (.ListComp elt [⟨tg,iter,ifs,0⟩] scope pos) (cj it t c f own kp):=⟨LV hc C hi.1 (fun fp s H=>(hg fp s H).1) (fun fp s H=>(A4 fp s H).1) (fun fp s H=>(he fp s H).1) hs⟩
def bz:GB X [] dC:=⟨Jr⟩
def o7{c:az->R Bool}(h:QB X e c):GB X [e] c:=⟨MN h.1⟩
def tw{i:Nat}{pos' qh:Pos}{own:List Str}{kp:List Nat}{kn:List Str}{it:az->R (List D)}{c:az->R Bool}(hc:X.calm=true)(hN:X.N.Nodup)(hx:X.N[i]? =some x)(HM:X.env.scope.names.lookup x=some .local)(C:bg X scope own kp kn)(hi:A7 X tg iter it)(hg:∀fp s H,Oz (bx X scope (own++kn) fp s H) tg t)(A4:∀fp s H,GB (bx X scope (own++kn) fp s H) ifs c)(he:∀fp s H,QD (bx X scope (own++kn) fp s H) elt f)(vn:swapsWith (.ListComp elt [⟨tg,iter,ifs,0⟩] scope pos) (some (.Name x pos')) qh.line X.env=pure true:=by rfl)(hs:∀x,foldedSetIterable iter X.env x=pure x:=by intro _;rfl):Lh X (.Assign [.Name x pos'] (.ListComp elt [⟨tg,iter,ifs,0⟩] scope pos) qh) (ny i (eNew (cj it t c f own kp))):=⟨Bn hc hN hx HM C hi.1 (fun fp s H=>(hg fp s H).1) (fun fp s H=>(A4 fp s H).1) (fun fp s H=>(he fp s H).1) vn hs⟩
def aA(ha:QD X a fa)(hb:QD X b fb)(hs:vC b):QD X (.Subscript a b pos) (e2 bH fa fb):=⟨Uo ha.1 hb.1 hs⟩
def HR:QP X none Jm:=⟨M0⟩
def Il(h:QD X e f):QP X (some e) (BE f):=⟨MD h.1⟩
def OU{lo hi:Option Expr}{fl fh:FO}(he:QD X e f)(hl:QP X lo fl)(hh:QP X hi fh):QD X (.Subscript e (.Slice lo hi none p2) pos) (Tj f fl fh):=⟨SK he.1 hl.1 hh.1⟩
def Nm:QJ X [] Qo:=⟨P8⟩
def Bl{g:az->R (List Str)}(he:QD X e f)(hr:QJ X es g)(Xo:evalEach (e ::es) X.env=eval e X.env ::evalEach es X.env:=by rfl):QJ X (e ::es) (E_ f g):=⟨MZ he.1 hr.1 Xo⟩
def DW{rest:List Expr}{g:az->R (List Str)}(h:QJ X (K6 ::Le ::rest) g):QD X (.JoinedStr (K6 ::Le ::rest) pos) (AF g):=⟨Hj h.1⟩
def Mr(h:QD X e f):QD X (.FormattedValue e (-1) none pos) (Pg f):=⟨Pc h.1⟩
def m_{elts:List Expr}{k:Nat}{uB:Pos}{p pos:Pos}(h:QD X a f)(hg:Gl X "enumerate")(hm:X.mg "enumerate"=none)(hs:starEach [a] X.env=[(false,eval a X.env)]:=by rfl):A7 X (.Tuple elts k uB) (.Call (.Name "enumerate" p) [a] [] pos) (ib f):=⟨B7 h.1 hg hm hs⟩
def cD{P:Program}{w:World}{K:Qdc}{mg:Aaf}{base:Heap}{x qual:Str}{st:Stmt}{f:Addr}{fd:FuncData}{N ps:List Str}{k:Nat}{F:FS}{b:List Stmt}{sc:Scope}(hb:aO st=b)(hs:aD st=sc)(Fn:D_ K x qual st f fd)(S:aU N ps sc)(jf:∀(dt:Value) (A:Around) (outer:List Env) (s:Qdd) (H:Hp) (E:XK),eW k (A.deeper (envOfC qual sc s.heap.objs.size f dt))->
 yb (pN yn P w K mg base N qual sc f dt A outer s H E).MG b F):j2 P w K mg base yn (k+1) f fd ps (Ik K ps.length (uV N F)):=IU hb hs Fn S (fun dt A outer s H E hr=>(jf dt A outer s H E hr).1)
def bE{g:List D->R D}{k j n:Nat}{p pos:Pos}{fs:az->R (List D)}(C:Callee X.prog X.w X.K X.mg X.base k x n g)(hr:eW j X.A)(EG:k<=j)(hg:Gl X x)(ha:N_ X (e ::es) fs)(hn:∀δ ds,fs δ= .ok ds->ds.length=n)(oi:(x==("__debug__":Str))=false:=by decide)(he:starEach (e ::es) X.env=(false,eval e X.env) ::starEach es X.env:=by rfl)(jY:(backTo pos (starEach es X.env)).any (·.1)=false:=by rfl):QD X (.Call (.Name x p) (e ::es) [] pos) (aJ g fs):=⟨HW C hr EG hg ha.1 hn oi he jY⟩
end
def Gz{P:Program}{w:World}{K:Qdc}{mg mb:Aaf}{CX:HG}{k:Nat}{fa a:Addr}{fd:FuncData}{x:Str}{sp:Sp}{s₁:Qdd}{vs:List Value}{ns:List Int}
 (KX:K.In s₁.heap) (Sh:s₁.heap.Ns mainGlobals mg) (hb:s₁.heap.Ns builtinsNs mb) (hbb:∀x:Str,x≠"__name__"->mb x=bootBuiltins x) (WA:s₁.heap.NoLimit) (hg:s₁.gens=#[])
 (ha:s₁.heap.get? a=some {cls:= .type "list",data:= .seq vs.toArray}) (hi:IntsAre vs ns) (hl:ns.length<=sizeLine) (hr:eW k callerA)
 (F:∀base:Heap,K.In base->base.Ns mainGlobals mg->j2 P w K mg base CX k fa fd [x] sp) (UB:∀(s:Qdd) (u:Value),BindsTo s fd ⟨[u],[]⟩ [(x,u)])
 (Lu:∀H:Hp,TM H->wF K [] H a (ns.map V.int)->sp [.ref a] H (fun v _=>v= .bl true) fun _ _ _=>False)
 (hCX:∀H e s',CX [] H s₁ (fun _ _ _=>False) e s'->False) :
 codeAny (model P w) callerA (.call (.ref fa) ⟨[.ref a],[]⟩) (fun r s'=>r= .ok (.ret (.bool true))/\OldK s₁.heap s'.heap/\s'.os=s₁.os/\AllBare s'.gens) s₁:=by
 have rv:=yO hi;have lenV:=hi.length;have core:∀H:Hp,TM H->wF K [] H a (ns.map V.int)->oF P w H s₁.heap->(∀b,H b≠none->b=a)->(H a≠none->K.lookup a=none)->
  codeAny (model P w) callerA (.call (.ref fa) ⟨[.ref a],[]⟩) (fun r s'=>r= .ok (.ret (.bool true))/\OldK s₁.heap s'.heap/\s'.os=s₁.os/\AllBare s'.gens) s₁:=by
  intro H hO hS hok hA hK;have Gp:∀{b:Addr} {o:Obj},s₁.heap.get? b=some o->H b=none->(zQ s₁.heap H).get? b=some o:=fun e n=>Im e n
  have noA:∀{b:Addr} {o:Obj} {es:Array DictEntry} {ep:Nat},s₁.heap.get? b=some o->o.data= .dict es ep->H b=none:=fun {b o es ep} e d=>by
   cases q:H b with
   | none=>rfl
   | some u=>
     have e':b=a:=hA b (by rw[q];simp)
     subst e';rw[ha] at e;cases e;have d':Data.seq vs.toArray _=Data.dict es ep:=d;cases d'
  have nsK:∀{b:Addr} {m:Aaf},s₁.heap.Ns b m->(zQ s₁.heap H).Ns b m:=fun {b m} ⟨o,es,ep,e,d,r⟩=>⟨o,es,ep,Gp e (noA e d),d,r⟩
  have hKb:K.In (zQ s₁.heap H):=fun b o e=>Gp (KX b o e) (by
   cases q:H b with
   | none=>rfl
   | some u=>
     have e':b=a:=hA b (by rw[q];simp)
     subst e';rw[hK (by rw[q];simp)] at e;cases e)
  have hM:Mod K mg (zQ s₁.heap H):=⟨hKb,nsK Sh,⟨mb,nsK hb,hbb⟩,let⟨mc,h1,h2⟩:=WA;⟨mc,nsK h1,h2⟩⟩
  have e0:Et P w K mg (zQ s₁.heap H) callerA [] s₁ H:=⟨rfl,hM,fun b o e=>MR e,Nat.le_of_eq (Hs _ _),trivial,fun b hb=>absurd (show b∈([]:List Addr) from hb) (by simp),hok, .of_eq hg⟩
  refine codeAny_mono ((F _ hKb (nsK Sh)).run callerA [] s₁ H ⟨[.ref a],[]⟩ [.ref a] [.ref a] _ _ hr e0 (UB s₁ (.ref a)) (.cons rfl .nil) (Lu H hO hS)) fun r s' h=>?_
  cases r with
  | error e=>exact(hCX H e s' h).elim
  | ok fl=>
    cases fl with
    | next=>exact False.elim h
    | brk=>exact False.elim h
    | cont=>exact False.elim h
    | ret u=>
      obtain⟨v,H',os,bare,un,Xh,r',q⟩:=h;have q':v= .bl true:=q;subst q';obtain rfl:u=Value.bool true:=r';refine⟨rfl,OldK.of_keep fun b o e=>?_,os,bare⟩
      cases q:H b with
      | none=>exact un.keep b o e q (by intro z;exact absurd (show b∈([]:List Addr) from z) (by simp)) (by simp)
      | some u=>
        rcases hO b with z | ⟨ob,xs,z⟩
        .rw [q] at z;cases z
        .have z2:=un.frzs b ob _ z;obtain⟨e1,_⟩:=hok b _ z;obtain⟨e2,_⟩:=Xh b _ z2;rw[e] at e1;cases e1;exact e2
 cases hk:K.lookup a with
 | some o=>
   have e:=KX a o hk;rw[ha] at e;cases e;refine core (fun _=>none) (fun _=> .inl rfl) (.inr ⟨vs,_,hk,by rw[Qaa];exact hl,rv⟩) (fun b u z=>by have z':(none:Option HO)=some u:=z;cases z') (fun b z=>absurd rfl z) fun z=>absurd rfl z
 | none=>
   refine core (fun b=>if b=a then some (.lV {cls:= .type "list",data:= .seq vs.toArray} (.lst (ns.map V.int))) else none) (fun b=>?_) (.inl ⟨by simp, .inr ⟨{cls:= .type "list",data:= .seq vs.toArray},QaD rfl⟩⟩) (fun b u z=>?_) (fun b z=>?_) fun _=>hk
   .by_cases hb:b=a
    .exact .inr ⟨_,_,QaD hb⟩
    .exact .inl (QaB hb)
   .by_cases hb:b=a
    .have z':=(QaD hb).symm.trans z;cases z';subst hb;exact⟨ha,by rw[Qaa];exact hl,vs,_,rv,ha⟩
    .have z':=(QaB hb).symm.trans z;cases z'
   .by_cases hb:b=a
    .exact hb
    .exact absurd (QaB hb) z
theorem ints_rep{K:Qdc}{B:List Addr}:∀ns:List Int,aL K B H (ns.map D.int) (ns.map V.int)
 | []=>aL.nil
 | n ::ns=>aL.cons (Rep.int.mpr rfl) (ints_rep ns)
def TU{l:PySem.W.OpenLaw}{n k:Nat}{q:Program}{loose:List Str}{XP:(Str->Option Value)->Heap->Prop}{YP:World->Heap->Prop}{d:DefRec}{K:Params->Qdc}{x:Str}{g:List D->R D}
 (hn:l.most=some n) (RX:n<=sizeLine) (Xi:d.params.defaults=[]) (hr:eW k callerA) (hY:∀(w:World) (h:Heap),YP w h->(K w.params).In h)
 (F:∀(w:World) (mg:Aaf) (fa:Addr) (h:Heap),(K w.params).In h->h.Ns mainGlobals mg->mg d.name=some (.ref fa)->
   ∃fd:FuncData,(∀(s:Qdd) (u:Value),BindsTo s fd ⟨[u],[]⟩ [(x,u)])/\∀base:Heap,(K w.params).In base->base.Ns mainGlobals mg->j2 l.prog w (K w.params) mg base yn k fa fd [x] (Ik (K w.params) 1 g))
 (hg:∀ns:List Int,ns.length<=n->g [.lst (ns.map D.int)]= .ok (.bl true)):PySem.W.WalkO q loose XP YP l.row.toRowW d [] (fun f vs=>PySem.call f vs):=by
 refine Att.BI hn Xi fun w s₀ s₁ mg mb fa o pm cd doc a vs ns G Y ho hd qC OK RQ hints hlen XG=>?_
 have KX:=hY w _ Y;obtain⟨fd,hb,hF⟩:=F w mg fa _ KX G.T.g OK;refine Gz KX G.T.g G.T.b G.T.builtins G.T.nolimit XG RQ hints (Qa0 hlen RX) hr hF hb (fun H hO hS=>?_) fun H e s' h=>h
 refine⟨rfl,[],[.lst (ns.map D.int)], .bl true,fun b hb=>(by cases hb),aL.cons (Rep.lst.mpr ⟨_,_,rfl,hS,ints_rep ns⟩) aL.nil,hg ns hlen,fun z H' _ r=>Rep.bl.mp r⟩
def bW{K:Qdc}{h:Heap}{mg:Aaf}{x:Str}{st:Stmt}{f:Addr}{oc:Value}{od an:Option Addr}{K8:Array (Option Value)}{kV doc pm dt ct:Value}(X:K.In h)(G:h.Ns mainGlobals mg)(a:PySem.W.nsIn K mainGlobals x=some (some (.ref f)))
 (l:K.lookup f=some ⟨oc,od, .func (PySem.W.fnOf x x (iL st) (aO st) (aD st) .none kV doc pm an dt ct),K8⟩) (c:PySem.W.codeIn K dt x=true) (k:PySem.W.keepIn K (.ref f)=true):Def K mg x st:=
 ⟨f,_,rG l c k,Qbo X G a⟩
def Ju{K:Qdc}{h:Heap}{mg:Aaf}(X:K.In h)(G:h.Ns mainGlobals mg){i:Int}{t:Tok}(a:PySem.W.nsIn K mainGlobals x=some (some (.int i t))):Glob K mg x (.int i):=
 ⟨_, .int i,Qbo X G a,⟨t,rfl⟩,fun _ _=>Rep.int.mpr rfl⟩
def wO{t:FT}{body:FS}:∀(ds:List D) (n:Nat) (P:Nat->az->Prop) {δ:az},P n δ->
 (∀i d δ,ds[i]? =some d->P (n+i) δ->∃eT,((t d δ).bind body)= .ok (.nx eT)/\P (n+i+1) eT)->∃eT,qJ t body ds δ= .ok (.nx eT)/\P (n+ds.length) eT
 | [],n,P,δ,h0,_=>⟨δ,rfl,h0⟩
 | d ::ds,n,P,δ,h0,hs=>by
   obtain⟨cX,e1,p1⟩:=hs 0 d δ rfl h0;obtain⟨ef,e2,p2⟩:=wO ds (n+1) P p1 (fun i d' eT hi hp=>by
    have:=hs (i+1) d' eT (by simpa using hi) (by rw[show n+(i+1)=n+1+i by omega];exact hp)
    rw[show n+(i+1)+1=n+1+i+1 by omega] at this
    exact this)
   refine⟨ef,?_,by rw[QaM,show n+(ds.length+1)=n+1+ds.length by omega];exact p2⟩
   obtain⟨δ0,h1,h2⟩:=R.aq e1;show(t d δ).bind (fun cX=>(body cX).bind fun o=>match o with | .nx ef=>qJ t body ds ef | .rt r=> .ok (.rt r))=_
   rw[h1,R.aS,h2,R.aS];exact e2
def kT{t:FT}{body:FS}{ds:List D}(P:Nat->az->Prop){δ:az}(h0:P 0 δ)
 (hs:∀i d δ,ds[i]? =some d->P i δ->∃eT,((t d δ).bind body)= .ok (.nx eT)/\P (i+1) eT):∃eT,qJ t body ds δ= .ok (.nx eT)/\P ds.length eT:=by
 have:=wO (t:=t) (body:=body) ds 0 P h0 (fun i d δ hi hp=>by simpa using hs i d δ hi (by simpa using hp))
 simpa using this
theorem uk{t:FT}{c:az->R Bool}{f:FD}{δ:az}(g:D->D):∀{ds:List D},(∀d∈ds,∃cX,t d δ= .ok cX/\c cX= .ok true/\f cX= .ok (g d))->oM t c f δ ds= .ok (ds.map g)
 | [],_=>rfl
 | d ::ds,h=>by
   obtain⟨cX,h1,h2,h3⟩:=h d Qat;have ih:=uk (t:=t) (c:=c) (f:=f) (δ:=δ) g (fun d' hd=>h d' (Qai _ hd))
   unfold oM;rw[h1,R.aS,h2,R.aS,QaD rfl,h3,R.aS,ih];rfl
def rp{α:Type}{xs:List α}{i:Int}(h0:0<=i)(h:i.toNat<xs.length):vW xs i=some xs[i.toNat]:=by
 unfold vW HD;rw[QaD h0,QaD (by omega)]
 simp [h]
theorem ints_map:∀ss:List Int,ints? (ss.map D.int)=some ss
 | []=>rfl
 | s ::ss=>by show(ints? (ss.map D.int)).map (s ::·)=_;rw [ints_map ss];rfl
def bG{F G:FS}{δ cX:az}{r:R Out}(h:F δ= .ok (.nx cX))(h2:G cX=r):fG F G δ=r:=by unfold fG;rw [h,R.aS];exact h2
def cu{f:az->R (List D)}{δ:az}{ds:List D}(h:f δ= .ok ds):eNew f δ= .ok (.lst ds):=by unfold eNew;rw [h];rfl
def tH{c:az->R Bool}{F G:FS}{δ:az}{r:R Out}(h:c δ= .ok true)(h2:F δ=r):CL c F G δ=r:=by unfold CL;rw [h,R.aS,QaD rfl];exact h2
def kB{c:az->R Bool}{F G:FS}{δ:az}{r:R Out}(h:c δ= .ok false)(h2:G δ=r):CL c F G δ=r:=by unfold CL;rw [h,R.aS,QaB (by decide)];exact h2
def kE{it:az->R (List D)}{F:FS}{δ:az}{ds:List D}{r:R Out}(h:it δ= .ok ds)(h2:qJ t F ds δ=r):vg it t F δ=r:=by unfold vg;rw [h,R.aS];exact h2
def cL{f:FD}{δ:az}{d:D}(h:f δ= .ok d):gp f δ= .ok (.rt d):=by unfold gp;rw [h];rfl
def cV{N:List Str}{F:FS}{ds:List D}{d:D}(h:F (dj N ds)= .ok (.rt d)):uV N F ds= .ok d:=by unfold uV;rw [h];rfl
def c_{α:Type}{p:Prop} [Decidable p](r:R α)(h:p):R.bV (decide p) r=r:=by rw[QaE h];rfl
def fO{i:Nat}{f:FD}{δ:az}{d:D}(h:f δ= .ok d)(hi:i<δ.length):ny i f δ= .ok (.nx (δ.set i (.val d))):=by unfold ny;rw [h,R.aS,c_ _ hi]
def Ad{i:Nat}{f:az->R (List D)}{δ:az}{ds:List D}(h:f δ= .ok ds)(hi:i<δ.length):Bj i f δ= .ok (.nx (δ.set i (.bld ds))):=by unfold Bj;rw [h,R.aS,c_ _ hi]
def vG{i:Nat}{f:FD}{δ:az}{d:D}{ds:List D}(h:f δ= .ok d)(hb:δ[i]? =some (.bld ds))(hl:ds.length<sizeLine):Cw i f δ= .ok (.nx (δ.set i (.bld (ds++[d])))):=by unfold Cw vT;rw [h,R.aS,hb];show R.bV _ _=_;rw [c_ _ hl]
def bB{it:az->R (List D)}{c:az->R Bool}{own:List Str}{kp:List Nat}{δ:az}{ds ys:List D}(h1:it δ= .ok ds)(h2:ds.length<=sizeLine)(h3:oM t c f (pd own kp δ) ds= .ok ys):cj it t c f own kp δ= .ok ys:=by unfold cj;rw [h1,R.aS,c_ _ h2,h3]
def zP{ds:List D}{i:Int}{d:D}(h:vW ds i=some d):bH (.lst ds) (.int i)= .ok d:=by unfold bH;simp only[h]
def we{ds:List D}{i:Int}{d:D}(h:vW ds i=some d):bH (.tup ds) (.int i)= .ok d:=by unfold bH;simp only[h]
def av{g:D->D->R D}{fa fb:FD}{δ:az}{a b:D}{r:R D}(ha:fa δ= .ok a)(hb:fb δ= .ok b)(h:g a b=r):e2 g fa fb δ=r:=by unfold e2;rw [ha,R.aS,hb,R.aS];exact h
def je{g:D->D->R D}{fa fb:FD}{δ:az}{a b:D}{k:Bool}(ha:fa δ= .ok a)(hb:fb δ= .ok b)(h:g a b= .ok (.bl k)):b2 g fa fb δ= .ok k:=by unfold b2;rw [av ha hb h];rfl
def au{f:FD}{g:az->R (List D)}{δ:az}{d:D}{ds:List D}(h:f δ= .ok d)(h2:g δ= .ok ds):aj f g δ= .ok (d ::ds):=by unfold aj;rw [h,R.aS,h2];rfl
def ax{g:List D->R D}{fs:az->R (List D)}{δ:az}{ds:List D}{r:R D}(h:fs δ= .ok ds)(h2:g ds=r):aJ g fs δ=r:=by unfold aJ;rw [h,R.aS];exact h2
def JM{f:FD}{δ:az}{d:D}(h:f (wa δ)= .ok d)(ha:d.atom=true):Bq f δ= .ok d:=by unfold Bq;rw [h,R.aS,ha];rfl
def cI{g:az->R (List D)}{δ:az}{ds:List D}(h:g δ= .ok ds)(hl:ds.length<=sizeLine):dk g δ= .ok (.tup ds):=by unfold dk;rw [h,R.aS,c_ _ hl]
def Fq{g:az->R (List D)}{δ:az}{ds:List D}(h:g δ= .ok ds)(hl:ds.length<=sizeLine):gH g δ= .ok ds:=by unfold gH;rw [h,R.aS,c_ _ hl]
def P7{f:FD}{fl fh:FO}{δ:az}{d:D}{lo hi:Option Int}{r:R D}(h:f δ= .ok d)(h1:fl δ= .ok lo)(h2:fh δ= .ok hi)(h3:SE d lo hi=r):Tj f fl fh δ=r:=by unfold Tj;rw [h,R.aS,h1,R.aS,h2,R.aS];exact h3
def IE{f:FD}{δ:az}{i:Int}(h:f δ= .ok (.int i)):BE f δ= .ok (some i):=by unfold BE;rw [h];rfl
def LK{a b:List D}(h:a.length+b.length<=sizeLine):dO (.lst a) (.lst b)= .ok (.lst (a++b)):=by unfold dO;exact c_ _ h
def cU{f:FD}{δ:az}{n:Nat}(h:f δ= .ok (.int n))(hn:n<1000000):cH f δ= .ok (ip 0 n):=by
 unfold cH;rw [h,R.aS];show R.bV (decide (-(2 ^ 62)<=(n:Int)/\(n:Int)<2 ^ 62)) _=_;rw[c_ _ ⟨by omega,by omega⟩,Qa4]
def iy{f:FD}{δ:az}{ds:List D}(h:f δ= .ok (.lst ds)):cF f δ= .ok ds:=by unfold cF;rw [h];rfl
def pW{f:FD}{δ:az}{ds:List D}(h:f δ= .ok (.tup ds)):cF f δ= .ok ds:=by unfold cF;rw [h];rfl
def Pt{f:FD}{δ:az}{ds:List D}(h:f δ= .ok (.lst ds)):ib f δ= .ok (cY ds):=by unfold ib;rw [h];rfl
def RF{f:FD}{δ:az}{b:Bool}(h:f δ= .ok (.bl b)):Sb f δ= .ok b:=by unfold Sb;rw [h];rfl
def jm(ds:List D):dU [.lst ds]= .ok (.int ds.length):=rfl
end L2
end
section
namespace L3
open PySem PySem.Spec PyProof.Rows L2
inductive V3 where
 | d (x:D) | loc (k:Nat) | lst (vs:List V3) | tup (vs:List V3) | fn (x:Str)
inductive SO where
 | lst (ds:List D) | dct (kvs:List (Key × D)) | ins (c:Nat) (fs:List (Str × V3)) | lV | exc (c:Nat)
abbrev aN:=List SO
inductive R3 (α:Type) where
 | ok (a:α) (S:aN) | ex (c:Nat) (S:aN) | no
def R3.bind{α β:Type}:R3 α->(α->aN->R3 β)->R3 β
 | .ok a S,f=>f a S
 | .ex c S,_=> .ex c S
 | .no,_=> .no
def R3.aq{α β:Type}{r:R3 α}{f:α->aN->R3 β}{b:β}{S':aN}(h:r.bind f= .ok b S'):∃a S,r= .ok a S/\f a S= .ok b S':=by
 cases r with
 | ok a S=>exact⟨a,S,rfl,h⟩
 | ex c S=>cases h
 | no=>cases h
@[simp] theorem R3.aS{α β:Type}(a:α)(S:aN)(f:α->aN->R3 β):(R3.ok a S).bind f=f a S:=rfl
def R3.bV{α:Type}(c:Bool)(r:R3 α):R3 α:=if c then r else .no
def R3.ba{α:Type}{c:Bool}{r:R3 α}{a:α}{S:aN}(h:R3.bV c r= .ok a S):c=true/\r= .ok a S:=by
 cases c with
 | true=>exact⟨rfl,h⟩
 | false=>cases h
def R3.of{α:Type}(r:R α)(S:aN):R3 α:=match r with | .ok a=> .ok a S | _=> .no
def R3.of_ok{α:Type}{r:R α}{S S':aN}{a:α}(h:R3.of r S= .ok a S'):r= .ok a/\S'=S:=by
 cases r with
 | ok b=>cases h;exact⟨rfl,rfl⟩
 | ex c=>cases h
 | no=>cases h
structure P3 where
 r:List Addr
 z:List Addr
 f:List Addr
def P3.b(ρ:P3):List Addr:=ρ.r.filter (fun a=>!ρ.f.contains a)++ρ.z
def P3.eR{ρ:P3}{a:Addr}:a∈ρ.b↔(a∈ρ.r/\a ∉ ρ.f)\/a∈ρ.z:=by
 unfold P3.b;rw[Qbm,Qbg];simp
def P3.push(ρ:P3)(a:Addr):P3:=⟨ρ.r++[a],ρ.z,ρ.f⟩
def P3.cut(ρ:P3)(n:Nat):P3:=⟨ρ.r.take n,ρ.z,ρ.f⟩
mutual
def a_(K:Qdc)(ρ:P3)(H:Hp):V3->V->Prop
 | .d x,v=>Rep K ρ.b H x v
 | .loc k,v=>∃a,ρ.r[k]? =some a/\v= .ref a
 | .lst vs,v=>∃a xs,v= .ref a/\wF K ρ.b H a xs/\aR K ρ H vs xs
 | .tup vs,v=>∃a xs,v= .ref a/\za K ρ.b H a xs/\aR K ρ H vs xs
 | .fn x,v=>∃a,PySem.W.nsIn K mainGlobals x=some (some (.ref a))/\v= .ref a
def aR(K:Qdc)(ρ:P3)(H:Hp):List V3->List V->Prop
 | [],xs=>xs=[]
 | d ::ds,xs=>∃x r,xs=x ::r/\a_ K ρ H d x/\aR K ρ H ds r
end
structure Pre (ρ:P3) (H:Hp) (ck:P3) (H':Hp):Prop where
 bw:dQ ρ.b H ck.b H'
 zz:ck.z=ρ.z
 zs:∀(b:Addr) (o:HO),b∈ρ.z->H b=some o->H' b=some o
 ext:∀(k:Nat) (a:Addr),ρ.r[k]? =some a->ck.r[k]? =some a
def Pre.refl(ρ:P3)(H:Hp):Pre ρ H ρ H:=⟨dQ.refl ρ.b H,rfl,fun _ _ _ h=>h,fun _ _ h=>h⟩
def Pre.trans(a:Pre ρ H ck H')(b:Pre ck H' Lc qv):Pre ρ H Lc qv:=⟨a.bw.trans b.bw,b.zz.trans a.zz,fun c o hc h=>b.zs c o (by rw[a.zz];exact hc) (a.zs c o hc h),fun k x h=>b.ext k x (a.ext k x h)⟩
def Pre.same(s:aX H H'):Pre ρ H ρ H':=⟨dQ.same s,rfl,fun b o _ h=>s b o h,fun _ _ h=>h⟩
def za.bw{K:Qdc}{B B':List Addr}(p:dQ B H B' H'){a:Addr}{xs:List V}(l:za K B H a xs):za K B' H' a xs:=
 l.elim (fun z=> .inl ⟨(p.rd z.2 z.1).2,(p.rd z.2 z.1).1⟩) .inr
mutual
theorem a_.pre{K:Qdc}(p:Pre ρ H ck H'):∀{d:V3} {v:V},a_ K ρ H d v->a_ K ck H' d v
 | .d x,v,h=>by unfold a_ at h ⊢;exact h.bw p.bw
 | .loc k,v,h=>by unfold a_ at h ⊢;obtain⟨a,h1,h2⟩:=h;exact⟨a,p.ext k a h1,h2⟩
 | .lst vs,v,h=>by unfold a_ at h ⊢;obtain⟨a,xs,e,l,r⟩:=h;exact⟨a,xs,e,l.bw p.bw,aR.pre p r⟩
 | .tup vs,v,h=>by unfold a_ at h ⊢;obtain⟨a,xs,e,l,r⟩:=h;exact⟨a,xs,e,za.bw p.bw l,aR.pre p r⟩
 | .fn x,v,h=>by unfold a_ at h ⊢;exact h
theorem aR.pre{K:Qdc}(p:Pre ρ H ck H'):∀{ds:List V3} {xs:List V},aR K ρ H ds xs->aR K ck H' ds xs
 | [],_,h=>by unfold aR at h ⊢;exact h
 | d ::ds,xs,h=>by
   unfold aR at h ⊢;obtain⟨x,r,e,h1,h2⟩:=h;exact⟨x,r,e,a_.pre p h1,aR.pre p h2⟩
end
structure PW (ρ:P3) (H:Hp) (ck:P3) (H':Hp):Prop where
 bw:dQ ρ.b H ck.b H'
 ext:∀(k:Nat) (a:Addr),ρ.r[k]? =some a->ck.r[k]? =some a
def Pre.pw(p:Pre ρ H ck H'):PW ρ H ck H':=⟨p.bw,p.ext⟩
def PW.trans(a:PW ρ H ck H')(b:PW ck H' Lc qv):PW ρ H Lc qv:=⟨a.bw.trans b.bw,fun k x h=>b.ext k x (a.ext k x h)⟩
mutual
theorem a_.pw{K:Qdc}(p:PW ρ H ck H'):∀{d:V3} {v:V},a_ K ρ H d v->a_ K ck H' d v
 | .d x,v,h=>by unfold a_ at h ⊢;exact h.bw p.bw
 | .loc k,v,h=>by unfold a_ at h ⊢;obtain⟨a,h1,h2⟩:=h;exact⟨a,p.ext k a h1,h2⟩
 | .lst vs,v,h=>by unfold a_ at h ⊢;obtain⟨a,xs,e,l,r⟩:=h;exact⟨a,xs,e,l.bw p.bw,aR.pw p r⟩
 | .tup vs,v,h=>by unfold a_ at h ⊢;obtain⟨a,xs,e,l,r⟩:=h;exact⟨a,xs,e,za.bw p.bw l,aR.pw p r⟩
 | .fn x,v,h=>by unfold a_ at h ⊢;exact h
theorem aR.pw{K:Qdc}(p:PW ρ H ck H'):∀{ds:List V3} {xs:List V},aR K ρ H ds xs->aR K ck H' ds xs
 | [],_,h=>by unfold aR at h ⊢;exact h
 | d ::ds,xs,h=>by
   unfold aR at h ⊢;obtain⟨x,r,e,h1,h2⟩:=h;exact⟨x,r,e,a_.pw p h1,aR.pw p h2⟩
end
def aR.nil{K:Qdc}:aR K ρ H [] []:=by unfold aR;rfl
def aR.cons{K:Qdc}{d:V3}{ds:List V3}{x:V}{xs:List V}(h:a_ K ρ H d x)(t:aR K ρ H ds xs):aR K ρ H (d ::ds) (x ::xs):=by
 unfold aR;exact⟨x,xs,rfl,h,t⟩
def aR.cN{K:Qdc}{d:V3}{ds:List V3}{xs:List V}(h:aR K ρ H (d ::ds) xs):∃x r,xs=x ::r/\a_ K ρ H d x/\aR K ρ H ds r:=by
 unfold aR at h;exact h
theorem aR.length{K:Qdc}:∀{ds:List V3} {xs:List V},aR K ρ H ds xs->ds.length=xs.length
 | [],_,h=>by unfold aR at h;rw [h];rfl
 | d ::ds,xs,h=>by
   obtain⟨x,r,rfl,_,h2⟩:=h.cN;simp [h2.length]
theorem aR.of{K:Qdc}{ρ:P3}:∀{ds:List D} {xs:List V},aL K ρ.b H ds xs->aR K ρ H (ds.map .d) xs
 | [],_,h=>by unfold aL at h;subst h;exact aR.nil
 | d ::ds,xs,h=>by
   obtain⟨x,r,rfl,h1,h2⟩:=h.cN;exact aR.cons (by unfold a_;exact h1) (aR.of h2)
theorem aR.to{K:Qdc}{ρ:P3}:∀{ds:List D} {xs:List V},aR K ρ H (ds.map .d) xs->aL K ρ.b H ds xs
 | [],_,h=>by unfold aR at h;subst h;exact aL.nil
 | d ::ds,xs,h=>by
   obtain⟨x,r,rfl,h1,h2⟩:=aR.cN h;unfold a_ at h1;exact aL.cons h1 (aR.to h2)
def isExc(C b:Addr):Heap->Prop:=fun h=>∃o,h.get? b=some o/\o.cls= .ref C
def HH(K:Qdc)(cl:Aag)(ρ:P3)(H:Hp):SO->Option HO->Prop
 | .lst ds,h=>∃xs,h=some (.lst xs)/\aL K ρ.b H ds xs
 | .dct kvs,h=>∃ys,h=some (.dK ys)/\ys.map (·.1)=kvs.map (·.1)/\aL K ρ.b H (kvs.map (·.2)) (ys.map (·.2))
 | .ins c fs,h=>∃dx ys,h=some (.ins (cl c) dx ys)/\ys.map (·.1)=fs.map (·.1)/\aR K ρ H (fs.map (·.2)) (ys.map (·.2))
 | .lV,h=>∃u,h=some u
 | .exc c,h=>∃b,h=some (.ext (isExc (cl c) b))
def HH.pre{K:Qdc}{cl:Aag}(p:Pre ρ H ck H'){o:SO}{h:Option HO}(r:HH K cl ρ H o h):HH K cl ck H' o h:=by
 cases o with
 | lst ds=>obtain⟨xs,e,q⟩:=r;exact⟨xs,e,q.bw p.bw⟩
 | dct kvs=>obtain⟨ys,e,e2,q⟩:=r;exact⟨ys,e,e2,q.bw p.bw⟩
 | ins c fs=>obtain⟨dx,ys,e,e2,q⟩:=r;exact⟨dx,ys,e,e2,q.pre p⟩
 | lV=>exact r
 | exc c=>exact r
def HH.pw{K:Qdc}{cl:Aag}(p:PW ρ H ck H'){o:SO}{h:Option HO}(r:HH K cl ρ H o h):HH K cl ck H' o h:=by
 cases o with
 | lst ds=>obtain⟨xs,e,q⟩:=r;exact⟨xs,e,q.bw p.bw⟩
 | dct kvs=>obtain⟨ys,e,e2,q⟩:=r;exact⟨ys,e,e2,q.bw p.bw⟩
 | ins c fs=>obtain⟨dx,ys,e,e2,q⟩:=r;exact⟨dx,ys,e,e2,q.pw p⟩
 | lV=>exact r
 | exc c=>exact r
def HH.some{K:Qdc}{cl:Aag}{o:SO}{h:Option HO}(r:HH K cl ρ H o h):∃u,h=some u:=by
 cases o with
 | lst ds=>obtain⟨xs,e,q⟩:=r;exact⟨_,e⟩
 | dct kvs=>obtain⟨ys,e,e2,q⟩:=r;exact⟨_,e⟩
 | ins c fs=>obtain⟨dx,ys,e,e2,q⟩:=r;exact⟨_,e⟩
 | lV=>exact r
 | exc c=>obtain⟨b,e⟩:=r;exact⟨_,e⟩
structure SW (K:Qdc) (cl:Aag) (ρ:P3) (H:Hp) (S:aN):Prop where
 len:ρ.r.length=S.length
 nd:∀(i j:Nat) (a:Addr),ρ.r[i]? =some a->ρ.r[j]? =some a->i=j
 ob:∀(k:Nat) (a:Addr) (o:SO),ρ.r[k]? =some a->S[k]? =some o->HH K cl ρ H o (H a)
 zb:∀b∈ρ.z,(∃xs,H b=some (.lst xs))/\b ∉ ρ.r
 fz:∀(k:Nat) (a:Addr),ρ.r[k]? =some a->S[k]?≠some .lV->a ∉ ρ.f
 ff:∀a∈ρ.f,∃o,H a=some o
 fi:∀(k:Nat) (a:Addr),ρ.r[k]? =some a->S[k]? =some .lV->a∈ρ.f
def SW.rs{K:Qdc}{cl:Aag}{ρ:P3}{H:Hp}{S:aN}(w:SW K cl ρ H S):∀a∈ρ.r,∃o,H a=some o:=fun a z=>by
 obtain⟨k,hk⟩:=QcG z;have hl:=(Qab.mp hk).1;exact(w.ob k a _ hk (Qac (by rw[<-w.len];exact hl))).some
def SW.bs{K:Qdc}{cl:Aag}{ρ:P3}{H:Hp}{S:aN}(w:SW K cl ρ H S):∀a∈ρ.b,∃o,H a=some o:=fun a ha=>by
 rcases P3.eR.mp ha with z | z
 .exact w.rs a z.1
 .obtain⟨xs,h⟩:=(w.zb a z).1;exact⟨_,h⟩
def SW.same{K:Qdc}{cl:Aag}{S:aN}(w:SW K cl ρ H S)(s:aX H H'):SW K cl ρ H' S:=
 ⟨w.len,w.nd,fun k a o h1 h2=>by
   have r:=w.ob k a o h1 h2;obtain⟨u,hu⟩:=r.some;rw[s a u hu,<-hu];exact r.pre (Pre.same s),fun b hb=>let⟨⟨o,ho⟩,n⟩:=w.zb b hb;⟨⟨o,s b _ ho⟩,n⟩,w.fz,fun a ha=>let⟨o,ho⟩:=w.ff a ha;⟨o,s a o ho⟩,w.fi⟩
def P3.mem_push{ρ:P3}{a b:Addr}(h:b∈(ρ.push a).b):b∈ρ.b\/b=a:=by
 rcases P3.eR.mp h with⟨z,n⟩ | z
 .rcases Qbm.mp z with y | y
  .exact .inl (P3.eR.mpr (.inl ⟨y,n⟩))
  .exact .inr (QaS.mp y)
 .exact .inl (P3.eR.mpr (.inr z))
def SW.new{K:Qdc}{cl:Aag}{ρ:P3}{H H':Hp}{S:aN}(w:SW K cl ρ H S){a:Addr}{o:SO}(s:aX H H')(n:H a=none)(r:HH K cl (ρ.push a) H' o (H' a))(tV:o≠SO.lV:=by intro h;cases h) :
 SW K cl (ρ.push a) H' (S++[o])/\Pre ρ H (ρ.push a) H':=by
 have na:a ∉ ρ.b:=fun ha=>by obtain⟨o,ho⟩:=w.bs a ha;rw [n] at ho;cases ho
 have nr:a ∉ ρ.r:=fun ha=>by obtain⟨o,ho⟩:=w.rs a ha;rw [n] at ho;cases ho
 have nf:a ∉ ρ.f:=fun ha=>by obtain⟨o,ho⟩:=w.ff a ha;rw [n] at ho;cases ho
 have p:Pre ρ H (ρ.push a) H':=⟨fun b u e nb=>⟨s b u e,fun hb=>by
  rcases P3.mem_push hb with z | z
  .exact nb z
  .subst z;rw [n] at e;cases e⟩,rfl,fun b o _ h=>s b o h,fun k x hx=>by
   show(ρ.r++[a])[k]? =_;rw[Qam (Qab.mp hx).1];exact hx⟩
 have last:∀(i:Nat) (b:Addr),(ρ.push a).r[i]? =some b->(i<ρ.r.length/\ρ.r[i]? =some b)\/(i=ρ.r.length/\b=a):=fun i b h=>by
  have h:(ρ.r++[a])[i]? =some b:=h;by_cases q:i<ρ.r.length
  .rw [Qam q] at h;exact .inl ⟨q,h⟩
  .rw [Qae (by omega)] at h
   have h0:i - ρ.r.length=0:=by
    have:=(Qab.mp h).1;simp at this;omega
   rw[h0] at h;cases h;exact .inr ⟨by omega,rfl⟩
 refine⟨⟨by show(ρ.r++[a]).length=_;rw [Qau,Qau,w.len];rfl,fun i j b hi hj=>?_,fun k b u hk hu=>?_,fun b hb=>?_,fun k b hk hu=>?_,fun b hb=>?_,fun k b hk hu=>?_⟩,p⟩
 .rcases last i b hi with⟨q1,q2⟩ | ⟨q1,rfl⟩
  .rcases last j b hj with⟨z1,z2⟩ | ⟨z1,rfl⟩
   .exact w.nd i j b q2 z2
   .exact absurd (QaH q2) nr
  .rcases last j b hj with⟨z1,z2⟩ | ⟨z1,z3⟩
   .exact absurd (QaH z2) nr
   .omega
 .rcases last k b hk with⟨q1,q2⟩ | ⟨q1,rfl⟩
  .rw [Qam (by rw[<-w.len];exact q1)] at hu
   have r0:=w.ob k b u q2 hu;obtain⟨x,hx⟩:=r0.some;rw[s b x hx,<-hx];exact r0.pre p
  .rw [Qae (by rw[<-w.len];omega),q1,w.len,QaQ] at hu
   cases hu;exact r
 .obtain⟨⟨o,ho⟩,nb⟩:=w.zb b hb;refine⟨⟨o,s b _ ho⟩,fun h=>?_⟩
  rcases Qbm.mp h with y | y
  .exact nb y
  .rw [QaS] at y;subst y;rw [n] at ho;cases ho
 .rcases last k b hk with⟨q1,q2⟩ | ⟨q1,rfl⟩
  .rw [Qam (by rw[<-w.len];exact q1)] at hu
   exact w.fz k b q2 hu
  .exact nf
 .obtain⟨o,ho⟩:=w.ff b hb;exact⟨o,s b o ho⟩
 .rcases last k b hk with⟨q1,q2⟩ | ⟨q1,rfl⟩
  .rw [Qam (by rw[<-w.len];exact q1)] at hu
   exact w.fi k b q2 hu
  .rw [Qae (by rw[<-w.len];omega),q1,w.len,QaQ] at hu
   cases hu;exact absurd rfl tV
def SW.put{K:Qdc}{cl:Aag}{ρ:P3}{S:aN}(w:SW K cl ρ H S){k:Nat}{a:Addr}{o:SO}{u:HO}(hk:ρ.r[k]? =some a)(hf:a ∉ ρ.f)(r:HH K cl ρ H o (some u))(tV:o≠SO.lV:=by intro h;cases h) :
 SW K cl ρ (upd H a u) (S.set k o)/\Pre ρ H ρ (upd H a u):=by
 have ha:a∈ρ.r:=QaH hk;have hb:a∈ρ.b:=P3.eR.mpr (.inl ⟨ha,hf⟩);have nz:∀b∈ρ.z,b≠a:=fun b hb z=>(w.zb b hb).2 (by rw[z];exact ha)
 have p:Pre ρ H ρ (upd H a u):=⟨fun b x e nb=>⟨by rw[aZ (fun(z:b=a)=>nb (by rw[z];exact hb))];exact e,nb⟩,rfl,fun b o hb h=>by rw[aZ (nz b hb)];exact h,fun _ _ h=>h⟩
 have hl:k<S.length:=by rw[<-w.len];exact(Qab.mp hk).1
 refine⟨⟨by rw[QaZ];exact w.len,w.nd,fun j b x hj hx=>?_,fun b hb=>?_,fun j b hj hx=>?_,fun b hb=>?_,fun j b hj hx=>?_⟩,p⟩
 .by_cases q:k=j
  .subst q;rw[hk] at hj;cases hj;rw[Qao hl] at hx;cases hx;rw[bj];exact r.pre p
  .rw [Qaq q] at hx;have ne:b≠a:=fun z=>by subst z;exact q (w.nd k j b hk hj)
   rw[aZ ne];exact(w.ob j b x hj hx).pre p
 .obtain⟨⟨o,ho⟩,nb⟩:=w.zb b hb;exact⟨⟨o,by rw[aZ (nz b hb)];exact ho⟩,nb⟩
 .by_cases q:k=j
  .subst q;rw[hk] at hj;cases hj;exact hf
  .rw [Qaq q] at hx;exact w.fz j b hj hx
 .obtain⟨o,ho⟩:=w.ff b hb;exact⟨o,by rw[aZ (fun z=>hf (by rw[<-z];exact hb))];exact ho⟩
 .by_cases q:k=j
  .subst q;rw[Qao hl] at hx;cases hx;exact absurd rfl tV
  .rw [Qaq q] at hx;exact w.fi j b hj hx
def SW.lV{K:Qdc}{cl:Aag}{ρ:P3}{S:aN}(w:SW K cl ρ H S){k:Nat}{a:Addr}{ds:List D}(hk:ρ.r[k]? =some a)(hS:S[k]? =some (.lst ds)) :
 SW K cl ⟨ρ.r,ρ.z,a ::ρ.f⟩ H (S.set k .lV)/\Pre ρ H ⟨ρ.r,ρ.z,a ::ρ.f⟩ H/\Rep K (⟨ρ.r,ρ.z,a ::ρ.f⟩:P3).b H (.lst ds) (.ref a):=by
 have hl:k<S.length:=by rw[<-w.len];exact(Qab.mp hk).1
 have sub:∀b,b∈(⟨ρ.r,ρ.z,a ::ρ.f⟩:P3).b->b∈ρ.b:=fun b hb=>by
  rcases P3.eR.mp hb with⟨z,n⟩ | z
  .exact P3.eR.mpr (.inl ⟨z,fun h=>n (Qai _ h)⟩)
  .exact P3.eR.mpr (.inr z)
 have p:Pre ρ H ⟨ρ.r,ρ.z,a ::ρ.f⟩ H:=⟨fun b o e nb=>⟨e,fun hb=>nb (sub b hb)⟩,rfl,fun _ _ _ h=>h,fun _ _ h=>h⟩
 obtain⟨xs,e1,r1⟩:=w.ob k a _ hk hS;refine⟨⟨by rw[QaZ];exact w.len,w.nd,fun j b x hj hx=>?_,w.zb,fun j b hj hx=>?_,fun b hb=>?_,fun j b hj hx=>?_⟩,p,?_⟩
 .by_cases q:k=j
  .subst q;rw[Qao hl] at hx;cases hx;rw[hk] at hj;cases hj;exact⟨_,e1⟩
  .rw [Qaq q] at hx;exact(w.ob j b x hj hx).pre p
 .by_cases q:k=j
  .subst q;rw[Qao hl] at hx;exact absurd rfl hx
  .rw [Qaq q] at hx;intro h;rcases Qar.mp h with z | z
   .subst z;exact q (w.nd k j b hk hj)
   .exact w.fz j b hj hx z
 .rcases Qar.mp hb with z | z
  .subst z;exact⟨_,e1⟩
  .exact w.ff b z
 .by_cases q:k=j
  .subst q;rw[hk] at hj;cases hj;exact Qat
  .rw [Qaq q] at hx;exact Qai _ (w.fi j b hj hx)
 .refine Rep.lst.mpr ⟨a,xs,rfl, .inl ⟨fun hb=>?_, .inl e1⟩,r1.bw p.bw⟩
  rcases P3.eR.mp hb with⟨_,n⟩ | z
  .exact n Qat
  .exact(w.zb a z).2 (QaH hk)
mutual
def kh:D->Bool
 | .lst _=>false
 | .dct _ _=>false
 | .tup ds=>jc ds
 | _=>true
def jc:List D->Bool
 | []=>true
 | d ::ds=>kh d && jc ds
end
mutual
theorem Rep.yV{K:Qdc}{B:List Addr}(hB:∀b∈B,∀xs,¬Rd H b (.tup xs)):∀{d:D} {v:V},kh d=true->Rep K [] H d v->Rep K B H d v
 | .cR,v,_,r=>Rep.cR.mpr (Rep.cR.mp r)
 | .bl _,v,_,r=>Rep.bl.mpr (Rep.bl.mp r)
 | .int _,v,_,r=>Rep.int.mpr (Rep.int.mp r)
 | .str _,v,_,r=>Rep.str.mpr (Rep.str.mp r)
 | .lst _,v,h,_=>by unfold kh at h;cases h
 | .dct _ _,v,h,_=>by unfold kh at h;cases h
 | .tup ds,v,h,r=>by
   unfold kh at h;obtain⟨a,xs,rfl,l,rs⟩:=Rep.tup.mp r;exact Rep.tup.mpr ⟨a,xs,rfl,l.elim (fun z=> .inl ⟨fun hb=>hB a hb xs z.2,z.2⟩) .inr,aL.yV hB h rs⟩
theorem aL.yV{K:Qdc}{B:List Addr}(hB:∀b∈B,∀xs,¬Rd H b (.tup xs)):∀{ds:List D} {vs:List V},jc ds=true->aL K [] H ds vs->aL K B H ds vs
 | [],_,_,r=>by unfold aL at r;subst r;exact aL.nil
 | d ::ds,vs,h,r=>by
   unfold jc at h;obtain⟨h1,h2⟩:=QbL.mp h;obtain⟨x,xs,rfl,r1,r2⟩:=r.cN;exact aL.cons (Rep.yV hB h1 r1) (aL.yV hB h2 r2)
end
def SW.nt{K:Qdc}{cl:Aag}{ρ:P3}{S:aN}(w:SW K cl ρ H S):∀b∈ρ.b,∀xs,¬Rd H b (.tup xs):=fun b hb xs h=>by
 have key:∀o,H b=some o->(∀xs,o≠ .tup xs)->(∀ob xs,o≠ .lV ob (.tup xs))->False:=fun o e h1 h2=>by
  rcases h with z | ⟨ob,z⟩
  .rw [e] at z;cases z;exact h1 _ rfl
  .rw [e] at z;cases z;exact h2 _ _ rfl
 rcases P3.eR.mp hb with⟨z,n⟩ | z
 .obtain⟨k,hk⟩:=QcG z;have hl:=(Qab.mp hk).1;have hS:S[k]? =some (S[k]'(by rw[<-w.len];exact hl)):=Qac (by rw[<-w.len];exact hl)
  have r:=w.ob k b _ hk hS;generalize S[k]'(by rw[<-w.len];exact hl)=o at r hS
  cases o with
  | lst ds=>obtain⟨ys,e,_⟩:=r;exact key _ e (fun _ q=>by cases q) (fun _ _ q=>by cases q)
  | dct kvs=>obtain⟨ys,e,_⟩:=r;exact key _ e (fun _ q=>by cases q) (fun _ _ q=>by cases q)
  | ins c fs=>obtain⟨dx,ys,e,_⟩:=r;exact key _ e (fun _ q=>by cases q) (fun _ _ q=>by cases q)
  | lV=>exact n (w.fi k b hk hS)
  | exc c=>obtain⟨b',e⟩:=r;exact key _ e (fun _ q=>by cases q) (fun _ _ q=>by cases q)
 .obtain⟨⟨ys,e⟩,_⟩:=w.zb b z;exact key _ e (fun _ q=>by cases q) (fun _ _ q=>by cases q)
abbrev DE:=List (Option V3)
structure fW (K:Qdc) (cl:Aag) (ρ:P3) (H:Hp) (S:aN) (σ:L2.St) (δ:DE):Prop where
 len:δ.length=σ.length
 sw:SW K cl ρ H S
 val:∀(i:Nat) (d:V3),δ[i]? =some (some d)->∃v,σ[i]? =some (some v)/\a_ K ρ H d v
def fW.to{K:Qdc}{cl:Aag}{S S':aN}{σ:L2.St}{δ:DE}(E:fW K cl ρ H S σ δ)(p:Pre ρ H ck H')(w:SW K cl ck H' S'):fW K cl ck H' S' σ δ:=
 ⟨E.len,w,fun i d e=>let⟨v,h1,h2⟩:=E.val i d e;⟨v,h1,h2.pre p⟩⟩
def fW.set{K:Qdc}{cl:Aag}{S:aN}{σ:L2.St}{δ:DE}(E:fW K cl ρ H S σ δ){i:Nat}{d:V3}{v:V}(hi:i<σ.length)(r:a_ K ρ H d v):fW K cl ρ H S (σ.set i (some v)) (δ.set i (some d)):=
 ⟨by rw[QaZ,QaZ];exact E.len,E.sw,fun j d' e=>by
   by_cases h:i=j
   .subst h;rw[Qao (by rw[E.len];exact hi)] at e
    cases e;exact⟨v,Qao hi,r⟩
   .rw [Qaq h] at e ⊢;exact E.val j d' e⟩
def down(δ:DE):az:=δ.map fun x=>match x with | some (.d d)=> .val d | _=> .un
def fW.down{K:Qdc}{cl:Aag}{ρ:P3}{S:aN}{σ:L2.St}{δ:DE}(E:fW K cl ρ H S σ δ):eD K [] ρ.b H σ (down δ) where
 len:=by unfold L3.down;rw [Qaa];exact E.len
 bs:=E.sw.bs
 zb:=fun a ha=>by cases ha
 val:=fun i d e=>by
  unfold L3.down at e;rw[Qad] at e;cases q:δ[i]? with
  | none=>rw [q] at e;cases e
  | some x=>
    rw[q] at e
    match x,e,q with
    | some (.d y),e,q=>
      cases e;obtain⟨v,h1,h2⟩:=E.val i _ q;unfold a_ at h2;exact⟨v,h1,h2⟩
    | some (.loc k),e,q=>cases e
    | some (.lst k),e,q=>cases e
    | some (.tup k),e,q=>cases e
    | none,e,q=>cases e
 bld:=fun i ds e=>by
  unfold L3.down at e;rw[Qad] at e;cases q:δ[i]? with
  | none=>rw [q] at e;cases e
  | some x=>
    rw[q] at e
    match x,e with
    | some (.d y),e=>cases e
    | some (.loc k),e=>cases e
    | some (.lst k),e=>cases e
    | some (.tup k),e=>cases e
    | none,e=>cases e
 dis:=fun i j a ds es e=>by
  unfold L3.down at e;rw[Qad] at e;cases q:δ[i]? with
  | none=>rw [q] at e;cases e
  | some x=>
    rw[q] at e
    match x,e with
    | some (.d y),e=>cases e
    | some (.loc k),e=>cases e
    | some (.lst k),e=>cases e
    | some (.tup k),e=>cases e
    | none,e=>cases e
mutual
def res(S:aN):V3->Option D
 | .d x=>some x
 | .loc k=>(match S[k]? with | some (.lst ds)=>some (.lst ds) | _=>none)
 | .lst vs=>(BH S vs).map D.lst
 | .tup vs=>(BH S vs).map D.tup
 | .fn _=>none
def BH(S:aN):List V3->Option (List D)
 | []=>some []
 | v ::vs=>(res S v).bind fun d=>(BH S vs).map (d ::·)
end
def dN(S:aN)(δ:DE):az:=δ.map fun x=>match x with | some v=>(match res S v with | some d=> .val d | none=> .un) | none=> .un
def qu{α β:Type}{o:Option α}{f:α->β}{b:β}(h:o.map f=some b):∃a,o=some a/\f a=b:=by
 cases o with
 | none=>cases h
 | some a=>cases h;exact⟨a,rfl,rfl⟩
def DF{α β:Type}{o:Option α}{f:α->Option β}{b:β}(h:o.bind f=some b):∃a,o=some a/\f a=some b:=by
 cases o with
 | none=>cases h
 | some a=>exact⟨a,rfl,h⟩
mutual
def fT(n:Nat):V3->Bool
 | .d _=>true
 | .loc k=>decide (n<=k)
 | .lst vs=>sg n vs
 | .tup vs=>sg n vs
 | .fn _=>true
def sg(n:Nat):List V3->Bool
 | []=>true
 | v ::vs=>fT n v && sg n vs
end
mutual
theorem a_.resB{K:Qdc}{cl:Aag}{ρ:P3}{S:aN}{B':List Addr}{n:Nat}(w:SW K cl ρ H S)(p:dQ ρ.b H B' H)(hn:∀(k:Nat) (a:Addr),n<=k->ρ.r[k]? =some a->a ∉ B'):∀{v:V3} {d:D} {x:V},fT n v=true->res S v=some d->a_ K ρ H v x->Rep K B' H d x
 | .d y,d,x,_,h,r=>by unfold L3.res at h;cases h;unfold a_ at r;exact r.bw p
 | .fn y,d,x,_,h,r=>by unfold L3.res at h;cases h
 | .loc k,d,x,g,h,r=>by
   unfold L3.res at h;unfold a_ at r;unfold fT at g;obtain⟨a,h1,rfl⟩:=r;split at h
   .rename_i ds e;cases h;obtain⟨xs,e2,q⟩:=w.ob k a _ h1 e;unfold Rep;exact⟨a,xs,rfl, .inl ⟨hn k a (Qak g) h1, .inl e2⟩,q.bw p⟩
   .cases h
 | .lst vs,d,x,g,h,r=>by
   unfold L3.res at h;unfold fT at g;obtain⟨ds,e,rfl⟩:=qu h;unfold a_ at r;obtain⟨a,xs,rfl,l,r⟩:=r;unfold Rep;exact⟨a,xs,rfl,l.bw p,aR.resB w p hn g e r⟩
 | .tup vs,d,x,g,h,r=>by
   unfold L3.res at h;unfold fT at g;obtain⟨ds,e,rfl⟩:=qu h;unfold a_ at r;obtain⟨a,xs,rfl,l,r⟩:=r;unfold Rep;exact⟨a,xs,rfl,za.bw p l,aR.resB w p hn g e r⟩
theorem aR.resB{K:Qdc}{cl:Aag}{ρ:P3}{S:aN}{B':List Addr}{n:Nat}(w:SW K cl ρ H S)(p:dQ ρ.b H B' H)(hn:∀(k:Nat) (a:Addr),n<=k->ρ.r[k]? =some a->a ∉ B'):∀{vs:List V3} {ds:List D} {xs:List V},sg n vs=true->BH S vs=some ds->aR K ρ H vs xs->aL K B' H ds xs
 | [],ds,xs,_,h,r=>by unfold BH at h;cases h;unfold aR at r;subst r;exact aL.nil
 | v ::vs,ds,xs,g,h,r=>by
   unfold BH at h;unfold sg at g;obtain⟨g1,g2⟩:=QbL.mp g;obtain⟨d,e1,h2⟩:=DF h;obtain⟨es,e2,rfl⟩:=qu h2;obtain⟨y,ys,rfl,r1,r2⟩:=r.cN;exact aL.cons (a_.resB w p hn g1 e1 r1) (aR.resB w p hn g2 e2 r2)
end
mutual
theorem yH:∀v:V3,fT 0 v=true
 | .d _=>by unfold fT;rfl
 | .loc k=>by unfold fT;exact QaE (QbG _)
 | .lst vs=>by unfold fT;exact rj vs
 | .tup vs=>by unfold fT;exact rj vs
 | .fn _=>by unfold fT;rfl
theorem rj:∀vs:List V3,sg 0 vs=true
 | []=>by unfold sg;rfl
 | v ::vs=>by unfold sg;rw [yH v,rj vs];rfl
end
def a_.res{K:Qdc}{cl:Aag}{S:aN}(w:SW K cl ρ H S){v:V3}{d:D}{x:V}(h:res S v=some d)(r:a_ K ρ H v x):Rep K [] H d x:=
 r.resB w (fun b o e _=>⟨e,by simp⟩) (n:=0) (fun _ _ _ _=>by simp) (yH v) h
def ua{S:aN}{δ:DE}{i:Nat}{y:Sl}(e:(dN S δ)[i]? =some y):(∃v d,δ[i]? =some (some v)/\res S v=some d/\y= .val d)\/y= .un:=by
 unfold dN at e;rw[Qad] at e;cases q:δ[i]? with
 | none=>rw [q] at e;cases e
 | some x=>
   rw[q] at e;cases x with
   | none=>cases e;exact .inr rfl
   | some v=>
     cases z:res S v with
     | none=>
       have e:some (match res S v with | some d=>Sl.val d | none=> .un)=some y:=e
       rw[z] at e;cases e;exact .inr rfl
     | some d=>
       have e:some (match res S v with | some d=>Sl.val d | none=> .un)=some y:=e
       rw[z] at e;cases e;exact .inl ⟨v,d,rfl,z,rfl⟩
def fW.dN{K:Qdc}{cl:Aag}{S:aN}{σ:L2.St}{δ:DE}(E:fW K cl ρ H S σ δ):eD K [] [] H σ (dN S δ) where
 len:=by unfold L3.dN;rw [Qaa];exact E.len
 bs:=fun a ha=>by cases ha
 zb:=fun a ha=>by cases ha
 val:=fun i d e=>by
  rcases ua e with⟨v,d',h1,h2,h3⟩ | h
  .cases h3;obtain⟨x,q1,q2⟩:=E.val i v h1;exact⟨x,q1,q2.res E.sw h2⟩
  .cases h
 bld:=fun i ds e=>by
  rcases ua e with⟨v,d',h1,h2,h3⟩ | h
  .cases h3
  .cases h
 dis:=fun i j a ds es e=>by
  rcases ua e with⟨v,d',h1,h2,h3⟩ | h
  .cases h3
  .cases h
abbrev FX:=DE->aN->R3 V3
abbrev FB:=DE->aN->R3 Bool
abbrev FA:=DE->aN->R3 (List V3)
def tX(K:Qdc)(cl:Aag)(f:FX):TE:=fun σ H Q=>∃ρ S δ v S',fW K cl ρ H S σ δ/\f δ S= .ok v S'/\∀u ck H',Pre ρ H ck H'->SW K cl ck H' S'->a_ K ck H' v u->Q u H'
def Oi(K:Qdc)(cl:Aag)(f:FB):TT:=fun σ H Q=>∃ρ S δ b S',fW K cl ρ H S σ δ/\f δ S= .ok b S'/\∀ck H',Pre ρ H ck H'->SW K cl ck H' S'->Q b H'
def YY(K:Qdc)(cl:Aag)(f:FA):TA:=fun σ H Q=>∃ρ S δ vs S',fW K cl ρ H S σ δ/\f δ S= .ok vs S'/\∀us ck H',Pre ρ H ck H'->SW K cl ck H' S'->aR K ck H' vs us->Q us H'
structure PX (X:Cx) (cl:Aag) (e:Expr) (f:FX):Prop where
 go:PE X e (tX X.K cl f)
structure E7 (X:Cx) (cl:Aag) (e:Expr) (f:FB):Prop where
 go:PT X e (Oi X.K cl f)
structure Lm (X:Cx) (cl:Aag) (es:List Expr) (f:FA):Prop where
 go:PA X es (YY X.K cl f)
section
variable {X:Cx} {cl:Aag}
def xP(f:FD):FX:=fun δ S=>(R3.of (f (down δ)) S).bind fun d S=> .ok (.d d) S
def ai(h:QD X e f):PX X cl e (xP f):=⟨h.1.imp fun σ H Q ⟨ρ,S,δ,v,S',E,hf,q⟩=>by
 obtain⟨d,S1,h1,h2⟩:=R3.aq hf;obtain⟨h3,e3⟩:=R3.of_ok h1;cases h2;subst e3;exact⟨[],ρ.b,down δ,d,E.down,h3,fun v H' s r=>q v ρ H' (Pre.same s) (E.sw.same s) (by unfold a_;exact r)⟩⟩
def xT(f:FD):FX:=fun δ S=>(R3.of (f (dN S δ)) S).bind fun d S=>R3.bV (kh d) (.ok (.d d) S)
def jX(h:QD X e f):PX X cl e (xT f):=⟨h.1.imp fun σ H Q ⟨ρ,S,δ,v,S',E,hf,q⟩=>by
 obtain⟨d,S1,h1,h2⟩:=R3.aq hf;obtain⟨h4,e3⟩:=R3.of_ok h1;obtain⟨ha,h3⟩:=R3.ba h2;cases h3;subst e3;exact⟨[],[],dN _ δ,d,E.dN,h4,fun v H' s r=>q v ρ H' (Pre.same s) (E.sw.same s) (by unfold a_;exact Rep.yV (E.sw.same s).nt ha r)⟩⟩
def bP(f:az->R Bool):FB:=fun δ S=>R3.of (f (down δ)) S
def kg{f:az->R Bool}(h:QB X e f):E7 X cl e (bP f):=⟨h.1.imp fun σ H Q ⟨ρ,S,δ,v,S',E,hf,q⟩=>by
 obtain⟨h1,e3⟩:=R3.of_ok hf;subst e3;exact⟨[],ρ.b,down δ,v,E.down,h1,fun H' s=>q ρ H' (Pre.same s) (E.sw.same s)⟩⟩
def bT(f:az->R Bool):FB:=fun δ S=>R3.of (f (dN S δ)) S
def eA(i:Nat):FX:=fun δ S=>match δ[i]? with | some (some v)=> .ok v S | _=> .no
def cy(i:Nat){x:Str}{pos:Pos}(hN:X.N[i]? =some x:=by rfl)(hv:GQ X.env.scope x:=by first | exact Or.inl rfl | exact Or.inr Qc9 | exact Or.inr (Or.inr rfl))(hd:(x==("__debug__":Str))=false:=by decide)
 (qC:(x==("__classdict__":Str))=false:=by decide):PX X cl (.Name x pos) (eA i):=⟨(pL hN hv hd qC).imp fun σ H Q ⟨ρ,S,δ,v,S',E,hf,q⟩=>by
 unfold eA at hf;split at hf
 .rename_i d' e;cases hf;obtain⟨u,h1,h2⟩:=E.val i _ e;exact⟨u,h1,q u ρ H (Pre.refl ρ H) E.sw h2⟩
 .cases hf⟩
def nW(f:az->R (List D)):FX:=fun δ S=>(R3.of (f (down δ)) S).bind fun ds S=> .ok (.loc S.length) (S++[.lst ds])
def ig{f:az->R (List D)}(h:QN X e f):PX X cl e (nW f):=⟨h.1.imp fun σ H Q ⟨ρ,S,δ,v,S',E,hf,q⟩=>by
 obtain⟨ds,S1,h1,h2⟩:=R3.aq hf;obtain⟨h3,e3⟩:=R3.of_ok h1;cases h2;subst e3;refine⟨[],ρ.b,down δ,ds,E.down,h3,fun a xs H' s n e r=>?_⟩
 have r':aL X.K (ρ.push a).b H' ds xs:=r.bw fun b o e nb=>⟨e,fun hb=>nb (by
  rcases P3.mem_push hb with z | z
  .exact Qai _ z
  .subst z;exact Qat)⟩
 obtain⟨w,p⟩:=E.sw.new (o:= .lst ds) s n ⟨xs,e,r'⟩;exact q _ _ H' p w (by unfold a_;exact⟨a,by show(ρ.r++[a])[_]? =_;rw [<-E.sw.len,Qae (by omega),QaQ];rfl,rfl⟩)⟩
end
end L3
end
section
namespace L3
open PySem PySem.Spec PyProof.Rows L2
section
variable {X:Cx} {cl:Aag}
def c8:FA:=fun _ S=> .ok [] S
def aI(f:FX)(g:FA):FA:=fun δ S=>(f δ S).bind fun v S1=>(g δ S1).bind fun vs S2=> .ok (v ::vs) S2
def aY:Lm X cl [] c8:=⟨jl.imp fun σ H Q ⟨ρ,S,δ,v,S',E,hf,q⟩=>by
 cases hf;exact q [] ρ H (Pre.refl ρ H) E.sw aR.nil⟩
def ao(h:PX X cl e f)(t:Lm X cl es g)(hs:starEach (e ::es) X.env=(false,eval e X.env) ::starEach es X.env:=by rfl):Lm X cl (e ::es) (aI f g):=
 ⟨(eV h.1 t.1 hs).imp fun σ H Q ⟨ρ,S,δ,v,S',E,hf,q⟩=>by
   obtain⟨v1,S1,h1,h2⟩:=R3.aq hf;obtain⟨vs,S2,h3,h4⟩:=R3.aq h2;cases h4;exact⟨ρ,S,δ,v1,S1,E,h1,fun u cq H1 p1 w1 r1=>⟨cq,S1,δ,vs,_,E.to p1 w1,h3,fun us tW H2 p2 w2 r2=>q _ tW H2 (p1.trans p2) w2 (aR.cons (r1.pre p2) r2)⟩⟩⟩
def vj:List V3->Option (List D)
 | []=>some []
 | .d x ::r=>(vj r).map (x ::·)
 | _ ::_=>none
theorem mZ:∀{vs:List V3} {ds:List D},vj vs=some ds->vs=ds.map .d
 | [],ds,h=>by cases h;rfl
 | .d x ::r,ds,h=>by
   cases e:vj r with
   | none=>have h:(vj r).map (x ::·)=some ds:=h;rw [e] at h;cases h
   | some es=>
     have h:(vj r).map (x ::·)=some ds:=h
     rw[e] at h;cases h;rw[mZ e];rfl
 | .loc _ ::_,_,h=>by cases h
 | .lst _ ::_,_,h=>by cases h
 | .tup _ ::_,_,h=>by cases h
 | .fn _ ::_,_,h=>by cases h
theorem xj:∀ds:List D,vj (ds.map .d)=some ds
 | []=>rfl
 | d ::ds=>by show(vj (ds.map .d)).map (d ::·)=_;rw [xj ds];rfl
def FH(vs:List V3):V3:=match vj vs with | some ds=> .d (.tup ds) | none=> .tup vs
def xn(vs:List V3):V3:=match vj vs with | some ds=> .d (.lst ds) | none=> .lst vs
def L_(g:FA):FX:=fun δ S=>(g δ S).bind fun vs S=>R3.bV (decide (vs.length<=sizeLine)) (.ok (FH vs) S)
def vL{H:Hp}{p:Addr}{o:HO}(hp:H p=none):Pre ρ H ρ (upd H p o):=Pre.same (bf hp)
def GU{K:Qdc}{ρ:P3}{vs:List V3}{xs:List V}{a:Addr}(l:za K ρ.b H a xs)(r:aR K ρ H vs xs):a_ K ρ H (FH vs) (.ref a):=by
 unfold FH;split
 .rename_i ds e;rw[mZ e] at r;unfold a_ Rep;exact⟨a,xs,rfl,l,r.to⟩
 .unfold a_;exact⟨a,xs,rfl,l,r⟩
def yQ{K:Qdc}{ρ:P3}{vs:List V3}{xs:List V}{a:Addr}(l:wF K ρ.b H a xs)(r:aR K ρ H vs xs):a_ K ρ H (xn vs) (.ref a):=by
 unfold xn;split
 .rename_i ds e;rw[mZ e] at r;unfold a_ Rep;exact⟨a,xs,rfl,l,r.to⟩
 .unfold a_;exact⟨a,xs,rfl,l,r⟩
def JJ{x1 pos}(h:Lm X cl es g):PX X cl (.Tuple es x1 pos) (L_ g):=⟨(JT h.1).imp fun σ H Q ⟨ρ,S,δ,v,S',E,hf,q⟩=>by
 obtain⟨vs,S1,h1,h2⟩:=R3.aq hf;obtain⟨hl,h3⟩:=R3.ba h2;cases h3;refine⟨ρ,S,δ,vs,_,E,h1,fun us cq H1 p1 w1 r1=>⟨by rw[<-r1.length];exact Qak hl,fun p hp=>q _ cq _ (p1.trans (vL hp)) (w1.same (bf hp)) ?_⟩⟩
 refine GU (.inl ⟨fun ha=>?_, .inl bj⟩) (r1.pre (vL hp))
 obtain⟨o,ho⟩:=w1.bs p ha;rw[hp] at ho;cases ho⟩
def Q1(g:FA):FX:=fun δ S=>(g δ S).bind fun vs S=>R3.bV (decide (vs.length<=sizeLine)) (.ok (xn vs) S)
def O9{pos}(h:Lm X cl es g):PX X cl (.List es pos) (Q1 g):=⟨(J_ h.1).imp fun σ H Q ⟨ρ,S,δ,v,S',E,hf,q⟩=>by
 obtain⟨vs,S1,h1,h2⟩:=R3.aq hf;obtain⟨hl,h3⟩:=R3.ba h2;cases h3;refine⟨ρ,S,δ,vs,_,E,h1,fun us cq H1 p1 w1 r1=>⟨by rw[<-r1.length];exact Qak hl,fun p hp=>q _ cq _ (p1.trans (vL hp)) (w1.same (bf hp)) ?_⟩⟩
 refine yQ (.inl ⟨fun ha=>?_, .inl bj⟩) (r1.pre (vL hp))
 obtain⟨o,ho⟩:=w1.bs p ha;rw[hp] at ho;cases ho⟩
def x2(g:D->D->R D)(fa fb:FX):FX:=fun δ S=>(fa δ S).bind fun a S1=>(fb δ S1).bind fun b S2=>match a,b with
 | .d x, .d y=>(R3.of (g x y) S2).bind fun d S=> .ok (.d d) S
 | _,_=> .no
def S7{K:Qdc}{g:D->D->R D}{σ:L2.St}{Q:VK}(h:tX K cl (x2 g fa fb) σ H Q) :
 R7 (fun x y H Q=>∃B da db d,(∀a∈B,∃o,H a=some o)/\Rep K B H da x/\Rep K B H db y/\g da db= .ok d/\∀z H',aX H H'->Rep K B H' d z->Q z H') (tX K cl fa) (tX K cl fb) σ H Q:=by
 obtain⟨ρ,S,δ,v,S',E,hf,q⟩:=h;obtain⟨a,S1,h1,h2⟩:=R3.aq hf;obtain⟨b,S2,h3,h4⟩:=R3.aq h2
 match a,b,h1,h3,h4 with
 | .d x, .d y,h1,h3,h4=>
   obtain⟨d,S3,h5,h6⟩:=R3.aq h4;obtain⟨h7,e⟩:=R3.of_ok h5;cases h6;subst e;refine⟨ρ,S,δ, .d x,S1,E,h1,fun u1 cq H1 p1 w1 r1=>⟨cq,S1,δ, .d y,_,E.to p1 w1,h3,fun u2 tW H2 p2 w2 r2=>?_⟩⟩
   have zu:=r1.pre p2;unfold a_ at zu r2;exact⟨tW.b,x,y,d,w2.bs,zu,r2,h7,fun z H' s r=>q z tW H' (p1.trans (p2.trans (Pre.same s))) (w2.same s) (by unfold a_;exact r)⟩
 | .d x, .loc _,_,_,h4=>cases h4
 | .d x, .lst _,_,_,h4=>cases h4
 | .d x, .tup _,_,_,h4=>cases h4
 | .d x, .fn _,_,_,h4=>cases h4
 | .loc _,_,_,_,h4=>cases h4
 | .lst _,_,_,_,h4=>cases h4
 | .tup _,_,_,_,h4=>cases h4
 | .fn _,_,_,_,h4=>cases h4
def DP{op:CmpOp}{g:D->D->R D}(ho:nL X (compareOp op) g)(ha:PX X cl a fa)(hb:PX X cl b fb)(hm:behindInMarks op b=false):PX X cl (.Compare a [op] [b] pos) (x2 g fa fb):=
 ⟨(Fs ho.r ha.1 hb.1 hm).imp fun σ H Q h=>S7 h⟩
def Oo(g:D->D->R D)(fa fb:FX):FB:=fun δ S=>(x2 g fa fb δ S).bind fun v S=>match v with | .d (.bl b)=> .ok b S | _=> .no
def qt{op:CmpOp}{g:D->D->R D}(ho:nL X (compareOp op) g)(ha:PX X cl a fa)(hb:PX X cl b fb)(hm:behindInMarks op b=false):E7 X cl (.Compare a [op] [b] pos) (Oo g fa fb):=
 ⟨(EY ho.r ha.1 hb.1 hm).imp fun σ H Q ⟨ρ,S,δ,b,S',E,hf,q⟩=>by
   obtain⟨v,S1,h1,h2⟩:=R3.aq hf;have hv:v= .d (.bl b)/\S1=S':=by
    match v,h2 with
    | .d (.bl k),h2=>cases h2;exact⟨rfl,rfl⟩
    | .d .cR,h2=>cases h2
    | .d (.int _),h2=>cases h2
    | .d (.str _),h2=>cases h2
    | .d (.lst _),h2=>cases h2
    | .d (.tup _),h2=>cases h2
    | .d (.dct _ _),h2=>cases h2
    | .loc _,h2=>cases h2
    | .lst _,h2=>cases h2
    | .tup _,h2=>cases h2
    | .fn _,h2=>cases h2
   obtain⟨rfl,rfl⟩:=hv;exact S7 (g:=g) (Q:=fun x H'=>∃k,x= .bl k/\Q k H') ⟨ρ,S,δ,_,_,E,h1,fun u ck H' p w r=>⟨b,by unfold a_ Rep at r;exact r,q ck H' p w⟩⟩⟩
inductive Ou where
 | nx (δ:DE) | rt (v:V3)
abbrev FZ:=DE->aN->R3 Ou
def Ez(K:Qdc)(cl:Aag)(ρ:P3)(H:Hp)(D:Ends)(S':aN):Ou->Prop
 | .nx eT=>∀c7 ck H',Pre ρ H ck H'->fW K cl ck H' S' c7 eT->D.nx c7 H'
 | .rt v=>∀u ck H',Pre ρ H ck H'->SW K cl ck H' S'->a_ K ck H' v u->D.rt u H'
def Ez.pre{K:Qdc}{D:Ends}{S':aN}{o:Ou}(q:Ez K cl ρ H D S' o)(p:Pre ρ H cq H1):Ez K cl cq H1 D S' o:=by
 cases o with
 | nx eT=>exact fun c7 ck H' p' E'=>q c7 ck H' (p.trans p') E'
 | rt d=>exact fun v ck H' p' w r=>q v ck H' (p.trans p') w r
def sX(K:Qdc)(cl:Aag)(F:FZ):TS:=fun D σ H=>∃ρ S δ o S',fW K cl ρ H S σ δ/\F δ S= .ok o S'/\Ez K cl ρ H D S' o
structure PZ (X:Cx) (cl:Aag) (st:Stmt) (F:FZ):Prop where
 go:PS X st (sX X.K cl F)
structure Hy (X:Cx) (cl:Aag) (st:List Stmt) (F:FZ):Prop where
 go:AE X st (sX X.K cl F)
def rJ:FZ:=fun δ S=> .ok (.nx δ) S
def bt(F G:FZ):FZ:=fun δ S=>(F δ S).bind fun o S1=>match o with | .nx eT=>G eT S1 | .rt d=> .ok (.rt d) S1
def jL:Hy X cl [] rJ:=⟨Az.imp fun D σ H ⟨ρ,S,δ,o,S',E,hf,q⟩=>by
 cases hf;exact q σ ρ H (Pre.refl ρ H) E⟩
def aw{st:Stmt}{rest:List Stmt}(h1:PZ X cl st F)(h2:Hy X cl rest G):Hy X cl (st ::rest) (bt F G):=⟨(wq h1.1 h2.1).imp fun D σ H ⟨ρ,S,δ,o,S',E,hf,q⟩=>by
 obtain⟨o1,S1,h1,h2⟩:=R3.aq hf;refine⟨ρ,S,δ,o1,S1,E,h1,?_⟩;cases o1 with
 | nx cX=>
   intro RV cq H1 p1 E1;exact⟨cq,S1,cX,o,S',E1,h2,q.pre p1⟩
 | rt d=>
   cases h2;exact q⟩
def aP{st:Stmt}(h1:PZ X cl st F):Hy X cl [st] F:=⟨zJ h1.1⟩
def cM(i:Nat)(f:FX):FZ:=fun δ S=>(f δ S).bind fun v S=>R3.bV (decide (i<δ.length)) (.ok (.nx (δ.set i (some v))) S)
def bA{i:Nat}{pos pos':Pos}(hN:X.N.Nodup)(hi:X.N[i]? =some x)(hx:Loc X.env.scope x)(he:PX X cl e f)(hs:swapsWith e (some (.Name x pos')) pos.line X.env=pure false:=by rfl)(hf:X.fn x=true\/X.env.scope.names.lookup x=some .local:=by first | exact .inl rfl | exact .inr rfl | assumption) :
 PZ X cl (.Assign [.Name x pos'] e pos) (cM i f):=⟨(D1 hN hi hx he.1 hs hf).imp fun D σ H ⟨ρ,S,δ,o,S',E,hf,q⟩=>by
 obtain⟨v,S1,h1,h2⟩:=R3.aq hf;obtain⟨hi,h3⟩:=R3.ba h2;cases h3;refine⟨ρ,S,δ,v,_,E,h1,fun u cq H1 p1 w1 r1=>?_⟩
 exact q _ cq H1 p1 ((E.to p1 w1).set (by rw[<-E.len];exact Qak hi) r1)⟩
def fS(f:FX):FZ:=fun δ S=>(f δ S).bind fun v S=> .ok (.rt v) S
def cG(he:PX X cl e f):PZ X cl (.Return (some e) pos) (fS f):=⟨(Iw he.1).imp fun D σ H ⟨ρ,S,δ,o,S',E,hf,q⟩=>by
 obtain⟨v,S1,h1,h2⟩:=R3.aq hf;cases h2;exact⟨ρ,S,δ,v,_,E,h1,fun u cq H1 p1 w1 r1=>q u cq H1 p1 w1 r1⟩⟩
def A5(c:FB)(F G:FZ):FZ:=fun δ S=>(c δ S).bind fun b S=>if b then F δ S else G δ S
def oK(hc:E7 X cl c fc)(ha:Hy X cl a F)(hb:Hy X cl b G):PZ X cl (.If c a b pos) (A5 fc F G):=⟨(Kg hc.1 ha.1 hb.1).imp fun D σ H ⟨ρ,S,δ,o,S',E,hf,q⟩=>by
 obtain⟨k,S1,h1,h2⟩:=R3.aq hf;refine⟨ρ,S,δ,k,S1,E,h1,fun cq H1 p1 w1=>?_⟩
 cases k with
 | true=>rw [QaD rfl] at h2;exact Je ⟨cq,S1,δ,o,S',E.to p1 w1,h2,q.pre p1⟩
 | false=>rw [QaB (by decide)] at h2;exact Jq ⟨cq,S1,δ,o,S',E.to p1 w1,h2,q.pre p1⟩⟩
def uW(f:FX):FZ:=fun δ S=>(f δ S).bind fun _ S=> .ok (.nx δ) S
def FY(c:FB)(body:FZ):Nat->FZ
 | 0,_,_=> .no
 | n+1,δ,S=>(c δ S).bind fun b S=>if b then(body δ S).bind fun o S=>match o with | .nx ef=>FY c body n ef S | .rt r=> .ok (.rt r) S else .ok (.nx δ) S
def V5(n:Nat)(c:FB)(body:FZ):FZ:=fun δ S=>FY c body n δ S
end
theorem aR.get{K:Qdc}:∀{ds:List V3} {xs:List V} {i:Nat} {d:V3},aR K ρ H ds xs->ds[i]? =some d->∃x,xs[i]? =some x/\a_ K ρ H d x
 | [],_,_,_,_,e=>by simp at e
 | d ::ds,xs,0,d',h,e=>by
   obtain⟨x,r,rfl,h1,h2⟩:=h.cN;simp at e;subst e;exact⟨x,rfl,h1⟩
 | d ::ds,xs,i+1,d',h,e=>by
   obtain⟨x,r,rfl,h1,h2⟩:=h.cN;obtain⟨y,e1,e2⟩:=aR.get (i:=i) h2 (by simpa using e)
   exact⟨y,by simpa using e1,e2⟩
def R6(K:Qdc)(ρ:P3)(H:Hp)(J:It)(vs:List V3):Prop:=∀ck H',PW ρ H ck H'->(∀a∈ck.b,∃o,H' a=some o)->(∀(i:Nat) (d:V3),vs[i]? =some d->J.go i H'/\∀x qv,J.yld i H' x qv->aX H' qv/\a_ K ck qv d x)/\J.stop vs.length H'
def R6.of{K:Qdc}{ρ:P3}{J:It}{ds:List D}(h:Ko K ρ.b H J ds):R6 K ρ H J (ds.map .d):=fun ck H' p bs=>by
 obtain⟨h1,h2⟩:=h ck.b H' p.bw;refine⟨fun i v hv=>?_,by rw[Qaa];exact h2⟩
 rw[Qad] at hv;cases e:ds[i]? with
 | none=>rw [e] at hv;cases hv
 | some d=>
   rw[e] at hv;cases hv;obtain⟨g1,g2⟩:=h1 i d e;exact⟨g1,fun x qv y=>let⟨s,r⟩:=g2 x qv y bs;⟨s,by unfold a_;exact r⟩⟩
def X2(K:Qdc)(cl:Aag)(f:FA):TI:=fun σ H R=>∃ρ S δ vs S',fW K cl ρ H S σ δ/\f δ S= .ok vs S'/\∀J cq H1,Pre ρ H cq H1->SW K cl cq H1 S'->R6 K cq H1 J vs->R J H1
structure O2 (X:Cx) (cl:Aag) (tg e:Expr) (f:FA):Prop where
 go:PI X tg e (X2 X.K cl f)
section
variable {X:Cx} {cl:Aag}
def iP(f:az->R (List D)):FA:=fun δ S=>(R3.of (f (down δ)) S).bind fun ds S=> .ok (ds.map .d) S
def b_{f:az->R (List D)}(h:A7 X tg e f):O2 X cl tg e (iP f):=⟨h.1.imp fun σ H Q ⟨ρ,S,δ,vs,S',E,hf,q⟩=>by
 obtain⟨ds,S1,h1,h2⟩:=R3.aq hf;obtain⟨h3,e3⟩:=R3.of_ok h1;cases h2;subst e3;exact⟨[],ρ.b,down δ,ds,E.down,h3,fun J H1 s r=>q J ρ H1 (Pre.same s) (E.sw.same s) (R6.of r)⟩⟩
def Ct(f:FX):FA:=fun δ S=>(f δ S).bind fun v S=>match v with | .d (.int j)=>R3.bV (decide (-(2 ^ 62)<=j/\j<2 ^ 62)) (.ok ((ip 0 j.toNat).map .d) S) | _=> .no
def DS{tg a:Expr}{p pos:Pos}(h:PX X cl a f)(hg:Gl X "range")(hm:X.mg "range"=none)(hs:starEach [a] X.env=[(false,eval a X.env)]:=by rfl):O2 X cl tg (.Call (.Name "range" p) [a] [] pos) (Ct f):=
 ⟨(yF hg hm (eV h.1 jl hs) hs).imp fun σ H RR ⟨ρ,S,δ,vs,S',E,hf,q⟩=>by
   obtain⟨v,S1,h1,h2⟩:=R3.aq hf
   match v,h1,h2 with
   | .d (.int j),h1,h2=>
     obtain⟨hb,h3⟩:=R3.ba h2;cases h3;have hb:=Qak hb;refine⟨ρ,S,δ, .d (.int j),_,E,h1,fun u cq H1 p1 w1 r1=>⟨j,?_,hb.1,hb.2,q _ cq H1 p1 w1 (R6.of (IG 0 _))⟩⟩
     unfold a_ Rep at r1;rw[r1]
   | .d .cR,_,h2=>cases h2
   | .d (.bl _),_,h2=>cases h2
   | .d (.str _),_,h2=>cases h2
   | .d (.lst _),_,h2=>cases h2
   | .d (.tup _),_,h2=>cases h2
   | .d (.dct _ _),_,h2=>cases h2
   | .loc _,_,h2=>cases h2
   | .lst _,_,h2=>cases h2
   | .tup _,_,h2=>cases h2⟩
def Km(f:FX):FA:=fun δ S=>(f δ S).bind fun v S=>match v with | .d (.lst ds)=> .ok (ds.map .d) S | .lst vs=> .ok vs S | _=> .no
def Au(h:PX X cl e f):O2 X cl tg e (Km f):=⟨by
 intro pins s σ H RR I ⟨ρ,S,δ,vs,S',E,hf,q⟩;obtain⟨v,S1,h1,h2⟩:=R3.aq hf;refine eO (h.1 pins s σ H (fun u H1=>∃cq,Pre ρ H cq H1/\SW X.K cl cq H1 S1/\a_ X.K cq H1 v u) I ⟨ρ,S,δ,v,S1,E,h1,fun u cq H1 p1 w1 r1=>⟨cq,p1,w1,r1⟩⟩) fun u s1 ⟨x,H1,I1,r1,cq,p1,w1,rr⟩=>?_
 have key:S1=S'/\∃a xs,x= .ref a/\wF X.K cq.b H1 a xs/\aR X.K cq H1 vs xs:=by
  match v,h2,rr with
  | .d (.lst ds),h2,rr=>
    cases h2;unfold a_ Rep at rr;obtain⟨a,xs,e,l,r⟩:=rr;exact⟨rfl,a,xs,e,l,aR.of r⟩
  | .lst ws,h2,rr=>
    cases h2;unfold a_ at rr;exact⟨rfl,rr⟩
  | .d .cR,h2,_=>cases h2
  | .d (.bl _),h2,_=>cases h2
  | .d (.int _),h2,_=>cases h2
  | .d (.str _),h2,_=>cases h2
  | .d (.tup _),h2,_=>cases h2
  | .d (.dct _ _),h2,_=>cases h2
  | .loc _,h2,_=>cases h2
  | .tup _,h2,_=>cases h2
 obtain⟨rfl,a,xs,rfl,l,rr⟩:=key;cases r1;obtain⟨its,rv,p,hz⟩:=I1.list l.sq;refine Qcp p.isList ?_;refine⟨s1.heap.objs.size,[s1.heap.objs.size],_,_,H1,rfl,I1.kept (t':=s1.toks) fun b o e=>Qah _ e,y_ a _,⟨_,QaJ _ rfl,rfl,rfl⟩,fun b hb=>?_,q _ cq H1 p1 w1 fun ck H' pr bs=>?_⟩
 .have e:b=s1.heap.objs.size:=by simpa using hb
  subst e;exact I1.wX (Qag _) (I1.hok.fresh (Qag _))
 .have l':wF X.K ck.b H' a xs:=l.bw pr.bw;have RT:=rr.pw pr;refine⟨fun i d hd=>?_,⟨xs,l'.sq,by rw[rr.length];exact Qag _⟩⟩
  obtain⟨x,hx,rx⟩:=RT.get hd;exact⟨⟨xs,x,l'.sq,hx⟩,fun y qv ⟨e1,e2⟩=>by
   subst e1;have:=e2 xs l'.sq;rw[hx] at this;cases this;exact⟨aX.refl _,rx⟩⟩⟩
abbrev FG:=V3->DE->Option DE
abbrev Ni:=List V3->DE->Option DE
def gX(K:Qdc)(cl:Aag)(t:FG):TG:=fun v σ H Q=>∃ρ S δ x eT,fW K cl ρ H S σ δ/\a_ K ρ H x v/\t x δ=some eT/\∀c7 H',aX H H'->fW K cl ρ H' S c7 eT->Q c7 H'
def Y0(K:Qdc)(cl:Aag)(t:Ni):JS:=fun v σ H Q=>∃ρ S δ x eT,fW K cl ρ H S σ δ/\aR K ρ H x v/\t x δ=some eT/\∀c7 H',aX H H'->fW K cl ρ H' S c7 eT->Q c7 H'
structure Pw (X:Cx) (cl:Aag) (tg:Expr) (t:FG):Prop where
 go:PG X tg (gX X.K cl t)
structure Mg (X:Cx) (cl:Aag) (tg:List Expr) (t:Ni):Prop where
 go:LP X tg (Y0 X.K cl t)
def fW.same{K:Qdc}{S:aN}{σ:L2.St}{δ:DE}(E:fW K cl ρ H S σ δ)(s:aX H H'):fW K cl ρ H' S σ δ:=E.to (Pre.same s) (E.sw.same s)
def kN(i:Nat):FG:=fun d δ=>if i<δ.length then some (δ.set i (some d)) else none
def aV{i:Nat}{pos:Pos}(hN:X.N.Nodup)(hi:X.N[i]? =some x)(hx:Loc X.env.scope x)(hf:X.fn x=true\/X.env.scope.names.lookup x=some .local:=by first | exact .inl rfl | exact .inr rfl | assumption):Pw X cl (.Name x pos) (kN i):=
 ⟨(FQ hN hi hx hf).imp fun v σ H Q ⟨ρ,S,δ,d,eT,E,r,ht,q⟩=>by
   unfold kN at ht;split at ht
   .rename_i hi;cases ht;exact q _ H (aX.refl H) (E.set (by rw[<-E.len];exact hi) r)
   .cases ht⟩
def Lq:Ni:=fun ds δ=>match ds with | []=>some δ | _=>none
def x5(t:FG)(u:Ni):Ni:=fun ds δ=>match ds with | d ::r=>(t d δ).bind fun eT=>u r eT | []=>none
def iV:Mg X cl [] Lq:=⟨Fg.imp fun vs σ H Q ⟨ρ,S,δ,ds,eT,E,r,ht,q⟩=>by
 cases ds with
 | nil=>unfold aR at r;cases ht;exact⟨r,q σ H (aX.refl H) E⟩
 | cons=>cases ht⟩
def cm{u:Ni}(h1:Pw X cl e t)(h2:Mg X cl es u)(hs:(assignEach (e ::es) X.env).map (·.2)=assign e X.env ::(assignEach es X.env).map (·.2):=by rfl):Mg X cl (e ::es) (x5 t u):=
 ⟨(Bo h1.1 h2.1 hs).imp fun vs σ H Q ⟨ρ,S,δ,ds,eT,E,r,ht,q⟩=>by
   cases ds with
   | nil=>cases ht
   | cons d ds=>
     obtain⟨x,xs,rfl,r1,r2⟩:=r.cN;have ht:(t d δ).bind (fun eT=>u ds eT)=some eT:=ht
     cases e1:t d δ with
     | none=>rw [e1] at ht;cases ht
     | some cX=>
       rw[e1] at ht;exact⟨x,xs,rfl,ρ,S,δ,d,cX,E,r1,e1,fun RV H1 s1 E1=>⟨ρ,S,cX,ds,eT,E1,r2.pre (Pre.same s1),ht,fun A0 H2 s2 E2=>q A0 H2 (s1.trans s2) E2⟩⟩⟩
def Kj(n:Nat)(t:Ni):FG:=fun d δ=>match d with
 | .d (.tup ds)=>if ds.length=n then t (ds.map .d) δ else none
 | .tup vs=>if vs.length=n then t vs δ else none
 | _=>none
def kM{k:Nat}{t:Ni}{n:Nat}{pos:Pos}(hc:X.calm=true)(h:Mg X cl es t)(hn:(assignEach es X.env).length=n:=by rfl)(xV:(assignEach es X.env).findIdx? (·.1)=none:=by rfl):Pw X cl (.Tuple es k pos) (Kj n t):=
 ⟨(HU hc h.1 hn xV).imp fun v σ H Q ⟨ρ,S,δ,d,eT,E,r,ht,q⟩=>by
   have key:∃vs a xs,v= .ref a/\za X.K ρ.b H a xs/\aR X.K ρ H vs xs/\vs.length=n/\t vs δ=some eT:=by
    unfold Kj at ht;split at ht
    .rename_i ds;split at ht
     .rename_i hl;unfold a_ Rep at r;obtain⟨a,xs,e,l,r⟩:=r;exact⟨ds.map .d,a,xs,e,l,aR.of r,by rw[Qaa];exact hl,ht⟩
     .cases ht
    .rename_i vs;split at ht
     .rename_i hl;unfold a_ at r;obtain⟨a,xs,e,l,r⟩:=r;exact⟨vs,a,xs,e,l,r,hl,ht⟩
     .cases ht
    .cases ht
   obtain⟨vs,a,xs,rfl,l,r,hl,ht⟩:=key;exact⟨a,xs,rfl,l.sq,by rw[<-r.length];exact hl,ρ,S,δ,vs,eT,E,r,ht,q⟩⟩
def Rx(f:FX)(t:FG):FZ:=fun δ S=>(f δ S).bind fun d S=>match t d δ with | some eT=> .ok (.nx eT) S | none=> .no
def OV{tg e:Expr}{f:FX}{t:FG}{pos:Pos}(he:PX X cl e f)(hg:Pw X cl tg t)(hs:swapsWithSole [tg] e pos.line X.env=pure false:=by rfl)(hw:swappedStores [tg] e X.env=pure none:=by rfl)
 (h1:(assignEach [tg] X.env).map (·.2)=[assign tg X.env]:=by rfl):PZ X cl (.Assign [tg] e pos) (Rx f t):=⟨(Pb he.1 hg.1 hs hw h1).imp fun D σ H ⟨ρ,S,δ,o,S',E,hf,q⟩=>by
 obtain⟨d,S1,h1,h2⟩:=R3.aq hf;split at h2
 .rename_i cX e1;cases h2;exact⟨ρ,S,δ,d,_,E,h1,fun v cq H1 p1 w1 r1=>⟨cq,_,δ,d,cX,E.to p1 w1,r1,e1,fun c7 H2 s2 E2=>q c7 cq H2 (p1.trans (Pre.same s2)) E2⟩⟩
 .cases h2⟩
def pA(t:FG)(body:FZ):List V3->FZ
 | [],δ,S=> .ok (.nx δ) S
 | d ::ds,δ,S=>match t d δ with
   | none=> .no
   | some cX=>(body cX S).bind fun o S=>match o with | .nx ef=>pA t body ds ef S | .rt r=> .ok (.rt r) S
def jr(it:FA)(t:FG)(body:FZ):FZ:=fun δ S=>(it δ S).bind fun vs S=>pA t body vs δ S
def dP{tg iter:Expr}{body:List Stmt}{it:FA}{t:FG}{F:FZ}{pos:Pos}(hp:PassesOwn (model X.prog X.w) X.A X.env X.xe)(hc:X.calm=true)(hi:O2 X cl tg iter it)(hg:Pw X cl tg t)(hb:Hy X cl body F)
 (hs:∀x,foldedSetIterable iter X.env x=pure x:=by intro _;rfl):PZ X cl (.For tg iter body [] pos) (jr it t F):=⟨(KC hp hc hi.1 hg.1 hb.1 hs).imp fun D σ H ⟨ρ,S,δ,o,S',E,hf,q⟩=>by
 obtain⟨ds,S0,h1,h2⟩:=R3.aq hf;refine⟨ρ,S,δ,ds,S0,E,h1,fun J cq H1 p1 w1 ir=>?_⟩
 refine⟨fun i m c7 H'=>m=ds.length - i/\i<=ds.length/\∃ck S1 eT,Pre cq H1 ck H'/\fW X.K cl ck H' S1 c7 eT/\pA t F (ds.drop i) eT S1= .ok o S',⟨ds.length,rfl,QbG _,cq,S0,δ,Pre.refl cq H1,E.to p1 w1,by simpa using h2⟩,?_⟩
 rintro i m c7 H' ⟨rfl,hi,ck,S1,eT,pv,E',hl⟩;obtain⟨go,stop⟩:=ir ck H' pv.pw E'.sw.bs;by_cases nE:i<ds.length
 .have hd:ds[i]? =some ds[i]:=Qac nE;have hdrop:ds.drop i=ds[i] ::ds.drop (i+1):=Qbx nE;rw[hdrop] at hl;unfold pA at hl;split at hl
  .cases hl
  .rename_i cX h3;obtain⟨o1,S2,h5,h6⟩:=R3.aq hl;obtain⟨g1,g2⟩:=go i _ hd;refine .inr ⟨g1,fun A0 H2=>∃tW S2 ef,Pre cq H1 tW H2/\fW X.K cl tW H2 S2 A0 ef/\pA t F (ds.drop (i+1)) ef S2= .ok o S',fun A0 H2 n=>⟨ds.length - (i+1),by omega,rfl,nE,n⟩,fun x qv y=>?_⟩
   obtain⟨ss,rr⟩:=g2 x qv y;refine⟨ck,S1,eT,ds[i],cX,E'.same ss,rr,h3,fun A0 H2 s2 E2=>⟨ck,S1,cX,o1,S2,E2,h5,?_⟩⟩
   have pv2:Pre cq H1 ck H2:=pv.trans (Pre.same (ss.trans s2));cases o1 with
   | nx ef=>exact fun NQ RK H3 p3 E3=>⟨RK,S2,ef,pv2.trans p3,E3,h6⟩
   | rt d=>
     cases h6;exact fun v RK H3 p3 w r=>q v RK H3 (p1.trans (pv2.trans p3)) w r
 .have e:i=ds.length:=by omega
  subst e;rw[Qcv] at hl;cases hl;exact .inl ⟨stop,q c7 ck H' (p1.trans pv) E'⟩⟩
end
mutual
def oH(n:Nat):V3->Bool
 | .d _=>true
 | .loc k=>decide (k<n)
 | .lst vs=>k8 n vs
 | .tup vs=>k8 n vs
 | .fn _=>true
def k8(n:Nat):List V3->Bool
 | []=>true
 | v ::vs=>oH n v && k8 n vs
end
def vU(n:Nat):SO->Bool
 | .ins _ fs=>k8 n (fs.map (·.2))
 | _=>true
def NC{ρ:P3}{n:Nat}{b:Addr}(h:b∈(ρ.cut n).b):b∈ρ.b:=by
 rcases P3.eR.mp h with z | z
 .exact P3.eR.mpr (.inl ⟨QbN z.1,z.2⟩)
 .exact P3.eR.mpr (.inr z)
def k4{ρ:P3}(n:Nat):dQ ρ.b H (ρ.cut n).b H:=fun b o e nb=>⟨e,fun hb=>nb (NC hb)⟩
mutual
theorem a_.cut{K:Qdc}{ρ:P3}{n:Nat}:∀{v:V3} {x:V},oH n v=true->a_ K ρ H v x->a_ K (ρ.cut n) H v x
 | .fn y,x,_,h=>by unfold a_ at h ⊢;exact h
 | .d y,x,_,h=>by unfold a_ at h ⊢;exact h.bw (k4 n)
 | .loc k,x,o,h=>by
   unfold a_ at h ⊢;unfold oH at o;obtain⟨a,h1,h2⟩:=h;exact⟨a,by show(ρ.r.take n)[k]? =_;rw [Qby (Qak o)];exact h1,h2⟩
 | .lst vs,x,o,h=>by
   unfold a_ at h ⊢;unfold oH at o;obtain⟨a,xs,e,l,r⟩:=h;exact⟨a,xs,e,l.bw (k4 n),aR.cut o r⟩
 | .tup vs,x,o,h=>by
   unfold a_ at h ⊢;unfold oH at o;obtain⟨a,xs,e,l,r⟩:=h;exact⟨a,xs,e,za.bw (k4 n) l,aR.cut o r⟩
theorem aR.cut{K:Qdc}{ρ:P3}{n:Nat}:∀{vs:List V3} {xs:List V},k8 n vs=true->aR K ρ H vs xs->aR K (ρ.cut n) H vs xs
 | [],_,_,h=>by unfold aR at h ⊢;exact h
 | v ::vs,xs,o,h=>by
   unfold k8 at o;obtain⟨o1,o2⟩:=QbL.mp o;obtain⟨x,r,rfl,h1,h2⟩:=h.cN;exact aR.cons (a_.cut o1 h1) (aR.cut o2 h2)
end
def SW.cut{K:Qdc}{cl:Aag}{ρ:P3}{S:aN}(w:SW K cl ρ H S){n:Nat}(ok:(S.take n).all (vU n)=true):SW K cl (ρ.cut n) H (S.take n):=
 ⟨by show(ρ.r.take n).length=_;rw [QaX,QaX,w.len],fun i j a hi hj=>by
   have hi:(ρ.r.take n)[i]? =some a:=hi;have hj:(ρ.r.take n)[j]? =some a:=hj;have gi:ρ.r[i]? =some a:=by
    rw[Qbv] at hi;split at hi
    .exact hi
    .cases hi
   have gj:ρ.r[j]? =some a:=by
    rw[Qbv] at hj;split at hj
    .exact hj
    .cases hj
   exact w.nd i j a gi gj,fun k a o hk ho=>by
   have hk:(ρ.r.take n)[k]? =some a:=hk;have gk:ρ.r[k]? =some a:=by
    rw[Qbv] at hk;split at hk
    .exact hk
    .cases hk
   have go:S[k]? =some o:=by
    rw[Qbv] at ho;split at ho
    .exact ho
    .cases ho
   have r:=w.ob k a o gk go;have oo:vU n o=true:=Qbu.mp ok o (QaH ho);cases o with
   | lst ds=>obtain⟨xs,e,q⟩:=r;exact⟨xs,e,q.bw (k4 n)⟩
   | dct kvs=>obtain⟨ys,e,e2,q⟩:=r;exact⟨ys,e,e2,q.bw (k4 n)⟩
   | ins c fs=>obtain⟨dx,ys,e,e2,q⟩:=r;exact⟨dx,ys,e,e2,q.cut oo⟩
   | exc c=>exact r
   | lV=>exact r,fun b hb=>let⟨h1,h2⟩:=w.zb b hb;⟨h1,fun h=>h2 (QbN h)⟩,(fun k a hk ho=>by
   have hk:(ρ.r.take n)[k]? =some a:=hk;rw[Qbv] at hk;split at hk
   .rename_i nE;rw[Qby nE] at ho;exact w.fz k a hk ho
   .cases hk),w.ff,(fun k a hk ho=>by
   have hk:(ρ.r.take n)[k]? =some a:=hk;rw[Qbv] at hk;split at hk
   .rename_i nE;rw[Qby nE] at ho;exact w.fi k a hk ho
   .cases hk)⟩
def SW.O5{K:Qdc}{cl:Aag}{ρ ck:P3}{n:Nat}(hn:ρ.r.length<=n)(p:Pre ρ H ck H'):Pre ρ H (ck.cut n) H':=
 ⟨p.bw.trans (k4 n),p.zz,p.zs,fun k a h=>by show(ck.r.take n)[k]? =_;rw [Qby (QaC (Qab.mp h).1 hn)];exact p.ext k a h⟩
section
variable {X:Cx} {cl:Aag}
def du(S:aN)(k:Nat):Option (List D):=match S[k]? with | some (.lst ds)=>some ds | _=>none
def fZ{S:aN}{k:Nat}{ds:List D}(h:du S k=some ds):S[k]? =some (.lst ds):=by
 unfold du at h;split at h
 .rename_i e;cases h;exact e
 .cases h
def kj(δ:DE)(i:Nat):Option Nat:=match δ[i]? with | some (some (.loc k))=>some k | _=>none
def lM{δ:DE}{i k:Nat}(h:kj δ i=some k):δ[i]? =some (some (.loc k)):=by
 unfold kj at h;split at h
 .rename_i e;cases h;exact e
 .cases h
def kP(i:Nat)(f:FX):FZ:=fun δ S=>match kj δ i with
 | none=> .no
 | some k=>match du S k with
   | none=> .no
   | some _=>(f δ S).bind fun v S1=>match v with
     | .d d=>(match du S1 k with | some ds=>R3.bV (decide (ds.length<sizeLine)) (.ok (.nx δ) (S1.set k (.lst (ds++[d])))) | none=> .no)
     | _=> .no
def f6{i:Nat}{x:Str}{e:Expr}{f:FX}{eP apos cz pos:Pos}(hN:X.N[i]? =some x)(hv:GQ X.env.scope x)(he:PX X cl e f)
 (hd:(x==("__debug__":Str))=false:=by decide) (qC:(x==("__classdict__":Str))=false:=by decide)
 (hs:starEach [e] X.env=(false,eval e X.env) ::starEach [] X.env:=by rfl) (lR:(apos.endLine==cz.line)=true:=by rfl)
 (rV:((backTo cz (starEach [e] X.env)).all (fun x=>!x.1) && (backToKw cz (keywordEach [] X.env)).all (fun x=>x.1.isSome)
   && decide (([e]:List Expr).length+([]:List Keyword).length+(if([]:List Keyword).isEmpty then 0 else 1)<30))=true:=by rfl)
 (vn:swapsWith (.Call (.Attribute (.Name x eP) "append" apos) [e] [] cz) none pos.line X.env=pure false:=by rfl)
 (lT:attributeBase (.Name x eP) "append" X.env (eval (.Name x eP) X.env)=eval (.Name x eP) X.env:=by rfl) :
 PZ X cl (.Expr (.Call (.Attribute (.Name x eP) "append" apos) [e] [] cz) pos) (kP i f):=by
 refine⟨(tm (Gd (X:=X) QbU Qc5 Qc6 um (pL hN hv hd qC) (eV he.1 jl hs) lT rV lR hs) vn).imp fun D σ H ⟨ρ,S,δ,o,S',E,hf,q⟩=>?_⟩
 unfold kP at hf;split at hf
 .cases hf
 .rename_i k hk;split at hf
  .cases hf
  .rename_i ds0 h0;obtain⟨v,S1,h1,h2⟩:=R3.aq hf;split at h2
   .rename_i d;split at h2
    .rename_i ds h3;obtain⟨hl,h4⟩:=R3.ba h2;cases h4;obtain⟨u,u1,u2⟩:=E.val i _ (lM hk);unfold a_ at u2;obtain⟨a,a1,rfl⟩:=u2;obtain⟨Xv,x0,_⟩:=E.sw.ob k a _ a1 (fZ h0);refine⟨.ref a,u1, .inl ⟨rfl,Xv,rB.of x0⟩,⟨ρ,S,δ, .d d,S1,E,h1,fun y cq H1 p1 w1 r1=>?_⟩⟩
     have b1:=p1.ext k a a1;obtain⟨xs,x1,x2⟩:=w1.ob k a _ b1 (fZ h3);refine⟨a,xs,y,rfl,rfl,x1,by rw[<-x2.length];exact Qak hl,?_⟩
     unfold a_ at r1;obtain⟨w2,p2⟩:=w1.put (o:= .lst (ds++[d])) (u:= .lst (xs++[y])) b1 (w1.fz k a b1 (by rw[fZ h3];intro h;cases h)) ⟨xs++[y],rfl,x2.append (aL.cons r1 aL.nil)⟩
     exact q σ cq _ (p1.trans p2) (E.to (p1.trans p2) w2)
    .cases h2
   .cases h2
def Ze(fo fi fe:FX):FZ:=fun δ S=>(fe δ S).bind fun v S1=>(fo δ S1).bind fun o S2=>(fi δ S2).bind fun j S3=>match v,o,j with
 | .d d, .loc k, .d (.int n)=>(match du S3 k with
   | some ds=>(match HD ds.length n with | some m=> .ok (.nx δ) (S3.set k (.lst (ds.set m d))) | none=> .no)
   | none=> .no)
 | _,_,_=> .no
def KY(K:Qdc)(cl:Aag)(n:Nat)(g:List V3->aN->R3 V3):Sp:=fun vs H Q _=>vs.length=n/\∃ρ S xs v S',SW K cl ρ H S/\aR K ρ H xs vs/\g xs S= .ok v S'/\∀u ck H',Pre ρ H ck H'->SW K cl ck H' S'->a_ K ck H' v u->Q u H'
def dg(g:List V3->aN->R3 V3)(fs:FA):FX:=fun δ S=>(fs δ S).bind g
def bF(P:Program)(w:World)(K:Qdc)(mg:Aaf)(base:Heap)(cl:Aag)(k:Nat)(x:Str)(n:Nat)(g:List V3->aN->R3 V3):Prop:=
 ∃(f:Addr) (fd:FuncData) (ps:List Str),j2 P w K mg base yn k f fd ps (KY K cl n g)/\mg x=some (.ref f)/\PySem.W.keepIn K (.ref f)=true/\Binds K fd ps []
def cE{g:List V3->aN->R3 V3}{k j n:Nat}{x:Str}{p pos:Pos}{e:Expr}{es:List Expr}{fs:FA}(C:bF X.prog X.w X.K X.mg X.base cl k x n g)(hr:eW j X.A)(EG:k<=j)(hg:Gl X x)(ha:Lm X cl (e ::es) fs)
 (hn:∀δ S ds S',fs δ S= .ok ds S'->ds.length=n) (oi:(x==("__debug__":Str))=false:=by decide) (he:starEach (e ::es) X.env=(false,eval e X.env) ::starEach es X.env:=by rfl) (jY:(backTo pos (starEach es X.env)).any (·.1)=false:=by rfl) :
 PX X cl (.Call (.Name x p) (e ::es) [] pos) (dg g fs):=by
 obtain⟨f,fd,ps,F,hm,hk,hb⟩:=C;refine⟨(vt F (hr.mono EG) hg hm hk hb .nil Cg ha.1 oi he jY).imp fun σ H Q ⟨ρ,S,δ,v,S',E,hf,q⟩=>?_⟩
 obtain⟨vs,S1,h1,h2⟩:=R3.aq hf;refine⟨ρ,S,δ,vs,S1,E,h1,fun us cq H1 p1 w1 r1=>?_⟩
 show KY X.K cl n g (us++[]) H1 Q E0;rw[Qa7];exact⟨by rw[<-r1.length];exact hn δ S vs S1 h1,cq,S1,vs,v,S',w1,r1,h2,fun z tW H2 p2 w2 r2=>q z tW H2 (p1.trans p2) w2 r2⟩
end
def bQ(N:List Str)(vs:List V3):DE:=vs.map some++List.replicate (N.length - vs.length) none
def Bu{K:Qdc}{cl:Aag}{S:aN}{N:List Str}{ds:List V3}{vs:List V}(w:SW K cl ρ H S)(r:aR K ρ H ds vs):fW K cl ρ H S (L2.start N vs) (bQ N ds) where
 len:=by unfold L2.start bQ;simp [r.length]
 sw:=w
 val:=fun i d e=>by
  unfold bQ at e;unfold L2.start;by_cases hi:i<ds.length
  .rw [Qam (by simpa using hi),Qad] at e
   cases q:ds[i]? with
   | none=>rw [q] at e;cases e
   | some d'=>
     rw[q] at e;cases e;obtain⟨x,h1,h2⟩:=r.get q;exact⟨x,by rw[Qam (by rw[Qaa,<-r.length];exact hi),Qad,h1];rfl,h2⟩
  .rw [Qae (by simpa using hi),QaT] at e
   split at e <;> cases e
def mB(N:List Str)(F:FZ):List V3->aN->R3 V3:=fun vs S=>(F (bQ N vs) S).bind fun o S'=>match o with | .rt v=> .ok v S' | .nx _=> .ok (.d .cR) S'
def qk(N:List Str)(F:FZ):List V3->aN->R3 V3:=fun vs S=>(mB N F vs S).bind fun v S'=>match res S' v with
 | some d=>R3.bV ((S'.take S.length).all (vU S.length) && fT S.length v) (.ok (.d d) (S'.take S.length))
 | none=> .no
def Mv{P:Program}{w:World}{K:Qdc}{mg:Aaf}{base:Heap}{cl:Aag}{x qual:Str}{st:Stmt}{f:Addr}{fd:FuncData}{N ps:List Str}{k:Nat}{F:FZ}(Fn:D_ K x qual st f fd)(S:aU N ps (aD st))
 (jf:∀(dt:Value) (A:Around) (outer:List Env) (s:Qdd) (H:Hp) (E:XK),eW k (A.deeper (envOfC qual (aD st) s.heap.objs.size f dt))->
   Hy (pN yn P w K mg base N qual (aD st) f dt A outer s H E).MG cl (aO st) F):j2 P w K mg base yn (k+1) f fd ps (KY K cl ps.length (mB N F)):=by
 refine Fn.ok S (fun vs H Q E h=>h.1) (fun dt A outer s H vs Q E hr h=>⟨_,(jf dt A outer s H E hr).1,?_⟩)
 obtain⟨_,ρ,S,ds,v,S',w,r,hg,q⟩:=h;obtain⟨o,S1,h1,h2⟩:=R3.aq hg;refine⟨ρ,S,bQ N ds,o,S1,Bu w r,h1,?_⟩;cases o with
 | nx eT=>
   cases h2;exact fun c7 ck H' p' E'=>q _ ck H' p' E'.sw (by unfold a_ Rep;rfl)
 | rt d'=>
   cases h2;exact fun u ck H' p' w' r'=>q u ck H' p' w' r'
def DG{K:Qdc}{cl:Aag}{N:List Str}{n:Nat}{vs:List V}{Q:VK}{E:XK}(h:KY K cl n (qk N F) vs H Q E):KY K cl n (mB N F) vs H Q E:=by
 obtain⟨hl,ρ,S,xs,v,S',w,r,hg,q⟩:=h;obtain⟨v1,S1,h1,h2⟩:=R3.aq hg;refine⟨hl,ρ,S,xs,v1,S1,w,r,h1,fun u cq H1 p1 w1 r1=>?_⟩
 have pc:Pre ρ H (cq.cut S.length) H1:=SW.O5 (K:=K) (cl:=cl) (by rw[w.len];exact Qag _) p1
 split at h2
 .rename_i d e;obtain⟨ok,h3⟩:=R3.ba h2;obtain⟨ok,hk⟩:=QbL.mp ok;cases h3;refine q u _ H1 pc (w1.cut ok) ?_;unfold a_;refine r1.resB w1 (k4 _) (fun k a hk a1 ha=>?_) hk e
  rcases P3.eR.mp ha with⟨z,_⟩ | z
  .obtain⟨j,hj⟩:=QcG z;have hj:(cq.r.take S.length)[j]? =some a:=hj;rw[Qbv] at hj;split at hj
   .rename_i hjl;have:=w1.nd j k a hj a1;omega
   .cases hj
  .exact(w1.zb a z).2 (QaH a1)
 .cases h2
end L3
end
section
namespace L3
open PySem PySem.Spec PyProof.Rows L2
section
variable {X:Cx} {cl:Aag}
def kX(δ:DE)(i:Nat):Option V3:=match δ[i]? with | some (some v)=>some v | _=>none
def pF(own:List Str)(kp:List Nat)(δ:DE):DE:=List.replicate own.length none++kp.map (kX δ)
def MJ{K:Qdc}{S S':aN}{σ:L2.St}{δ:DE}{own:List Str}{kp:List Nat}(E:fW K cl ρ H S σ δ)(p:PW ρ H ck H')(w:SW K cl ck H' S'):fW K cl ck H' S' (ee own kp σ) (pF own kp δ) where
 len:=by unfold ee pF;simp
 sw:=w
 val:=fun i d e=>by
  unfold pF at e;unfold ee;by_cases hi:i<own.length
  .rw [Qam (by simpa using hi),QaT] at e
   split at e <;> cases e
  .rw [Qae (by simpa using hi),QaP,Qad] at e ⊢
   cases q:kp[i - own.length]? with
   | none=>rw [q] at e;cases e
   | some j=>
     rw[q] at e;have e:kX δ j=some d:=QaW e;unfold kX at e;split at e
     .rename_i d' ed;cases e;obtain⟨v,h1,h2⟩:=E.val j d ed;exact⟨v,by simp [h1],h2.pw p⟩
     .cases e
def pJ(t:FG)(c:FB)(f:FX)(δ:DE):List V3->aN->R3 (List V3)
 | [],S=> .ok [] S
 | v ::vs,S=>match t v δ with
   | none=> .no
   | some cX=>(c cX S).bind fun b S1=>if b then(f cX S1).bind fun y S2=>(pJ t c f δ vs S2).bind fun ys S3=> .ok (y ::ys) S3 else pJ t c f δ vs S1
def lI(it:FA)(t:FG)(c:FB)(f:FX)(own:List Str)(kp:List Nat):FX:=fun δ S=>(it δ S).bind fun vs S1=>R3.bV (decide (vs.length<=sizeLine)) ((pJ t c f (pF own kp δ) vs S1).bind fun ys S2=> .ok (xn ys) S2)
theorem aR.append{K:Qdc}:∀{ds es:List V3} {xs ys:List V},aR K ρ H ds xs->aR K ρ H es ys->aR K ρ H (ds++es) (xs++ys)
 | [],_,_,_,h,t=>by unfold aR at h;subst h;exact t
 | d ::ds,es,xs,ys,h,t=>by
   obtain⟨x,r,rfl,h1,h2⟩:=h.cN;exact aR.cons h1 (aR.append h2 t)
def Fv{K:Qdc}{own:List Str}{kp:List Nat}{σ:L2.St}{Q:VK}(h:tX K cl (lI it t c f own kp) σ H Q) :
 EU (X2 K cl it) (gX K cl t) (Oi K cl c) (tX K cl f) own kp σ H Q:=by
 obtain⟨ρ,S,δ,v,SF,E,hf,q⟩:=h;obtain⟨es,S1,h1,h2⟩:=R3.aq hf;obtain⟨hl,h3⟩:=R3.ba h2;have hl:=Qak hl;obtain⟨vs,S2,h4,h5⟩:=R3.aq h3;cases h5;refine⟨ρ,S,δ,es,S1,E,h1,fun J cq H1 p1 w1 ir Dd hD=>?_⟩
 have nDz:Dd ∉ cq.b:=fun hb=>by obtain⟨o,ho⟩:=w1.bs Dd hb;rw [hD] at ho;cases ho
 have nDr:Dd ∉ cq.r:=fun hb=>by obtain⟨o,ho⟩:=w1.rs Dd hb;rw [hD] at ho;cases ho
 have toZ:∀{r' f':List Addr} {H':Hp},Pre cq H1 ⟨r',cq.z,f'⟩ H'->PW cq H1 ⟨r',Dd ::cq.z,f'⟩ H':=fun {r' f' H'} p=>⟨fun b o e nb=>⟨(p.bw b o e nb).1,fun hb=>by
  rcases P3.eR.mp hb with z | z
  .exact(p.bw b o e nb).2 (P3.eR.mpr (.inl z))
  .rcases Qar.mp z with y | y
   .exact bU e hD y
   .exact(p.bw b o e nb).2 (P3.eR.mpr (.inr y))⟩,p.ext⟩
 have w0:SW K cl ⟨cq.r,Dd ::cq.z,cq.f⟩ (upd H1 Dd (.lst [])) S1:=by
  have s0:aX H1 (upd H1 Dd (.lst [])):=bf hD;have ws:=w1.same s0;refine⟨ws.len,ws.nd,fun k a o hk ho=>?_,fun b hb=>?_,ws.fz,ws.ff,ws.fi⟩
  .have r:=w1.ob k a o hk ho;obtain⟨u,hu⟩:=r.some;rw[s0 a u hu,<-hu];exact r.pw (toZ (Pre.same s0))
  .rcases Qar.mp hb with y | y
   .subst y;exact⟨⟨_,bj⟩,nDr⟩
   .exact ws.zb b y
 refine⟨fun i m ys H'=>m=es.length - i/\i<=es.length/\ys.length<=i/\H' Dd=some (.lst ys)/\∃r' f' S' done rest,Pre cq H1 ⟨r',cq.z,f'⟩ H'/\SW K cl ⟨r',Dd ::cq.z,f'⟩ H' S'/\vs=done++rest/\aR K ⟨r',Dd ::cq.z,f'⟩ H' done ys/\pJ t c f (pF own kp δ) (es.drop i) S'= .ok rest SF,
  ⟨es.length,rfl,QbG _,Qag _,bj,cq.r,cq.f,S1,[],vs,Pre.same (bf hD),w0,rfl,aR.nil,by simpa using h4⟩,?_⟩
 rintro i m ys H' ⟨rfl,hi,hy,hDl,r',f',S',done,rest,pv,w',rfl,rd,hc⟩;obtain⟨go,stop⟩:=ir ⟨r',Dd ::cq.z,f'⟩ H' (toZ pv) w'.bs;have unZ:∀{OL:P3} {H4:Hp},Pre ⟨r',Dd ::cq.z,f'⟩ H' OL H4->Pre cq H1 ⟨OL.r,cq.z,OL.f⟩ H4:=fun {OL H4} p4=>⟨fun b o e nb=>by
  obtain⟨e1,n1⟩:=(toZ pv).bw b o e nb;obtain⟨gm,n2⟩:=p4.bw b o e1 n1;refine⟨gm,fun hb=>n2 ?_⟩
  rcases P3.eR.mp hb with z | z
  .exact P3.eR.mpr (.inl z)
  .exact P3.eR.mpr (.inr (by rw[p4.zz];exact Qai _ z)),rfl,fun b o hb h=>p4.zs b o (Qai _ hb) (pv.zs b o hb h),fun k a h=>p4.ext k a (pv.ext k a h)⟩
 by_cases nE:i<es.length
 .have hd:es[i]? =some es[i]:=Qac nE;have hdrop:es.drop i=es[i] ::es.drop (i+1):=Qbx nE;rw[hdrop] at hc;unfold pJ at hc;split at hc
  .cases hc
  .rename_i cX h6;obtain⟨b,T1,h7,h8⟩:=R3.aq hc;obtain⟨g1,g2⟩:=go i _ hd;refine .inr ⟨g1,fun x H2 y=>?_⟩
   obtain⟨sy,ry⟩:=g2 x H2 y;have Ec:fW K cl ⟨r',Dd ::cq.z,f'⟩ H2 S' (ee own kp σ) (pF own kp δ):=MJ E (p1.pw.trans ((toZ pv).trans (Pre.same sy).pw)) (w'.same sy);refine⟨⟨r',Dd ::cq.z,f'⟩,S',pF own kp δ,es[i],cX,Ec,ry,h6,fun NQ H3 s3 E3=>⟨⟨r',Dd ::cq.z,f'⟩,S',cX,b,T1,E3,h7,fun OL H4 p4 w4=>?_⟩⟩
   have UK:Pre ⟨r',Dd ::cq.z,f'⟩ H' OL H4:=(Pre.same (sy.trans s3)).trans p4;cases b with
   | true=>
     rw[QaD rfl] at h8;refine Je ?_;obtain⟨yv,T2,h9,WL⟩:=R3.aq h8;obtain⟨rs,T3,Xn,h12⟩:=R3.aq WL;cases h12;refine⟨OL,T1,cX,yv,T2,E3.to p4 w4,h9,fun v5 YB H5 p5 w5 r5=>?_⟩
     have pv5:Pre ⟨r',Dd ::cq.z,f'⟩ H' YB H5:=UK.trans p5;have WU:H5 Dd=some (.lst ys):=pv5.zs Dd _ Qat hDl;have u5:=unZ pv5;obtain⟨Vi,z5,f5⟩:=YB;have ez:z5=Dd ::cq.z:=pv5.zz;subst ez;have nr:Dd ∉ Vi:=(w5.zb Dd Qat).2;have pw:PW ⟨Vi,Dd ::cq.z,f5⟩ H5 ⟨Vi,Dd ::cq.z,f5⟩ (upd H5 Dd (.lst (ys++[v5]))):=⟨fun b o e nb=>⟨by rw[aZ (fun(z:b=Dd)=>nb (by rw[z];exact P3.eR.mpr (.inr Qat)))];exact e,nb⟩,fun _ _ h=>h⟩
     refine⟨WU,by omega,es.length - (i+1),by omega,rfl,nE,by rw[Qau,Qcx];omega,bj,Vi,f5,T2,done++[yv],rs,?_,?_,by simp,aR.append ((rd.pre pv5).pw pw) (aR.cons (r5.pw pw) aR.nil),Xn⟩
     .refine⟨fun b o e nb=>⟨by rw[aZ (bU e hD)];exact(u5.bw b o e nb).1,(u5.bw b o e nb).2⟩,rfl,fun b o hb h=>?_,u5.ext⟩
      rw[aZ (bU h hD)];exact u5.zs b o hb h
     .refine⟨w5.len,w5.nd,fun k a o hk ho=>?_,fun b hb=>?_,w5.fz,fun b hb=>?_,w5.fi⟩
      .have ne:a≠Dd:=fun z=>nr (by rw[<-z];exact QaH hk)
       rw[aZ ne];exact(w5.ob k a o hk ho).pw pw
      .obtain⟨⟨o,ho⟩,n⟩:=w5.zb b hb;refine⟨?_,n⟩;by_cases z:b=Dd
       .subst z;exact⟨_,bj⟩
       .rw [aZ z];exact⟨o,ho⟩
      .obtain⟨o,ho⟩:=w5.ff b hb;by_cases z:b=Dd
       .subst z;exact⟨_,bj⟩
       .rw [aZ z];exact⟨o,ho⟩
   | false=>
     rw[QaB (by decide)] at h8
     refine Jq ?_;have hD4:H4 Dd=some (.lst ys):=UK.zs Dd _ Qat hDl;have u4:=unZ UK;obtain⟨r4',z4,f4⟩:=OL;have ez:z4=Dd ::cq.z:=UK.zz;subst ez;exact⟨es.length - (i+1),by omega,rfl,nE,by omega,hD4,r4',f4,T1,done,rest,u4,w4,rfl,rd.pre UK,h8⟩
 .have e:i=es.length:=by omega
  subst e;rw[Qcv] at hc;cases hc;rw[Qa7] at q;refine .inl ⟨stop,?_⟩;have back:PW ⟨r',Dd ::cq.z,f'⟩ H' ⟨r',cq.z,f'⟩ H':=⟨fun b o e nb=>⟨e,fun hb=>nb (by
   rcases P3.eR.mp hb with z | z
   .exact P3.eR.mpr (.inl z)
   .exact P3.eR.mpr (.inr (Qai _ z)))⟩,fun _ _ h=>h⟩
  have wB:SW K cl ⟨r',cq.z,f'⟩ H' _:=⟨w'.len,w'.nd,fun k a o hk ho=>(w'.ob k a o hk ho).pw back,fun b hb=>w'.zb b (Qai _ hb),w'.fz,w'.ff,w'.fi⟩
  refine q _ ⟨r',cq.z,f'⟩ H' (p1.trans pv) wB (yQ (.inl ⟨fun hb=>?_, .inl hDl⟩) (rd.pw back))
  rcases P3.eR.mp hb with z | z
  .exact(w'.zb Dd Qat).2 z.1
  .exact nDz (P3.eR.mpr (.inr z))
end
section
variable {X:Cx} {cl:Aag}
def z9{scope:Scope}{own:List Str}{kp:List Nat}{kn:List Str}{tg iter elt:Expr}{ifs:List Expr}{it:FA}{t:FG}{c:FB}{f:FX}{pos:Pos}(hc:X.calm=true)(C:bg X scope own kp kn)(hi:O2 X cl tg iter it)
 (hg:∀fp s H,Pw (bx X scope (own++kn) fp s H) cl tg t) (A4:∀fp s H,sL (bx X scope (own++kn) fp s H) ifs (Oi X.K cl c)) (he:∀fp s H,PX (bx X scope (own++kn) fp s H) cl elt f)
 (hs:∀x,foldedSetIterable iter X.env x=pure x:=by intro _;rfl):PX X cl (.ListComp elt [⟨tg,iter,ifs,0⟩] scope pos) (lI it t c f own kp):=
 ⟨(FP hc C hi.1 (fun fp s H=>(hg fp s H).1) A4 (fun fp s H=>(he fp s H).1) hs).imp fun σ H Q h=>Fv h⟩
def wb:FB:=fun _ S=> .ok true S
def jk:sL X [] (Oi X.K cl wb):=fun pins s σ H Q I ⟨ρ,S,δ,b,S',E,hf,q⟩=>Bd pins s σ H Q I (by cases hf;exact q ρ H (Pre.refl ρ H) E.sw)
def HX(h:E7 X cl e c):sL X [e] (Oi X.K cl c):=Cj h.1
def DX{K:Qdc}{i:Nat}{D:Ends}{σ:L2.St}(h:sX K cl (cM i f) D σ H):GG (tX K cl f) (xt i) D σ H:=by
 obtain⟨ρ,S,δ,o,S',E,hf,q⟩:=h;obtain⟨v,S1,h1,h2⟩:=R3.aq hf;obtain⟨hi,h3⟩:=R3.ba h2;cases h3;refine⟨ρ,S,δ,v,_,E,h1,fun u cq H1 p1 w1 r1=>?_⟩
 exact q _ cq H1 p1 ((E.to p1 w1).set (by rw[<-E.len];exact Qak hi) r1)
def lH{i:Nat}{x:Str}{pos' qh:Pos}{scope:Scope}{own:List Str}{kp:List Nat}{kn:List Str}{tg iter elt:Expr}{ifs:List Expr}{it:FA}{t:FG}{c:FB}{f:FX}{pos:Pos}(hc:X.calm=true)
 (hN:X.N.Nodup) (hx:X.N[i]? =some x) (HM:X.env.scope.names.lookup x=some .local) (C:bg X scope own kp kn) (hi:O2 X cl tg iter it)
 (hg:∀fp s H,Pw (bx X scope (own++kn) fp s H) cl tg t) (A4:∀fp s H,sL (bx X scope (own++kn) fp s H) ifs (Oi X.K cl c)) (he:∀fp s H,PX (bx X scope (own++kn) fp s H) cl elt f)
 (vn:swapsWith (.ListComp elt [⟨tg,iter,ifs,0⟩] scope pos) (some (.Name x pos')) qh.line X.env=pure true:=by rfl)
 (hs:∀x,foldedSetIterable iter X.env x=pure x:=by intro _;rfl):PZ X cl (.Assign [.Name x pos'] (.ListComp elt [⟨tg,iter,ifs,0⟩] scope pos) qh) (cM i (lI it t c f own kp)):=
 ⟨(nS hc hN hx HM C hi.1 (fun fp s H=>(hg fp s H).1) A4 (fun fp s H=>(he fp s H).1) vn hs).imp fun D σ H h=>Fv (DX h)⟩
def xAl(g:FA):FX:=fun δ S=>(g δ S).bind fun vs S1=>match vj vs with
 | some ds=>R3.bV (decide (ds.length<=sizeLine)) (.ok (.loc S1.length) (S1++[.lst ds]))
 | none=> .no
end
section
variable {X:Cx} {cl:Aag}
def xq(g:List D->R D)(fs:FA):FX:=fun δ S=>(fs δ S).bind fun vs S1=>match vj vs with
 | some ds=>(R3.of (g ds) S1).bind fun d S=> .ok (.d d) S
 | none=> .no
def xIf(c:FB)(f g:FX):FX:=fun δ S=>(c δ S).bind fun b S=>if b then f δ S else g δ S
def aW:∀(δ:DE) (S:aN) (ds:List V3) (S':aN),c8 δ S= .ok ds S'->ds.length=0:=fun δ S ds S' h=>by cases h;rfl
def ak{g:FA}{n:Nat}(h:∀(δ:DE) (S:aN) (ds:List V3) (S':aN),g δ S= .ok ds S'->ds.length=n):∀(δ:DE) (S:aN) (ds:List V3) (S':aN),aI f g δ S= .ok ds S'->ds.length=n+1:=fun δ S ds S' e=>by
 obtain⟨v,S1,h1,h2⟩:=R3.aq e;obtain⟨vs,S2,h3,h4⟩:=R3.aq h2;cases h4;rw[QaM,h δ S1 vs _ h3]
end
def yP{K:Qdc}{ds:List V3}{xs:List V}{i:Int}{d:V3}(r:aR K ρ H ds xs)(h:vW ds i=some d):∃x,vW xs i=some x/\a_ K ρ H d x:=by
 unfold vW at h ⊢;rw[<-r.length];cases e:HD ds.length i with
 | none=>rw [e] at h;cases h
 | some j=>
   rw[e] at h;exact r.get h
section
variable {X:Cx} {cl:Aag}
def Wo(fa fb:FX):FX:=fun δ S=>(fa δ S).bind fun a S1=>(fb δ S1).bind fun b S2=>match a,b with
 | .d x, .d y=>(R3.of (bH x y) S2).bind fun d S=> .ok (.d d) S
 | .lst vs, .d (.int i)=>(match vW vs i with | some v=> .ok v S2 | none=> .no)
 | .tup vs, .d (.int i)=>(match vW vs i with | some v=> .ok v S2 | none=> .no)
 | _,_=> .no
def T_(ha:PX X cl a fa)(hb:PX X cl b fb)(hs:vC b):PX X cl (.Subscript a b pos) (Wo fa fb):=by
 refine⟨(Ol (r:=VM X.K) KW ha.1 hb.1 hs).imp fun σ H Q ⟨ρ,S,δ,v,S',E,hf,q⟩=>?_⟩
 obtain⟨v1,S1,h1,h2⟩:=R3.aq hf;obtain⟨v2,S2,h3,h4⟩:=R3.aq h2;refine⟨ρ,S,δ,v1,S1,E,h1,fun u1 cq H1 p1 w1 r1=>⟨cq,S1,δ,v2,S2,E.to p1 w1,h3,fun u2 tW H2 p2 w2 r2=>?_⟩⟩
 have zu:=r1.pre p2;have Uz:=p1.trans p2;split at h4
 .rename_i x y;obtain⟨d,S3,h5,h6⟩:=R3.aq h4;obtain⟨h7,e7⟩:=R3.of_ok h5;cases h6;subst e7;unfold a_ at zu r2;unfold bH at h7;split at h7
  .split at h7
   .rename_i e;cases h7;obtain⟨p,xs,rfl,l,rs⟩:=Rep.lst.mp zu;obtain⟨y,e1,e2⟩:=sx rs e;exact .inl ⟨p,xs,_,y,rfl,Rep.int.mp r2,l.sq,e1,q y tW H2 Uz w2 (by unfold a_;exact e2)⟩
   .cases h7
  .split at h7
   .rename_i e;cases h7;obtain⟨p,xs,rfl,l,rs⟩:=Rep.tup.mp zu;obtain⟨y,e1,e2⟩:=sx rs e;exact .inr (.inl ⟨p,xs,_,y,rfl,Rep.int.mp r2,l.sq,e1,q y tW H2 Uz w2 (by unfold a_;exact e2)⟩)
   .cases h7
  .obtain⟨hl,h8⟩:=R.ba h7;split at h8
   .rename_i e;cases h8;exact .inr (.inr ⟨_,_,_,Rep.str.mp zu,Rep.int.mp r2,Qak hl,e,q _ tW H2 Uz w2 (by unfold a_;exact Rep.str.mpr rfl)⟩)
   .cases h8
  .cases h7
 .split at h4
  .rename_i e;cases h4;unfold a_ at zu r2;obtain⟨p,xs,rfl,l,rs⟩:=zu;obtain⟨y,e1,e2⟩:=yP rs e;exact .inl ⟨p,xs,_,y,rfl,Rep.int.mp r2,l.sq,e1,q y tW H2 Uz w2 e2⟩
  .cases h4
 .split at h4
  .rename_i e;cases h4;unfold a_ at zu r2;obtain⟨p,xs,rfl,l,rs⟩:=zu;obtain⟨y,e1,e2⟩:=yP rs e;exact .inr (.inl ⟨p,xs,_,y,rfl,Rep.int.mp r2,l.sq,e1,q y tW H2 Uz w2 e2⟩)
  .cases h4
 .cases h4
end
section
variable {X:Cx} {cl:Aag}
structure Li (X:Cx) (cl:Aag) (e:Expr) (f:FB):Prop where
 go:L2.PW X e (Oi X.K cl f)
def Li.pb(h:Li X cl e f):E7 X cl e f:=⟨L2.PW.pt h.1⟩
def PV(f g:FB):FB:=fun δ S=>(f δ S).bind fun b S=>if b then g δ S else .ok false S
def UW(f g:FB):FB:=fun δ S=>(f δ S).bind fun b S=>if b then .ok true S else g δ S
def Hn(f:FB):FB:=fun δ S=>(f δ S).bind fun b S=> .ok (!b) S
def JO(h:E7 X cl a f):Li X cl (.BoolOp .And [a] pos) f:=⟨FJ h.1⟩
def Mz(h:E7 X cl a f):Li X cl (.BoolOp .Or [a] pos) f:=⟨HZ h.1⟩
def Ma{rest:List Expr}(ha:E7 X cl a f)(hb:Li X cl (.BoolOp .And (b ::rest) pos) g):Li X cl (.BoolOp .And (a ::b ::rest) pos) (PV f g):=⟨by
 intro wh pins s σ H Q I ⟨ρ,S,δ,k,S',E,hf,q⟩;refine Ks ha.1 hb.1 wh pins s σ H Q I ?_;obtain⟨c,S1,h1,h2⟩:=R3.aq hf;refine⟨ρ,S,δ,c,S1,E,h1,fun cq H1 p1 w1=>?_⟩
 cases c with
 | true=>rw [QaD rfl] at h2 ⊢;exact⟨cq,S1,δ,k,S',E.to p1 w1,h2,fun tW H' p2 w2=>q tW H' (p1.trans p2) w2⟩
 | false=>rw [QaB (by decide)] at h2 ⊢;cases h2;exact q cq H1 p1 w1⟩
def Jf{rest:List Expr}(ha:E7 X cl a f)(hb:Li X cl (.BoolOp .Or (b ::rest) pos) g):Li X cl (.BoolOp .Or (a ::b ::rest) pos) (UW f g):=⟨by
 intro wh pins s σ H Q I ⟨ρ,S,δ,k,S',E,hf,q⟩;refine OH ha.1 hb.1 wh pins s σ H Q I ?_;obtain⟨c,S1,h1,h2⟩:=R3.aq hf;refine⟨ρ,S,δ,c,S1,E,h1,fun cq H1 p1 w1=>?_⟩
 cases c with
 | true=>rw [QaD rfl] at h2 ⊢;cases h2;exact q cq H1 p1 w1
 | false=>rw [QaB (by decide)] at h2 ⊢;exact⟨cq,S1,δ,k,S',E.to p1 w1,h2,fun tW H' p2 w2=>q tW H' (p1.trans p2) w2⟩⟩
def vI(ha:E7 X cl a f):E7 X cl (.UnaryOp .Not a pos) (Hn f):=⟨(IX ha.1).imp fun σ H Q ⟨ρ,S,δ,k,S',E,hf,q⟩=>by
 obtain⟨c,S1,h1,h2⟩:=R3.aq hf;cases h2;exact⟨ρ,S,δ,c,_,E,h1,fun cq H1 p1 w1=>q cq H1 p1 w1⟩⟩
def ED(f:FX):FB:=fun δ S=>(f δ S).bind fun v S=>match v with | .d d=>R3.of (L6 d) S | _=> .no
def ME(ha:PX X cl a f)(ht:∀{t:TE},PE X a t->PT X a (fun σ H Q=>t σ H fun x H'=>∃b,NG X.K x H' b/\Q b H')):E7 X cl a (ED f):=
 ⟨(ht ha.1).imp fun σ H Q ⟨ρ,S,δ,b,S',E,hf,q⟩=>by
   obtain⟨v,S1,h1,h2⟩:=R3.aq hf;split at h2
   .rename_i d;obtain⟨h3,e3⟩:=R3.of_ok h2;subst e3;exact⟨ρ,S,δ, .d d,_,E,h1,fun u cq H1 p1 w1 r1=>⟨b,IW (by unfold a_ at r1;exact r1) h3,q cq H1 p1 w1⟩⟩
   .cases h2⟩
abbrev R5:=DE->aN->R3 (Option Int)
def Zv(K:Qdc)(cl:Aag)(f:R5):TO:=fun σ H Q=>∃ρ S δ o S',fW K cl ρ H S σ δ/\f δ S= .ok o S'/\∀ck H',Pre ρ H ck H'->SW K cl ck H' S'->Q o H'
structure PXO (X:Cx) (cl:Aag) (e:Option Expr) (f:R5):Prop where
 go:PO X e (Zv X.K cl f)
def Wl:R5:=fun _ S=> .ok none S
def Vt(f:FX):R5:=fun δ S=>(f δ S).bind fun v S=>match v with | .d (.int i)=> .ok (some i) S | _=> .no
def xSl(f:FX)(fl fh:R5):FX:=fun δ S=>(f δ S).bind fun v S1=>(fl δ S1).bind fun lo S2=>(fh δ S2).bind fun hi S3=>match v with
 | .d d=>(R3.of (SE d lo hi) S3).bind fun r S=> .ok (.d r) S
 | _=> .no
end
end L3
end
section
namespace L2
open PySem PySem.Spec PyProof.Rows
section
variable {X:Cx}
def Rr(t T:String):Bool:=t==T || (t=="bool" && T=="int")
def ZN(T:String)(f:FD):FD:=fun δ=>(f δ).bind fun d=>match d with | .dct _ _=> .no | _=> .ok (.bl (Rr (tyName d) T))
def nList(f:FD):az->R (List D):=fun δ=>(f δ).bind fun d=>match d with | .lst ds=> .ok ds | .tup ds=> .ok ds | _=> .no
end
end L2
namespace L3
open PySem PySem.Spec PyProof.Rows L2
def cx{P:Program}{w:World}{K:Qdc}{mg:Aaf}{base:Heap}{cl:Aag}{x qual:Str}{st:Stmt}{f:Addr}{fd:FuncData}{N ps:List Str}{k:Nat}{F:FZ}{b:List Stmt}{sc:Scope}(hb:aO st=b)(hs:aD st=sc)(Fn:D_ K x qual st f fd)(S:aU N ps sc)
 (jf:∀(dt:Value) (A:Around) (outer:List Env) (s:Qdd) (H:Hp) (E:XK),eW k (A.deeper (envOfC qual sc s.heap.objs.size f dt))->
   Hy (pN yn P w K mg base N qual sc f dt A outer s H E).MG cl b F):j2 P w K mg base yn (k+1) f fd ps (KY K cl ps.length (mB N F)):=by
 subst hb hs;exact Mv Fn S jf
def bF.p{K:Qdc}{mg:Aaf}{cl:Aag}{k:Nat}{n:Nat}{N:List Str}(C:bF P w K mg base cl k x n (mB N F)):bF P w K mg base cl k x n (qk N F):=
 let⟨f,fd,ps,F,h⟩:=C;⟨f,fd,ps,F.imp fun _ _ _ _ h=>DG h,h⟩
def US(N:List Str)(F:FZ):List D->R D:=fun ds=>match qk N F (ds.map .d) [] with
 | .ok (.d d) []=>R.bV d.atom (.ok d)
 | _=> .no
def Rp{K:Qdc}{cl:Aag}{N:List Str}{n:Nat}{vs:List V}{Q:VK}{E:XK}(h:Ik K n (US N F) vs H Q E):KY K cl n (mB N F) vs H Q E:=by
 obtain⟨hl,B,ds,d,hb,r,hg,q⟩:=h;unfold US at hg;split at hg
 .rename_i d' e;obtain⟨ha,h2⟩:=R.ba hg;cases h2;have r0:aL K (⟨[],[],[]⟩:P3).b H ds vs:=r.bw fun b o e _=>⟨e,by simp [P3.b]⟩
  refine DG ⟨hl,⟨[],[],[]⟩,[],ds.map .d, .d d,[],⟨rfl,fun i j a hi=>by simp at hi,fun k a o hk=>by simp at hk,fun b hb=>by simp at hb,fun k a hk=>by simp at hk,fun b hb=>by simp at hb,fun k a hk=>by simp at hk⟩,aR.of r0,e,fun u ck H' p w' r'=>q u H' (fun b o eb=>?_) ?_⟩
  .exact(p.bw b o eb (by simp [P3.b])).1
  .unfold a_ at r';exact r'.atom ha
 .cases hg
section
variable {X:Cx} {cl:Aag}
def sY{a:Expr}(ha:PX X cl a f)(he:∀whole,isTrue a X.env whole=(do let v <-whole;standAt a.pos;holding [v] (truthy v)):=by intro _;rfl):E7 X cl a (ED f):=ME ha fun h=>CO h he
def wW{g:List D->R D}{k j n:Nat}{x:Str}{p pos:Pos}{e:Expr}{es:List Expr}{fs:FA}(C:Callee X.prog X.w X.K X.mg X.base k x n g)(hr:eW j X.A)(EG:k<=j)(hg:Gl X x)(ha:Lm X cl (e ::es) fs)
 (hn:∀δ S ds S',fs δ S= .ok ds S'->ds.length=n) (oi:(x==("__debug__":Str))=false:=by decide) (he:starEach (e ::es) X.env=(false,eval e X.env) ::starEach es X.env:=by rfl) (jY:(backTo pos (starEach es X.env)).any (·.1)=false:=by rfl) :
 PX X cl (.Call (.Name x p) (e ::es) [] pos) (xq g fs):=by
 obtain⟨f,fd,ps,F,hm,hk,hb⟩:=C;refine⟨(vt F (hr.mono EG) hg hm hk hb .nil Cg ha.1 oi he jY).imp fun σ H Q ⟨ρ,S,δ,v,S',E,hf,q⟩=>?_⟩
 obtain⟨vs,S1,h1,h2⟩:=R3.aq hf;split at h2
 .rename_i ds e;obtain⟨d,S2,h3,h4⟩:=R3.aq h2;obtain⟨h5,e5⟩:=R3.of_ok h3;cases h4;subst e5;refine⟨ρ,S,δ,vs,_,E,h1,fun us cq H1 p1 w1 r1=>?_⟩
  have hl:=hn δ S vs _ h1;rw[mZ e] at r1;show Ik X.K n g (us++[]) H1 Q E0;rw[Qa7];exact⟨by rw[<-r1.length,<-mZ e];exact hl,cq.b,ds,d,w1.bs,r1.to,h5,fun z H' s r=>q z cq H' (p1.trans (Pre.same s)) (w1.same s) (by unfold a_;exact r)⟩
 .cases h2
def VO(f:FX):FA:=fun δ S=>(f δ S).bind fun v S=>match v with | .d (.tup ds)=> .ok (ds.map .d) S | .tup vs=> .ok vs S | _=> .no
end
def W3{α:Type}(r:R3 α)(Q:α->aN->Prop):Prop:=∃a S,r= .ok a S/\Q a S
section
variable {α β:Type} {Q Q':α->aN->Prop} {S:aN} {δ:DE}
def W3.ok{a:α}(h:Q a S):W3 (.ok a S) Q:=⟨a,S,rfl,h⟩
def W3.bind{Q:β->aN->Prop}{r:R3 α}{f:α->aN->R3 β}(h:W3 r fun a S=>W3 (f a S) Q):W3 (r.bind f) Q:=by
 obtain⟨a,S1,e1,b,S2,h2,q⟩:=h;exact⟨b,S2,by rw[e1];exact h2,q⟩
def W3.mono{r:R3 α}(h:W3 r Q)(m:∀a S,Q a S->Q' a S):W3 r Q':=let⟨a,S,e,q⟩:=h;⟨a,S,e,m a S q⟩
def W3.wh{c:Bool}{r:R3 α}(hc:c=true)(h:W3 r Q):W3 (R3.bV c r) Q:=by rw[hc];exact h
def W3.of{r:R α}{a:α}(e:r= .ok a)(h:Q a S):W3 (R3.of r S) Q:=by rw[e];exact⟨a,S,rfl,h⟩
end
section
variable {S:aN} {δ:DE} {QV:V3->aN->Prop} {QB:Bool->aN->Prop} {QA:List V3->aN->Prop} {QO:Ou->aN->Prop}
def bZ{f:FD}{d:D}(e:f (down δ)= .ok d)(h:QV (.d d) S):W3 (xP f δ S) QV:=W3.bind (W3.of e (W3.ok h))
def Ji{f:FD}{d:D}(e:f (dN S δ)= .ok d)(ha:kh d=true)(h:QV (.d d) S):W3 (xT f δ S) QV:=W3.bind (W3.of e (W3.wh ha (W3.ok h)))
def yu{f:az->R Bool}{b:Bool}(e:f (down δ)= .ok b)(h:QB b S):W3 (bP f δ S) QB:=W3.of e h
def w_var{i:Nat}{v:V3}(e:δ[i]? =some (some v))(h:QV v S):W3 (eA i δ S) QV:=by unfold eA;rw [e];exact W3.ok h
def ll{f:az->R (List D)}{ds:List D}(e:f (down δ)= .ok ds)(h:QV (.loc S.length) (S++[.lst ds])):W3 (nW f δ S) QV:=W3.bind (W3.of e (W3.ok h))
def cb(h:QA [] S):W3 (c8 δ S) QA:=W3.ok h
def ay{f:FX}{g:FA}(h:W3 (f δ S) fun v S1=>W3 (g δ S1) fun vs S2=>QA (v ::vs) S2):W3 (aI f g δ S) QA:=W3.bind (h.mono fun _ _ h=>W3.bind (h.mono fun _ _ h=>W3.ok h))
def Oy{g:FA}(h:W3 (g δ S) fun vs S1=>vs.length<=sizeLine/\QV (FH vs) S1):W3 (L_ g δ S) QV:=W3.bind (h.mono fun _ _ h=>W3.wh (QaE h.1) (W3.ok h.2))
def Oe{g:FA}(h:W3 (g δ S) fun vs S1=>vs.length<=sizeLine/\QV (xn vs) S1):W3 (Q1 g δ S) QV:=W3.bind (h.mono fun _ _ h=>W3.wh (QaE h.1) (W3.ok h.2))
def UZ{g:D->D->R D}{fa fb:FX}(h:W3 (fa δ S) fun a S1=>W3 (fb δ S1) fun b S2=>∃x y d,a= .d x/\b= .d y/\g x y= .ok d/\QV (.d d) S2):W3 (x2 g fa fb δ S) QV:=
 W3.bind (h.mono fun _ _ h=>W3.bind (h.mono fun _ _ ⟨_,_,_,e1,e2,e3,q⟩=>by subst e1 e2;exact W3.bind (W3.of e3 (W3.ok q))))
def Hk{g:D->D->R D}{fa fb:FX}(h:W3 (fa δ S) fun a S1=>W3 (fb δ S1) fun b S2=>∃x y k,a= .d x/\b= .d y/\g x y= .ok (.bl k)/\QB k S2):W3 (Oo g fa fb δ S) QB:=
 W3.bind (UZ (h.mono fun _ _ h=>h.mono fun _ _ ⟨x,y,k,e1,e2,e3,q⟩=>⟨x,y, .bl k,e1,e2,e3,W3.ok q⟩))
def Ww{fa fb:FX}(h:W3 (fa δ S) fun a S1=>W3 (fb δ S1) fun b S2=>∃x y d,a= .d x/\b= .d y/\bH x y= .ok d/\QV (.d d) S2):W3 (Wo fa fb δ S) QV:=
 W3.bind (h.mono fun _ _ h=>W3.bind (h.mono fun _ _ ⟨_,_,_,e1,e2,e3,q⟩=>by subst e1 e2;exact W3.bind (W3.of e3 (W3.ok q))))
def cQ{g:List V3->aN->R3 V3}{fs:FA}(h:W3 (fs δ S) fun vs S1=>W3 (g vs S1) QV):W3 (dg g fs δ S) QV:=W3.bind h
def zI{g:List D->R D}{fs:FA}(h:W3 (fs δ S) fun vs S1=>∃ds d,vs=ds.map .d/\g ds= .ok d/\QV (.d d) S1):W3 (xq g fs δ S) QV:=
 W3.bind (h.mono fun _ _ ⟨ds,_,e1,e2,q⟩=>by subst e1;rw [xj];exact W3.bind (W3.of e2 (W3.ok q)))
def P4{it:FA}{own:List Str}{kp:List Nat}(h:W3 (it δ S) fun vs S1=>vs.length<=sizeLine/\W3 (pJ t c f (pF own kp δ) vs S1) fun ys S2=>QV (xn ys) S2):W3 (lI it t c f own kp δ S) QV:=
 W3.bind (h.mono fun _ _ h=>W3.wh (QaE h.1) (W3.bind (h.2.mono fun _ _ h=>W3.ok h)))
def FN{f:FX}(h:W3 (f δ S) fun v S1=>∃d b,v= .d d/\L6 d= .ok b/\QB b S1):W3 (ED f δ S) QB:=W3.bind (h.mono fun _ _ ⟨_,_,e,e2,q⟩=>by subst e;exact W3.of e2 q)
def w_not{f:FB}(h:W3 (f δ S) fun b S1=>QB (!b) S1):W3 (Hn f δ S) QB:=W3.bind (h.mono fun _ _ h=>W3.ok h)
def aT{F G:FZ}(h:W3 (F δ S) fun o S1=>∃cX,o= .nx cX/\W3 (G cX S1) QO):W3 (bt F G δ S) QO:=W3.bind (h.mono fun _ _ ⟨_,e,h⟩=>by subst e;exact h)
def bM{i:Nat}{f:FX}(hi:i<δ.length)(h:W3 (f δ S) fun v S1=>QO (.nx (δ.set i (some v))) S1):W3 (cM i f δ S) QO:=W3.bind (h.mono fun _ _ h=>W3.wh (QaE hi) (W3.ok h))
def eQ{f:FX}(h:W3 (f δ S) fun v S1=>QO (.rt v) S1):W3 (fS f δ S) QO:=W3.bind (h.mono fun _ _ h=>W3.ok h)
def pE{c:FB}{F G:FZ}(h:W3 (c δ S) fun b S1=>if b then W3 (F δ S1) QO else W3 (G δ S1) QO):W3 (A5 c F G δ S) QO:=W3.bind (h.mono fun b _ h=>by cases b <;> exact h)
def Tt{f:FX}{t:FG}(h:W3 (f δ S) fun v S1=>∃cX,t v δ=some cX/\QO (.nx cX) S1):W3 (Rx f t δ S) QO:=W3.bind (h.mono fun _ _ ⟨_,e,q⟩=>by rw[e];exact W3.ok q)
def iI(h:QO (.nx δ) S):W3 (rJ δ S) QO:=W3.ok h
def kL{f:az->R (List D)}{ds:List D}(e:f (down δ)= .ok ds)(h:QA (ds.map .d) S):W3 (iP f δ S) QA:=W3.bind (W3.of e (W3.ok h))
def Qi{f:FX}(h:W3 (f δ S) fun v S1=>∃n:Nat,v= .d (.int n)/\n<1000000/\QA ((ip 0 n).map .d) S1):W3 (Ct f δ S) QA:=W3.bind (h.mono fun _ _ ⟨n,e,hn,q⟩=>by
 subst e;refine W3.wh (QaE ⟨by omega,by omega⟩) (W3.ok ?_)
 rw[Qa4];exact q)
def zO{f:FX}(h:W3 (f δ S) fun v S1=>∃ds,v= .d (.lst ds)/\QA (ds.map .d) S1):W3 (Km f δ S) QA:=W3.bind (h.mono fun _ _ ⟨n,e,q⟩=>by subst e;exact W3.ok q)
def gh{it:FA}(h:W3 (it δ S) fun vs S1=>W3 (pA t F vs δ S1) QO):W3 (jr it t F δ S) QO:=W3.bind h
def jd{i k:Nat}{f:FX}(hk:δ[i]? =some (some (.loc k)))(h0:∃ds,S[k]? =some (.lst ds))(h:W3 (f δ S) fun v S1=>∃d ds,v= .d d/\S1[k]? =some (.lst ds)/\ds.length<sizeLine/\QO (.nx δ) (S1.set k (.lst (ds++[d])))):W3 (kP i f δ S) QO:=by
 obtain⟨es,h0⟩:=h0;unfold kP;have e1:kj δ i=some k:=by unfold kj;rw [hk]
 have e2:du S k=some es:=by unfold du;simp only[h0]
 rw[e1];show W3 (match du S k with | none=>_ | some _=>_) _
 rw[e2];refine W3.bind (h.mono fun v S1 ⟨d,ds,e,h1,hl,q⟩=>?_)
 subst e;have e3:du S1 k=some ds:=by unfold du;simp only[h1]
 show W3 (match du S1 k with | some ds=>_ | none=>_) _
 rw[e3];exact W3.wh (QaE hl) (W3.ok q)
def xG{t:FG}{body:FZ}:∀(vs:List V3) (n:Nat) (P:Nat->DE->aN->Prop) {δ:DE} {S:aN},P n δ S->
 (∀i v δ S,vs[i]? =some v->P (n+i) δ S->∃cX,t v δ=some cX/\W3 (body cX S) fun o S1=>∃ef,o= .nx ef/\P (n+i+1) ef S1)->W3 (pA t body vs δ S) fun o S1=>∃ef,o= .nx ef/\P (n+vs.length) ef S1
 | [],n,P,δ,S,h0,_=>W3.ok ⟨δ,rfl,h0⟩
 | v ::vs,n,P,δ,S,h0,hs=>by
   obtain⟨cX,e1,o,S1,e2,ef,rfl,p2⟩:=hs 0 v δ S rfl h0;have ih:=xG vs (n+1) P p2 (fun i v' eT S' hi hp=>by
    have:=hs (i+1) v' eT S' (by simpa using hi) (by rw[show n+(i+1)=n+1+i by omega];exact hp)
    rw[show n+(i+1)+1=n+1+i+1 by omega] at this
    exact this)
   rw[show n+1+vs.length=n+(v ::vs).length by rw[QaM];omega] at ih
   unfold pA;rw[e1];refine W3.bind ⟨_,_,e2,?_⟩;exact ih
def cn{t:FG}{body:FZ}{vs:List V3}(P:Nat->DE->aN->Prop){δ:DE}{S:aN}(h0:P 0 δ S)
 (hs:∀i v δ S,vs[i]? =some v->P i δ S->∃cX,t v δ=some cX/\W3 (body cX S) fun o S1=>∃ef,o= .nx ef/\P (i+1) ef S1):W3 (pA t body vs δ S) fun o S1=>∃ef,o= .nx ef/\P vs.length ef S1:=by
 have:=xG (t:=t) (body:=body) vs 0 P h0 (fun i v δ S hi hp=>by simpa using hs i v δ S hi (by simpa using hp))
 simpa using this
def wH{t:FG}{c:FB}{f:FX}{δ:DE}:∀(vs:List V3) (n:Nat) (P:Nat->List V3->aN->Prop) {ys:List V3} {S:aN},P n ys S->
 (∀i v ys S,vs[i]? =some v->P (n+i) ys S->∃cX,t v δ=some cX/\W3 (c cX S) fun b S1=>if b then W3 (f cX S1) fun y S2=>P (n+i+1) (ys++[y]) S2 else P (n+i+1) ys S1)->W3 (pJ t c f δ vs S) fun zs S1=>P (n+vs.length) (ys++zs) S1
 | [],n,P,ys,S,h0,_=>W3.ok (by rw[Qa7];exact h0)
 | v ::vs,n,P,ys,S,h0,hs=>by
   obtain⟨cX,e1,b,S1,e2,h2⟩:=hs 0 v ys S rfl h0;have ih:∀{UI S'},P (n+1) UI S'->W3 (pJ t c f δ vs S') fun zs S1=>P (n+(v ::vs).length) (UI++zs) S1:=fun {UI S'} p=>by
    have:=wH (t:=t) (c:=c) (f:=f) (δ:=δ) vs (n+1) P p (fun i v' UI S' hi hp=>by
     have:=hs (i+1) v' UI S' (by simpa using hi) (by rw[show n+(i+1)=n+1+i by omega];exact hp)
     rw[show n+(i+1)+1=n+1+i+1 by omega] at this
     exact this)
    rw[show n+1+vs.length=n+(v ::vs).length by rw[QaM];omega] at this
    exact this
   unfold pJ;rw[e1];refine W3.bind ⟨b,S1,e2,?_⟩;cases b with
   | true=>
     rw[QaD rfl] at h2 ⊢;exact W3.bind (h2.mono fun y S2 p=>W3.bind ((ih p).mono fun zs S3 q=>W3.ok (by rw[QaN] at q;exact q)))
   | false=>rw [QaB (by decide)] at h2 ⊢;exact ih h2
def Ha{t:FG}{c:FB}{f:FX}{δ:DE}{vs:List V3}(P:Nat->List V3->aN->Prop){S:aN}(h0:P 0 [] S)
 (hs:∀i v ys S,vs[i]? =some v->P i ys S->∃cX,t v δ=some cX/\W3 (c cX S) fun b S1=>if b then W3 (f cX S1) fun y S2=>P (i+1) (ys++[y]) S2 else P (i+1) ys S1):W3 (pJ t c f δ vs S) fun zs S1=>P vs.length zs S1:=by
 have:=wH (t:=t) (c:=c) (f:=f) (δ:=δ) vs 0 P h0 (fun i v ys S hi hp=>by simpa using hs i v ys S hi (by simpa using hp))
 simpa using this
def yN{QB:Bool->aN->Prop}(h:QB true S):W3 (wb δ S) QB:=W3.ok h
def vB{N:List Str}{F:FZ}{vs:List V3}{δ:DE}(e:bQ N vs=δ)(h:W3 (F δ S) fun o S1=>∃v,o= .rt v/\QV v S1):W3 (mB N F vs S) QV:=by
 subst e;exact W3.bind (h.mono fun _ _ ⟨_,e,q⟩=>by subst e;exact W3.ok q)
def Yb(S:aN):Prop:=∀o∈S,∃ds,o=SO.lst ds
end
section
variable {S:aN} {δ:DE} {QV:V3->aN->Prop}
def nT{it:FA}{t:FG}{c:FB}{f:FX}{own:List Str}{kp:List Nat}(P:Nat->List D->aN->Prop)(h:W3 (it δ S) fun vs S1=>vs.length<=sizeLine/\P 0 [] S1/\
 (∀i v ds S2,vs[i]? =some v->P i ds S2->∃cX,t v (pF own kp δ)=some cX/\W3 (c cX S2) fun b S3=>if b then W3 (f cX S3) fun y S4=>∃d,y= .d d/\P (i+1) (ds++[d]) S4 else P (i+1) ds S3)/\
 ∀ds S2,P vs.length ds S2->QV (.d (.lst ds)) S2):W3 (lI it t c f own kp δ S) QV:=by
 refine P4 (h.mono fun vs S1 ⟨hl,h0,hs,hq⟩=>⟨hl,?_⟩)
 refine(Ha (fun i ys S=>∃ds,ys=ds.map V3.d/\P i ds S) ⟨[],rfl,h0⟩ ?_).mono fun zs S2 ⟨ds,e,p⟩=>?_
 .rintro i v ys S2 hv ⟨ds,rfl,p⟩;obtain⟨cX,e1,h1⟩:=hs i v ds S2 hv p;refine⟨cX,e1,h1.mono fun b S3 h3=>?_⟩
  cases b with
  | true=>
    rw[QaD rfl] at h3 ⊢;exact h3.mono fun y S4 ⟨d,e,p⟩=>by subst e;exact⟨ds++[d],by simp,p⟩
  | false=>rw [QaB (by decide)] at h3 ⊢;exact⟨ds,rfl,h3⟩
 .subst e;unfold xn;rw[xj];exact hq ds S2 p
structure eN (n:Nat) (d:D):Prop where
 pl:fK d=true
 ly:(toPy d).canLay0=true
 dp:(toPy d).depth<=n
def eN.int(i:Int):eN 0 (.int i):=⟨by unfold fK;rfl,by unfold toPy PyData.canLay0;rfl,by unfold toPy PyData.depth;omega⟩
def eN.bl(b:Bool):eN 0 (.bl b):=⟨by unfold fK;rfl,by unfold toPy PyData.canLay0;rfl,by unfold toPy PyData.depth;omega⟩
def eN.cR:eN 0 .cR:=⟨by unfold fK;rfl,by unfold toPy PyData.canLay0;rfl,by unfold toPy PyData.depth;omega⟩
def eN.str(h:(PyData.str s).canLay0=true):eN 0 (.str s):=⟨by unfold fK;rfl,by unfold toPy;exact h,by unfold toPy PyData.depth;omega⟩
def eN.mono{n m:Nat}{d:D}(h:eN n d)(hm:n<=m):eN m d:=⟨h.pl,h.ly,Qa0 h.dp hm⟩
theorem eN.all{n:Nat}:∀{ds:List D},(∀d∈ds,eN n d)->l_ ds=true/\PyData.canLayAll0 (oP ds)=true/\PyData.depthAll (oP ds)<=n
 | [],_=>⟨by unfold l_;rfl,by unfold oP PyData.canLayAll0;rfl,by unfold oP PyData.depthAll;omega⟩
 | d ::ds,h=>by
   obtain⟨h1,h2,h3⟩:=eN.all (ds:=ds) fun x hx=>h x (Qai _ hx)
   have f:=h d Qat;refine⟨by unfold l_;rw [f.pl,h1];rfl,by unfold oP PyData.canLayAll0;rw [f.ly,h2];rfl,?_⟩
   unfold oP PyData.depthAll;have:=f.dp;omega
def eN.lst{n:Nat}{ds:List D}(h:∀d∈ds,eN n d):eN (n+1) (.lst ds):=by
 obtain⟨h1,h2,h3⟩:=eN.all h;exact⟨by unfold fK;exact h1,by unfold toPy PyData.canLay0;exact h2,by unfold toPy PyData.depth;omega⟩
def eN.tup{n:Nat}{ds:List D}(h:∀d∈ds,eN n d):eN (n+1) (.tup ds):=by
 obtain⟨h1,h2,h3⟩:=eN.all h;exact⟨by unfold fK;exact h1,by unfold toPy PyData.canLay0;exact h2,by unfold toPy PyData.depth;omega⟩
def eN.sh{n:Nat}{d:D}(h:eN n d)(hn:n<=64):SeqAt.shaped (toPy d)=true:=by
 unfold SeqAt.shaped;rw[h.ly,QaE (Qa0 h.dp hn)];rfl
def Ra{d e:List D}:Mx (.lst d) (.lst e)=R.bV (fK (.lst d) && fK (.lst e) && SeqAt.shaped (toPy (.lst d)) && SeqAt.shaped (toPy (.lst e))) (.ok (PyData.eqv (toPy (.lst d)) (toPy (.lst e)))):=rfl
def O8{d e:List D}:Mx (.tup d) (.tup e)=R.bV (fK (.tup d) && fK (.tup e) && SeqAt.shaped (toPy (.tup d)) && SeqAt.shaped (toPy (.tup e))) (.ok (PyData.eqv (toPy (.tup d)) (toPy (.tup e)))):=rfl
def eN.eqT{n:Nat}{ds:List D}(h:eN n (.tup ds))(hn:n<=64):Mx (.tup ds) (.tup ds)= .ok true:=by
 rw[O8,h.pl,h.sh hn,SeqAt.eqv_refl _ h.ly];rfl
def eN.Y9{n:Nat}{ds:List D}(h:eN n (.lst ds))(hn:n<=64):Mx (.lst ds) (.lst ds)= .ok true:=by
 rw[Ra,h.pl,h.sh hn,SeqAt.eqv_refl _ h.ly];rfl
end
end L3
end
section
namespace L2
open PySem PySem.Spec PyProof.Rows
section
variable {X:Cx}
def Kh:D->Bool | .cR=>true | _=>false
def dIs(d e:D):R D:=match e with | .cR=> .ok (.bl (Kh d)) | _=> .no
def DY(d e:D):R D:=match e with | .cR=> .ok (.bl (!Kh d)) | _=> .no
def Mm{K:Qdc}{B:List Addr}{d:D}{x:V}(r:Rep K B H d x):decide (x= .cR)=Kh d:=by
 cases d with
 | cR=>rw [Rep.cR.mp r];rfl
 | bl b=>rw [Rep.bl.mp r];rfl
 | int b=>rw [Rep.int.mp r];rfl
 | str b=>rw [Rep.str.mp r];rfl
 | lst ds=>obtain⟨a,xs,rfl,_⟩:=Rep.lst.mp r;rfl
 | tup ds=>obtain⟨a,xs,rfl,_⟩:=Rep.tup.mp r;rfl
 | dct ks ds=>unfold Rep at r;obtain⟨a,xs,rfl,_⟩:=r;rfl
def N8:nL X (compareOp .IsNot) DY:=nL.of Nh fun B H da db d x y Q _ ra rb hg q=>by
 unfold DY at hg;split at hg
 .cases hg;exact⟨Rep.cR.mp rb,by rw[Mm ra];exact q _ H (aX.refl H) (Rep.bl.mpr rfl)⟩
 .cases hg
def He:l3 X (.type "int") (fun xs H Q=>∃x n,xs=[.str x]/\PySem.intText? x=some n/\x.length<=640/\Q (.int n) H):=by
 intro pins s σ H xs us Q I r h;obtain⟨x,n,rfl,h1,h2,q⟩:=h;obtain⟨u,rfl,ru⟩:=vals1 r;obtain⟨t,rfl⟩:=ru;exact PySem.W.KIN.call_text h1 h2 ⟨.int n,H,I.tok _,⟨_,rfl⟩,q⟩
def JH:List D->R D
 | [.str x]=>R.bV (decide (x.length<=640)) (match PySem.intText? x with | some n=> .ok (.int n) | none=> .no)
 | _=> .no
def Q3:dn X (.type "int") JH:=dn.of He fun B H ds d xs Q _ rs hg q=>by
 unfold JH at hg;split at hg
 .obtain⟨h1,h2⟩:=R.ba hg;split at h2
  .rename_i e;cases h2;obtain⟨x,rfl,r⟩:=rs.one;exact⟨_,_,by rw[Rep.str.mp r],e,Qak h1,q _ H (aX.refl H) (Rep.int.mpr rfl)⟩
  .cases h2
 .cases hg
def tG(ds:List D):R D:=match ds with | [.str _]=>JH ds | _=>cInt ds
def AH:dn X (.type "int") tG:=dn.or Q3 Sq fun a d h=>by
 unfold tG at h;split at h
 .exact .inl h
 .exact .inr h
def Z3(f:FD):FD:=fun δ=>(f δ).bind fun d=>match d with | .int i=> .ok (.int (-i)) | _=> .no
def XX(d:D)(ds:List D):R D:=match d,ds with
 | .str x,[.str y]=> .ok (.int (Txt.find x y))
 | _,_=> .no
def ZY(kvs:List (Str × Str)):D:= .dct (kvs.map fun p=>Sum.inr p.1) (kvs.map fun p=> .str p.2)
def kvV(kvs:List (Str × Str)):List (Key × V):=kvs.map fun p=>((Sum.inr p.1:Key),V.str p.2)
def ZT(d k:D):R D:=match d,k with
 | .dct ks ds, .str x=>(match (ks.zip ds).find? fun p=>decide (p.1=Sum.inr x) with | some p=> .ok p.2 | none=> .no)
 | _,_=> .no
end
def Us{K:Qdc}{mg:Aaf}{k n:Nat}{f:Addr}{fd:FuncData}{ps:List Str}:j2 P w K mg base yn k f fd ps (Ik K n fun _=> .no):=
 ⟨fun vs H Q E h=>(by obtain⟨_,_,_,_,_,_,h,_⟩:=h;cases h),fun A outer s H args us vs Q E _ _ _ _ h=>(by obtain⟨_,_,_,_,_,_,h,_⟩:=h;cases h)⟩
end L2
namespace L3
open PySem PySem.Spec PyProof.Rows L2
section
variable {X:Cx} {cl:Aag}
def XO(f:FX):FB:=fun δ S=>(f δ S).bind fun v S=>match v with | .d (.bl b)=> .ok b S | _=> .no
def ZX(f g:FX):FX:=fun δ S=>(XO f δ S).bind fun b S=>if b then g δ S else .ok (.d (.bl false)) S
def xOr(f g:FX):FX:=fun δ S=>(XO f δ S).bind fun b S=>if b then .ok (.d (.bl true)) S else g δ S
def AI(i:Nat)(F:FZ):FZ:=fun δ S=>match kj δ i with
 | some k=>(match du S k with | some ds=>F (δ.set i (some (.d (.lst ds)))) (S.set k .lV) | none=> .no)
 | none=> .no
def tu(i:Nat)(h:Hy X cl OM F):Hy X cl OM (AI i F):=⟨h.1.imp fun D σ H ⟨ρ,S,δ,o,S',E,hf,q⟩=>by
 unfold AI at hf;split at hf
 .rename_i k hk;split at hf
  .rename_i ds hds;obtain⟨v,v1,v2⟩:=E.val i _ (lM hk);unfold a_ at v2;obtain⟨a,a1,rfl⟩:=v2;obtain⟨w,p,r⟩:=E.sw.lV a1 (fZ hds);have E1:fW X.K cl ⟨ρ.r,ρ.z,a ::ρ.f⟩ H (S.set k .lV) σ (δ.set i (some (.d (.lst ds)))):=⟨by rw[QaZ];exact E.len,w,fun j d e=>by
    by_cases h:i=j
    .subst h;rw[Qao (by obtain⟨h1,_⟩:=Qab.mp (lM hk);exact h1)] at e
     cases e;exact⟨_,v1,by unfold a_;exact r⟩
    .rw [Qaq h] at e;obtain⟨u,u1,u2⟩:=E.val j d e;exact⟨u,u1,u2.pre p⟩⟩
   exact⟨_,_,_,o,S',E1,hf,q.pre p⟩
  .cases hf
 .cases hf⟩
def Cu{i k:Nat}{ds:List D}{F:FZ}{δ:DE}{S:aN}{QO:Ou->aN->Prop}(hk:δ[i]? =some (some (.loc k)))(hS:S[k]? =some (.lst ds))(h:W3 (F (δ.set i (some (.d (.lst ds)))) (S.set k .lV)) QO):W3 (AI i F δ S) QO:=by
 unfold AI;have e1:kj δ i=some k:=by unfold kj;rw [hk]
 have e2:du S k=some ds:=by unfold du;simp only[hS]
 simp only[e1,e2];exact h
end
def Flat(S:aN):Prop:=∀o∈S,∀n,vU n o=true
end L3
end
section
namespace PySem
open Sem (wp)
open AutoSeq1 (wpAny_loadPart')
section
variable {prog:Program} {w:World} {A:Around} {E:Aab} {s:Qdd}
end
end PySem
namespace L2
open PySem PySem.Spec PyProof.Rows
section
variable {X:Cx}
def UU(f:FD):FD:=fun δ=>(f δ).bind fun d=>match d with
 | .int j=>R.bV (decide (-(2 ^ 62)<=j/\j<16777216)) (.ok (.tup (ip 0 j.toNat)))
 | _=> .no
end
end L2
end
section
namespace PySem
open Sem (wp)
open AutoSeq1 (wpAny_loadPart')
section
variable {prog:Program} {w:World} {A:Around} {E:Aab} {s:Qdd}
def oR{it l:Addr}{i:Nat}{items:Array Value}{x:Value}{Q:Aab}(hit:s.heap.IsTupleIter it l i)(hl:s.heap.IsTuple l items)(hx:items[i]? =some x)
 (hQ:∀h',h'.IsTupleIter it l (i+1)->Heap.SameBut it s.heap h'->Q x {s with heap:=h'}):wpAny (model prog w) A (Builtin.SmallTypes.nextOf (.ref it)) Q E s:=by
 obtain⟨o,ho,hc,hd⟩:=id hit;obtain⟨ol,hol,_,nl,hdl⟩:=hl;unfold Builtin.SmallTypes.nextOf;refine Qaf (QbD (name:="__next__") hit.typeIs QbJ (Qb7 QbJ hit.typeIs F.entry_tuple_iterator_next ?_ (F.args_tuple_iterator_next_1 _)));show wpAny _ _ (field (.ref it) 0 >>=_) _ _ s;refine Qaf (Qbp ho hd (x:= .ref l) rfl ?_);show wpAny _ _ (if(Value.ref l==Value.none)=true then _ else _) _ _ s;rw [QaB (show ¬((Value.ref l==Value.none)=true) from Qaz)]
 show wpAny _ _ (field (.ref it) 1 >>=_) _ _ s;refine Qaf (Qbp ho hd (x:= .int i 0) rfl ?_);show wpAny _ _ (seqItems? (.ref l) >>=_) _ _ s;refine Qaf (QbF hol hdl ?_);simp only[Qa4,hx];refine Qaf (wpAny_setField ho hd (by simp) (QaK ⟨x,rfl,QaK (hQ _ ⟨_,Heap.get?_update_self _ ho (Obj.isFreed_of_fields (Obj.data_mapFields hd _)),(Obj.cls_mapFields ..).trans hc,by rw[Obj.data_mapFields hd];simp [rawInt]⟩ (Heap.SameBut.update ..))⟩))
def lD{it l:Addr}{i:Nat}{items:Array Value}{Q:Aab}(hh:A.handled=none)(hit:s.heap.IsTupleIter it l i)(hl:s.heap.IsTuple l items)(hx:items[i]? =none)
 (hE:∀h' e,Heap.ExtBut it s.heap h'->(∃o,h'.get? e=some o/\o.cls= .type "StopIteration")->E (.ref e) {s with heap:=h'}):wpAny (model prog w) A (Builtin.SmallTypes.nextOf (.ref it)) Q E s:=by
 obtain⟨o,ho,hc,hd⟩:=id hit;obtain⟨ol,hol,_,nl,hdl⟩:=hl;unfold Builtin.SmallTypes.nextOf;refine Qaf (QbD (name:="__next__") hit.typeIs QbJ (Qb7 QbJ hit.typeIs F.entry_tuple_iterator_next ?_ (F.args_tuple_iterator_next_1 _)));show wpAny _ _ (field (.ref it) 0 >>=_) _ _ s;refine Qaf (Qbp ho hd (x:= .ref l) rfl ?_);show wpAny _ _ (if(Value.ref l==Value.none)=true then _ else _) _ _ s;rw [QaB (show ¬((Value.ref l==Value.none)=true) from Qaz)]
 show wpAny _ _ (field (.ref it) 1 >>=_) _ _ s;refine Qaf (Qbp ho hd (x:= .int i 0) rfl ?_);show wpAny _ _ (seqItems? (.ref l) >>=_) _ _ s;refine Qaf (QbF hol hdl ?_);simp only[Qa4,hx];refine Qaf (wpAny_rule (Qaf (wpAny_setField ho hd (by simp) ?_)))
 show wpAny _ _ (newExc (.type "StopIteration") [] >>=_) _ _ _;refine Qaf ?_;simp only[newExc,newTuple];refine Qaf (Qco ?_ (by size_fits))
 refine Qaf (m:=firstArgMember _ _) (wpAny_of_eq (a:=Value.none) (by first | rfl | (simp only[firstArgMember];rfl)) ?_);refine Qco ?_ (by size_fits)
 simp only[raiseNew];refine Qaf (wpAny_handled ?_)
 first | rw[show A.in1.handled=none from hh] | rw[hh]
 exact Qaf (QaK (wpAny_throw (hE _ _ (((Heap.SameBut.update ..).extBut.push _).push _) ⟨_,QaJ _ rfl,rfl⟩)))
end
def GV{prog:Program}{w:World}{A:Around}(hh:A.handled=none)(it l:Addr)(tV:l≠it)(items:Array Value) :
 Draws prog w A it [it,l] items.size (fun i v=>items[i]? =some v) (fun i h=>h.IsTupleIter it l i/\h.IsTuple l items) where
 live:=fun _ _ st=>let⟨o,ho,_⟩:=st.1;⟨o,ho⟩
 frame:=fun _ _ _ st hk=>⟨st.1.at fun o e=>hk it (by simp) o e,Heap.IsTuple.at st.2 fun o e=>hk l (by simp) o e⟩
 item:=fun i s Q E hi st hQ=>oR st.1 st.2 (x:=items[i]) (by simp [hi]) fun h' Xk YQ=>hQ _ h' s.toks (by simp [hi]) ⟨Xk,st.2.extBut YQ.extBut tV⟩ YQ
 done:=fun s Q E st hE=>lD hh st.1 st.2 (by simp) hE
def vi(l:Addr)(items:Array Value)(o:Obj)(n:Nat)(hc:o.cls= .type "tuple")(hd:o.data= .seq items n) :
 Meets (Builtin.«enumerate.__new__» ⟨[.type "enumerate", .ref l],[]⟩) (fun _ R s=>s.heap.get? l=some o/\
  R (.ok (.ret (.ref (s.heap.push {cls:= .type "tuple_iterator",data:= .fields #[.ref l, .int 0 0]}).objs.size)))
   {s with heap:=(s.heap.push {cls:= .type "tuple_iterator",data:= .fields #[.ref l, .int 0 0]}).push {cls:= .type "enumerate",data:= .fields #[.none, .bool false, .ref s.heap.objs.size,rawInt 0, .none, .none]}}):=
 .of_wp fun prog w A R s h=>by
   obtain⟨hp,g,d,tk,os⟩:=s;obtain⟨hl,h⟩:=h;have hsub:=sub_enumerate;have hL:Heap.IsTuple (Shared.heap ⟨hp,g,d,tk,os⟩) l items:=⟨_,hl,hc,n,hd⟩
   wp_walk using wpAny_loadPart' hl
   refine wpAny_stack_any fun st=>QaK ?_
   split
   .rename_i c _ _ _ _ _;cases(c==Value.type "enumerate") <;> (wp_walk using wpAny_loadPart' hl,Qck hL;exact⟨_,rfl,h⟩)
   .wp_walk using wpAny_loadPart' hl,Qck hL
    exact⟨_,rfl,h⟩
def Ek{prog:Program}{w:World}{A:Around}{E:Aab}{s:Qdd}{l:Addr}{items:Array Value}{Q:Aab}(hL:s.heap.IsTuple l items)
 (h:∀h':Heap,IsEnum h' (s.heap.objs.size+1) s.heap.objs.size 0 .none->h'.IsTupleIter s.heap.objs.size l 0->(∀b o,s.heap.get? b=some o->h'.get? b=some o)->Q (.ref (s.heap.objs.size+1)) {s with heap:=h'}) :
 wpAny (model prog w) A (call (.type "enumerate") [.ref l]) Q E s:=by
 obtain⟨o,hl,hc,n,hd⟩:=hL;refine callType_new F.called_enumerate (by decide) (F.typeCall_enumerate_1 _) (F.newCall_enumerate_1 _) (fun obj=>F.args_object_init_2 obj _) F.entry_enumerate_new (vi l items o n hc hd) ⟨hl,?_⟩
 have hz:(s.heap.push {cls:= .type "tuple_iterator",data:= .fields #[.ref l, .int 0 0]}).objs.size=s.heap.objs.size+1:=Qbd ..;show _/\_;rw [hz];have he:IsEnum ((s.heap.push {cls:= .type "tuple_iterator",data:= .fields #[.ref l, .int 0 0]}).push {cls:= .type "enumerate",data:= .fields #[.none, .bool false, .ref s.heap.objs.size,rawInt 0, .none, .none]}) (s.heap.objs.size+1) s.heap.objs.size 0 .none:=by
  have:=QaJ (s.heap.push {cls:= .type "tuple_iterator",data:= .fields #[.ref l, .int 0 0]}) (o:={cls:= .type "enumerate",data:= .fields #[.none, .bool false, .ref s.heap.objs.size,rawInt 0, .none, .none]}) rfl;rw[hz] at this;exact this
 exact⟨⟨_,he,rfl⟩,h _ he ⟨_,Qah _ (QaJ _ rfl),rfl,rfl⟩ fun b o x=>Qah _ (Qah _ x)⟩
end PySem
namespace L2
open PySem PySem.Spec PyProof.Rows
def Ws(K:Qdc)(a:Addr):It:=
 ⟨fun i H=>∃xs x,vm K H a xs/\xs[i]? =some x,fun i H v H'=>∃p x,H p=none/\v= .ref p/\(∀xs,vm K H a xs->xs[i]? =some x)/\H'=upd H p (.tup [.int i,x]),fun i H=>∃xs,vm K H a xs/\xs.length<=i⟩
def Eo{K:Qdc}{k:Nat}(a e it:Addr)(Sg:e≠it):Turn P w K (.Tuple elts k pos) (Ws K a) [e,it] e (fun i h=>(∃old,IsEnum h e it ((i:Nat):Int) old)/\h.IsTupleIter it a i) where
 mem:=by simp
 obj:=fun i h st b hb=>by
  obtain⟨⟨old,he⟩,o,ho,c,d⟩:=st;rcases Qar.mp hb with rfl | hb
  .exact⟨_,he,fun v z=>by cases z⟩
  .have e:b=it:=by simpa using hb
   subst e;exact⟨o,ho,fun v z=>by rw[d] at z;cases z⟩
 keep:=fun i h h' st k=>by
  obtain⟨⟨old,he⟩,hi⟩:=st;exact⟨⟨old,k e (by simp) _ he⟩,hi.at fun o x=>k it (by simp) o x⟩
 item:=by
  intro X hP hw hK hc i pins s σ H E I hf st hg;subst hP hw hK;obtain⟨xs,x,hq,hx⟩:=hg;obtain⟨its,rv,p,hz⟩:=I.tuple hq;have p':s.heap.IsTuple a its.toArray:=p;obtain⟨u,hu,ru⟩:=rv.get hx;obtain⟨⟨old,he⟩,hit⟩:=st;obtain⟨f0,f1,f2,f3,f4,f5⟩:=hf e (by simp)
  obtain⟨g0,g1,g2,g3,g4,g5⟩:=hf it (by simp)
  have ha_it:a≠it:=fun z=>by
   obtain⟨o1,h1,c1,_⟩:=p';obtain⟨o2,h2,c2,_⟩:=hit;rw[z,h2] at h1;cases h1;rw[c2] at c1;exact absurd c1 (by decide)
  have ha_e:e ∉ [it,a]:=fun z=>by
   rcases Qar.mp z with q | q
   .exact Sg q
   .have q:e=a:=by simpa using q
    obtain⟨o1,h1,c1,_⟩:=p';rw[<-q,he] at h1;cases h1;exact absurd (show Value.type "enumerate"=Value.type "tuple" from c1) (by decide)
  refine wpAny_pyNext_enum_itemD (GV (A:=X.A.in1) (I.ok.hd hc) it a ha_it its.toArray) he ⟨hit,p'⟩ (by have:=(Qab.mp hu).1;simpa using this) Sg ha_e fun u2 kz tk hu2 Ls Uy Lg qQ zt=>⟨_,rfl,?_⟩
  obtain rfl:u2=u:=by
   have h1:its[i]? =some u2:=by simpa using hu2
   rw[hu] at h1;cases h1;rfl
  obtain⟨EH,_⟩:=Uy;refine wpAny_letOwnedTupleGo_enum Ls fun ia K2 dq=>?_
  replace dq:Heap.SameBut e kz ia:=dq
  have hel:e<s.heap.objs.size:=Qaw he;have CZ:ia.get? s.heap.objs.size=some {cls:= .type "tuple",data:= .seq #[.int i tk,u2]}:=(dq.2 _ (Qcf hel)).trans Lg;have kk:∀b o,b≠e->b≠it->s.heap.get? b=some o->ia.get? b=some o:=fun b o h1 h2 q=>(dq.2 b h1).trans (zt b o h1 h2 q)
  have hn:H s.heap.objs.size=none:=I.fresh;have sm:aX H (upd H s.heap.objs.size (.tup [.int i,x])):=bf hn;have nit:∀b o,H b=some o->b≠e/\b≠it:=fun b o q=>⟨fun z=>(by rw[z,f0] at q;cases q),fun z=>(by rw[z,g0] at q;cases q)⟩
  have hok:oF X.prog X.w (upd H s.heap.objs.size (.tup [.int i,x])) ia:=fun b ob q=>by
   by_cases hb:b=s.heap.objs.size
   .subst hb;rw[bj] at q;cases q;exact⟨by show 2<=sizeLine;decide,[.int i tk,u2], .cons ⟨_,rfl⟩ (.cons ru .nil),⟨_,CZ,rfl,_,rfl⟩⟩
   .rw [aZ hb] at q;refine(I.hok b ob q).vd (fun c v hc z=>?_) (fun c z=>sm c _ z) fun c ys z=>sm c _ z
    rcases hc with rfl | hc
    .exact kk c v (nit c _ q).1 (nit c _ q).2 z
    .exact kk c v (nit c _ hc).1 (nit c _ hc).2 z
  have nch:∀b,b ∉ [e,it]->b≠e/\b≠it:=fun b hb=>⟨fun z=>hb (by simp [z]),fun z=>hb (by simp [z])⟩
  have I2:Inv X pins σ (upd H s.heap.objs.size (.tup [.int i,x])) {s with heap:=ia,toks:=tk+1}:=by
   refine I.step (g':=s.gens) (d':=s.drawn) (ch:=[e,it]) (fun b hb=>?_) (fun b o _ _ hb q _=>kk b o (nch b hb).1 (nch b hb).2 q) (fun b o _ _ hb q _=>⟨o.slots,kk b o (nch b hb).1 (nch b hb).2 q⟩)
    (fun b o hb q n=>by rw[aZ (QaO (Qaw q))];exact n) (fun b o hb q=>⟨o,kk b o (nch b hb).1 (nch b hb).2 q⟩) (fun b ys z=>sm b _ z) (fun b o u z=>sm b _ z) (fun b ps z=>⟨#[],by rw[sm b _ z];simp⟩) (fun m hm=>?_) hok I.bare
   .rcases Qar.mp hb with rfl | hb
    .exact⟨f3,f1,f4,f5⟩
    .have z:b=it:=by simpa using hb
     subst z;exact⟨g3,g1,g4,g5⟩
   .obtain⟨o,es,ep,ho,r⟩:=hm;exact⟨o,es,ep,kk _ o (Qbh f1) (Qbh g1) ho,r⟩
  refine⟨.ref s.heap.objs.size,_,I2,rfl,⟨s.heap.objs.size,x,hn,rfl,fun ys hy=>(by rw[I.t6 hy hq];exact hx),rfl⟩,⟨⟨_,by simpa using K2⟩,EH.at fun o q=>(dq.2 it (Qbh Sg)).trans q⟩,fun b hb=>?_⟩
  rcases Qar.mp hb with rfl | hb
  .rw [aZ (QaO hel)];exact f0
  .have z:b=it:=by simpa using hb
   subst z;obtain⟨o,ho,_⟩:=hit;rw[aZ (QaO (Qaw ho))];exact g0
 done:=by
  intro X hP hw hK hc i pins s σ H E I hf st hg;subst hP hw hK;obtain⟨xs,hq,hx⟩:=hg;obtain⟨its,rv,p,hz⟩:=I.tuple hq;have p':s.heap.IsTuple a its.toArray:=p;obtain⟨⟨old,he⟩,hit⟩:=st;obtain⟨g0,g1,g2,g3,g4,g5⟩:=hf it (by simp)
  have hl:=rv.length;have hT:s.TypeIs (.ref e) "enumerate":=⟨_,he,rfl⟩;unfold pyNext;refine Qaf (Qct (QbD (name:="__next__") hT F.slot_enumerate_next (Qb7 F.slot_enumerate_next hT F.entry_enumerate_next ?_ (F.args_enumerate_next_1 _))));show wpAny _ _ (field (.ref e) 2 >>=_) _ _ _;refine Qaf (Qbp he rfl (x:= .ref it) rfl ?_);refine Qaf (lD (A:=X.A.in1) (I.ok.hd hc) hit p' (by simp;omega) fun h' x XD hx'=>?_)
  obtain⟨o,ho,hcl⟩:=hx';refine Qaf (wpAny_isInstance (T:="StopIteration") (b:=true) ⟨o,ho,hcl⟩ isSubtype_stop ?_);exact QaK ⟨rfl,I.turned (t':=s.toks) (fun b o hb q=>XD b o hb q) g0 g1 g3 g4 g5⟩
 self:=fun A i s Q E st h=>let⟨⟨_,he⟩,_⟩:=st;Qcq he h
section
variable {X:Cx}
def AR(f:FD):az->R (List D):=fun δ=>(f δ).bind fun d=>match d with | .tup ds=> .ok (cY ds) | _=> .no
def Dl{elts:List Expr}{k:Nat}{uB:Pos}{p pos:Pos}(h:QD X a f)(hg:Gl X "enumerate")(hm:X.mg "enumerate"=none)(hs:starEach [a] X.env=[(false,eval a X.env)]:=by rfl):A7 X (.Tuple elts k uB) (.Call (.Name "enumerate" p) [a] [] pos) (AR f):=by
 refine⟨?_⟩;intro pins s σ H RR I ⟨Z,B,δ,ds,E,hf,q⟩;obtain⟨d,h1,h2⟩:=R.aq hf;have hA:=eV h.1 jl hs pos pins s σ H (fun vs H1=>aX H H1/\∃v,vs=[v]/\Rep X.K B H1 d v) I ⟨Z,B,δ,d,E,h1,fun v H1 s1 r1=>⟨s1,v,rfl,r1⟩⟩
 refine Call_ (n3 I hg hm boot_enumerate (Qbc (eO hA fun us s1 ⟨vs,H1,I1,r1,ss,v,ev,rr⟩=>?_) hs rfl))
 subst ev;obtain⟨u,rfl,ru⟩:=vals1 r1;cases d with
 | tup es=>
   cases h2;obtain⟨b,xs,rfl,l,rs⟩:=Rep.tup.mp rr;cases ru;obtain⟨its,rv,pt,hz⟩:=I1.tuple l.sq;refine Ek (items:=its.toArray) pt fun h' he hit kk=>Qcq he ?_
   have I2:Inv X pins σ H1 {s1 with heap:=h'}:=I1.kept (t':=s1.toks) kk
   refine⟨s1.heap.objs.size+1,[s1.heap.objs.size+1,s1.heap.objs.size],_,_,H1,rfl,I2,Eo b (s1.heap.objs.size+1) s1.heap.objs.size (Nat.succ_ne_self _),⟨⟨_,he⟩,hit⟩,fun c hc=>?_,q _ H1 ss fun B' H' pr=>?_⟩
   .have hle:s1.heap.objs.size<=c:=by
     rcases Qar.mp hc with z | hc
     .rw [z];exact Nat.le_succ _
     .have z:c=s1.heap.objs.size:=by simpa using hc
      rw[z];exact Qag _
    exact I1.wX hle (I1.hok.fresh hle)
   .have l':za X.K B' H' b xs:=l.elim (fun z=> .inl ⟨(pr.rd z.2 z.1).2,(pr.rd z.2 z.1).1⟩) .inr
    have rs':=rs.bw pr;refine⟨fun i d hd=>?_,⟨xs,l'.sq,by rw[<-rs.length];unfold cY;simp⟩⟩
    unfold cY at hd;rw[Qad,QbM] at hd;cases e:es[i]? with
    | none=>rw [e] at hd;cases hd
    | some d0=>
      rw[e] at hd;have hd:D.tup [.int ((0+i:Nat):Int),d0]=d:=QaW hd;rw[QbQ] at hd;obtain⟨x,hx,rx⟩:=rs'.get e;refine⟨⟨xs,x,l'.sq,hx⟩,fun v qv y Ld=>?_⟩
      obtain⟨p,y,hp,rfl,hy,rfl⟩:=y;refine⟨bf hp,?_⟩;subst hd;have A_:=hy xs l'.sq;rw[hx] at A_;cases A_;refine Rep.tup.mpr ⟨p,_,rfl, .inl ⟨fun ha=>?_, .inl bj⟩,aL.cons (Rep.int.mpr rfl) (aL.cons (rx.same (bf hp)) aL.nil)⟩
      obtain⟨o,ho⟩:=Ld p ha;rw[hp] at ho;cases ho
 | _=>cases h2
end
section
variable {X:Cx}
abbrev Yo:D->D->R D:=Oa (fun _ j=>decide (0<j/\j.natAbs.log2<9000)) fun i j=>i / j
theorem Ba{K:Qdc}{B:List Addr}{ds:List D}{xs:List V}(r:aL K B H ds xs):∀n:Nat,aL K B H (List.replicate n ds).flatten (List.replicate n xs).flatten
 | 0=>aL.nil
 | n+1=>by rw[Qa8,Qa8,Qbr,Qbr];exact r.append (Ba r n)
def Ei(f:az->R (List D))(g:FD):az->R (List D):=fun δ=>(f δ).bind fun ds=>(g δ).bind fun d=>match d with
 | .int k=>R.bV (decide (0<=k/\k<1000000/\ds.length*k.toNat<=sizeLine)) (.ok (List.replicate k.toNat ds).flatten)
 | _=> .no
def zZ{f:az->R (List D)}(ha:QN X a f)(hb:QD X b g):QN X (.BinOp a .Mult b pos) (Ei f g):=by
 refine⟨(Iu O3 ha.1 hb.1).imp fun σ H Q ⟨Z,B,δ,es,E,hf,q⟩=>?_⟩
 obtain⟨ds,h1,h2⟩:=R.aq hf;obtain⟨d,h3,h4⟩:=R.aq h2;split at h4
 .rename_i k;obtain⟨h5,h6⟩:=R.ba h4;cases h6;obtain⟨k0,k1,k2⟩:=Qak h5;refine⟨Z,B,δ,ds,E,h1,fun a xs H1 s1 n1 e1 r1=>⟨Z,B,δ, .int k,E.same s1,h3,fun v H2 s2 r2=>⟨a,k,xs,rfl,Rep.int.mp r2,s2 a _ e1,by omega,by omega,by rw[<-r1.length];exact k2,fun p hp=>?_⟩⟩⟩
  refine q p _ _ (s1.trans (s2.trans (bf hp))) ((s1.trans s2).free hp) bj ?_;refine(Ba r1 k.toNat).bw fun b o e nb=>⟨(s2.trans (bf hp)) b o e,fun hm=>?_⟩
  rcases Qar.mp hm with z | z
  .rw [z] at e;rw [s2 p _ e] at hp;cases hp
  .exact nb (Qai _ z)
 .cases h4
def IF(ns:List Int):List Int:=ns.mergeSort fun a b=>decide (a<=b)
def U8:List D->R D
 | [.lst ds]=>(match ints? ds with | some ns=>R.bV (decide (ns.length<64)) (.ok (.lst ((IF ns).map .int))) | none=> .no)
 | _=> .no
def getD_in{l:List Int}{i:Nat}(h:i<l.length):l.getD i 0∈l:=by
 have e:l.getD i 0=l[i]:=by simp [h]
 rw[e];exact QbR h
theorem fold_min:∀(ns:List Int) (n:Int),ns.foldl min n∈n ::ns/\∀a∈n ::ns,ns.foldl min n<=a
 | [],n=>⟨by simp,fun a ha=>by simp at ha;subst ha;exact Int.le_refl _⟩
 | x ::ns,n=>by
   obtain⟨h1,h2⟩:=fold_min ns (min n x);rw[QbY];refine⟨?_,fun a ha=>?_⟩
   .rcases Qar.mp h1 with z | z
    .rw [z];by_cases hc:n<=x
     .rw [Int.min_eq_left hc];simp
     .rw [Int.min_eq_right (by omega)];simp
    .exact Qai _ (Qai _ z)
   .have hm:=h2 _ Qat;rcases Qar.mp ha with z | z
    .subst z;omega
    .rcases Qar.mp z with z | z
     .subst z;omega
     .exact h2 a (Qai _ z)
theorem fold_max:∀(ns:List Int) (n:Int),ns.foldl max n∈n ::ns/\∀a∈n ::ns,a<=ns.foldl max n
 | [],n=>⟨by simp,fun a ha=>by simp at ha;subst ha;exact Int.le_refl _⟩
 | x ::ns,n=>by
   obtain⟨h1,h2⟩:=fold_max ns (max n x);rw[QbY];refine⟨?_,fun a ha=>?_⟩
   .rcases Qar.mp h1 with z | z
    .rw [z];by_cases hc:n<=x
     .rw [Int.max_eq_right hc];simp
     .rw [Int.max_eq_left (by omega)];simp
    .exact Qai _ (Qai _ z)
   .have hm:=h2 _ Qat;rcases Qar.mp ha with z | z
    .subst z;omega
    .rcases Qar.mp z with z | z
     .subst z;omega
     .exact h2 a (Qai _ z)
def uY:List D->R D
 | [.lst ds]=>(match ints? ds with | some (n ::ns)=> .ok (.int (ns.foldl min n)) | _=> .no)
 | ds=>O0 ds
def ph:List D->R D
 | [.lst ds]=>(match ints? ds with | some (n ::ns)=> .ok (.int (ns.foldl max n)) | _=> .no)
 | ds=>RI ds
def DK(hc:X.calm=true):dn X (.builtin "min") uY:=by
 intro pins s σ H B ds d xs us I hb rx rs hg;unfold uY at hg;split at hg
 .split at hg
  .rename_i es n ns e;cases hg;obtain⟨x,rfl,r⟩:=rs.one;obtain⟨a,ys,rfl,l,r⟩:=Rep.lst.mp r;obtain⟨u,rfl,ru⟩:=vals1 rx;cases ru;obtain⟨its,k,rv,e1,hz⟩:=I.N5 l;rw[dR r e] at rv;obtain⟨ps,rfl,hps⟩:=gL rv;have hl:s.heap.IsList a (intItems ps.toArray):=⟨_,e1,rfl,k,by simp [intItems]⟩
   have hlp:ps.length=ns.length+1:=by have:=Qbk List.length hps;simpa using this
   refine min_intList (I.ok.hd hc) hl (by simp;omega) fun v h' tk hv hk=>?_
   obtain⟨t,rfl⟩:=intItems_at hv;obtain⟨b1,b2⟩:=argBest_lt (numAt ps.toArray) (ps.toArray.size - 1);refine⟨.int _,H,I.kept hk,⟨t,rfl⟩,aX.refl H,Rep.int.mpr ?_⟩;obtain⟨m1,m2⟩:=fold_min ns n;have hge:∀j,j<ps.length->numAt ps.toArray j=(n ::ns).getD j 0:=fun j hj=>by rw[numAt_eq,<-hps]
   have hin:numAt ps.toArray (argBest (fun i j=>decide (numAt ps.toArray i<numAt ps.toArray j)) (ps.toArray.size - 1))∈n ::ns:=by
    rw[hge _ (by simp at b1 ⊢;omega)];exact getD_in (by simp at b1 ⊢;omega)
   have hle:=m2 _ hin;obtain⟨j,hj,ej⟩:=QcO m1;have YA:j<ns.length+1:=by simpa using hj
   have h3:=b2 j (by simp;omega)
   rw[hge j (by omega)] at h3
   have h4:(n ::ns).getD j 0=ns.foldl min n:=by rw[<-ej,Qan,Qac hj];rfl
   rw[h4] at h3;congr 1;omega
  .cases hg
 .exact Uk hc pins s σ H B _ d xs us I hb rx rs hg
def uj(hc:X.calm=true):dn X (.builtin "max") ph:=by
 intro pins s σ H B ds d xs us I hb rx rs hg;unfold ph at hg;split at hg
 .split at hg
  .rename_i es n ns e;cases hg;obtain⟨x,rfl,r⟩:=rs.one;obtain⟨a,ys,rfl,l,r⟩:=Rep.lst.mp r;obtain⟨u,rfl,ru⟩:=vals1 rx;cases ru;obtain⟨its,k,rv,e1,hz⟩:=I.N5 l;rw[dR r e] at rv;obtain⟨ps,rfl,hps⟩:=gL rv;have hl:s.heap.IsList a (intItems ps.toArray):=⟨_,e1,rfl,k,by simp [intItems]⟩
   have hlp:ps.length=ns.length+1:=by have:=Qbk List.length hps;simpa using this
   refine max_intList (I.ok.hd hc) hl (by simp;omega) fun v h' tk hv hk=>?_
   obtain⟨t,rfl⟩:=intItems_at hv;obtain⟨b1,b2⟩:=argBest_gt (numAt ps.toArray) (ps.toArray.size - 1);refine⟨.int _,H,I.kept hk,⟨t,rfl⟩,aX.refl H,Rep.int.mpr ?_⟩;obtain⟨m1,m2⟩:=fold_max ns n;have hge:∀j,j<ps.length->numAt ps.toArray j=(n ::ns).getD j 0:=fun j hj=>by rw[numAt_eq,<-hps]
   have hin:numAt ps.toArray (argBest (fun i j=>decide (numAt ps.toArray i > numAt ps.toArray j)) (ps.toArray.size - 1))∈n ::ns:=by
    rw[hge _ (by simp at b1 ⊢;omega)];exact getD_in (by simp at b1 ⊢;omega)
   have hle:=m2 _ hin;obtain⟨j,hj,ej⟩:=QcO m1;have YA:j<ns.length+1:=by simpa using hj
   have h3:=b2 j (by simp;omega)
   rw[hge j (by omega)] at h3
   have h4:(n ::ns).getD j 0=ns.foldl max n:=by rw[<-ej,Qan,Qac hj];rfl
   rw[h4] at h3;congr 1;omega
  .cases hg
 .exact So hc pins s σ H B _ d xs us I hb rx rs hg
end
end L2
namespace L3
open PySem PySem.Spec PyProof.Rows L2
def Dz(S:aN):V3->Option (List D)
 | .d (.lst ds)=>some ds
 | .loc k=>du S k
 | _=>none
def Jy{K:Qdc}{cl:Aag}{ρ:P3}{S:aN}{v:V3}{x:V}{ds:List D}(w:SW K cl ρ H S)(h:Dz S v=some ds)(r:a_ K ρ H v x):∃a xs,x= .ref a/\wF K [] H a xs/\aL K ρ.b H ds xs:=by
 unfold Dz at h;split at h
 .cases h;unfold a_ Rep at r;obtain⟨a,xs,e,l,rs⟩:=r;exact⟨a,xs,e,l.bw (fun b o e _=>⟨e,by simp⟩),rs⟩
 .unfold a_ at r;obtain⟨a,a1,rfl⟩:=r;obtain⟨xs,e,rs⟩:=w.ob _ a _ a1 (fZ h);exact⟨a,xs,rfl, .inl ⟨by simp, .inl e⟩,rs⟩
 .cases h
section
variable {X:Cx} {cl:Aag}
def Rj(fa fb:FX):FX:=fun δ S=>(fa δ S).bind fun a S1=>(fb δ S1).bind fun b S2=>match Dz S2 a,Dz S2 b with
 | some ds,some es=>R3.bV (decide (ds.length+es.length<=sizeLine)) (.ok (.loc S2.length) (S2++[.lst (ds++es)]))
 | _,_=> .no
def P0(ha:PX X cl a fa)(hb:PX X cl b fb):PX X cl (.BinOp a .Add b pos) (Rj fa fb):=⟨(Iu EO ha.1 hb.1).imp fun σ H Q ⟨ρ,S,δ,v,S',E,hf,q⟩=>by
 obtain⟨a,S1,h1,h2⟩:=R3.aq hf;obtain⟨b,S2,h3,h4⟩:=R3.aq h2;split at h4
 .rename_i ds es e1 gm;obtain⟨hl,h5⟩:=R3.ba h4;cases h5;refine⟨ρ,S,δ,a,S1,E,h1,fun u1 cq H1 p1 w1 r1=>⟨cq,S1,δ,b,S2,E.to p1 w1,h3,fun u2 tW H2 p2 w2 r2=>?_⟩⟩
  obtain⟨la,xs,rfl,l1,OQ⟩:=Jy w2 e1 (r1.pre p2);obtain⟨lb,ys,rfl,l2,ON⟩:=Jy w2 gm r2;refine⟨[],la,lb,xs,ys,rfl,rfl,l1,l2,by rw[<-OQ.length,<-ON.length];exact Qak hl,fun p hp=>?_⟩
  obtain⟨w3,p3⟩:=w2.new (a:=p) (o:= .lst (ds++es)) (bf (o:= .lst (xs++ys)) hp) hp ⟨xs++ys,bj,(OQ.append ON).bw (fun b o e nb=>⟨by rw[aZ (bU e hp)];exact e,fun hb=>by
   rcases P3.mem_push hb with z | z
   .exact nb z
   .exact bU e hp z⟩)⟩
  exact q _ _ _ (p1.trans (p2.trans p3)) w3 (by unfold a_;exact⟨p,by show(tW.r++[p])[_]? =_;rw [<-w2.len,Qae (Qag _),QaQ];rfl,rfl⟩)
 .cases h4⟩
def Ua{fa fb:FX}{δ:DE}{S:aN}{Q:V3->aN->Prop}(h:W3 (fa δ S) fun a S1=>W3 (fb δ S1) fun b S2=>∃ds es,Dz S2 a=some ds/\Dz S2 b=some es/\ds.length+es.length<=sizeLine/\Q (.loc S2.length) (S2++[.lst (ds++es)])):W3 (Rj fa fb δ S) Q:=
 W3.bind (h.mono fun _ _ h=>W3.bind (h.mono fun _ _ ⟨ds,es,e1,gm,hl,q⟩=>by
  simp only[e1,gm];exact W3.wh (QaE hl) (W3.ok q)))
def ZJ(i:Nat):FZ:=fun δ S=>match kj δ i with
 | none=> .no
 | some k=>(match du S k with | some _=> .ok (.nx δ) (S.set k (.lst [])) | none=> .no)
end
def oX(S:aN)(c k:Nat):Option (List (Str × V3)):=match S[k]? with | some (.ins c' fs)=>(if c'=c then some fs else none) | _=>none
def n9{S:aN}{c k:Nat}{fs:List (Str × V3)}(h:oX S c k=some fs):S[k]? =some (.ins c fs):=by
 unfold oX at h;split at h
 .rename_i c' Sk e;split at h
  .rename_i hc;cases h;rw [e,hc]
  .cases h
 .cases h
theorem F6{K:Qdc}{v:V3}:∀{fs:List (Str × V3)} {ys:List (Str × V)},ys.map (·.1)=fs.map (·.1)->aR K ρ H (fs.map (·.2)) (ys.map (·.2))->fs.lookup f=some v->∃x,ys.lookup f=some x/\a_ K ρ H v x
 | [],ys,_,_,h=>by simp at h
 | (g,w) ::fs,[],e,_,_=>by simp at e
 | (g,w) ::fs,(g',y) ::ys,e,r,h=>by
   obtain⟨e1,gm⟩:=Qb8 e;have e1:g'=g:=e1;subst e1;obtain⟨x,xs,ex,r1,r2⟩:=r.cN;cases ex;rw[Qal] at h ⊢;cases hq:f==g' with
   | true=>rw [hq] at h;cases h;exact⟨y,rfl,r1⟩
   | false=>rw [hq] at h;exact F6 gm r2 h
theorem Co:∀{fs:List (Str × V3)} {ys:List (Str × V)},ys.map (·.1)=fs.map (·.1)->fs.lookup f=none->ys.lookup f=none
 | [],[],_,_=>rfl
 | [],_ ::_,e,_=>by simp at e
 | _ ::_,[],e,_=>by simp at e
 | (g,w) ::fs,(g',y) ::ys,e,h=>by
   obtain⟨e1,gm⟩:=Qb8 e;have e1:g'=g:=e1;subst e1;rw[Qal] at h ⊢;cases hq:f==g' with
   | true=>rw [hq] at h;cases h
   | false=>rw [hq] at h;exact Co gm h
def BO(f:Str)(v:V3):List (Str × V3)->List (Str × V3)
 | []=>[(f,v)]
 | (g,x) ::r=>if g=f then(g,v) ::r else(g,x) ::BO f v r
def Fi{K:Qdc}{f:Str}{v:V3}{u:V}(rv:a_ K ρ H v u):∀{fs:List (Str × V3)} {ys:List (Str × V)},ys.map (·.1)=fs.map (·.1)->aR K ρ H (fs.map (·.2)) (ys.map (·.2))->
 (mz f u ys).map (·.1)=(BO f v fs).map (·.1)/\aR K ρ H ((BO f v fs).map (·.2)) ((mz f u ys).map (·.2))
 | [],[],_,_=>⟨rfl,aR.cons rv aR.nil⟩
 | [],_ ::_,e,_=>by simp at e
 | _ ::_,[],e,_=>by simp at e
 | (g,w) ::fs,(g',y) ::ys,e,r=>by
   obtain⟨e1,gm⟩:=Qb8 e;have e1:g'=g:=e1;subst e1;obtain⟨x,xs,ex,r1,r2⟩:=r.cN;cases ex;unfold BO mz;by_cases hg:g'=f
   .rw [QaD hg,QaD hg];exact⟨by rw[Qay,Qay,gm],aR.cons rv r2⟩
   .rw [QaB hg,QaB hg];obtain⟨h1,h2⟩:=Fi rv gm r2;exact⟨by rw[Qay,Qay,h1],aR.cons r1 h2⟩
section
variable {X:Cx} {cl:Aag}
def tZ(c:Nat)(f:Str)(g:FX):FX:=fun δ S=>(g δ S).bind fun v S1=>match v with
 | .loc k=>(match oX S1 c k with | some fs=>(match fs.lookup f with | some v=> .ok v S1 | none=> .no) | none=> .no)
 | _=> .no
def k_{c:Nat}{pos:Pos}(hC:A6 X.K (cl c))(hn:dE X.K (cl c) f)(he:PX X cl e g)(hb:attributeBase e f X.env (eval e X.env)=eval e X.env:=by rfl):PX X cl (.Attribute e f pos) (tZ c f g):=⟨(Q6 he.1 hb).imp fun σ H Q ⟨ρ,S,δ,v,S',E,hf,q⟩=>by
 obtain⟨o,S1,h1,h2⟩:=R3.aq hf;split at h2
 .rename_i k;split at h2
  .rename_i fs e1;split at h2
   .rename_i w gm;cases h2;refine⟨ρ,S,δ, .loc k,_,E,h1,fun u cq H1 p1 w1 r1=>?_⟩
    unfold a_ at r1;obtain⟨a,a1,rfl⟩:=r1;obtain⟨dx,ys,ey,ek,rs⟩:=w1.ob k a _ a1 (n9 e1);obtain⟨x,hx,rx⟩:=F6 ek rs gm;exact⟨a,cl c,dx,ys,x,rfl,ey,hC,hn,hx,q x cq H1 p1 w1 rx⟩
   .cases h2
  .cases h2
 .cases h2⟩
def w_fld{c k:Nat}{g:FX}{δ:DE}{S:aN}{Q:V3->aN->Prop}(h:W3 (g δ S) fun v S1=>∃fs w,v= .loc k/\S1[k]? =some (.ins c fs)/\fs.lookup f=some w/\Q w S1):W3 (tZ c f g δ S) Q:=
 W3.bind (h.mono fun v S1 ⟨fs,w,e1,gm,e3,q⟩=>by
  subst e1;have e4:oX S1 c k=some fs:=by unfold oX;simp only[gm,QbO]
  simp only[e4,e3];exact W3.ok q)
def mW(P:Program)(w:World)(K:Qdc)(mg:Aaf)(base:Heap)(cl:Aag)(k c:Nat)(m:Str)(n:Nat)(g:List V3->aN->R3 V3):Prop:=
 ∃(f:Addr) (fd:FuncData) (ps:List Str),A6 K (cl c)/\Meth K (cl c) m f/\j2 P w K mg base yn k f fd ps (KY K cl (n+1) g)/\Binds K fd ps []
def xw(c:Nat)(m:Str)(g:List V3->aN->R3 V3)(fo:FX)(fs:FA):FX:=fun δ S=>(fo δ S).bind fun o S1=>match o with
 | .loc k=>(match oX S1 c k with | some ys=>(match ys.lookup m with | none=>(fs δ S1).bind fun vs S2=>g (.loc k ::vs) S2 | some _=> .no) | none=> .no)
 | _=> .no
def tf{g:List V3->aN->R3 V3}{k j n c:Nat}{m:Str}{o e:Expr}{es:List Expr}{fo:FX}{fs:FA}{apos pos:Pos}{pl:Sem Bool}(M:mW X.prog X.w X.K X.mg X.base cl k c m n g)(hr:eW j X.A)(EG:k<=j)(ho:PX X cl o fo)(ha:Lm X cl (e ::es) fs)(hn:∀δ S ds S',fs δ S= .ok ds S'->ds.length=n)
 (xV:starEach (e ::es) X.env=(false,eval e X.env) ::starEach es X.env:=by rfl) (jY:(backTo pos (starEach es X.env)).any (·.1)=false:=by rfl)
 (ht:eval (.Call (.Attribute o m apos) (e ::es) [] pos) X.env=(do
   let ov <-eval o X.env
   standAt apos.atName
   let(f,first) <-holding [ov] (getMethod ov m pl)
   callWith pos f first (backTo pos (starEach (e ::es) X.env)) (backToKw pos (keywordEach [] X.env))):=by rfl) :
 PX X cl (.Call (.Attribute o m apos) (e ::es) [] pos) (xw c m g fo fs):=by
 obtain⟨f,fd,ps,hC,hm,F,hb⟩:=M;refine⟨(LW ho.1 hC hm F (hr.mono EG) hb .nil Cg ha.1 xV jY ht).imp fun σ H Q ⟨ρ,S,δ,v,S',E,hf,q⟩=>?_⟩
 obtain⟨ov,S1,h1,h2⟩:=R3.aq hf;split at h2
 .rename_i kk;split at h2
  .rename_i ys e1;split at h2
   .rename_i gm;obtain⟨vs,S2,h3,h4⟩:=R3.aq h2;refine⟨ρ,S,δ, .loc kk,S1,E,h1,fun u cq H1 p1 w1 r1=>?_⟩
    have zu:=r1;unfold a_ at r1;obtain⟨a,a1,rfl⟩:=r1;obtain⟨dx,zs,ey,ek,rs⟩:=w1.ob kk a _ a1 (n9 e1);refine⟨a,dx,zs,rfl,ey,Co ek gm,cq,S1,δ,vs,S2,E.to p1 w1,h3,fun us tW H2 p2 w2 r2=>?_⟩
    show KY X.K cl (n+1) g (V.ref a ::(us++[])) H2 Q E0;rw[Qa7];exact⟨by rw[QaM,<-r2.length,hn δ S1 vs S2 h3],tW,S2, .loc kk ::vs,v,S',w2,aR.cons (zu.pre p2) r2,h4,fun z RK H3 p3 w3 r3=>q z RK H3 (p1.trans (p2.trans p3)) w3 r3⟩
   .cases h2
  .cases h2
 .cases h2
def Cc(P:Program)(w:World)(K:Qdc)(mg:Aaf)(base:Heap)(cl:Aag)(k c:Nat)(x:Str)(n:Nat)(g:List V3->aN->R3 V3):Prop:=
 ∃(f:Addr) (fd:FuncData) (ps:List Str),Mk K (cl c) f/\j2 P w K mg base yn k f fd ps (KY K cl (n+1) g)/\mg x=some (.ref (cl c))/\Binds K fd ps []
def F5(c:Nat)(g:List V3->aN->R3 V3)(fs:FA):FX:=fun δ S=>(fs δ S).bind fun vs S1=>(g (.loc S1.length ::vs) (S1++[.ins c []])).bind fun v S2=>match v with
 | .d .cR=> .ok (.loc S1.length) S2
 | _=> .no
def FK{g:List V3->aN->R3 V3}{k j n c:Nat}{x:Str}{p pos:Pos}{e:Expr}{es:List Expr}{fs:FA}(M:Cc X.prog X.w X.K X.mg X.base cl k c x n g)(hr:eW j X.A)(EG:k+1<=j)(hg:Gl X x)(ha:Lm X cl (e ::es) fs)(hn:∀δ S ds S',fs δ S= .ok ds S'->ds.length=n)
 (oi:(x==("__debug__":Str))=false:=by decide) (he:starEach (e ::es) X.env=(false,eval e X.env) ::starEach es X.env:=by rfl) (jY:(backTo pos (starEach es X.env)).any (·.1)=false:=by rfl) :
 PX X cl (.Call (.Name x p) (e ::es) [] pos) (F5 c g fs):=by
 obtain⟨f,fd,ps,M,F,hm,hb⟩:=M;refine⟨(M8 M F (hr.mono EG) hg hm hb .nil Cg ha.1 oi he jY).imp fun σ H Q ⟨ρ,S,δ,v,S',E,hf,q⟩=>?_⟩
 obtain⟨vs,S1,h1,h2⟩:=R3.aq hf;obtain⟨v0,S2,h3,h4⟩:=R3.aq h2;split at h4
 .cases h4;refine⟨ρ,S,δ,vs,S1,E,h1,fun us cq H1 p1 w1 r1 xa dx hx hdx tV=>?_⟩
  have hx1:upd H1 dx (.own xa) xa=none:=by rw[aZ (fun z=>tV z.symm)];exact hx
  have sm:aX H1 (upd (upd H1 dx (.own xa)) xa (.ins (cl c) dx [])):=(bf hdx).trans (bf hx1);obtain⟨w2,p2⟩:=w1.new (a:=xa) (o:= .ins c []) sm hx ⟨dx,[],bj,rfl,aR.nil⟩;show KY X.K cl (n+1) g (V.ref xa ::(us++[])) _ _ E0;rw[Qa7];have rl:a_ X.K (cq.push xa) (upd (upd H1 dx (.own xa)) xa (.ins (cl c) dx [])) (.loc S1.length) (.ref xa):=by
   unfold a_;exact⟨xa,by show(cq.r++[xa])[_]? =_;rw [<-w1.len,Qae (Qag _),QaQ];rfl,rfl⟩
  exact⟨by rw[QaM,<-r1.length,hn δ S vs S1 h1],_,_, .loc S1.length ::vs, .d .cR,_,w2,aR.cons rl (r1.pre p2),h3,fun z RK H3 p3 w3 r3=>⟨by unfold a_ Rep at r3;exact r3,q _ RK H3 (p1.trans (p2.trans p3)) w3 (rl.pre p3)⟩⟩
 .cases h4
def zL(c:Nat)(f:Str)(fo fe:FX):FZ:=fun δ S=>(fe δ S).bind fun v S1=>(fo δ S1).bind fun o S2=>match o with
 | .loc k=>(match oX S2 c k with | some fs=>R3.bV (decide (fs.length<1000)) (.ok (.nx δ) (S2.set k (.ins c (BO f v fs)))) | none=> .no)
 | _=> .no
def q8{c:Nat}{pos pos':Pos}(hC:A6 X.K (cl c))(hn:dE X.K (cl c) f)(ho:PX X cl o fo)(he:PX X cl value fe)(hs:swapsWith value (some (.Attribute o f pos')) pos.line X.env=pure false:=by rfl) :
 PZ X cl (.Assign [.Attribute o f pos'] value pos) (zL c f fo fe):=⟨(Pf ho.1 he.1 hs).imp fun D σ H ⟨ρ,S,δ,ou,S',E,hf,q⟩=>by
 obtain⟨v,S1,h1,h2⟩:=R3.aq hf;obtain⟨vo,S2,h3,h4⟩:=R3.aq h2;split at h4
 .rename_i k;split at h4
  .rename_i fs e1;obtain⟨hl,h5⟩:=R3.ba h4;cases h5;refine⟨ρ,S,δ,v,S1,E,h1,fun u cq H1 p1 w1 r1=>⟨cq,S1,δ, .loc k,S2,E.to p1 w1,h3,fun u2 tW H2 p2 w2 r2=>?_⟩⟩
   unfold a_ at r2;obtain⟨a,a1,rfl⟩:=r2;obtain⟨dx,ys,ey,ek,rs⟩:=w2.ob k a _ a1 (n9 e1);have hlen:ys.length=fs.length:=by have:=Qbk List.length ek;simpa using this
   obtain⟨k1,k2⟩:=Fi (f:=f) (r1.pre p2) ek rs;obtain⟨w3,p3⟩:=w2.put (o:= .ins c (BO f v fs)) (u:= .ins (cl c) dx (mz f u ys)) a1 (w2.fz k a a1 (by rw[n9 e1];intro h;cases h)) ⟨dx,_,rfl,k1,k2⟩
   exact⟨a,cl c,dx,ys,rfl,ey,hC,hn,by rw[hlen];exact Qak hl,q σ tW _ (p1.trans (p2.trans p3)) (E.to (p1.trans (p2.trans p3)) w3)⟩
  .cases h4
 .cases h4⟩
def lu{c k:Nat}{fo fe:FX}{δ:DE}{S:aN}{QO:Ou->aN->Prop}(h:W3 (fe δ S) fun v S1=>W3 (fo δ S1) fun o S2=>∃fs,o= .loc k/\S2[k]? =some (.ins c fs)/\fs.length<1000/\QO (.nx δ) (S2.set k (.ins c (BO f v fs)))):W3 (zL c f fo fe δ S) QO:=
 W3.bind (h.mono fun v S1 h=>W3.bind (h.mono fun o S2 ⟨fs,e1,gm,hl,q⟩=>by
  subst e1;have e4:oX S2 c k=some fs:=by unfold oX;simp only[gm,QbO]
  simp only[e4];exact W3.wh (QaE hl) (W3.ok q)))
def vO{c k:Nat}{g:List V3->aN->R3 V3}{fo:FX}{fs:FA}{δ:DE}{S:aN}{Q:V3->aN->Prop}(h:W3 (fo δ S) fun o S1=>∃ys,o= .loc k/\S1[k]? =some (.ins c ys)/\ys.lookup m=none/\W3 (fs δ S1) fun vs S2=>W3 (g (.loc k ::vs) S2) Q):W3 (xw c m g fo fs δ S) Q:=
 W3.bind (h.mono fun o S1 ⟨ys,e1,gm,e3,h⟩=>by
  subst e1;have e4:oX S1 c k=some ys:=by unfold oX;simp only[gm,QbO]
  simp only[e4,e3];exact W3.bind h)
def I0{c:Nat}{g:List V3->aN->R3 V3}{fs:FA}{δ:DE}{S:aN}{Q:V3->aN->Prop}(h:W3 (fs δ S) fun vs S1=>W3 (g (.loc S1.length ::vs) (S1++[.ins c []])) fun v S2=>v= .d .cR/\Q (.loc S1.length) S2):W3 (F5 c g fs δ S) Q:=
 W3.bind (h.mono fun vs S1 h=>W3.bind (h.mono fun v S2 ⟨e,q⟩=>by subst e;exact W3.ok q))
end
end L3
end
section
namespace PySem
open Sem (wp)
def iO(t:Bool)(h:Heap)(i l:Addr)(k:Nat):Prop:=cond t (h.IsTupleIter i l k) (h.IsListIter i l k)
def lY(t:Bool)(h:Heap)(l:Addr)(xs:Array Value):Prop:=cond t (h.IsTuple l xs) (h.IsList l xs)
def wD(t:Bool):String:=cond t "tuple_iterator" "list_iterator"
def iO.at{t:Bool}{h h':Heap}{i l:Addr}{k:Nat}(x:iO t h i l k)(e:∀o,h.get? i=some o->h'.get? i=some o):iO t h' i l k:=by
 cases t with
 | true=>exact Heap.IsTupleIter.at x e
 | false=>exact Heap.IsListIter.at x e
def lY.at{t:Bool}{h h':Heap}{l:Addr}{xs:Array Value}(x:lY t h l xs)(e:∀o,h.get? l=some o->h'.get? l=some o):lY t h' l xs:=by
 cases t with
 | true=>exact Heap.IsTuple.at x e
 | false=>exact Heap.IsList.at x e
def iO.xb{t:Bool}{i l b:Addr}{k:Nat}(x:iO t h i l k)(hs:Heap.ExtBut b h h')(Sj:i≠b):iO t h' i l k:=x.at fun o e=>hs i o Sj e
def lY.xb{t:Bool}{l b:Addr}{xs:Array Value}(x:lY t h l xs)(hs:Heap.ExtBut b h h')(Sj:l≠b):lY t h' l xs:=x.at fun o e=>hs l o Sj e
def iO.ob{t:Bool}{h:Heap}{i l:Addr}{k:Nat}(x:iO t h i l k):∃o,h.get? i=some o/\∀v,o.data≠ .cell v:=by
 cases t with
 | true=>obtain⟨o,e,_,d⟩:=x;exact⟨o,e,fun v z=>by rw[d] at z;cases z⟩
 | false=>obtain⟨o,e,_,d⟩:=x;exact⟨o,e,fun v z=>by rw[d] at z;cases z⟩
def lY.lt{t:Bool}{h:Heap}{l:Addr}{xs:Array Value}(x:lY t h l xs):l<h.objs.size:=by
 cases t with
 | true=>obtain⟨o,e,_⟩:=x;exact Qaw e
 | false=>obtain⟨o,e,_⟩:=x;exact Qaw e
def iO.lt{t:Bool}{h:Heap}{i l:Addr}{k:Nat}(x:iO t h i l k):i<h.objs.size:=let⟨_,e,_⟩:=x.ob;Qaw e
section
variable {prog:Program} {w:World} {A:Around} {E:Aab} {s:Qdd}
def lp{t:Bool}{it l:Addr}{i:Nat}{items:Array Value}{x:Value}{Q:Aab}(hit:iO t s.heap it l i)(hl:lY t s.heap l items)(hx:items[i]? =some x)
 (hQ:∀h',iO t h' it l (i+1)->Heap.SameBut it s.heap h'->Q x {s with heap:=h'}):wpAny (model prog w) A (Builtin.SmallTypes.nextOf (.ref it)) Q E s:=by
 cases t with
 | true=>exact oR hit hl hx hQ
 | false=>exact wpAny_nextOf_list_item hit hl hx hQ
def qK{t:Bool}{it l:Addr}{i:Nat}{items:Array Value}{Q:Aab}(hh:A.handled=none)(hit:iO t s.heap it l i)(hl:lY t s.heap l items)(hx:items[i]? =none)
 (hE:∀h' e,Heap.ExtBut it s.heap h'->(∃o,h'.get? e=some o/\o.cls= .type "StopIteration")->E (.ref e) {s with heap:=h'}):wpAny (model prog w) A (Builtin.SmallTypes.nextOf (.ref it)) Q E s:=by
 cases t with
 | true=>exact lD hh hit hl hx hE
 | false=>exact wpAny_nextOf_list_end hh hit hl hx hE
def yD{t:Bool}{l:Addr}{items:Array Value}{Q:Aab}(hl:lY t s.heap l items)
 (hQ:Q (.ref s.heap.objs.size) {s with heap:=s.heap.push {cls:= .type (wD t),data:= .fields #[.ref l, .int 0 0]}}):wpAny (model prog w) A (pyIter (.ref l)) Q E s:=by
 cases t with
 | true=>exact Qck hl hQ
 | false=>exact Qcp hl hQ
def GA{t u:Bool}{z TI TO i1 i2 l1 l2:Addr}{k1 k2:Nat}{xs ys:Array Value}{x y a b:Value}{Q:Aab}(D:ZipApart z TI TO i1 i2 l1 l2)(hz:IsZip s.heap z TI TO .none)(CW:IsPair s.heap TI (.ref i1) (.ref i2))
 (C_:IsPair s.heap TO a b) (h1:iO t s.heap i1 l1 k1) (h2:iO u s.heap i2 l2 k2) (Lw:lY t s.heap l1 xs) (HC:lY u s.heap l2 ys) (hx:xs[k1]? =some x) (hy:ys[k2]? =some y)
 (hQ:∀h',IsZip h' z TI TO (rawInt s.heap.objs.size)->IsPair h' TO x y->iO t h' i1 l1 (k1+1)->iO u h' i2 l2 (k2+1)->IsPair h' s.heap.objs.size x y->h'.objs.size=s.heap.objs.size+1->(∀c o,c≠z->c≠TO->c≠i1->c≠i2->s.heap.get? c=some o->h'.get? c=some o)->Q (.ref s.heap.objs.size) {s with heap:=h'}) :
 wpAny (model prog w) A (Builtin.«zip.__next__» ⟨[.ref z],[]⟩) (fun fin s'=>∃v,fin= .done (.ret v)/\Q v s') E s:=by
 show wpAny _ _ (field (.ref z) 2 >>=_) _ _ _;refine Qaf (Qbp hz rfl (x:= .bool false) rfl ?_);show wpAny _ _ (field (.ref z) 3 >>=_) _ _ _;refine Qaf (Qbp hz rfl (x:= .ref TI) rfl ?_);refine Qaf (QbF CW rfl ?_);show wpAny _ _ (Builtin.SmallTypes.ownedTupleIsFree (.ref z) >>=_) _ _ _;refine Qaf ?_;unfold Builtin.SmallTypes.ownedTupleIsFree;refine Qaf (Qbp hz rfl (x:= .none) rfl (QaK ?_));simp only[QbO];refine Qaf (wpAny_rule ?_);refine Qaf (Qbp hz rfl (x:= .ref TO) rfl ?_);refine Qaf (QbI hz (by simp) fun kz qQ ko=>?_)
 replace qQ:IsZip kz z TI TO .ellipsis:=qQ;refine Qaf ?_;simp only[List.zipIdx_cons,List.zipIdx_nil,List.forIn_cons,List.forIn_nil]
 refine Qaf (Qaf (wpAny_onRaise ?_));show wpAny _ _ (Builtin.SmallTypes.nextOf (.ref i1) >>=_) _ _ _;refine Qaf (lp (h1.xb ko.extBut D.i1z) (Lw.xb ko.extBut D.l1z) hx fun ia OO dq=>QaK ?_)
 have hTO₂:IsPair ia TO a b:=dq.extBut _ _ D.TOi1 (ko.extBut _ _ D.TOz C_);refine Qaf (QbF hTO₂ rfl ?_);refine Qaf (QcH hTO₂ fun NU AX ml=>?_)
 replace AX:IsPair NU TO x b:=AX;refine Qaf (wpAny_letGo (QaK ?_));refine Qaf (Qaf (wpAny_onRaise ?_));show wpAny _ _ (Builtin.SmallTypes.nextOf (.ref i2) >>=_) _ _ _
 refine Qaf (lp (((h2.xb ko.extBut D.i2z).xb dq.extBut D.i12.symm).xb ml.extBut D.TOi2.symm) (((HC.xb ko.extBut D.l2z).xb dq.extBut D.l2i1).xb ml.extBut D.l2TO) hy fun RS UG u6=>QaK ?_)
 have hTO₄:IsPair RS TO x b:=u6.extBut _ _ D.TOi2 AX;refine Qaf (QbF hTO₄ rfl ?_);refine Qaf (QcH hTO₄ fun qD AY u7=>?_)
 replace AY:IsPair qD TO x y:=AY;refine Qaf (wpAny_letGo (QaK (QaK ?_)));refine Qaf (QbF AY rfl ?_);refine Qaf (wpAny_newTuple ?_)
 have HL:qD.objs.size=s.heap.objs.size:=(u7.1.trans (u6.1.trans (ml.1.trans (dq.1.trans ko.1))));have hz₅:IsZip qD z TI TO .ellipsis:=u7.extBut _ _ D.TOz.symm<|u6.extBut _ _ D.i2z.symm<|ml.extBut _ _ D.TOz.symm<|dq.extBut _ _ D.i1z.symm qQ
 have hk₅:∀c o,c≠z->c≠TO->c≠i1->c≠i2->s.heap.get? c=some o->qD.get? c=some o:=fun c o c1 c2 c3 c4 e=>u7.extBut _ _ c2<|u6.extBut _ _ c4<|ml.extBut _ _ c2<|dq.extBut _ _ c3<|ko.extBut _ _ c1 e
 have h1₅:iO t qD i1 l1 (k1+1):=((OO.xb ml.extBut D.TOi1.symm).xb u6.extBut D.i12).xb u7.extBut D.TOi1.symm;have h2₅:iO u qD i2 l2 (k2+1):=UG.xb u7.extBut D.TOi2.symm;have hzlt:=Qaw hz₅;show wpAny _ _ (Builtin.SmallTypes.ownedTupleHandOut (.ref z) (.ref qD.objs.size) >>=_) _ _ _;refine Qaf ?_;unfold Builtin.SmallTypes.ownedTupleHandOut;have hz₆:IsZip (qD.push {cls:= .type "tuple",data:= .seq #[x,y]}) z TI TO .ellipsis:=Qah _ hz₅;refine Qaf (QbI hz₆ (by simp) fun WQ K3 K_=>?_)
 replace K3:IsZip WQ z TI TO (rawInt qD.objs.size):=K3;refine QbI K3 (by simp) fun Lb Gk K5=>?_;replace Gk:IsZip Lb z TI TO (rawInt qD.objs.size):=Gk
 have up:∀c o,c≠z->qD.get? c=some o->Lb.get? c=some o:=fun c o c1 e=>K5.extBut _ _ c1<|K_.extBut _ _ c1 (Qah _ e)
 have hT₈:IsPair Lb qD.objs.size x y:=K5.extBut _ _ (Qcf hzlt)<|K_.extBut _ _ (Qcf hzlt) (QaJ _ rfl)
 have hz8:Lb.objs.size=qD.objs.size+1:=(K5.1.trans K_.1).trans (Qbd ..);rw[HL] at Gk hT₈ hz8;refine QaK ⟨_,rfl,?_⟩;show Q (.ref qD.objs.size) _;rw [HL];exact hQ Lb Gk (up _ _ D.TOz AY) (h1₅.at fun o e=>up _ o D.i1z e) (h2₅.at fun o e=>up _ o D.i2z e) hT₈ hz8 fun c o c1 c2 c3 c4 e=>up c o c1 (hk₅ c o c1 c2 c3 c4 e)
def Jz{t u:Bool}{z TI TO i1 i2 l1 l2:Addr}{k1 k2:Nat}{xs ys:Array Value}{a b:Value}{Q:Fin->Qdd->Prop}(hh:A.handled=none)(D:ZipApart z TI TO i1 i2 l1 l2)(hz:IsZip s.heap z TI TO .none)
 (CW:IsPair s.heap TI (.ref i1) (.ref i2)) (C_:IsPair s.heap TO a b) (h1:iO t s.heap i1 l1 k1) (h2:iO u s.heap i2 l2 k2) (Lw:lY t s.heap l1 xs) (HC:lY u s.heap l2 ys) (WS:xs[k1]? =none\/ys[k2]? =none)
 (hE:∀h' e,(∀c o,c≠z->c≠TO->c≠i1->c≠i2->s.heap.get? c=some o->h'.get? c=some o)->(∃o,h'.get? e=some o/\o.cls= .type "StopIteration")->E (.ref e) {s with heap:=h'}):wpAny (model prog w) A (Builtin.«zip.__next__» ⟨[.ref z],[]⟩) Q E s:=by
 show wpAny _ _ (field (.ref z) 2 >>=_) _ _ _;refine Qaf (Qbp hz rfl (x:= .bool false) rfl ?_);show wpAny _ _ (field (.ref z) 3 >>=_) _ _ _;refine Qaf (Qbp hz rfl (x:= .ref TI) rfl ?_);refine Qaf (QbF CW rfl ?_);show wpAny _ _ (Builtin.SmallTypes.ownedTupleIsFree (.ref z) >>=_) _ _ _;refine Qaf ?_;unfold Builtin.SmallTypes.ownedTupleIsFree;refine Qaf (Qbp hz rfl (x:= .none) rfl (QaK ?_));simp only[QbO];refine Qaf (wpAny_rule ?_);refine Qaf (Qbp hz rfl (x:= .ref TO) rfl ?_);refine Qaf (QbI hz (by simp) fun kz qQ ko=>?_)
 replace qQ:IsZip kz z TI TO .ellipsis:=qQ;refine Qaf ?_;simp only[List.zipIdx_cons,List.zipIdx_nil,List.forIn_cons,List.forIn_nil]
 refine Qaf (Qaf (wpAny_onRaise ?_));show wpAny _ _ (Builtin.SmallTypes.nextOf (.ref i1) >>=_) _ _ _;cases hx:xs[k1]? with
 | none=>
   refine Qaf (qK hh (h1.xb ko.extBut D.i1z) (Lw.xb ko.extBut D.l1z) hx fun ia e dq he=>?_)
   obtain⟨oe,hoe,hce⟩:=he;have Gn:IsZip ia z TI TO .ellipsis:=dq _ _ D.i1z.symm qQ;have hez:e≠z:=fun x=>by {subst x;rw [Gn] at hoe;cases hoe;simp at hce}
   exact QbI Gn (by simp) fun NU _ ml=>hE NU e (fun c o c1 _ c3 _ x=>ml.extBut _ _ c1<|dq _ _ c3<|ko.extBut _ _ c1 x) ⟨oe,ml.extBut _ _ hez hoe,hce⟩
 | some x=>
   have hy:ys[k2]? =none:=WS.resolve_left fun h=>by {rw [hx] at h;cases h}
   refine Qaf (lp (h1.xb ko.extBut D.i1z) (Lw.xb ko.extBut D.l1z) hx fun ia OO dq=>QaK ?_)
   have hTO₂:IsPair ia TO a b:=dq.extBut _ _ D.TOi1 (ko.extBut _ _ D.TOz C_);refine Qaf (QbF hTO₂ rfl ?_);refine Qaf (QcH hTO₂ fun NU AX ml=>?_)
   refine Qaf (wpAny_letGo (QaK ?_));refine Qaf (Qaf (wpAny_onRaise ?_));show wpAny _ _ (Builtin.SmallTypes.nextOf (.ref i2) >>=_) _ _ _;refine Qaf (qK hh (((h2.xb ko.extBut D.i2z).xb dq.extBut D.i12.symm).xb ml.extBut D.TOi2.symm) (((HC.xb ko.extBut D.l2z).xb dq.extBut D.l2i1).xb ml.extBut D.l2TO) hy fun RS e u6 he=>?_)
   obtain⟨oe,hoe,hce⟩:=he;have hz₄:IsZip RS z TI TO .ellipsis:=u6 _ _ D.i2z.symm<|ml.extBut _ _ D.TOz.symm<|dq.extBut _ _ D.i1z.symm qQ
   have hez:e≠z:=fun x=>by {subst x;rw [hz₄] at hoe;cases hoe;simp at hce}
   exact QbI hz₄ (by simp) fun qD _ u7=>hE qD e (fun c o c1 c2 c3 c4 x=>u7.extBut _ _ c1<|u6 _ _ c4<|ml.extBut _ _ c2<|dq.extBut _ _ c3<|ko.extBut _ _ c1 x) ⟨oe,u7.extBut _ _ hez hoe,hce⟩
end
abbrev U6(t:Bool)(h:Heap)(l1:Addr):Heap:=h.push {cls:= .type (wD t),data:= .fields #[.ref l1, .int 0 0]}
abbrev U0(t u:Bool)(h:Heap)(l1 l2:Addr):Heap:=(U6 t h l1).push {cls:= .type (wD u),data:= .fields #[.ref l2, .int 0 0]}
abbrev UY(t u:Bool)(h:Heap)(l1 l2:Addr):Heap:=(U0 t u h l1 l2).push {cls:= .type "tuple",data:= .seq #[.ref h.objs.size, .ref (U6 t h l1).objs.size]}
abbrev U1(t u:Bool)(h:Heap)(l1 l2:Addr):Heap:=(UY t u h l1 l2).push {cls:= .type "tuple",data:= .seq #[.none, .none]}
abbrev R_(t u:Bool)(h:Heap)(l1 l2:Addr):Heap:=(U1 t u h l1 l2).push {cls:= .type "zip",data:= .fields #[.none, .bool false, .bool false, .ref (U0 t u h l1 l2).objs.size, .ref (UY t u h l1 l2).objs.size]}
def Ew(t u:Bool)(l1 l2:Addr)(xs ys:Array Value):Meets (Builtin.«zip.__new__» ⟨[.type "zip", .ref l1, .ref l2],[]⟩) (fun _ R s=>lY t s.heap l1 xs/\lY u s.heap l2 ys/\R (.ok (.ret (.ref (U1 t u s.heap l1 l2).objs.size))) {s with heap:=R_ t u s.heap l1 l2}):=
 .of_wp fun prog w A R s h=>by
   obtain⟨hp,g,d,tk,os⟩:=s;obtain⟨Lw,HC,h⟩:=h;have hsub:=sub_zip;have hL1:lY t (Shared.heap ⟨hp,g,d,tk,os⟩) l1 xs:=Lw;have hL2:lY u (Shared.heap ⟨hp.push {cls:= .type (wD t),data:= .fields #[.ref l1, .int 0 0]},g,d,tk,os⟩) l2 ys:=HC.at fun o e=>Qah _ e
   wp_walk using yD hL1,yD hL2
   exact⟨_,rfl,h⟩
def iO.new{t:Bool}{h:Heap}{i l:Addr}(e:h.get? i=some {cls:= .type (wD t),data:= .fields #[.ref l, .int 0 0]}):iO t h i l 0:=by
 cases t with
 | true=>exact⟨_,e,rfl,rfl⟩
 | false=>exact⟨_,e,rfl,rfl⟩
def zp{prog:Program}{w:World}{A:Around}{E:Aab}{s:Qdd}{t u:Bool}{l1 l2:Addr}{xs ys:Array Value}{Q:Aab}(Lw:lY t s.heap l1 xs)(HC:lY u s.heap l2 ys)
 (h:∀h',IsZip h' (s.heap.objs.size+4) (s.heap.objs.size+2) (s.heap.objs.size+3) .none->IsPair h' (s.heap.objs.size+2) (.ref s.heap.objs.size) (.ref (s.heap.objs.size+1))->IsPair h' (s.heap.objs.size+3) .none .none->
   iO t h' s.heap.objs.size l1 0->iO u h' (s.heap.objs.size+1) l2 0->(∀c o,s.heap.get? c=some o->h'.get? c=some o)->Q (.ref (s.heap.objs.size+4)) {s with heap:=h'}):wpAny (model prog w) A (call (.type "zip") [.ref l1, .ref l2]) Q E s:=by
 refine callType_new F.called_zip (by decide) (F.typeCall_zip_2 _ _) (F.newCall_zip_2 _ _) (fun obj=>F.args_object_init_3 obj _ _) F.entry_zip_new (Ew t u l1 l2 xs ys) ⟨Lw,HC,?_⟩
 have z1:(U6 t s.heap l1).objs.size=s.heap.objs.size+1:=Qbd ..;have z2:(U0 t u s.heap l1 l2).objs.size=s.heap.objs.size+2:=(Qbd ..).trans (Qbk (·+1) z1)
 have z3:(UY t u s.heap l1 l2).objs.size=s.heap.objs.size+3:=(Qbd ..).trans (Qbk (·+1) z2)
 have z4:(U1 t u s.heap l1 l2).objs.size=s.heap.objs.size+4:=(Qbd ..).trans (Qbk (·+1) z3)
 have g5:(R_ t u s.heap l1 l2).get? (U1 t u s.heap l1 l2).objs.size=some _:=QaJ _ rfl;have g4:(R_ t u s.heap l1 l2).get? (UY t u s.heap l1 l2).objs.size=some _:=Qah _ (QaJ _ rfl);have g3:(R_ t u s.heap l1 l2).get? (U0 t u s.heap l1 l2).objs.size=some _:=Qah _<|Qah _ (QaJ _ rfl)
 have g2:(R_ t u s.heap l1 l2).get? (U6 t s.heap l1).objs.size=some _:=Qah _<|Qah _<|Qah _ (QaJ _ rfl)
 have g1:(R_ t u s.heap l1 l2).get? s.heap.objs.size=some _:=Qah _<|Qah _<|Qah _<|Qah _ (QaJ _ rfl)
 show _/\_;rw[z2,z3,z4] at g5;rw [z1,z2] at g3;rw [z3] at g4;rw [z1] at g2;rw [z4];exact⟨⟨_,g5,rfl⟩,h _ g5 g3 g4 (iO.new g1) (iO.new g2) fun c o x=>Qah _<|Qah _<|Qah _<|Qah _<|Qah _ x⟩
end PySem
namespace L2
open PySem PySem.Spec PyProof.Rows
def Lj(t:Bool)(K:Qdc)(H:Hp)(a:Addr)(xs:List V):Prop:=cond t (vm K H a xs) (rB K H a xs)
def Inv.Gr{X:Cx}{pins:Aaa}{σ:L2.St}{s:Qdd}{t:Bool}{a:Addr}{xs:List V}(I:Inv X pins σ H s)(h:Lj t X.K H a xs):∃its:List Value,Vals xs its/\lY t s.heap a its.toArray:=by
 cases t with
 | true=>obtain⟨its,r,p,_⟩:=I.tuple h;exact⟨its,r,p⟩
 | false=>obtain⟨its,r,p,_⟩:=I.list h;exact⟨its,r,p.isList⟩
def Inv.FF{X:Cx}{pins:Aaa}{σ:L2.St}{s:Qdd}{t:Bool}{a:Addr}{xs ys:List V}(I:Inv X pins σ H s)(h:Lj t X.K H a xs)(h':Lj t X.K H a ys):xs=ys:=by
 cases t with
 | true=>exact I.t6 h h'
 | false=>exact I.tT h h'
def Zu(K:Qdc)(t u:Bool)(a b:Addr):It:=
 ⟨fun i H=>∃xs ys x y,Lj t K H a xs/\Lj u K H b ys/\xs[i]? =some x/\ys[i]? =some y,
  fun i H v H'=>∃p x y,H p=none/\v= .ref p/\(∀xs,Lj t K H a xs->xs[i]? =some x)/\(∀ys,Lj u K H b ys->ys[i]? =some y)/\H'=upd H p (.tup [x,y]),
  fun i H=>∃xs ys,Lj t K H a xs/\Lj u K H b ys/\(xs.length<=i\/ys.length<=i)⟩
def Cy{K:Qdc}{k:Nat}{t u:Bool}{z TI TO i1 i2 a b:Addr}(D:ZipApart z TI TO i1 i2 a b):Turn P w K (.Tuple elts k pos) (Zu K t u a b) [z,TI,TO,i1,i2] z
 (fun i h=>IsZip h z TI TO .none/\IsPair h TI (.ref i1) (.ref i2)/\(∃x y,IsPair h TO x y)/\iO t h i1 a i/\iO u h i2 b i) where
 mem:=by simp
 obj:=fun i h st c hc=>by
  obtain⟨hz,CW,⟨x,y,C_⟩,h1,h2⟩:=st;simp only[Qar,Qbb,QbS] at hc;rcases hc with rfl | rfl | rfl | rfl | rfl
  .exact⟨_,hz,fun v z=>by cases z⟩
  .exact⟨_,CW,fun v z=>by cases z⟩
  .exact⟨_,C_,fun v z=>by cases z⟩
  .exact h1.ob
  .exact h2.ob
 keep:=fun i h h' st k=>by
  obtain⟨hz,CW,⟨x,y,C_⟩,h1,h2⟩:=st;exact⟨k z (by simp) _ hz,k TI (by simp) _ CW,⟨x,y,k TO (by simp) _ C_⟩,h1.at fun o e=>k i1 (by simp) o e,h2.at fun o e=>k i2 (by simp) o e⟩
 item:=by
  intro X hP hw hK hc i pins s σ H E I hf st hg;subst hP hw hK;obtain⟨xs,ys,x,y,hq,hr,hx,hy⟩:=hg;obtain⟨its,rv,p⟩:=I.Gr hq;obtain⟨jts,EL,p'⟩:=I.Gr hr;obtain⟨ux,hu,ru⟩:=rv.get hx;obtain⟨uy,hu',UC⟩:=EL.get hy;obtain⟨hz,CW,⟨a0,b0,C_⟩,h1,h2⟩:=st;have hT:s.TypeIs (.ref z) "zip":=⟨_,hz,rfl⟩;unfold pyNext;refine Qaf (Qct (QbD (name:="__next__") hT QcI (Qb7 QcI hT F.entry_zip_next (GA D hz CW C_ h1 h2 p p' (x:=ux) (y:=uy) (by simpa using hu) (by simpa using hu') fun kz a1 a2 a3 a4 a5 a6 zt=>QaK ?_) (F.args_zip_next_1 _))))
  refine⟨_,rfl,wpAny_letOwnedTupleGo_zip a1 fun ia Gn dq=>?_⟩
  replace dq:Heap.SameBut z kz ia:=dq
  have hzl:z<s.heap.objs.size:=Qaw hz;have CZ:ia.get? s.heap.objs.size=some {cls:= .type "tuple",data:= .seq #[ux,uy]}:=(dq.2 _ (Qcf hzl)).trans a5;have kk:∀b o,b≠z->b≠TO->b≠i1->b≠i2->s.heap.get? b=some o->ia.get? b=some o:=fun b o c1 c2 c3 c4 q=>(dq.2 b c1).trans (zt b o c1 c2 c3 c4 q)
  have hn:H s.heap.objs.size=none:=I.fresh;have sm:aX H (upd H s.heap.objs.size (.tup [x,y])):=bf hn;have f0:∀c∈[z,TI,TO,i1,i2],H c=none:=fun c hc=>(hf c hc).1
  have nit:∀b o,H b=some o->b≠z/\b≠TO/\b≠i1/\b≠i2:=fun b o q=>by
   refine⟨fun e=>?_,fun e=>?_,fun e=>?_,fun e=>?_⟩
   .rw [e,f0 z (by simp)] at q;cases q
   .rw [e,f0 TO (by simp)] at q;cases q
   .rw [e,f0 i1 (by simp)] at q;cases q
   .rw [e,f0 i2 (by simp)] at q;cases q
  have kH:∀b o q,H b=some q->s.heap.get? b=some o->ia.get? b=some o:=fun b o q hb e=>let⟨c1,c2,c3,c4⟩:=nit b q hb;kk b o c1 c2 c3 c4 e
  have hok:oF X.prog X.w (upd H s.heap.objs.size (.tup [x,y])) ia:=fun b ob q=>by
   by_cases hb:b=s.heap.objs.size
   .subst hb;rw[bj] at q;cases q;exact⟨by show 2<=sizeLine;decide,[ux,uy], .cons ru (.cons UC .nil),⟨_,CZ,rfl,_,rfl⟩⟩
   .rw [aZ hb] at q;refine(I.hok b ob q).vd (fun c v hc e=>?_) (fun c e=>sm c _ e) fun c ys e=>sm c _ e
    rcases hc with rfl | hc
    .exact kH c v _ q e
    .exact kH c v _ hc e
  have nch:∀b,b ∉ [z,TI,TO,i1,i2]->b≠z/\b≠TO/\b≠i1/\b≠i2:=fun b hb=>⟨fun e=>hb (by simp [e]),fun e=>hb (by simp [e]),fun e=>hb (by simp [e]),fun e=>hb (by simp [e])⟩
  have kc:∀b o,b ∉ [z,TI,TO,i1,i2]->s.heap.get? b=some o->ia.get? b=some o:=fun b o hb e=>let⟨c1,c2,c3,c4⟩:=nch b hb;kk b o c1 c2 c3 c4 e
  have I2:Inv X pins σ (upd H s.heap.objs.size (.tup [x,y])) {s with heap:=ia,toks:=s.toks}:=by
   refine I.step (g':=s.gens) (d':=s.drawn) (ch:=[z,TI,TO,i1,i2]) (fun b hb=>?_) (fun b o _ _ hb q _=>kc b o hb q) (fun b o _ _ hb q _=>⟨o.slots,kc b o hb q⟩)
    (fun b o hb q n=>by rw[aZ (QaO (Qaw q))];exact n) (fun b o hb q=>⟨o,kc b o hb q⟩) (fun b ys e=>sm b _ e) (fun b o u e=>sm b _ e) (fun b ps e=>⟨#[],by rw[sm b _ e];simp⟩) (fun m hm=>?_) hok I.bare
   .obtain⟨g0,g1,g2,g3,g4,g5⟩:=hf b hb;exact⟨g3,g1,g4,g5⟩
   .obtain⟨o,es,ep,ho,r⟩:=hm;refine⟨o,es,ep,kc _ o (fun hb=>?_) ho,r⟩
    exact(hf _ hb).2.1 rfl
  have up:∀c,c≠z->∀o,kz.get? c=some o->ia.get? c=some o:=fun c hc o e=>(dq.2 c hc).trans e
  refine⟨.ref s.heap.objs.size,_,I2,rfl,⟨s.heap.objs.size,x,y,hn,rfl,fun zs Wy=>(by rw[I.FF Wy hq];exact hx),fun zs Wy=>(by rw[I.FF Wy hr];exact hy),rfl⟩,
   ⟨Gn,up _ D.TIz _ (zt TI _ D.TIz D.TITO D.TIi1 D.TIi2 CW),⟨_,_,up _ D.TOz _ a2⟩,a3.at fun o e=>up _ D.i1z o e,a4.at fun o e=>up _ D.i2z o e⟩,fun c hc=>?_⟩
  have nE:c<s.heap.objs.size:=by
   simp only[Qar,Qbb,QbS] at hc;rcases hc with rfl | rfl | rfl | rfl | rfl
   .exact hzl
   .exact Qaw CW
   .exact Qaw C_
   .exact h1.lt
   .exact h2.lt
  rw[aZ (QaO nE)];exact f0 c hc
 done:=by
  intro X hP hw hK hc i pins s σ H E I hf st hg;subst hP hw hK;obtain⟨xs,ys,hq,hr,hl⟩:=hg;obtain⟨its,rv,p⟩:=I.Gr hq;obtain⟨jts,EL,p'⟩:=I.Gr hr;obtain⟨hz,CW,⟨a0,b0,C_⟩,h1,h2⟩:=st;have hT:s.TypeIs (.ref z) "zip":=⟨_,hz,rfl⟩;have l1:=rv.length;have l2:=EL.length;unfold pyNext;refine Qaf (Qct (QbD (name:="__next__") hT QcI (Qb7 QcI hT F.entry_zip_next (Jz (I.ok.hd hc) D hz CW C_ h1 h2 p p' ?_ fun h' e hk he=>?_) (F.args_zip_next_1 _))))
  .rcases hl with hl | hl
   .exact .inl (by simp;omega)
   .exact .inr (by simp;omega)
  obtain⟨o,ho,hcl⟩:=he;refine Qaf (wpAny_isInstance (T:="StopIteration") (b:=true) ⟨o,ho,hcl⟩ isSubtype_stop ?_);have nch:∀b,b ∉ [z,TI,TO,i1,i2]->b≠z/\b≠TO/\b≠i1/\b≠i2:=fun b hb=>⟨fun e=>hb (by simp [e]),fun e=>hb (by simp [e]),fun e=>hb (by simp [e]),fun e=>hb (by simp [e])⟩
  have kc:∀b o,b ∉ [z,TI,TO,i1,i2]->s.heap.get? b=some o->h'.get? b=some o:=fun b o hb e=>let⟨c1,c2,c3,c4⟩:=nch b hb;hk b o c1 c2 c3 c4 e
  have f0:∀c∈[z,TI,TO,i1,i2],H c=none:=fun c hc=>(hf c hc).1
  have kH:∀b o q,H b=some q->s.heap.get? b=some o->h'.get? b=some o:=fun b o q hb e=>kc b o (fun z=>by rw[f0 b z] at hb;cases hb) e
  refine QaK ⟨rfl,?_⟩;refine I.step (h':=h') (H':=H) (g':=s.gens) (d':=s.drawn) (t':=s.toks) (ch:=[z,TI,TO,i1,i2]) (fun b hb=>?_) (fun b o _ _ hb q _=>kc b o hb q) (fun b o _ _ hb q _=>⟨o.slots,kc b o hb q⟩)
   (fun b o hb q n=>n) (fun b o hb q=>⟨o,kc b o hb q⟩) (fun b ys e=>e) (fun b o u e=>e) (fun b ps e=>⟨#[],by rw[e];simp⟩) (fun m hm=>?_) (fun b ob q=>?_) I.bare
  .obtain⟨g0,g1,g2,g3,g4,g5⟩:=hf b hb;exact⟨g3,g1,g4,g5⟩
  .obtain⟨o,es,ep,ho,r⟩:=hm;refine⟨o,es,ep,kc _ o (fun hb=>?_) ho,r⟩
   exact(hf _ hb).2.1 rfl
  .refine(I.hok b ob q).vd (fun c v hc e=>?_) (fun c e=>e) fun c ys e=>e
   rcases hc with rfl | hc
   .exact kH c v _ q e
   .exact kH c v _ hc e
 self:=fun A i s Q E st h=>wpAny_pyIter_zip st.1 h
section
variable {X:Cx}
def mm(ds es:List D):List D:=(ds.zip es).map fun p=> .tup [p.1,p.2]
def seqD?:D->Option (List D)
 | .lst ds=>some ds
 | .tup ds=>some ds
 | _=>none
def F8(f g:FD):az->R (List D):=fun δ=>(f δ).bind fun d=>(g δ).bind fun e=>match seqD? d,seqD? e with | some ds,some es=> .ok (mm ds es) | _,_=> .no
def Rep.Gr{K:Qdc}{B:List Addr}{d:D}{v:V}{ds:List D}(r:Rep K B H d v)(h:seqD? d=some ds):∃t a xs,v= .ref a/\(∀B' H',dQ B H B' H'->Lj t K H' a xs/\aL K B' H' ds xs):=by
 cases d with
 | lst es=>
   cases h;obtain⟨a,xs,rfl,l,rs⟩:=Rep.lst.mp r;exact⟨false,a,xs,rfl,fun B' H' p=>⟨(l.bw p).sq,rs.bw p⟩⟩
 | tup es=>
   cases h;obtain⟨a,xs,rfl,l,rs⟩:=Rep.tup.mp r;refine⟨true,a,xs,rfl,fun B' H' p=>⟨?_,rs.bw p⟩⟩
   have l':za K B' H' a xs:=l.elim (fun z=> .inl ⟨(p.rd z.2 z.1).2,(p.rd z.2 z.1).1⟩) .inr
   exact l'.sq
 | _=>cases h
def Bx{elts:List Expr}{k:Nat}{uB:Pos}{p pos:Pos}(h:QD X a f)(h':QD X b g)(hg:Gl X "zip")(hm:X.mg "zip"=none)(hs:starEach [a,b] X.env=[(false,eval a X.env),(false,eval b X.env)]:=by rfl)(Gm:starEach [b] X.env=[(false,eval b X.env)]:=by rfl) :
 A7 X (.Tuple elts k uB) (.Call (.Name "zip" p) [a,b] [] pos) (F8 f g):=by
 refine⟨?_⟩;intro pins s σ H RR I ⟨Z,B,δ,ds,E,hf,q⟩;obtain⟨d,h1,h2⟩:=R.aq hf;obtain⟨e,h3,h4⟩:=R.aq h2;have hA:=eV h.1 (eV h'.1 jl Gm) (by rw[hs,Gm]) pos pins s σ H (fun vs H1=>aX H H1/\∃v v',vs=[v,v']/\Rep X.K B H1 d v/\Rep X.K B H1 e v') I
  ⟨Z,B,δ,d,E,h1,fun v H1 s1 r1=>⟨Z,B,δ,e,E.same s1,h3,fun v' H2 s2 r2=>⟨s1.trans s2,v,v',rfl,r1.same s2,r2⟩⟩⟩
 refine Call_ (n3 I hg hm boot_zip (Qbc (eO hA fun us s1 ⟨vs,H1,I1,r1,ss,v,v',ev,rr,RT⟩=>?_) (by rw[hs,Gm]) (by rw[Gm];rfl)))
 subst ev;obtain⟨u,u',rfl,ru,UC⟩:=vals2 r1;cases e1:seqD? d with
 | none=>rw [e1] at h4;cases h4
 | some ls=>
   cases e2:seqD? e with
   | none=>rw [e1,e2] at h4;cases h4
   | some ms=>
     rw[e1,e2] at h4;cases h4;obtain⟨t,a,xs,rfl,k1⟩:=rr.Gr e1;obtain⟨w,b,ys,rfl,k2⟩:=RT.Gr e2;cases ru;cases UC;obtain⟨its,rv,pp⟩:=I1.Gr (k1 B H1 (dQ.refl B H1)).1;obtain⟨jts,EL,UM⟩:=I1.Gr (k2 B H1 (dQ.refl B H1)).1;have la:=pp.lt;have lb:=UM.lt;refine zp pp UM fun ia hz CW C_ WD W5 kk=>wpAny_pyIter_zip hz ?_
     have I2:Inv X pins σ H1 {s1 with heap:=ia}:=I1.kept (t':=s1.toks) kk
     refine⟨s1.heap.objs.size+4,[s1.heap.objs.size+4,s1.heap.objs.size+2,s1.heap.objs.size+3,s1.heap.objs.size,s1.heap.objs.size+1],_,_,H1,rfl,I2,Cy (t:=t) (u:=w) (zipApart_new la lb),⟨hz,CW,⟨_,_,C_⟩,WD,W5⟩,fun c hc=>?_,q _ H1 ss fun B' H' pr=>?_⟩
     .have hle:s1.heap.objs.size<=c:=by
       simp only[Qar,Qbb,QbS] at hc;rcases hc with rfl | rfl | rfl | rfl | rfl <;> omega
      exact I1.wX hle (I1.hok.fresh hle)
     .obtain⟨l1,OQ⟩:=k1 B' H' pr;obtain⟨l2,ON⟩:=k2 B' H' pr;refine⟨fun i d hd=>?_,⟨xs,ys,l1,l2,?_⟩⟩
      .unfold mm at hd;rw[Qad] at hd;cases ez:(ls.zip ms)[i]? with
       | none=>rw [ez] at hd;cases hd
       | some pr'=>
         rw[ez] at hd;have hd:D.tup [pr'.1,pr'.2]=d:=QaW hd;obtain⟨ea,eb⟩:=Qc3.mp ez;obtain⟨x,hx,rx⟩:=OQ.get ea;obtain⟨y,hy,ry⟩:=ON.get eb;refine⟨⟨xs,ys,x,y,l1,l2,hx,hy⟩,fun v qv yl Ld=>?_⟩
         obtain⟨p,x2,y2,hp,rfl,NX,A_,rfl⟩:=yl;refine⟨bf hp,?_⟩;subst hd;have NX:=NX xs l1;have A_:=A_ ys l2;rw[hx] at NX;cases NX;rw[hy] at A_;cases A_;refine Rep.tup.mpr ⟨p,_,rfl, .inl ⟨fun ha=>?_, .inl bj⟩,aL.cons (rx.same (bf hp)) (aL.cons (ry.same (bf hp)) aL.nil)⟩
         obtain⟨o,ho⟩:=Ld p ha;rw[hp] at ho;cases ho
      .rw [<-OQ.length,<-ON.length];unfold mm;rw[Qaa,List.length_zip];omega
def Ym(T U:String)(f:FD):FD:=fun δ=>(f δ).bind fun d=>match d with | .dct _ _=> .no | _=> .ok (.bl (Rr (tyName d) T || Rr (tyName d) U))
def Itd(lo:Int)(n:Nat):It:=⟨fun i _=>i<n,fun i H x H'=>H'=H/\x= .int (lo - i),fun i _=>n<=i⟩
def VH(lo:Int)(n:Nat):List D:=(List.range n).map fun(i:Nat)=>D.int (lo - i)
def XN(f g h:FD):az->R (List D):=fun δ=>(f δ).bind fun d=>(g δ).bind fun e=>(h δ).bind fun k=>match d,e,k with
 | .int i, .int j, .int m=>R.bV (decide (m= -1/\ -(2 ^ 60)<=i/\i<2 ^ 60/\ -(2 ^ 60)<=j/\j<2 ^ 60)) (.ok (VH i (i - j).toNat)) | _,_,_=> .no
def bls?:List D->Option (List Bool)
 | []=>some []
 | .bl b ::ds=>(bls? ds).map (b ::·)
 | _ ::_=>none
theorem BC{K:Qdc}{B:List Addr}:∀{ds:List D} {xs:List V} {bs:List Bool},aL K B H ds xs->bls? ds=some bs->xs=bs.map V.bl
 | [],xs,bs,r,h=>by unfold aL at r;subst r;cases h;rfl
 | d ::ds,xs,bs,r,h=>by
   obtain⟨x,q,rfl,r1,r2⟩:=r.cN;cases d with
   | bl b=>
     have h:(bls? ds).map (b ::·)=some bs:=h
     cases e:bls? ds with
     | none=>rw [e] at h;cases h
     | some cs=>
       rw[e] at h;cases h;rw[Rep.bl.mp r1,BC r2 e];rfl
   | _=>cases h
theorem Fu:∀bs:List Bool,bls? (bs.map D.bl)=some bs
 | []=>rfl
 | b ::bs=>by show(bls? (bs.map D.bl)).map (b ::·)=_;rw [Fu bs];rfl
theorem vP:∀{bs:List Bool} {us:List Value},Vals (bs.map V.bl) us->us=bs.map Value.bool
 | [],us,h=>by cases h;rfl
 | b ::bs,us,h=>by
   cases h with
   | cons r t=>rw [vP t,show _=Value.bool b from r];rfl
def range_all(bs:List Bool):(List.range bs.length).all (fun i=>bs.getD i false)=bs.all id:=by
 rw[Qa6];simp only[Qbu,QaL,id];constructor
 .intro h b hb;obtain⟨i,hi,rfl⟩:=QcO hb;have:=h i hi;rw[Qan,Qac hi] at this;exact this
 .intro h i hi;rw[Qan,Qac hi];exact h _ (QbR hi)
def Hz:List D->R D
 | [.lst ds]=>(match bls? ds with | some bs=> .ok (.bl (bs.all id)) | none=> .no)
 | _=> .no
def ZM:List D->R D
 | [.lst ds]=>(match bls? ds with | some bs=> .ok (.bl (bs.any id)) | none=> .no)
 | _=> .no
def SD{bs:List Bool}{i:Nat}{v:Value}(h:((bs.map Value.bool).toArray)[i]? =some v):v= .bool (bs.getD i false):=by
 rw[List.getElem?_toArray,Qad] at h;rw[Qan];cases e:bs[i]? with
 | none=>rw [e] at h;cases h
 | some b=>rw [e] at h;cases h;rfl
def OF(hc:X.calm=true):dn X (.builtin "all") Hz:=by
 intro pins s σ H B ds d xs us I hb rx rs hg;unfold Hz at hg;split at hg
 .split at hg
  .rename_i es bs e;cases hg;obtain⟨x,rfl,r⟩:=rs.one;obtain⟨a,ys,rfl,l,r⟩:=Rep.lst.mp r;obtain⟨u,rfl,ru⟩:=vals1 rx;cases ru;obtain⟨its,n,rv,e1,hz⟩:=I.N5 l;rw[BC r e] at rv;obtain rfl:=vP rv;have hl:s.heap.IsList a (bs.map Value.bool).toArray:=⟨_,e1,rfl,n,rfl⟩;have nE:a<s.heap.objs.size:=Qaw e1;refine call_all_walk (Qcp hl ?_);refine⟨_,_,_,_,_,_,fun i=>bs.getD i false,rfl,Walks.list (A:=X.A.in1) (I.ok.hd hc) _ a (QaO nE) _,⟨⟨_,QaJ _ rfl,rfl,rfl⟩,hl.push _⟩,?_,fun h' tk hk=>?_⟩
   .intro i v s Q E hP hQ;rw[SD hP];exact Qcn hQ
   .refine⟨.bl (bs.all id),H,I.kept (old_kept hk),?_,aX.refl H,Rep.bl.mpr rfl⟩;show Value.bool _=Value.bool _;rw[<-range_all];simp
  .cases hg
 .cases hg
end
section
variable {X:Cx}
def sNo:FS:=fun _=> .no
def X5(f:FD):FS:=fun δ=>(f δ).bind fun _=> .ok (.nx δ)
end
end L2
namespace L3
open PySem PySem.Spec PyProof.Rows L2
section
variable {X:Cx} {cl:Aag}
def zNo:FZ:=fun _ _=> .no
def QX{K:Qdc}{f:az->R (List D)}{σ:L2.St}{Q:V->Hp->Prop}(h:tX K cl (nW f) σ H Q):tN K f σ H Q:=by
 obtain⟨ρ,S,δ,v,S',E,hf,q⟩:=h;obtain⟨ds,S1,h1,h2⟩:=R3.aq hf;obtain⟨h3,e3⟩:=R3.of_ok h1;cases h2;subst e3;refine⟨[],ρ.b,down δ,ds,E.down,h3,fun a xs H' s n e r=>?_⟩
 have r':aL K (ρ.push a).b H' ds xs:=r.bw fun b o e nb=>⟨e,fun hb=>nb (by
  rcases P3.mem_push hb with z | z
  .exact Qai _ z
  .subst z;exact Qat)⟩
 obtain⟨w,p⟩:=E.sw.new (o:= .lst ds) s n ⟨xs,e,r'⟩;exact q _ _ H' p w (by unfold a_;exact⟨a,by show(ρ.r++[a])[_]? =_;rw [<-E.sw.len,Qae (by omega),QaQ];rfl,rfl⟩)
def zm(f:az->R (List D)):FX:=fun δ S=>(R3.of (f (dN S δ)) S).bind fun ds S=>R3.bV (jc ds) (.ok (.loc S.length) (S++[.lst ds]))
def Fp{K:Qdc}{f:az->R (List D)}{σ:L2.St}{Q:V->Hp->Prop}(h:tX K cl (zm f) σ H Q):tN K f σ H Q:=by
 obtain⟨ρ,S,δ,v,S',E,hf,q⟩:=h;obtain⟨ds,S1,h1,h2⟩:=R3.aq hf;obtain⟨h3,e3⟩:=R3.of_ok h1;obtain⟨ht,h4⟩:=R3.ba h2;cases h4;subst e3;refine⟨[],[],dN _ δ,ds,E.dN,h3,fun a xs H' s n e r=>?_⟩
 have r0:aL K [] H' ds xs:=r.bw fun b o e nb=>⟨e,by simp⟩
 have r':aL K (ρ.push a).b H' ds xs:=aL.yV (fun b hb ys hr=>by
  rcases P3.mem_push hb with z | z
  .exact(E.sw.same s).nt b z ys hr
  .subst z;rcases hr with y | ⟨ob,y⟩
   .rw [e] at y;cases y
   .rw [e] at y;cases y) ht r0
 obtain⟨w,p⟩:=E.sw.new (o:= .lst ds) s n ⟨xs,e,r'⟩;exact q _ _ H' p w (by unfold a_;exact⟨a,by show(ρ.r++[a])[_]? =_;rw [<-E.sw.len,Qae (by omega),QaQ];rfl,rfl⟩)
def LD{f:az->R (List D)}(h:QN X e f):PX X cl e (zm f):=⟨h.1.imp fun σ H Q h=>Fp h⟩
def CS{i:Nat}{x:Str}{pos' qh:Pos}{scope:Scope}{own:List Str}{kp:List Nat}{kn:List Str}{tg iter elt:Expr}{ifs:List Expr}{it:az->R (List D)}{t:FT}{c:az->R Bool}{f:FD}{pos:Pos}(hc:X.calm=true)
 (hN:X.N.Nodup) (hx:X.N[i]? =some x) (HM:X.env.scope.names.lookup x=some .local) (C:bg X scope own kp kn) (hi:A7 X tg iter it)
 (hg:∀fp s H,Oz (bx X scope (own++kn) fp s H) tg t) (A4:∀fp s H,GB (bx X scope (own++kn) fp s H) ifs c) (he:∀fp s H,QD (bx X scope (own++kn) fp s H) elt f)
 (vn:swapsWith (.ListComp elt [⟨tg,iter,ifs,0⟩] scope pos) (some (.Name x pos')) qh.line X.env=pure true:=by rfl)
 (hs:∀x,foldedSetIterable iter X.env x=pure x:=by intro _;rfl):PZ X cl (.Assign [.Name x pos'] (.ListComp elt [⟨tg,iter,ifs,0⟩] scope pos) qh) (cM i (nW (cj it t c f own kp))):=
 ⟨(nS hc hN hx HM C hi.1 (fun fp s H=>(hg fp s H).1) (fun fp s H=>(A4 fp s H).1) (fun fp s H=>(he fp s H).1) vn hs).imp fun D σ H h=>vx (QX (DX h))⟩
def Ci{i:Nat}{x:Str}{pos' qh:Pos}{scope:Scope}{own:List Str}{kp:List Nat}{kn:List Str}{tg iter elt:Expr}{ifs:List Expr}{it:az->R (List D)}{t:FT}{c:az->R Bool}{f:FD}{pos:Pos}(hc:X.calm=true)
 (hN:X.N.Nodup) (hx:X.N[i]? =some x) (HM:X.env.scope.names.lookup x=some .local) (C:bg X scope own kp kn) (hi:A7 X tg iter it)
 (hg:∀fp s H,Oz (bx X scope (own++kn) fp s H) tg t) (A4:∀fp s H,GB (bx X scope (own++kn) fp s H) ifs c) (he:∀fp s H,QD (bx X scope (own++kn) fp s H) elt f)
 (vn:swapsWith (.ListComp elt [⟨tg,iter,ifs,0⟩] scope pos) (some (.Name x pos')) qh.line X.env=pure true:=by rfl)
 (hs:∀x,foldedSetIterable iter X.env x=pure x:=by intro _;rfl):PZ X cl (.Assign [.Name x pos'] (.ListComp elt [⟨tg,iter,ifs,0⟩] scope pos) qh) (cM i (zm (cj it t c f own kp))):=
 ⟨(nS hc hN hx HM C hi.1 (fun fp s H=>(hg fp s H).1) (fun fp s H=>(A4 fp s H).1) (fun fp s H=>(he fp s H).1) vn hs).imp fun D σ H h=>vx (Fp (DX h))⟩
def JL{f:az->R (List D)}{ds:List D}{δ:DE}{S:aN}{QV:V3->aN->Prop}(e:f (dN S δ)= .ok ds)(ht:jc ds=true)(h:QV (.loc S.length) (S++[.lst ds])):W3 (zm f δ S) QV:=W3.bind (W3.of e (W3.wh ht (W3.ok h)))
def IZ(i:Nat)(f:FX):FZ:=fun δ S=>match kj δ i with
 | none=> .no
 | some k=>match du S k with
   | none=> .no
   | some _=>(f δ S).bind fun v S1=>match v with
     | .d (.lst es)=>(match du S1 k with
       | some ds=>R3.bV (decide (ds.length+es.length<=sizeLine)) (.ok (.nx δ) (S1.set k (.lst (ds++es))))
       | none=> .no)
     | _=> .no
def Pa{i:Nat}{x:Str}{e:Expr}{f:FX}{eP apos cz pos:Pos}(hN:X.N[i]? =some x)(hv:GQ X.env.scope x)(he:PX X cl e f)
 (hd:(x==("__debug__":Str))=false:=by decide) (qC:(x==("__classdict__":Str))=false:=by decide)
 (hs:starEach [e] X.env=(false,eval e X.env) ::starEach [] X.env:=by rfl) (lR:(apos.endLine==cz.line)=true:=by rfl)
 (rV:((backTo cz (starEach [e] X.env)).all (fun x=>!x.1) && (backToKw cz (keywordEach [] X.env)).all (fun x=>x.1.isSome)
   && decide (([e]:List Expr).length+([]:List Keyword).length+(if([]:List Keyword).isEmpty then 0 else 1)<30))=true:=by rfl)
 (vn:swapsWith (.Call (.Attribute (.Name x eP) "extend" apos) [e] [] cz) none pos.line X.env=pure false:=by rfl)
 (lT:attributeBase (.Name x eP) "extend" X.env (eval (.Name x eP) X.env)=eval (.Name x eP) X.env:=by rfl) :
 PZ X cl (.Expr (.Call (.Attribute (.Name x eP) "extend" apos) [e] [] cz) pos) (IZ i f):=by
 refine⟨(tm (Gd (X:=X) QbU Qc7 Qc8 Dq (pL hN hv hd qC) (eV he.1 jl hs) lT rV lR hs) vn).imp fun D σ H ⟨ρ,S,δ,o,S',E,hf,q⟩=>?_⟩
 unfold IZ at hf;split at hf
 .cases hf
 .rename_i k hk;split at hf
  .cases hf
  .rename_i ds0 h0;obtain⟨v,S1,h1,h2⟩:=R3.aq hf;split at h2
   .rename_i es;split at h2
    .rename_i ds h3;obtain⟨hl,h4⟩:=R3.ba h2;cases h4;obtain⟨u,u1,u2⟩:=E.val i _ (lM hk);unfold a_ at u2;obtain⟨a,a1,rfl⟩:=u2;obtain⟨Xv,x0,_⟩:=E.sw.ob k a _ a1 (fZ h0);refine⟨.ref a,u1, .inl ⟨rfl,Xv,rB.of x0⟩,⟨ρ,S,δ, .d (.lst es),S1,E,h1,fun y cq H1 p1 w1 r1=>?_⟩⟩
     have b1:=p1.ext k a a1;obtain⟨xs,x1,x2⟩:=w1.ob k a _ b1 (fZ h3);unfold a_ at r1;obtain⟨b,ys,rfl,l,r'⟩:=Rep.lst.mp r1;refine⟨a,b,xs,ys,rfl,rfl,x1,⟨_,l⟩,by rw[<-x2.length,<-r'.length];exact Qak hl,?_⟩
     obtain⟨w2,p2⟩:=w1.put (o:= .lst (ds++es)) (u:= .lst (xs++ys)) b1 (w1.fz k a b1 (by rw[fZ h3];intro h;cases h)) ⟨xs++ys,rfl,x2.append r'⟩
     exact q σ cq _ (p1.trans p2) (E.to (p1.trans p2) w2)
    .cases h2
   .cases h2
def Ul{i k:Nat}{f:FX}{δ:DE}{S:aN}{QO:Ou->aN->Prop}(hk:δ[i]? =some (some (.loc k)))(h0:∃ds,S[k]? =some (.lst ds))(h:W3 (f δ S) fun v S1=>∃es ds,v= .d (.lst es)/\S1[k]? =some (.lst ds)/\ds.length+es.length<=sizeLine/\QO (.nx δ) (S1.set k (.lst (ds++es)))):W3 (IZ i f δ S) QO:=by
 obtain⟨es,h0⟩:=h0;unfold IZ;have e1:kj δ i=some k:=by unfold kj;rw [hk]
 have e2:du S k=some es:=by unfold du;simp only[h0]
 rw[e1];show W3 (match du S k with | none=>_ | some _=>_) _
 rw[e2];refine W3.bind (h.mono fun v S1 ⟨d,ds,e,h1,hl,q⟩=>?_)
 subst e;have e3:du S1 k=some ds:=by unfold du;simp only[h1]
 show W3 (match du S1 k with | some ds=>_ | none=>_) _
 rw[e3];exact W3.wh (QaE hl) (W3.ok q)
def Dc{f:FX}{δ:DE}{S:aN}{QO:Ou->aN->Prop}(h:W3 (f δ S) fun _ S1=>QO (.nx δ) S1):W3 (uW f δ S) QO:=W3.bind (h.mono fun _ _ h=>W3.ok h)
end
end L3
end
section
namespace L2
open PySem PySem.Spec PyProof.Rows
section
variable {X:Cx}
def IC{prog:Program}{w:World}{A:Around}{E:Aab}{s:Qdd}{t b:Addr}{vs ws:List Value}{Q:Aab}(ht:IsTup s.heap t vs.toArray)(hb:IsTup s.heap b ws.toArray)
 (h0:vs=[]->Q (.ref b) s) (h1:vs≠[]->ws=[]->Q (.ref t) s) (h2:vs≠[]->ws≠[]->Q (.ref s.heap.objs.size) {s with heap:=s.heap.push {cls:= .type "tuple",data:= .seq (vs++ws).toArray}})
 (HL:vs.length+ws.length<=sizeLine):wpAny (model prog w) A (binaryOp .Add (.ref t) (.ref b)) Q E s:=by
 by_cases hv:vs=[]
 .obtain⟨⟨cls,dd,data,sl⟩,ho,hc,n,hd⟩:=id ht;obtain⟨⟨W7,Vb,data2,OP⟩,NW,Si,n2,hd2⟩:=id hb;simp only at hc hd Si hd2;subst hc hd Si hd2;exact concat_meets ⟨_,ho,rfl⟩ ⟨_,NW,rfl⟩ noFill_tuple_add seq_tuple_add Qcr Qcm (Qcj _ _) (tuple_addW0 t b vs.toArray ws.toArray n n2 dd Vb sl OP (by simp [hv])) ⟨ho,NW,h0 hv⟩
 .exact HT.NI ht hb hv (h1 hv) (h2 hv) HL
def uS(d e:D):R D:=match d,e with
 | .tup a, .tup b=>R.bV (decide (a.length+b.length<=sizeLine)) (.ok (.tup (a++b)))
 | d,e=>dO d e
def za.fresh{K:Qdc}{B:List Addr}{H:Hp}{p:Addr}{xs:List V}(hb:∀a∈B,∃o,H a=some o)(hp:H p=none):za K B (upd H p (.tup xs)) p xs:= .inl ⟨fun ha=>(by obtain⟨o,ho⟩:=hb p ha;rw [hp] at ho;cases ho), .inl bj⟩
def zS:nL X (binaryOp .Add) uS:=by
 intro pins s σ H B da db d x y v u I hb rx ry ra rb hg;by_cases ht:∃a b,da= .tup a/\db= .tup b
 .obtain⟨a,b,rfl,rfl⟩:=ht;have hg:R.bV (decide (a.length+b.length<=sizeLine)) (.ok (.tup (a++b)))= .ok d:=hg;obtain⟨h1,h2⟩:=R.ba hg;cases h2;have h1:=Qak h1;have ra':=ra;have rb':=rb;obtain⟨a1,WV,rfl,l1,r1⟩:=Rep.tup.mp ra;obtain⟨a2,Xt,rfl,l2,r2⟩:=Rep.tup.mp rb;cases rx;cases ry;obtain⟨its,YH,p1,_⟩:=I.tuple l1.sq;obtain⟨uA,Yv,p2,_⟩:=I.tuple l2.sq;have e1:=YH.length;have e2:=Yv.length;have e3:=r1.length;have e4:=r2.length;refine IC p1 p2 (fun z=>⟨.ref a2,H,I,rfl,aX.refl H,?_⟩) (fun _ z=>⟨.ref a1,H,I,rfl,aX.refl H,?_⟩) (fun _ _=>?_) (by omega)
  .obtain rfl:a=[]:=QcL (by rw[e3,e1,z];rfl)
   exact rb'
  .obtain rfl:b=[]:=QcL (by rw[e4,e2,z];rfl)
   rw[Qa7];exact ra'
  .have hp:H s.heap.objs.size=none:=I.hok.fresh (Qag _);refine⟨.ref s.heap.objs.size,_,I.laid (t':=s.toks) (o:= .tup (WV++Xt)) (fun b ob q=>Qah _ q) (Qag _) ⟨by rw[Qau];omega,_,YH.append Yv,IsTup.new _ _⟩,rfl,bf hp,Rep.tup.mpr ⟨_,_,rfl,za.fresh hb hp,(r1.append r2).same (bf hp)⟩⟩
 .have hg:dO da db= .ok d:=by
   unfold uS at hg;split at hg
   .exact absurd ⟨_,_,rfl,rfl⟩ ht
   .exact hg
  exact dM pins s σ H B da db d x y v u I hb rx ry ra rb hg
def A7.or{F F1 F2:az->R (List D)}(h1:A7 X tg e F1)(h2:A7 X tg e F2)(h:∀δ ds,F δ= .ok ds->F1 δ= .ok ds\/F2 δ= .ok ds):A7 X tg e F:=
 ⟨fun pins s σ H R I ⟨Z,B,δ,ds,E,hf,q⟩=>(h δ ds hf).elim (fun z=>h1.1 pins s σ H R I ⟨Z,B,δ,ds,E,z,q⟩) fun z=>h2.1 pins s σ H R I ⟨Z,B,δ,ds,E,z,q⟩⟩
def Ff(f:FD):az->R (List D):=fun δ=>(f δ).bind fun d=>match d with | .lst ds=> .ok (cY ds) | .tup ds=> .ok (cY ds) | _=> .no
def D3{elts:List Expr}{k:Nat}{uB:Pos}{p pos:Pos}(h:QD X a f)(hg:Gl X "enumerate")(hm:X.mg "enumerate"=none)(hs:starEach [a] X.env=[(false,eval a X.env)]:=by rfl):A7 X (.Tuple elts k uB) (.Call (.Name "enumerate" p) [a] [] pos) (Ff f):=
 A7.or (F1:=ib f) (F2:=AR f) ⟨B7 h.1 hg hm hs⟩ (Dl h hg hm hs) fun δ ds hf=>by
  obtain⟨d,h1,h2⟩:=R.aq hf;cases d with
  | lst es=>cases h2;exact .inl (by unfold ib;rw [h1];rfl)
  | tup es=>cases h2;exact .inr (by unfold AR;rw [h1];rfl)
  | _=>cases h2
def ZD(K:Qdc)(a:Addr)(n:Nat):It:=
 ⟨fun i H=>∃xs x,rB K H a xs/\xs.length=n/\i<n/\xs[n - 1 - i]? =some x,fun i H v H'=>H'=H/\∀xs,rB K H a xs->xs[n - 1 - i]? =some v,fun i H=>(∃xs,rB K H a xs)/\i=n⟩
def Jx{K:Qdc}(a it:Addr)(n:Nat):Turn P w K tg (ZD K a n) [it] it (fun i h=>h.IsRevIter it a ((n:Int) - 1 - (i:Int))) where
 mem:=by simp
 obj:=fun i h st b hb=>by
  have e:b=it:=by simpa using hb
  subst e;obtain⟨o,e,c,d⟩:=st;exact⟨o,e,fun v z=>by rw[d] at z;cases z⟩
 keep:=fun i h h' st k=>st.at fun o e=>k it (by simp) o e
 item:=by
  intro X hP hw hK hc i pins s σ H E I hf st hg;subst hP hw hK;obtain⟨xs,x,hq,hn,hi,hx⟩:=hg;obtain⟨its,rv,p,hz⟩:=I.list hq;obtain⟨u,hu,ru⟩:=rv.get hx;obtain⟨f0,f1,f2,f3,f4,f5⟩:=hf it (by simp)
  have e0:(n:Int) - 1 - (i:Int)=((n - 1 - i:Nat):Int):=by omega
  rw[e0] at st;refine wpAny_pyNext_rev_item st p.isList (x:=u) (by simpa using hu) fun h' KZ sb=>?_
  have I1:Inv X pins σ H {s with heap:=h'}:=I.turned (t':=s.toks) (fun b o hb e=>(sb.2 b hb).trans e) f0 f1 f3 f4 f5
  have LA:h'.IsRevIter it a ((n:Int) - 1 - ((i+1:Nat):Int)):=by
   rw[show((n - 1 - i:Nat):Int) - 1=(n:Int) - 1 - ((i+1:Nat):Int) by omega] at KZ;exact KZ
  obtain⟨o,e,c,d⟩:=id LA;exact⟨u,rfl,Fw (s:={s with heap:=h'}) e c d (by decide) ⟨x,H,I1,ru,⟨rfl,fun ys hy=>by rw[I.tT hy hq];exact hx⟩,LA,fun b hb=>(hf b hb).1⟩⟩
 done:=by
  intro X hP hw hK hc i pins s σ H E I hf st hg;subst hP hw hK;obtain⟨_,rfl⟩:=hg;obtain⟨f0,f1,f2,f3,f4,f5⟩:=hf it (by simp)
  rw[show(i:Int) - 1 - (i:Int)= -1 by omega] at st
  exact wpAny_pyNext_rev_end (I.ok.hd hc) st fun h' eb=>⟨rfl,I.turned (t':=s.toks) (fun b o hb e=>eb b o hb e) f0 f1 f3 f4 f5⟩
 self:=fun _ _ _ _ _ st h=>wpAny_pyIter_revIter st h
def Ox(f:FD):az->R (List D):=fun δ=>(f δ).bind fun d=>match d with | .lst ds=> .ok ds.reverse | _=> .no
def JG{tg a:Expr}{p pos:Pos}(h:QD X a f)(hg:Gl X "reversed")(hm:X.mg "reversed"=none)(hs:starEach [a] X.env=[(false,eval a X.env)]:=by rfl):A7 X tg (.Call (.Name "reversed" p) [a] [] pos) (Ox f):=by
 refine⟨?_⟩;intro pins s σ H RR I ⟨Z,B,δ,ds,E,hf,q⟩;obtain⟨d,h1,h2⟩:=R.aq hf;have hA:=eV h.1 jl hs pos pins s σ H (fun vs H1=>aX H H1/\∃v,vs=[v]/\Rep X.K B H1 d v) I ⟨Z,B,δ,d,E,h1,fun v H1 s1 r1=>⟨s1,v,rfl,r1⟩⟩
 refine Call_ (n3 I hg hm boot_reversed (Qbc (eO hA fun us s1 ⟨vs,H1,I1,r1,ss,v,ev,rr⟩=>?_) hs rfl))
 subst ev;obtain⟨u,rfl,ru⟩:=vals1 r1;cases d with
 | lst es=>
   cases h2;obtain⟨b,xs,rfl,l,rs⟩:=Rep.lst.mp rr;cases ru;obtain⟨its,rv,pl,hz⟩:=I1.list l.sq;have e1:=rv.length;have e2:=rs.length;refine call_reversed_list pl.isList (wpAny_pyIter_revIter (i:=(its.toArray.size:Int) - 1) ⟨_,QaJ _ rfl,rfl,rfl⟩ ?_);refine⟨s1.heap.objs.size,[s1.heap.objs.size],_,_,H1,rfl,I1.kept (t':=s1.toks) fun b o e=>Qah _ e,Jx b _ es.length,?_,fun c hc=>?_,q _ H1 ss fun B' H' pr=>?_⟩
   .refine⟨_,QaJ _ rfl,rfl,?_⟩;show Data.fields #[.ref b,rawInt ((its.toArray.size:Int) - 1)]=Data.fields #[.ref b,rawInt ((es.length:Int) - 1 - ((0:Nat):Int))];rw[QaG,<-e1,<-e2,show((es.length:Nat):Int) - 1 - ((0:Nat):Int)=(es.length:Int) - 1 by omega]
   .have e:c=s1.heap.objs.size:=by simpa using hc
    subst e;exact I1.wX (Qag _) (I1.hok.fresh (Qag _))
   .have l':wF X.K B' H' b xs:=l.bw pr;have rs':=rs.bw pr;refine⟨fun i d hd=>?_,⟨xs,l'.sq⟩,by rw[Qcb]⟩
    have hi:i<es.length:=by have:=(Qab.mp hd).1;rwa [Qcb] at this
    rw[List.getElem?_reverse hi] at hd;obtain⟨x,hx,rx⟩:=rs'.get hd;refine⟨⟨xs,x,l'.sq,e2.symm,hi,hx⟩,fun v qv yl Ld=>?_⟩
    obtain⟨rfl,hy⟩:=yl;have A_:=hy xs l'.sq;rw[hx] at A_;cases A_;exact⟨aX.refl _,rx⟩
 | _=>cases h2
def u9(K:Qdc)(C:Addr)(m qual:Str)(st:Stmt):Prop:=∃f fd,D_ K m qual st f fd/\Meth K C m f
def Hg(K:Qdc)(C:Addr)(m qual:Str)(st:Stmt):Prop:=∃f fd,D_ K m qual st f fd/\Mk K C f
end
end L2
namespace L3
open PySem PySem.Spec PyProof.Rows L2
section
variable {X:Cx} {cl:Aag}
def mW.p{K:Qdc}{mg:Aaf}{cl:Aag}{k c:Nat}{n:Nat}{N:List Str}(C:mW P w K mg base cl k c m n (mB N F)):mW P w K mg base cl k c m n (qk N F):=
 let⟨f,fd,ps,c1,c2,F,h⟩:=C;⟨f,fd,ps,c1,c2,F.imp fun _ _ _ _ h=>DG h,h⟩
end
end L3
end
section
namespace L2
open PySem PySem.Spec PyProof.Rows
section
variable {X:Cx}
def Zi(f:FD):az->R (List D):=fun δ=>(f δ).bind fun d=>match d with | .int j=>R.bV (decide (-(2 ^ 62)<=j/\j<16777216)) (.ok (ip 0 j.toNat)) | _=> .no
def ZR(f:FD):FD:=fun δ=>(f δ).bind fun d=>match d with | .lst ds=> .ok (.lst ds.reverse) | _=> .no
end
section
variable {X:Cx}
def Y4(K:Qdc)(n:Nat)(t:JS):TG:=fun v σ H Q=>∃a xs,v= .ref a/\rB K H a xs/\xs.length=n/\t xs σ H Q
end
end L2
namespace L3
open PySem PySem.Spec PyProof.Rows L2
section
variable {X:Cx} {cl:Aag}
def gLs(n:Nat)(t:Ni):FG:=fun d δ=>match d with
 | .d (.lst ds)=>if ds.length=n then t (ds.map .d) δ else none
 | .lst vs=>if vs.length=n then t vs δ else none
 | _=>none
def QQ(f g:FX):FA:=fun δ S=>(aI f (aI g c8) δ S).bind fun vs S1=>match vs with
 | [.d d, .d e]=>(match seqD? d,seqD? e with | some ds,some es=> .ok ((mm ds es).map .d) S1 | _,_=> .no)
 | _=> .no
def Nw{elts:List Expr}{k:Nat}{uB:Pos}{p pos:Pos}(h:PX X cl a f)(h':PX X cl b g)(hg:Gl X "zip")(hm:X.mg "zip"=none)(hs:starEach [a,b] X.env=[(false,eval a X.env),(false,eval b X.env)]:=by rfl)(Gm:starEach [b] X.env=[(false,eval b X.env)]:=by rfl) :
 O2 X cl (.Tuple elts k uB) (.Call (.Name "zip" p) [a,b] [] pos) (QQ f g):=by
 refine⟨?_⟩;intro pins s σ H RR I ⟨ρ,S,δ,vs,S',E,hf,q⟩;obtain⟨ws,S1,h1,h2⟩:=R3.aq hf;have hA:=(ao h (ao h' aY Gm) (by rw[hs,Gm])).1 pos pins s σ H (fun us H1=>∃cq,Pre ρ H cq H1/\SW X.K cl cq H1 S1/\aR X.K cq H1 ws us) I
  ⟨ρ,S,δ,ws,S1,E,h1,fun us cq H1 p1 w1 r1=>⟨cq,p1,w1,r1⟩⟩
 refine Call_ (n3 I hg hm boot_zip (Qbc (eO hA fun us s1 ⟨xs,H1,I1,r1,cq,p1,w1,rr⟩=>?_) (by rw[hs,Gm]) (by rw[Gm];rfl)))
 rcases hsh:ws with _ | ⟨w0,_ | ⟨w2,_ | ⟨w3,wr⟩⟩⟩ <;> subst hsh
 .cases h2
 .cases w0 <;> cases h2
 .rcases w0 with d | _ | _ | _ <;> rcases w2 with e | _ | _ | _ <;> try (cases h2;done)
  have h2:(match seqD? d,seqD? e with | some ds,some es=>R3.ok ((mm ds es).map V3.d) S1 | _,_=> .no)= .ok vs S':=h2
  cases e1:seqD? d with
  | none=>rw [e1] at h2;cases h2
  | some ls=>
    cases e2:seqD? e with
    | none=>rw [e1,e2] at h2;cases h2
    | some ms=>
      rw[e1,e2] at h2;cases h2;obtain⟨v,ys,ev,ra,rr⟩:=rr.cN;obtain⟨v',zs,HB,rb,rr⟩:=rr.cN;unfold aR at rr;subst rr HB ev;obtain⟨u,u',rfl,ru,UC⟩:=vals2 r1;unfold a_ at ra rb;obtain⟨t,a,xs,rfl,k1⟩:=ra.Gr e1;obtain⟨w,b,ys,rfl,k2⟩:=rb.Gr e2;cases ru;cases UC;obtain⟨its,rv,pp⟩:=I1.Gr (k1 cq.b H1 (dQ.refl _ H1)).1;obtain⟨jts,EL,UM⟩:=I1.Gr (k2 cq.b H1 (dQ.refl _ H1)).1;have la:=pp.lt;have lb:=UM.lt;refine zp pp UM fun ia hz CW C_ WD W5 kk=>wpAny_pyIter_zip hz ?_
      have I2:Inv X pins σ H1 {s1 with heap:=ia}:=I1.kept (t':=s1.toks) kk
      refine⟨s1.heap.objs.size+4,[s1.heap.objs.size+4,s1.heap.objs.size+2,s1.heap.objs.size+3,s1.heap.objs.size,s1.heap.objs.size+1],_,_,H1,rfl,I2,Cy (t:=t) (u:=w) (zipApart_new la lb),⟨hz,CW,⟨_,_,C_⟩,WD,W5⟩,fun c hc=>?_,q _ cq H1 p1 w1 (R6.of fun B' H' pr=>?_)⟩
      .have hle:s1.heap.objs.size<=c:=by
        simp only[Qar,Qbb,QbS] at hc;rcases hc with rfl | rfl | rfl | rfl | rfl <;> omega
       exact I1.wX hle (I1.hok.fresh hle)
      .obtain⟨l1,OQ⟩:=k1 B' H' pr;obtain⟨l2,ON⟩:=k2 B' H' pr;refine⟨fun i d hd=>?_,⟨xs,ys,l1,l2,?_⟩⟩
       .unfold mm at hd;rw[Qad] at hd;cases ez:(ls.zip ms)[i]? with
        | none=>rw [ez] at hd;cases hd
        | some pr'=>
          rw[ez] at hd;have hd:D.tup [pr'.1,pr'.2]=d:=QaW hd;obtain⟨ea,eb⟩:=Qc3.mp ez;obtain⟨x,hx,rx⟩:=OQ.get ea;obtain⟨y,hy,ry⟩:=ON.get eb;refine⟨⟨xs,ys,x,y,l1,l2,hx,hy⟩,fun v qv yl Ld=>?_⟩
          obtain⟨p,x2,y2,hp,rfl,NX,A_,rfl⟩:=yl;refine⟨bf hp,?_⟩;subst hd;have NX:=NX xs l1;have A_:=A_ ys l2;rw[hx] at NX;cases NX;rw[hy] at A_;cases A_;refine Rep.tup.mpr ⟨p,_,rfl, .inl ⟨fun ha=>?_, .inl bj⟩,aL.cons (rx.same (bf hp)) (aL.cons (ry.same (bf hp)) aL.nil)⟩
          obtain⟨o,ho⟩:=Ld p ha;rw[hp] at ho;cases ho
       .rw [<-OQ.length,<-ON.length];unfold mm;rw[Qaa,List.length_zip];omega
 .cases w0 <;> cases w2 <;> cases h2
def S_{f g:FX}{δ:DE}{S:aN}{Q:List V3->aN->Prop}(h:W3 (f δ S) fun v S1=>W3 (g δ S1) fun w S2=>∃d e ds es,v= .d d/\w= .d e/\seqD? d=some ds/\seqD? e=some es/\Q ((mm ds es).map .d) S2):W3 (QQ f g δ S) Q:=
 W3.bind (W3.bind (h.mono fun v S1 h2=>W3.bind (W3.bind (h2.mono fun w S2 ⟨d,e,ds,es,e1,gm,e3,e4,q⟩=>by
  subst e1 gm;exact W3.bind (W3.ok (W3.ok (W3.ok (by simp only[e3,e4];exact W3.ok q))))))))
def ma(S:aN):Prop:=∀o∈S,vU S.length o=true
def Tf{N:List Str}{vs:List V3}{S:aN}{QV:V3->aN->Prop}(h:W3 (mB N F vs S) fun v S1=>(∀o∈S1.take S.length,vU S.length o=true)/\fT S.length v=true/\∃d,res S1 v=some d/\QV (.d d) (S1.take S.length)):W3 (qk N F vs S) QV:=
 W3.bind (h.mono fun v S1 ⟨hl,hg,d,e,q⟩=>by
  rw[e];exact W3.wh (by rw[Qbu.mpr hl,hg];rfl) (W3.ok q))
def g9{N:List Str}{vs:List V3}{S:aN}{QV:V3->aN->Prop}(hS:ma S)(h:W3 (mB N F vs S) fun v S1=>fT S.length v=true/\(∃T,S1=S++T)/\∃d,res S1 v=some d/\QV (.d d) S):W3 (qk N F vs S) QV:=
 Tf (h.mono fun v S1 ⟨hg,⟨T,e1⟩,d,e,q⟩=>by
  subst e1;rw[List.take_append_of_le_length (Qag _),QaV];exact⟨hS,hg,d,e,q⟩)
end
end L3
end
section
namespace L2
open PySem PySem.Spec PyProof.Rows
section
variable {X:Cx}
def ois?:List D->Option (List (Option Int))
 | []=>some []
 | .int i ::ds=>(ois? ds).map (some i ::·)
 | .cR ::ds=>(ois? ds).map (none ::·)
 | _ ::_=>none
def oiV:Option Int->V | some i=> .int i | none=> .cR
def Zg(d e:D):R Bool:=match d,e with
 | .cR, .lst ds=>(match ois? ds with | some ss=> .ok (ss.any (·.isNone)) | none=> .no)
 | _,_=> .no
def Zw(d e:D):R D:=(Zg d e).bind fun b=> .ok (.bl b)
end
section
variable {X:Cx}
def V8(d:D)(ds:List D):R D:=match d,ds with
 | .lst es,[.int k]=>(match ints? es with | some ss=> .ok (.int (ss.count k:Nat)) | none=> .no)
 | _,_=> .no
end
section
variable {X:Cx}
abbrev Pr:D->D->R D:=Oa (fun i j=>decide (0<=j/\j<1000/\ -1000<i/\i<1000)) fun i j=>i*2 ^ j.toNat
def S8:nL X (binaryOp .LShift) Pr:=B6 RG fun i j h=>by
 have:=Qak h;exact⟨this.1,by omega,by omega⟩
def Ya(d e:D):R D:=match d,e with | .bl a, .bl b=> .ok (.bl (a !=b)) | _,_=> .no
end
end L2
namespace L3
open PySem PySem.Spec PyProof.Rows L2
section
variable {X:Cx} {cl:Aag}
def Ye(fo f:FX):FZ:=fun δ S=>(fo δ S).bind fun o S0=>match o with
 | .loc k=>(match du S0 k with
   | none=> .no
   | some _=>(f δ S0).bind fun v S1=>match v with
     | .d d=>(match du S1 k with | some ds=>R3.bV (decide (ds.length<sizeLine)) (.ok (.nx δ) (S1.set k (.lst (ds++[d])))) | none=> .no)
     | _=> .no)
 | _=> .no
def X9(f:FX):FA:=fun δ S=>(aI f c8 δ S).bind fun vs S1=>match vs with
 | [.d (.lst ds)]=> .ok ((cY ds).map .d) S1
 | _=> .no
end
end L3
end
section
namespace L2
open PySem PySem.Spec PyProof.Rows
section
variable {X:Cx}
end
end L2
end
section
namespace L3
open PySem PySem.Spec PyProof.Rows L2
section
variable {cl:Aag}
def Vs(it:FA)(t:FG)(c:FB)(f:FX)(own:List Str)(kp:List Nat):FX:=fun δ S=>(it δ S).bind fun vs S1=>R3.bV (decide (vs.length<=sizeLine)) ((pJ t c f (pF own kp δ) vs S1).bind fun ys S2=>match vj ys with | some ds=> .ok (.loc S2.length) (S2++[.lst ds]) | none=> .no)
end
section
variable {X:Cx} {cl:Aag}
end
section
variable {X:Cx} {cl:Aag}
def V7(g:List D->R D)(fs:FA):FX:=fun δ S=>(fs δ S).bind fun vs S1=>match BH S1 vs with
 | some ds=>(R3.of (g ds) S1).bind fun d S=>R3.bV (kh d) (.ok (.d d) S)
 | none=> .no
end
end L3
end
section
namespace L2
open PySem PySem.Spec PyProof.Rows
section
variable {X:Cx}
def Y3(f:FD):FD:=fun δ=>(f δ).bind fun d=>match d with | .int i=> .ok (.int (-i - 1)) | _=> .no
def ZZ(d:D)(lo hi:Option Int):R D:=match d with
 | .tup ds=>R.bV (decide (¬(HT.vE ds.length 0 lo=0/\HT.vE ds.length ds.length hi=ds.length))) (.ok (.tup (cutD ds lo hi)))
 | _=> .no
def Zt(f:FD)(fl fh:FO):FD:=fun δ=>(f δ).bind fun d=>(fl δ).bind fun lo=>(fh δ).bind fun hi=>ZZ d lo hi
end
end L2
namespace L3
open PySem PySem.Spec PyProof.Rows L2
section
variable {X:Cx} {cl:Aag}
structure PZc (X:Cx) (cl:Aag) (st:List Stmt) (F:FZ):Prop where
 go:AE X st (fun D σ H=>D.ct=D.nx/\sX X.K cl F D σ H)
end
end L3
end
section
namespace L2
open PySem PySem.Spec PyProof.Rows
end L2
namespace L3
open PySem PySem.Spec PyProof.Rows L2
section
variable {X:Cx} {cl:Aag}
def Y6(i:Nat)(f:FX):FX:=fun δ S=>match kj δ i with
 | none=> .no
 | some k=>match du S k with
   | none=> .no
   | some _=>(f δ S).bind fun v S1=>match v with
     | .d (.int j)=>(match du S1 k with
       | some ds=>(match HD ds.length j with
         | some p=>(match ds[p]? with | some d=>R3.bV (decide (-(2 ^ 63)<=j/\j<2 ^ 63)) (.ok (.d d) (S1.set k (.lst (ds.eraseIdx p)))) | none=> .no)
         | none=> .no)
       | none=> .no)
     | _=> .no
end
section
variable {X:Cx} {cl:Aag}
def ZP(f:FX)(fl fh:R5):FX:=fun δ S=>(f δ S).bind fun v S1=>(fl δ S1).bind fun lo S2=>(fh δ S2).bind fun hi S3=>match v with
 | .lst vs=> .ok (.lst (L2.cutD vs lo hi)) S3
 | _=> .no
end
end L3
end
section
namespace L2
open PySem PySem.Spec PyProof.Rows
section
variable {X:Cx}
def VZ:List V->Hp->VK->Prop:=fun xs H Q=>∃a kvs ns,xs=[V.ref a]/\H a=some (.dK kvs)/\kvs.map (·.1)=ns.map Sum.inl/\ns.length<64/\∀p,H p=none->Q (.ref p) (upd H p (.lst ((IF ns).map V.int)))
end
end L2
end
section
namespace L3
open PySem PySem.Spec PyProof.Rows L2
section
variable {X:Cx} {cl:Aag}
def Di(kvs:List (Key × D))(k:Key)(d:D):List (Key × D):=if(kvs.any fun kv=>decide (kv.1=k))=true then kvs.map (fun kv=>if kv.1=k then(kv.1,d) else kv) else kvs++[(k,d)]
def uL(S:aN)(k:Nat):Option (List (Key × D)):=match S[k]? with | some (.dct kvs)=>some kvs | _=>none
def DM{S:aN}{k:Nat}{kvs:List (Key × D)}(h:uL S k=some kvs):S[k]? =some (.dct kvs):=by
 unfold uL at h;split at h
 .rename_i e;cases h;exact e
 .cases h
theorem Ge{α β:Type}(k:Key):∀{a:List (Key × α)} {b:List (Key × β)},a.map (·.1)=b.map (·.1)->(a.any fun kv=>decide (kv.1=k))=b.any fun kv=>decide (kv.1=k)
 | [],[],_=>rfl
 | [],_ ::_,h=>by simp at h
 | _ ::_,[],h=>by simp at h
 | x ::a,y ::b,h=>by
   rw[Qay,Qay] at h;obtain⟨h1,h2⟩:=Qb8 h;rw[QbC,QbC,Ge k h2,h1]
def FU{K:Qdc}{B:List Addr}{k:Key}{d:D}{v:V}(rv:Rep K B H d v):∀{kvs:List (Key × D)} {ys:List (Key × V)},ys.map (·.1)=kvs.map (·.1)->aL K B H (kvs.map (·.2)) (ys.map (·.2))->
 (ys.map fun kv=>if kv.1=k then(kv.1,v) else kv).map (·.1)=(kvs.map fun kv=>if kv.1=k then(kv.1,d) else kv).map (·.1)/\aL K B H ((kvs.map fun kv=>if kv.1=k then(kv.1,d) else kv).map (·.2)) ((ys.map fun kv=>if kv.1=k then(kv.1,v) else kv).map (·.2))
 | [],[],_,_=>⟨rfl,aL.nil⟩
 | [],_ ::_,h,_=>by simp at h
 | _ ::_,[],h,_=>by simp at h
 | (k1,d1) ::kvs,(k2,v2) ::ys,h,r=>by
   obtain⟨h1,h2⟩:=Qb8 h;have h1:k2=k1:=h1;subst h1;obtain⟨x,r',e,q1,q2⟩:=aL.cN r;cases e;obtain⟨i1,i2⟩:=FU rv h2 q2;simp only[Qay];by_cases hk:k2=k
   .rw [QaD hk,QaD hk];exact⟨by rw[i1],aL.cons rv i2⟩
   .rw [QaB hk,QaB hk];exact⟨by rw[i1],aL.cons q1 i2⟩
def Ti{K:Qdc}{B:List Addr}{k:Key}{d:D}{v:V}(rv:Rep K B H d v){kvs:List (Key × D)}{ys:List (Key × V)}(h:ys.map (·.1)=kvs.map (·.1))(r:aL K B H (kvs.map (·.2)) (ys.map (·.2))) :
 (putK ys k v).map (·.1)=(Di kvs k d).map (·.1)/\aL K B H ((Di kvs k d).map (·.2)) ((putK ys k v).map (·.2)):=by
 unfold putK Di;rw[Ge k h];split
 .exact FU rv h r
 .rw [Qas,Qas,Qas,Qas,h];exact⟨rfl,r.append (aL.cons rv aL.nil)⟩
def Yl:FX:=fun δ S=> .ok (.loc S.length) (S++[.dct []])
def Yi(fo fi fe:FX):FZ:=fun δ S=>(fe δ S).bind fun v S1=>(fo δ S1).bind fun o S2=>(fi δ S2).bind fun j S3=>match v,o,j with
 | .d d, .loc k, .d (.int n)=>(match uL S3 k with | some kvs=>R3.bV (decide (kvs.length<sizeLine)) (.ok (.nx δ) (S3.set k (.dct (Di kvs (Sum.inl n) d)))) | none=> .no)
 | _,_,_=> .no
def Y7(fa fo:FX):FX:=fun δ S=>(fa δ S).bind fun j S1=>(fo δ S1).bind fun o S2=>match j,o with
 | .d (.int n), .loc k=>(match uL S2 k with | some kvs=> .ok (.d (.bl (kvs.any fun kv=>decide (kv.1=Sum.inl n)))) S2 | none=> .no)
 | _,_=> .no
def intK?:List Key->Option (List Int)
 | []=>some []
 | .inl n ::ks=>(intK? ks).map (n ::·)
 | .inr _ ::_=>none
def Wf(f:FX):FX:=fun δ S=>(f δ S).bind fun o S1=>match o with
 | .loc k=>(match uL S1 k with
   | some kvs=>(match intK? (kvs.map (·.1)) with | some ns=>R3.bV (decide (ns.length<64)) (.ok (.d (.lst ((IF ns).map .int))) S1) | none=> .no)
   | none=> .no)
 | _=> .no
end
end L3
end
section
namespace L2
open PySem PySem.Spec PyProof.Rows
section
variable {X:Cx}
def UX:V->List V->Hp->VK->Prop:=fun x vs H Q=>∃(l:Addr) (xs:List V) (j:Int) (i:Nat) (y:V),x= .ref l/\vs=[.int j,y]/\H l=some (.lst xs)/\j=i/\i<=xs.length/\xs.length<sizeLine/\Q .cR (upd H l (.lst (xs.take i++y ::xs.drop i)))
end
end L2
namespace L3
open PySem PySem.Spec PyProof.Rows L2
section
variable {X:Cx} {cl:Aag}
def Z9(i:Nat)(f g:FX):FZ:=fun δ S=>match kj δ i with
 | none=> .no
 | some k=>match du S k with
   | none=> .no
   | some _=>(f δ S).bind fun v S1=>match v with
     | .d (.int j)=>(g δ S1).bind fun w S2=>(match w with
       | .d d=>(match du S2 k with
         | some ds=>R3.bV (decide (0<=j/\j.toNat<=ds.length/\ds.length<sizeLine)) (.ok (.nx δ) (S2.set k (.lst (ds.take j.toNat++d ::ds.drop j.toNat))))
         | none=> .no)
       | _=> .no)
     | _=> .no
end
section
variable {X:Cx} {cl:Aag}
structure U7 (X:Cx) (pos:Pos) (keys:List (Option Expr)) (values:List Expr) (ks:List Str) (g:az->R (List D)):Prop where
 h:∃Gi,Td X pos keys values Gi/\∀(σ:L2.St) (H:Hp) (Q:List (V × V)->Hp->Prop),(∃Z B δ ds,eD X.K Z B H σ δ/\g δ= .ok ds/\∀vs H',aX H H'->aL X.K B H' ds vs->Q ((ks.zip vs).map fun p=>(V.str p.1,p.2)) H')->AG Gi σ H Q
def M4:U7 X pos [] [] [] aH:=⟨[],MB,fun σ H Q ⟨Z,B,δ,ds,E,hf,q⟩=>by
 cases hf;exact q [] H (fun _ _ e=>e) aL.nil⟩
def tQ{keys:List (Option Expr)}{ks:List Str}{g:az->R (List D)}(hk:QD X ke (eC (.str k)))(hv:QD X ve f)(hr:U7 X pos keys values ks g):U7 X pos (some ke ::keys) (ve ::values) (k ::ks) (aj f g):=by
 obtain⟨Gi,h1,h2⟩:=hr.h;refine⟨_,Kw hk.1 hv.1 h1,fun σ H Q ⟨Z,B,δ,ds,E,hf,q⟩=>?_⟩
 obtain⟨d1,e1,e2⟩:=R.aq hf;obtain⟨ds',e3,e4⟩:=R.aq e2;cases e4;refine⟨Z,B,δ, .str k,E,rfl,fun x H1 s1 r1=>⟨Z,B,δ,d1,E.same s1,e1,fun y H2 s2 r2=>h2 σ H2 _ ⟨Z,B,δ,ds',(E.same s1).same s2,e3,fun vs H3 s3 r3=>?_⟩⟩⟩
 rw[Rep.str.mp r1];exact q (y ::vs) H3 (s1.trans (s2.trans s3)) (aL.cons (r2.same s3) r3)
def xp(ks:List Str)(ns:List Int):List (Key × D):=(ks.zip ns).foldl (fun acc p=>Di acc (Sum.inr p.1) (.int p.2)) []
def zT(ks:List Str)(g:az->R (List D)):FX:=fun δ S=>(R3.of (g (down δ)) S).bind fun ds S=>match ints? ds with
 | some ns=>R3.bV (decide (ns.length=ks.length/\ks.length<=15)) (.ok (.loc S.length) (S++[.dct (xp ks ns)]))
 | none=> .no
theorem dR{K:Qdc}{B:List Addr}:∀{ds:List D} {ns:List Int} {vs:List V},ints? ds=some ns->aL K B H ds vs->vs=ns.map V.int
 | [],ns,vs,h,r=>by
   unfold aL at r;subst r;cases h;rfl
 | d ::ds,ns,vs,h,r=>by
   obtain⟨x,r',rfl,h1,h2⟩:=r.cN
   match d,h,h1 with
   | .int n,h,h1=>
     obtain⟨ms,e1,rfl⟩:=qu (show(ints? ds).map (n ::·)=some ns from h)
     rw[Rep.int.mp h1,dR e1 h2];rfl
def E6{K:Qdc}{B:List Addr}:∀(ps:List (Str × Int)) {kvs:List (Key × D)} {ys:List (Key × V)},ys.map (·.1)=kvs.map (·.1)->aL K B H (kvs.map (·.2)) (ys.map (·.2))->
 (mF ys (ps.map fun p=>((Sum.inr p.1:Key),V.int p.2))).map (·.1)=(ps.foldl (fun acc p=>Di acc (Sum.inr p.1) (.int p.2)) kvs).map (·.1)/\aL K B H ((ps.foldl (fun acc p=>Di acc (Sum.inr p.1) (.int p.2)) kvs).map (·.2)) ((mF ys (ps.map fun p=>((Sum.inr p.1:Key),V.int p.2))).map (·.2))
 | [],_,_,h,r=>⟨h,r⟩
 | p ::ps,kvs,ys,h,r=>by
   obtain⟨a,b⟩:=Ti (k:=Sum.inr p.1) (d:= .int p.2) (v:=V.int p.2) (Rep.int.mpr rfl) h r;exact E6 ps a b
def JB{keys:List (Option Expr)}{values:List Expr}{ks:List Str}{g:az->R (List D)}(h:U7 X pos keys values ks g)(K1:keys.all (·.isSome)=true)(hl:keys.length=values.length)(h0:keys≠[])(WI:keys.length<=15):PX X cl (.Dict keys values pos) (zT ks g):=by
 obtain⟨Gi,h1,h2⟩:=h.h;refine⟨(MH h1 K1 hl h0 WI).imp fun σ H Q ⟨ρ,S,δ,v,S',E,hf,q⟩=>?_⟩
 obtain⟨ds,S1,e1,e2⟩:=R3.aq hf;obtain⟨e3,rfl⟩:=R3.of_ok e1;split at e2
 .rename_i ns Sh;obtain⟨hc,e4⟩:=R3.ba e2;cases e4;obtain⟨Lf,Si⟩:=Qak hc;intro p hp;refine h2 σ _ _ ⟨[],ρ.b,down δ,ds,E.down.same (bf hp),e3,fun vs H2 s2 r2=>?_⟩
  have hv:=dR Sh r2;subst hv;have hH2:H2 p=some (.dK []):=s2 p _ bj;have ez:(ks.zip (ns.map V.int)).map (fun p=>(V.str p.1,p.2))=((ks.zip ns).map fun p=>((Sum.inr p.1:Key),V.int p.2)).map (fun kv=>(kV kv.1,kv.2)):=by
   rw[List.zip_map_right,Qax,Qax];rfl
  refine⟨hH2,(ks.zip ns).map fun p=>((Sum.inr p.1:Key),V.int p.2),ez,by rw[Qaa,List.length_zip];omega,?_⟩
  have sA:aX H (upd H2 p (.dK (mF [] ((ks.zip ns).map fun p=>((Sum.inr p.1:Key),V.int p.2))))):=fun b u e=>by
   have hb:b≠p:=fun z=>by subst z;rw [hp] at e;cases e
   rw[aZ hb];exact s2 b u (by rw[aZ hb];exact e)
  obtain⟨m1,m2⟩:=E6 (K:=X.K) (B:=(ρ.push p).b) (H:=upd H2 p (.dK (mF [] ((ks.zip ns).map fun p=>((Sum.inr p.1:Key),V.int p.2))))) (ks.zip ns) (kvs:=[]) (ys:=[]) rfl aL.nil
  obtain⟨w,pr⟩:=E.sw.new (a:=p) (o:= .dct (xp ks ns)) sA hp ⟨_,bj,m1,m2⟩;exact q _ _ _ pr w (by unfold a_;exact⟨p,by show(ρ.r++[p])[_]? =_;rw [<-E.sw.len,Qae (by omega),QaQ];rfl,rfl⟩)
 .cases e2
def zy(kvs:List (Key × D))(k:Key):Option D:=(kvs.find? fun kv=>decide (kv.1=k)).map (·.2)
def B5(i:Nat)(f g:FD):FX:=fun δ S=>match kj δ i with
 | none=> .no
 | some k=>match uL S k with
   | none=> .no
   | some kvs=>(R3.of (f (down δ)) S).bind fun kd S=>(R3.of (g (down δ)) S).bind fun d S=>match kd with
     | .str x=> .ok (.d ((zy kvs (Sum.inr x)).getD d)) S
     | _=> .no
def N0{K:Qdc}{B:List Addr}{k:Key}:∀{kvs:List (Key × D)} {ys:List (Key × V)},ys.map (·.1)=kvs.map (·.1)->aL K B H (kvs.map (·.2)) (ys.map (·.2))->
 (zy kvs k=none/\lX ys k=none)\/∃d v,zy kvs k=some d/\lX ys k=some v/\Rep K B H d v
 | [],[],_,_=> .inl ⟨rfl,rfl⟩
 | [],_ ::_,h,_=>by simp at h
 | _ ::_,[],h,_=>by simp at h
 | (k1,d1) ::kvs,(k2,v2) ::ys,h,r=>by
   obtain⟨h1,h2⟩:=Qb8 h;have h1:k2=k1:=h1;subst h1;obtain⟨x,r',e,q1,q2⟩:=aL.cN r;cases e;by_cases hk:k2=k
   .refine .inr ⟨d1,v2,?_,?_,q1⟩
    .unfold zy;rw [Qbz,QaE hk];rfl
    .unfold lX;simp [hk]
   .have ih:=N0 (k:=k) h2 q2;have a1:zy ((k2,d1) ::kvs) k=zy kvs k:=by unfold zy;rw [Qbz,QaY hk]
    have a2:lX ((k2,v2) ::ys) k=lX ys k:=by unfold lX;simp [hk]
    rw[a1,a2];exact ih
def MI{i:Nat}{x:Str}{e e':Expr}{f g:FD}{eP apos cz:Pos}(hu:X.A.units+1<cLine)(hN:X.N[i]? =some x)(hv:GQ X.env.scope x)(he:QD X e f)(XD:QD X e' g)
 (hd:(x==("__debug__":Str))=false:=by decide) (qC:(x==("__classdict__":Str))=false:=by decide)
 (lT:attributeBase (.Name x eP) "get" X.env (eval (.Name x eP) X.env)=eval (.Name x eP) X.env:=by rfl)
 (rV:((backTo cz (starEach [e,e'] X.env)).all (fun x=>!x.1) && (backToKw cz (keywordEach [] X.env)).all (fun x=>x.1.isSome)
   && decide (([e,e']:List Expr).length+([]:List Keyword).length+(if([]:List Keyword).isEmpty then 0 else 1)<30))=true:=by rfl)
 (lR:(apos.endLine==cz.line)=true:=by rfl) (htr:backTo cz (starEach [e,e'] X.env)=[(false,eval e X.env),(false,eval e' X.env)]:=by rfl) :
 PX X cl (.Call (.Attribute (.Name x eP) "get" apos) [e,e'] [] cz) (B5 i f g):=by
 refine⟨(JF hu (pL hN hv hd qC) he.1 XD.1 ⟨lT,rV,lR,htr⟩).imp fun σ H Q ⟨ρ,S,δ,v,S',E,hf,q⟩=>?_⟩
 unfold B5 at hf;split at hf
 .cases hf
 .rename_i k hk;split at hf
  .cases hf
  .rename_i kvs UD;obtain⟨kd,S1,e1,e2⟩:=R3.aq hf;obtain⟨e3,rfl⟩:=R3.of_ok e1;obtain⟨dd,S2,e4,e5⟩:=R3.aq e2;obtain⟨e6,rfl⟩:=R3.of_ok e4;split at e5
   .rename_i xk;cases e5;obtain⟨u,u1,u2⟩:=E.val i _ (lM hk);unfold a_ at u2;obtain⟨a,a1,rfl⟩:=u2;obtain⟨ys,y1,y2,y3⟩:=E.sw.ob k a _ a1 (DM UD);refine⟨.ref a,u1,a,rfl, .inl ⟨_, .inl y1⟩,[],ρ.b,down δ, .str xk,E.down,e3,fun v1 H1 s1 r1=>⟨[],ρ.b,down δ,dd,E.down.same s1,e6,fun v2 H2 s2 r2=>?_⟩⟩
    have sA:aX H H2:=s1.trans s2;refine⟨lX ys (Sum.inr xk),by rw[Rep.str.mp r1];exact xY.k (k:=Sum.inr xk) (sA a _ y1),q _ ρ H2 (Pre.same sA) (E.sw.same sA) ?_⟩
    unfold a_;rcases N0 (k:=Sum.inr xk) y2 y3 with⟨b1,b2⟩ | ⟨d,v',b1,b2,b3⟩
    .rw [b1,b2];exact r2
    .rw [b1,b2];exact b3.same sA
   .cases e5
def Nj{ks:List Str}{g:az->R (List D)}{ns:List Int}{δ:DE}{S:aN}{QV:V3->aN->Prop}(e:g (down δ)= .ok (ns.map .int))(h1:ns.length=ks.length)(h2:ks.length<=15)(h:QV (.loc S.length) (S++[.dct (xp ks ns)])):W3 (zT ks g δ S) QV:=by
 unfold zT;refine W3.bind (W3.of e ?_);simp only[L2.ints_map];exact W3.wh (QaE ⟨h1,h2⟩) (W3.ok h)
def Py{i k:Nat}{f g:FD}{d:D}{kvs:List (Key × D)}{δ:DE}{S:aN}{QV:V3->aN->Prop}(hk:δ[i]? =some (some (.loc k)))(hS:S[k]? =some (.dct kvs))(e1:f (down δ)= .ok (.str x))(e2:g (down δ)= .ok d)(h:QV (.d ((zy kvs (Sum.inr x)).getD d)) S):W3 (B5 i f g δ S) QV:=by
 unfold B5;have l1:kj δ i=some k:=by unfold kj;rw [hk]
 have l2:uL S k=some kvs:=by unfold uL;simp only[hS]
 simp only[l1,l2];exact W3.bind (W3.of e1 (W3.bind (W3.of e2 (W3.ok h))))
end
end L3
end
section
namespace L2
open PySem PySem.Spec PyProof.Rows
section
variable {X:Cx}
def oG:List D->R D
 | [.tup ds]=>(match ints? ds with | some ns=> .ok (.int ns.sum) | none=> .no)
 | ds=>O4 ds
def Ah(hc:X.calm=true):dn X (.builtin "sum") oG:=by
 intro pins s σ H B ds d xs us I hb rx rs hg;unfold oG at hg;split at hg
 .split at hg
  .rename_i es ns e;cases hg;obtain⟨x,rfl,r⟩:=rs.one;obtain⟨a,ys,rfl,l,r⟩:=Rep.tup.mp r;obtain⟨u,rfl,ru⟩:=vals1 rx;cases ru;obtain⟨its,rv,ht,hz⟩:=I.tuple l.sq;rw[dR r e] at rv;obtain⟨ps,rfl,rfl⟩:=gL rv;have hl:s.heap.IsTuple a (intItems ps.toArray):=by
    have ht:s.heap.IsTuple a (ps.map fun p=>Value.int p.1 p.2).toArray:=ht
    simpa [intItems] using ht
   refine PySem.W.ktm_sumG (I.ok.hd hc) hl fun h' tk t' k=>⟨.int _,H,I.kept k,⟨t',rfl⟩,aX.refl H,Rep.int.mpr ?_⟩
   rw[preSum_eq,Qbi (by simp)]
  .cases hg
 .exact Sw hc pins s σ H B ds d xs us I hb rx rs hg
end
section
variable {X:Cx}
def XZ(d e:D):R D:=match d,e with
 | .tup a, .int k=>R.bV (decide (2<=k/\k<1000/\a≠[]/\a.length*k.toNat<=sizeLine)) (.ok (.tup (List.replicate k.toNat a).flatten))
 | d,e=>nG d e
end
def DB(P:Program)(w:World):HG:=fun outer H s E e s'=>
 ∃(a:Addr) (B:Heap) (cls a0:Value) (H':Hp),e= .ref a/\s'.os=s.os/\AllBare s'.gens/\Un (ro outer) [] H H' s.heap s'.heap/\oF P w H' s'.heap/\Heap.FlyingW B outer a cls a0 s'.heap/\
  (∀b o,s'.heap.get? b=some o->b ∉ ro outer->((∃u,s.heap.get? b=some u)\/∃u,H' b=some u)->B.get? b=some o)/\E cls none H'
section
variable {X:Cx} {pins:Aaa} {σ:St} {H1 H':Hp} {s1 s':Qdd} {B Sn:Heap} {a:Addr} {cls a0:Value} {E:XK}
def zV{H:Hp}{h:Heap}{b:Addr}{o:HO}(k:oF P w H h)(e:H b=some o):∃u,h.get? b=some u:=by
 have hx:=k b o e
 induction o with
 | lst xs=>obtain⟨_,_,_,_,e⟩:=hx;exact⟨_,e⟩
 | tup xs=>obtain⟨_,_,_,o,e,_⟩:=hx;exact⟨_,e⟩
 | dK kvs=>obtain⟨_,_,_,_,o,_,_,e,_⟩:=hx;exact⟨_,e⟩
 | dT kvs=>obtain⟨_,_,_,_,o,_,_,e,_⟩:=hx;exact⟨_,e⟩
 | set S n=>obtain⟨o,_,_,_,e,_⟩:=hx;exact⟨_,e⟩
 | ins C dx fs=>obtain⟨_,_,_,e,_⟩:=hx;exact⟨_,e⟩
 | own y=>exact hx
 | xd fs=>obtain⟨_,⟨o,_,_,e,_⟩,_⟩:=hx;exact⟨_,e⟩
 | rng lo hi=>obtain⟨_,_,_,e⟩:=hx;exact⟨_,e⟩
 | lV o u _=>exact⟨_,hx.1⟩
 | tbl ps=>exact⟨_,hx⟩
 | met f x=>exact⟨_,hx⟩
 | ext φ=>exact hx.2.1
def HY(I:Inv X pins σ H1 s1)(xV:X.stack=X.env ::X.outer)(hf:X.env.frame=some X.env.locals)(hex:X.ex=[])(os:s'.os=s1.os)(bare:AllBare s'.gens)(un:Un (ro X.stack) [] H1 H' s1.heap s'.heap)(hok:oF X.prog X.w H' s'.heap)
 (EI:∀b o,s'.heap.get? b=some o->b ∉ ro X.stack->((∃u,s1.heap.get? b=some u)\/∃u,H' b=some u)->B.get? b=some o) (fl:Heap.FlyingW B X.outer a cls a0 Sn) (up:s'.heap.UpToSlots Sn) (e:E cls none H') :
 DB X.prog X.w X.outer X.H₀ X.s₀ E (.ref a) {s' with heap:=Sn}:=by
 have Lz:∀b,b∈ro X.stack↔b=X.env.locals\/b∈ro X.outer:=fun b=>by
  rw[xV];unfold ro;rw [Qca,hf];exact Qar
 have hfree:∀b,b∈ro X.stack->H' b=none:=fun b hb=>by
  obtain⟨_,o,ho,_⟩:=I.stack.mem hb;exact un.free b o ho (I.ql b hb) (by simp)
 have old:∀b o,X.s₀.heap.get? b=some o->b≠X.env.locals:=fun b o q=>QaO (QaC (Qaw q) I.ok.above)
 have thr:∀b o,X.s₀.heap.get? b=some o->∃u,s1.heap.get? b=some u:=fun b o q=>I.base.there b o q (by rw[hex];simp)
 have thr2:∀b o,s1.heap.get? b=some o->∃u,s'.heap.get? b=some u:=fun b o q=>un.there b o q (by simp)
 have stB:∀b o,B.get? b=some o->Sn.get? b=some o:=fl.1;have Lp:∀b o,H' b=some o->∀u,s'.heap.get? b=some u->Sn.get? b=some u:=fun b o q u hu=>stB b u (EI b u hu (fun hb=>by rw[hfree b hb] at q;cases q) (.inr ⟨o,q⟩))
 refine⟨a,B,cls,a0,H',rfl,os.trans I.os,bare,⟨fun b o q n hb _=>?_,fun b o q n hb _=>?_,fun b o q n _=>?_,fun b o q _=>?_,fun b xs q=>un.tups b xs (I.base.tups b xs q),fun b o u q=>un.frzs b o u (I.base.frzs b o u q),fun b ps q=>?_⟩,fun b o q=>?_,fl,fun b o q hb Ve=>?_,e⟩
 .have h1:=I.base.keep b o q n hb (by rw[hex];simp)
  have n1:=I.base.free b o q n (by rw[hex];simp)
  have qB:b ∉ ro X.stack:=fun z=>((Lz b).mp z).elim (old b o q) hb
  have h2:=un.keep b o h1 n1 qB (by simp)
  exact stB b o (EI b o h2 qB (.inl ⟨o,h1⟩))
 .obtain⟨sl,h1⟩:=I.base.slot b o q n hb (by rw[hex];simp)
  have n1:=I.base.free b o q n (by rw[hex];simp)
  obtain⟨OP,h2⟩:=un.slot b _ h1 n1 ((Lz b).mpr (.inr hb)) (by simp)
  obtain⟨_,o',C7,hd⟩:=I.ok.sS.mem hb;rw[q] at C7;cases C7;obtain⟨RP,h3⟩:=up b _ h2 hd;exact⟨RP,h3⟩
 .obtain⟨u,h1⟩:=thr b o q;exact un.free b u h1 (I.base.free b o q n (by rw[hex];simp)) (by simp)
 .obtain⟨u,h1⟩:=thr b o q;obtain⟨u2,h2⟩:=thr2 b u h1;by_cases hb:b∈ro X.outer
  .obtain⟨_,o',C7,hd⟩:=I.stack.mem ((Lz b).mpr (.inr hb));obtain⟨sl,h3⟩:=un.slot b o' C7 (I.ql b ((Lz b).mpr (.inr hb))) ((Lz b).mpr (.inr hb)) (by simp)
   obtain⟨RP,h4⟩:=up b _ h3 hd;exact⟨_,h4⟩
  .exact⟨u2,stB b u2 (EI b u2 h2 (fun z=>((Lz b).mp z).elim (old b o q) hb) (.inl ⟨u,h1⟩))⟩
 .obtain⟨m1,e1⟩:=I.base.tbls b ps q;obtain⟨m2,e2⟩:=un.tbls b _ e1;exact⟨m1++m2,by rw[e2,Array.append_assoc]⟩
 .refine(hok b o q).vd (fun c u hc hu=>?_) (fun c z=>z) (fun c xs z=>z)
  rcases hc with rfl | hc
  .exact Lp c o q u hu
  .exact Lp c _ hc u hu
 .have qB:b≠X.env.locals:=fun z=>by
   subst z;rcases Ve with⟨u,hu⟩ | ⟨u,hu⟩
   .exact old _ u hu rfl
   .rw [hfree _ ((Lz _).mpr (.inl rfl))] at hu;cases hu
  have hb2:b ∉ ro X.stack:=fun z=>((Lz b).mp z).elim qB hb
  have:(∃u,s1.heap.get? b=some u)\/∃u,H' b=some u:=Ve.imp (fun⟨u,hu⟩=>thr b u hu) id
  obtain⟨u,hu⟩:∃u,s'.heap.get? b=some u:=this.elim (fun⟨u,hu⟩=>thr2 b u hu) fun⟨u,hu⟩=>zV hok hu
  have h3:=EI b u hu hb2 this;have h4:=stB b u h3;rw[q] at h4;cases h4;exact h3
end
section
variable {P:Program} {w:World} {K:Qdc} {mg:Aaf} {base:Heap} {N:List Str} {qual:Str} {scope:Scope} {f:Addr} {cd:Value} {A:Around} {outer:List Env} {s:Qdd} {H:Hp} {E:XK}
def Ut:Passes (DB P w) (pN (DB P w) P w K mg base N qual scope f cd A outer s H E) E:=by
 intro pins σ H1 s1 e s' I hc;obtain⟨a,B,cls,a0,H',rfl,os,bare,un,hok,fl,EI,hE⟩:=hc;exact wpAny_leaves_onW (env:=envOfC qual scope s.heap.objs.size f cd) (outer:=outer) (L:=s.heap.objs.size) I.ok.frames rfl fl fun h' f1 up=>HY I rfl rfl rfl os bare un hok EI f1 up hE
def Q9{pins:Aaa}{s1:Qdd}{a:Addr}{cls:Value}{vs:List Value}(I:Inv (pN (DB P w) P w K mg base N qual scope f cd A outer s H E) pins σ H1 s1)(hx:Heap.MadeExcOf s1.heap h' a cls vs)(hE:E cls none H1) :
 (pN (DB P w) P w K mg base N qual scope f cd A outer s H E).xe (.ref a) {s1 with heap:=h'}:=by
 have hin:∀env∈(envOfC qual scope s.heap.objs.size f cd ::outer),∀b,env.frame=some b->b∈ro (envOfC qual scope s.heap.objs.size f cd ::outer):=fun env he b hb=>QcT.mpr ⟨env,he,hb⟩
 have ff:s1.heap.FunFrames base (envOfC qual scope s.heap.objs.size f cd ::outer):=I.stack;refine wpAny_leaves_madeW (env:=envOfC qual scope s.heap.objs.size f cd) (outer:=outer) (L:=s.heap.objs.size) (base:=PySem.W.hideAll s1.heap (ro (envOfC qual scope s.heap.objs.size f cd ::outer))) (h:=s1.heap) (s:={s1 with heap:=h'}) I.ok.frames rfl (fun b o q=>PySem.W.of_hideAll _ q) (PySem.W.funFrames_hide ff hin) hx fun Sn t x1 x2 x3 x4=>?_
 exact HY (s':={s1 with heap:=h'}) I rfl rfl rfl rfl I.bare (Un.kept hx.keeps) (I.hok.kept hx.keeps) (fun b o q hb Ve=>by
  obtain⟨u,hu⟩:∃u,s1.heap.get? b=some u:=Ve.elim id fun⟨u,hu⟩=>zV I.hok hu
  have h2:=hx.keeps b u hu;have q:h'.get? b=some o:=q;rw[q] at h2;cases h2;exact QcM _ hu hb) x1 x4 hE
end
def Sd:List Value:=[.type "ValueError", .type "Exception", .type "BaseException", .type "object"]
structure XC (K:Qdc) (C:Addr):Prop where
 ex:PySem.W.excIn K C Sd "ValueError.__new__"=true
 ga:PySem.W.findIn K (.ref C) "__getattribute__"=some (some (.builtin "BaseException.__getattribute__"))
 gt:PySem.W.findIn K (.ref C) "__getattr__"=some none
 co:PySem.W.findIn K (.ref C) "__class__"=some (some (.builtin "object.__class__"))
 gs:PySem.W.specialIn K (.builtin "object.__class__") "__get__"=some (some (.builtin "getset_descriptor.__get__"))
 tk:PySem.W.takesIn K (.builtin "object.__class__")=some true
 mo:PySem.W.mroIn K C (.type "object")=some true
 mb:PySem.W.mroIn K C (.type "BaseException")=some true
 ic:(PySem.W.clsIn K C).isSome=true
def AB(x C:Addr)(h:Heap):Prop:=∃o,h.get? x=some o/\o.cls= .ref C
def AB.ty{M:Model}{x C:Addr}(I:AB x C h):PySem.W.Looks M h (typeOf (.ref x)) (.ref C):=by
 obtain⟨o,e,c⟩:=I;exact c▸(PySem.W.Looks.ld e).andThen .now
section
variable {prog:Program} {w:World} {A:Around} {E:Aab} {s:Qdd} {K:Qdc} {x C:Addr}
def KO{M:Model}(T:XC K C)(X:K.In h):PySem.W.Looks M h (Builtin.ObjectAttr.find (.ref x) (.ref C) "__class__") (.bind (.builtin "getset_descriptor.__get__") (.builtin "object.__class__")):=by
 have a1:=Qb6 (M:=M) X T.co;have a2:PySem.W.Looks M h (Builtin.ObjectAttr.getOf (some (.builtin "object.__class__"))) (some (.builtin "getset_descriptor.__get__")):=PySem.W.looks_specialIn X T.gs;have a3:=PySem.W.looks_takesIn (M:=M) X T.tk;exact a1.andThen (a2.andThen ((show PySem.W.Looks M h (Builtin.ObjectAttr.dataDescriptor? (some (.builtin "object.__class__")) (some (.builtin "getset_descriptor.__get__"))) (some (.builtin "getset_descriptor.__get__", .builtin "object.__class__")) from a3.andThen .now).andThen (PySem.W.Looks.tag .now)))
def My{tp:Value}{R:Result->Qdd->Prop}(T:XC K C)(X:K.In s.heap)(I:AB x C s.heap)(h:R (.ok (.ret (.ref C))) s) :
 codeAny (model prog w) A (.call (.builtin "getset_descriptor.__get__") ⟨[.builtin "object.__class__", .ref x,tp],[]⟩) R s:=by
 obtain⟨hp,gn,dr,tk,oo⟩:=s;have b0:=I.ty (M:=model prog w);have b1:=PySem.W.looks_mroIn (M:=model prog w) X T.mo;refine codeAny_call_builtin PySem.W.KF.slot_gs.plain PySem.W.KF.entry_gs (PySem.W.KF.slot_gs.check _ _ _ _ _ _ _ _ PySem.W.KF.type_class (PySem.W.KF.args_gs _ _ _) ?_);unfold Builtin.«getset_descriptor.__get__» PySem.Builtin.Getset_descriptor.descrGet;rw[PySem.W.dga_obj];refine Qaf (QaK ?_);unfold PySem.Builtin.Getset_descriptor.descrGetter PySem.Builtin.Getset_descriptor.descrCheckInstance PySem.Builtin.Getset_descriptor.descrNameAndClass isInstance;simp only[PySem.W.KF.owner_class]
 repeat lk
 refine⟨Code.quiet_builtin _ (by decide+kernel),codeAny_builtin PySem.W.KF.entry_class ?_⟩
 unfold Builtin.«object.__class__» shownTypeOf
 repeat lk
 exact h
def Qx{tk:Tok}{R:Result->Qdd->Prop}(T:XC K C)(X:K.In s.heap)(I:AB x C s.heap)(h:R (.ok (.ret (.ref C))) s) :
 codeAny (model prog w) A (.call (.builtin "BaseException.__getattribute__") ⟨[.ref x, .str "__class__" tk],[]⟩) R s:=by
 have L0:=I.ty (M:=model prog w);have L1:=KO (M:=model prog w) (x:=x) T X;have LM:=PySem.W.looks_mroIn (M:=model prog w) X T.mb;have LI:PySem.W.Looks (model prog w) s.heap (isInstance (.ref x) (.type "BaseException")) true:=L0.andThen LM;have hk:builtinKind "BaseException.__getattribute__"=some .slot:=by decide+kernel
 have Lu:splitId "BaseException.__getattribute__"=some ("BaseException","__getattribute__"):=by decide+kernel
 have ha:=PySem.F.args_bexc_ga (.ref x) (.str "__class__" tk);refine codeAny_call_builtin Qc0.ga.plain PySem.F.entry_bexc_ga ?_;obtain⟨hh,g,d,t,os⟩:=s;simp only[checkBuiltinCall,hk,Lu];refine Qaf (LI.at ?_);simp only[Bool.not_true,QbZ,if_false];refine wpAny_of_eq ha ?_;refine Qaf (QaK (Qaf (QaK (Qaf (L0.at (Qaf (L1.at ?_)))))));show wpAny _ _ (holding [Value.builtin "object.__class__"] (call (.builtin "getset_descriptor.__get__") [.builtin "object.__class__", .ref x, .ref C]) >>=ret) _ _ _;refine Qaf (wpAny_holding (wpAny_call (My (s:=⟨hh,g,d,t,os⟩) T X I ?_)));exact QaK h
def Hi{Q:Option Value->Qdd->Prop}(T:XC K C)(X:K.In s.heap)(I:AB x C s.heap)(h:Q (some (.ref C)) {s with toks:=s.toks+1}):wpAny (model prog w) A (getAttr? (.ref x) "__class__") Q E s:=by
 obtain⟨hh,g,d,t,os⟩:=s;have L0:=I.ty (M:=model prog w);have L1:=Qb6 (M:=model prog w) X T.ga;have L2:=Qb6 (M:=model prog w) X T.gt;have hb:=Qc0.ga.bind (.ref x);unfold getAttr? getAttrBy? getAttrBy;refine Qaf (wpAny_mkText (Qaf (Qct (wpAny_holding (Qaf (L0.at (Qaf (L1.at ?_))))))));have tV:(onTheHeap (Value.ref C) && Value.builtin "BaseException.__getattribute__"==Value.builtin "object.__getattribute__")=false:=by
  have z:(Value.builtin "BaseException.__getattribute__"==Value.builtin "object.__getattribute__")=false:=by decide+kernel
  rw[z];exact Bool.and_false _
 dsimp only;rw[tV,QaB Qaz];unfold getAttrByItsOwn hookBefore;refine Qaf (L2.at ?_);refine Qaf (Qct (wpAny_holding ?_));show wpAny _ _ (boundAndCalled _ _ _) _ _ _;unfold boundAndCalled;rw[hb];refine Qaf (QaK ?_);refine wpAny_call (Qx (s:=⟨hh,g,d,t+1,os⟩) T X I ?_);show wpAny _ _ (handedOut (.ref C)) _ _ _;exact PySem.W.handed_on rfl (QaK h)
def JW(T:XC K C):PySem.W.KitX K (.ref x) (.ref C) (AB x C) where
 ty:=fun _ _ _ I=>I.ty
 it:=fun M h X _=>by
  obtain⟨cd,hc⟩:=Qch.mp T.ic;unfold PySem.W.clsIn at hc;split at hc
  .rename_i ho;intro A' Q' E' s' k q;unfold isType loadHead;exact Qaf (wpAny_loadPart (k _ _ (X _ _ ho)) (QaK q))
  .cases hc
 ne:=fun h tp dd its n sl X htp=>by
  obtain⟨cd,hc⟩:=Qch.mp T.ic;refine QbA.mpr fun q=>?_
  cases Value.ref.inj (Qba.mp q);unfold PySem.W.clsIn at hc;split at hc
  .rename_i ho;have z:=(X _ _ ho).symm.trans htp;cases z
  .cases hc
 ca:=fun X I k=>Hi T X I k
def MA(X:K.In h)(q:PySem.W.excIn K C Sd "ValueError.__new__"=true):∃bm N nm qn bs hdct sn sub ab col dd k0 k1 k2 k3 k5 mN,
 h.get? C=some (excClassObj nm qn C N bs bm hdct sn sub ab col dd k0 k1 k2 k3 k5 "ValueError.__new__")/\h.Ns N mN/\mN "__init__"=none/\OwnTail h Sd bm:=by
 unfold PySem.W.excIn at q;split at q
 .rename_i dd cd sl ho;split at q
  .rename_i C' bm k0 k1 k2 k3 n k5 hm hs;simp only[Qbn,Qba,Bool.not_eq_true'] at q;obtain⟨⟨⟨⟨⟨q1,q2⟩,q3⟩,q4⟩,q5⟩,q6⟩:=q;subst q1 q2;obtain⟨nm,bs,mro,ns,qn,hd,sn,sub,ab,col,del⟩:=cd;obtain⟨l⟩:=sl;dsimp only at hm hs q3 q5 q6;subst hm hs q3;exact⟨bm,ns,nm,qn,bs,hd,sn,sub,ab,col,dd,k0,k1,k2,k3,k5,_,X _ _ ho,Heap.Ns.of_isNs (PySem.W.isNs_of_in X q5),PySem.W.nsMap_none_of_in X q5 q6,PySem.W.tail_of_in X q4⟩
  .cases q
 .cases q
end
end L2
end
section
namespace L3
open PySem PySem.Spec PyProof.Rows L2
def R3.nO{α β:Type}{r:R3 α}{f:α->aN->R3 β}{c:Nat}{S':aN}(h:r.bind f= .ex c S'):r= .ex c S'\/∃a S,r= .ok a S/\f a S= .ex c S':=by
 cases r with
 | ok a S=>exact .inr ⟨a,S,rfl,h⟩
 | ex c' S=>cases h;exact .inl rfl
 | no=>cases h
def Ow{α:Type}(r:R3 α):R3 α:=match r with | .ex _ _=> .no | .ok a S=> .ok a S | .no=> .no
def ud{α:Type}{r:R3 α}{a:α}{S:aN}(h:Ow r= .ok a S):r= .ok a S:=by
 cases r with
 | ok b S=>exact h
 | ex c S=>cases h
 | no=>cases h
def DZ{α:Type}{r:R3 α}{c:Nat}{S:aN}(h:Ow r= .ex c S):False:=by
 cases r <;> cases h
def HI(K:Qdc)(cl:Aag)(E:XK)(ρ:P3)(H:Hp)(S':aN)(c:Nat):Prop:=∀ck H',Pre ρ H ck H'->SW K cl ck H' S'->E (.ref (cl c)) none H'
def HI.pre{K:Qdc}{cl:Aag}{E:XK}{S':aN}{c:Nat}(q:HI K cl E ρ H S' c)(p:Pre ρ H cq H1):HI K cl E cq H1 S' c:=fun ck H' p' w=>q ck H' (p.trans p') w
def Z4(K:Qdc)(cl:Aag)(E:XK)(f:FX):TE:=fun σ H Q=>∃ρ S δ,fW K cl ρ H S σ δ/\((∃v S',f δ S= .ok v S'/\∀u ck H',Pre ρ H ck H'->SW K cl ck H' S'->a_ K ck H' v u->Q u H')\/∃c S',f δ S= .ex c S'/\HI K cl E ρ H S' c)
def Vo(K:Qdc)(cl:Aag)(E:XK)(f:FA):TA:=fun σ H Q=>∃ρ S δ,fW K cl ρ H S σ δ/\((∃vs S',f δ S= .ok vs S'/\∀us ck H',Pre ρ H ck H'->SW K cl ck H' S'->aR K ck H' vs us->Q us H')\/∃c S',f δ S= .ex c S'/\HI K cl E ρ H S' c)
def U4(K:Qdc)(cl:Aag)(E:XK)(F:FZ):TS:=fun D σ H=>∃ρ S δ,fW K cl ρ H S σ δ/\((∃o S',F δ S= .ok o S'/\Ez K cl ρ H D S' o)\/∃c S',F δ S= .ex c S'/\HI K cl E ρ H S' c)
structure UT (X:Cx) (cl:Aag) (E:XK) (e:Expr) (f:FX):Prop where
 go:PE X e (Z4 X.K cl E f)
structure ND (X:Cx) (cl:Aag) (E:XK) (es:List Expr) (f:FA):Prop where
 go:PA X es (Vo X.K cl E f)
structure T6 (X:Cx) (cl:Aag) (E:XK) (st:Stmt) (F:FZ):Prop where
 go:PS X st (U4 X.K cl E F)
structure Ak (X:Cx) (cl:Aag) (E:XK) (st:List Stmt) (F:FZ):Prop where
 go:AE X st (U4 X.K cl E F)
section
variable {X:Cx} {cl:Aag} {E:XK}
def xOk(f:FX):FX:=fun δ S=>Ow (f δ S)
def wC(f:FA):FA:=fun δ S=>Ow (f δ S)
def Um(f:FZ):FZ:=fun δ S=>Ow (f δ S)
def nJ(h:Lm X cl es f):ND X cl E es (wC f):=⟨h.1.imp fun σ H Q ⟨ρ,S,δ,En,z⟩=>by
 rcases z with⟨v,S',hf,q⟩ | ⟨c,S',hf,q⟩
 .exact⟨ρ,S,δ,v,S',En,ud hf,q⟩
 .exact(DZ hf).elim⟩
def zW{st:List Stmt}(h:Hy X cl st F):Ak X cl E st (Um F):=⟨h.1.imp fun D σ H ⟨ρ,S,δ,En,z⟩=>by
 rcases z with⟨v,S',hf,q⟩ | ⟨c,S',hf,q⟩
 .exact⟨ρ,S,δ,v,S',En,ud hf,q⟩
 .exact(DZ hf).elim⟩
def DU(K:Qdc)(cl:Aag)(n:Nat)(g:List V3->aN->R3 V3):Sp:=fun vs H Q E=>vs.length=n/\∃ρ S xs,SW K cl ρ H S/\aR K ρ H xs vs/\
 ((∃v S',g xs S= .ok v S'/\∀u ck H',Pre ρ H ck H'->SW K cl ck H' S'->a_ K ck H' v u->Q u H')\/∃c S',g xs S= .ex c S'/\HI K cl E ρ H S' c)
def de(P:Program)(w:World)(K:Qdc)(mg:Aaf)(base:Heap)(cl:Aag)(k:Nat)(x:Str)(n:Nat)(g:List V3->aN->R3 V3):Prop:=
 ∃(f:Addr) (fd:FuncData) (ps:List Str),j2 P w K mg base (DB P w) k f fd ps (DU K cl n g)/\mg x=some (.ref f)/\PySem.W.keepIn K (.ref f)=true/\Binds K fd ps []
def xl{g:List V3->aN->R3 V3}{k j n:Nat}{x:Str}{p pos:Pos}{e:Expr}{es:List Expr}{fs:FA}(hp:Passes (DB X.prog X.w) X E)(C:de X.prog X.w X.K X.mg X.base cl k x n g)(hr:eW j X.A)(EG:k<=j)(hg:Gl X x)(ha:ND X cl E (e ::es) fs)
 (hn:∀δ S ds S',fs δ S= .ok ds S'->ds.length=n) (oi:(x==("__debug__":Str))=false:=by decide) (he:starEach (e ::es) X.env=(false,eval e X.env) ::starEach es X.env:=by rfl) (jY:(backTo pos (starEach es X.env)).any (·.1)=false:=by rfl) :
 UT X cl E (.Call (.Name x p) (e ::es) [] pos) (dg g fs):=by
 obtain⟨f,fd,ps,F,hm,hk,hb⟩:=C;refine⟨(vt F (hr.mono EG) hg hm hk hb .nil hp ha.1 oi he jY).imp fun σ H Q ⟨ρ,S,δ,En,z⟩=>⟨ρ,S,δ,En,?_⟩⟩
 have go:∀vs S1,fs δ S= .ok vs S1->((∃v S',g vs S1= .ok v S'/\∀u ck H',Pre ρ H ck H'->SW X.K cl ck H' S'->a_ X.K ck H' v u->Q u H')\/∃c S',g vs S1= .ex c S'/\HI X.K cl E ρ H S' c)->
  (∃vs S',fs δ S= .ok vs S'/\∀us ck H',Pre ρ H ck H'->SW X.K cl ck H' S'->aR X.K ck H' vs us->(fun vs H1=>DU X.K cl n g (vs++[]) H1 Q E) us H')\/∃c S',fs δ S= .ex c S'/\HI X.K cl E ρ H S' c:=fun vs S1 h1 h2=>by
  refine .inl ⟨vs,S1,h1,fun us cq H1 p1 w1 r1=>?_⟩
  show DU X.K cl n g (us++[]) H1 Q E;rw[Qa7];refine⟨by rw[<-r1.length];exact hn δ S vs S1 h1,cq,S1,vs,w1,r1,?_⟩
  rcases h2 with⟨v,S',h3,q⟩ | ⟨c,S',h3,q⟩
  .exact .inl ⟨v,S',h3,fun u tW H2 p2 w2 r2=>q u tW H2 (p1.trans p2) w2 r2⟩
  .exact .inr ⟨c,S',h3,q.pre p1⟩
 rcases z with⟨v,S',hf,q⟩ | ⟨c,S',hf,q⟩
 .obtain⟨vs,S1,h1,h2⟩:=R3.aq hf;exact go vs S1 h1 (.inl ⟨v,S',h2,q⟩)
 .rcases R3.nO hf with h1 | ⟨vs,S1,h1,h2⟩
  .exact .inr ⟨c,S',h1,q⟩
  .exact go vs S1 h1 (.inr ⟨c,S',h2,q⟩)
def tq{pos:Pos}(he:UT X cl E e f)(vn:swapsWith e none pos.line X.env=pure false:=by rfl):T6 X cl E (.Expr e pos) (uW f):=⟨(tm he.1 vn).imp fun D σ H ⟨ρ,S,δ,En,z⟩=>by
 refine⟨ρ,S,δ,En,?_⟩;rcases z with⟨o,S',hf,q⟩ | ⟨c,S',hf,q⟩
 .obtain⟨v,S1,h1,h2⟩:=R3.aq hf;cases h2;exact .inl ⟨v,_,h1,fun u cq H1 p1 w1 r1=>q _ cq H1 p1 (En.to p1 w1)⟩
 .rcases R3.nO hf with h1 | ⟨v,S1,h1,h2⟩
  .exact .inr ⟨c,S',h1,q⟩
  .cases h2⟩
def Se(f:FB):FB:=fun δ S=>Ow (f δ S)
def Kk(hc:E7 X cl c fc)(ha:Ak X cl E a F)(hb:Ak X cl E b G):T6 X cl E (.If c a b pos) (A5 (Se fc) F G):=⟨(Kg hc.1 ha.1 hb.1).imp fun D σ H ⟨ρ,S,δ,En,z⟩=>by
 have fin:∀k S1,fc δ S= .ok k S1->((∃o S',(if k then F δ S1 else G δ S1)= .ok o S'/\Ez X.K cl ρ H D S' o)\/∃c S',(if k then F δ S1 else G δ S1)= .ex c S'/\HI X.K cl E ρ H S' c)->Tg (Oi X.K cl fc) (U4 X.K cl E F) (U4 X.K cl E G) D σ H:=fun k S1 h1 h2=>by
  refine⟨ρ,S,δ,k,S1,En,h1,fun cq H1 p1 w1=>?_⟩
  cases k with
  | true=>
    refine Je ⟨cq,S1,δ,En.to p1 w1,?_⟩;rcases h2 with⟨o,S',h3,q⟩ | ⟨c,S',h3,q⟩
    .rw [QaD rfl] at h3;exact .inl ⟨o,S',h3,q.pre p1⟩
    .rw [QaD rfl] at h3;exact .inr ⟨c,S',h3,q.pre p1⟩
  | false=>
    refine Jq ⟨cq,S1,δ,En.to p1 w1,?_⟩;rcases h2 with⟨o,S',h3,q⟩ | ⟨c,S',h3,q⟩
    .rw [QaB (by decide)] at h3;exact .inl ⟨o,S',h3,q.pre p1⟩
    .rw [QaB (by decide)] at h3;exact .inr ⟨c,S',h3,q.pre p1⟩
 rcases z with⟨o,S',hf,q⟩ | ⟨c,S',hf,q⟩
 .obtain⟨k,S1,h1,h2⟩:=R3.aq hf;exact fin k S1 (ud h1) (.inl ⟨o,S',h2,q⟩)
 .rcases R3.nO hf with h1 | ⟨k,S1,h1,h2⟩
  .exact(DZ h1).elim
  .exact fin k S1 (ud h1) (.inr ⟨c,S',h2,q⟩)⟩
def Cd:Ak X cl E [] rJ:=⟨Az.imp fun D σ H ⟨ρ,S,δ,En,z⟩=>by
 rcases z with⟨o,S',hf,q⟩ | ⟨c,S',hf,q⟩
 .cases hf;exact q σ ρ H (Pre.refl ρ H) En
 .cases hf⟩
def si{st:Stmt}(h:T6 X cl E st F):Ak X cl E [st] F:=⟨zJ h.1⟩
def qq{st:Stmt}{rest:List Stmt}(h1:T6 X cl E st F)(h2:Ak X cl E rest G):Ak X cl E (st ::rest) (bt F G):=⟨(wq h1.1 h2.1).imp fun D σ H ⟨ρ,S,δ,En,z⟩=>by
 refine⟨ρ,S,δ,En,?_⟩;rcases z with⟨o,S',hf,q⟩ | ⟨c,S',hf,q⟩
 .obtain⟨o1,S1,h1,h2⟩:=R3.aq hf;refine .inl ⟨o1,S1,h1,?_⟩;cases o1 with
  | nx cX=>exact fun RV cq H1 p1 E1=>⟨cq,S1,cX,E1, .inl ⟨o,S',h2,q.pre p1⟩⟩
  | rt d=>cases h2;exact q
 .rcases R3.nO hf with h1 | ⟨o1,S1,h1,h2⟩
  .exact .inr ⟨c,S',h1,q⟩
  .refine .inl ⟨o1,S1,h1,?_⟩;cases o1 with
   | nx cX=>exact fun RV cq H1 p1 E1=>⟨cq,S1,cX,E1, .inr ⟨c,S',h2,q.pre p1⟩⟩
   | rt d=>cases h2⟩
def Eb(X:Cx)(E:XK):Prop:=∀(pins:Aaa) (σ:L2.St) (H:Hp) (s:Qdd) (h':Heap) (a:Addr) (cls:Value) (vs:List Value),Inv X pins σ H s->Heap.MadeExcOf s.heap h' a cls vs->E cls none H->X.xe (.ref a) {s with heap:=h'}
def Ax(c:Nat)(fs:FA):FZ:=fun δ S=>(fs δ S).bind fun vs S=>R3.bV (decide (vs.length<=sizeLine)) (.ex c S)
def Jk{C:Addr}{t:TA}{x:Str}{e:Expr}{es:List Expr}{np cz pos:Pos}(hf:Eb X E)(hc:X.calm=true)(T:XC X.K C)(hg:Gl X x)(hm:X.mg x=some (.ref C))(ha:PA X (e ::es) t)(oi:(x==("__debug__":Str))=false:=by decide)
 (he:starEach (e ::es) X.env=(false,eval e X.env) ::starEach es X.env:=by rfl) (jY:(backTo cz (starEach es X.env)).any (·.1)=false:=by rfl) :
 PS X (.Raise (some (.Call (.Name x np) (e ::es) [] cz)) none pos) (fun D σ H=>t σ H fun vs H1=>vs.length<=sizeLine/\E (.ref C) none H1):=by
 intro pins s σ H D I h;obtain⟨bm,N,nm,qn,bs,hdct,sn,sub,ab,col,dd,k0,k1,k2,k3,k5,mN,hC,hN,hni,OT⟩:=MA (C:=C) I.mod.kin T.ex;refine wpAny_Raise_call_subT (C:=C) (nm:=nm) (q:=qn) (N:=N) (bs:=bs) (bm:=bm) (hdct:=hdct) (sn:=sn) (sub:=sub) (ab:=ab) (col:=col) (dd:=dd) (k0:=k0) (k1:=k1) (k2:=k2) (k3:=k3) (k5:=k5) (bmB:=Sd) Qc1 (mN:=mN) (OT.hasType Qc1.hasBase) (I.ok.hd hc)
  (by rw[he];show(false || (backTo cz (starEach es X.env)).any (·.1))=false;rw [jY];rfl) hni (tL I hg hm ⟨rfl,?_⟩ oi)
 have hA:=ha cz pins s σ H _ I h;rw[he] at hA ⊢;refine QcE (QcB hA (fun us s2 ⟨vs,H1,I1,r,hl,hE⟩=>⟨rfl,by rw[<-r.length];exact hl,I1.bk _ _ hC,hN.keeps I1.bk,OT.keeps I1.bk,fun h' a hx=>hf pins σ H1 s2 h' a _ _ I1 hx hE⟩) fun _ _ y=>y)
def yE{c:Nat}{fs:FA}{x:Str}{e:Expr}{es:List Expr}{np cz pos:Pos}(hf:Eb X E)(hc:X.calm=true)(T:XC X.K (cl c))(hg:Gl X x)(hm:X.mg x=some (.ref (cl c)))(ha:ND X cl E (e ::es) fs)(oi:(x==("__debug__":Str))=false:=by decide)
 (he:starEach (e ::es) X.env=(false,eval e X.env) ::starEach es X.env:=by rfl) (jY:(backTo cz (starEach es X.env)).any (·.1)=false:=by rfl) :
 T6 X cl E (.Raise (some (.Call (.Name x np) (e ::es) [] cz)) none pos) (Ax c fs):=⟨(Jk hf hc T hg hm ha.1 oi he jY).imp fun D σ H ⟨ρ,S,δ,En,z⟩=>by
 refine⟨ρ,S,δ,En,?_⟩;rcases z with⟨o,S',hf,q⟩ | ⟨c',S',hf,q⟩
 .obtain⟨vs,S1,h1,h2⟩:=R3.aq hf;unfold R3.bV at h2;split at h2 <;> cases h2
 .rcases R3.nO hf with h1 | ⟨vs,S1,h1,h2⟩
  .exact .inr ⟨c',S',h1,q⟩
  .unfold R3.bV at h2;split at h2
   .rename_i hl;cases h2;exact .inl ⟨vs,_,h1,fun us cq H1 p1 w1 r1=>⟨by rw[<-r1.length];exact Qak hl,q cq H1 p1 w1⟩⟩
   .cases h2⟩
end
def tM{P:Program}{w:World}{K:Qdc}{mg:Aaf}{base:Heap}{cl:Aag}{x qual:Str}{st:Stmt}{f:Addr}{fd:FuncData}{N ps:List Str}{k:Nat}{F:FZ}{b:List Stmt}{sc:Scope}(hb:aO st=b)(hs:aD st=sc)(Fn:D_ K x qual st f fd)(S:aU N ps sc)
 (jf:∀(dt:Value) (A:Around) (outer:List Env) (s:Qdd) (H:Hp) (E:XK),eW k (A.deeper (envOfC qual sc s.heap.objs.size f dt))->
   Ak (pN (DB P w) P w K mg base N qual sc f dt A outer s H E) cl E b F):j2 P w K mg base (DB P w) (k+1) f fd ps (DU K cl ps.length (mB N F)):=by
 subst hb hs;obtain⟨oc,od,kV,doc,pm,an,dt,ct,K8,rfl,lk,qC⟩:=Fn.ex;refine Oq lk qC S (fun vs H Q E h=>h.1) fun A outer s H vs Q E hr Lu=>⟨_,(jf dt A outer s H E hr).1,?_⟩
 obtain⟨_,ρ,S,ds,w,r,z⟩:=Lu;refine⟨ρ,S,bQ N ds,Bu w r,?_⟩;rcases z with⟨v,S',hg,q⟩ | ⟨c,S',hg,q⟩
 .obtain⟨o,S1,h1,h2⟩:=R3.aq hg;refine .inl ⟨o,S1,h1,?_⟩;cases o with
  | nx eT=>
    cases h2;exact fun c7 ck H' p' E'=>q _ ck H' p' E'.sw (by unfold a_ Rep;rfl)
  | rt d'=>
    cases h2;exact fun u ck H' p' w' r'=>q u ck H' p' w' r'
 .rcases R3.nO hg with h1 | ⟨o,S1,h1,h2⟩
  .exact .inr ⟨c,S',h1,q⟩
  .cases o with
   | nx eT=>cases h2
   | rt d'=>cases h2
def ui{P:Program}{w:World}{K:Qdc}{mg:Aaf}{base:Heap}{N:List Str}{qual:Str}{scope:Scope}{f:Addr}{cd:Value}{A:Around}{outer:List Env}{s:Qdd}{H:Hp}{E:XK} :
 Passes (DB P w) (pN (DB P w) P w K mg base N qual scope f cd A outer s H E) E:=Ut
def yJ{P:Program}{w:World}{K:Qdc}{mg:Aaf}{base:Heap}{N:List Str}{qual:Str}{scope:Scope}{f:Addr}{cd:Value}{A:Around}{outer:List Env}{s:Qdd}{H:Hp}{E:XK} :
 Eb (pN (DB P w) P w K mg base N qual scope f cd A outer s H E) E:=fun pins σ H1 s1 h' a cls vs I hx hE=>Q9 I hx hE
end L3
end
section
namespace L2
open PySem PySem.Spec PyProof.Rows
abbrev Cx.alt(X:Cx)(A:Around)(calm:Bool)(pn:Aaa)(xe:Aab):Cx:={X with A:=A,calm:=calm,pn:=pn,xe:=xe}
def Cx.Ok.alt{X:Cx}(ok:X.Ok){A:Around}{calm:Bool}{pn:Aaa}{xe:Aab}(hd:calm=true->A.handled=none)(hf:A.frames=X.A.frames):(X.alt A calm pn xe).Ok:=
 ⟨ok.mod,ok.kind,ok.glob,ok.blt,ok.above,ok.inj,ok.has,ok.cab,hd,hf.trans ok.frames,ok.stk,ok.exf,ok.bs,ok.bsz,ok.noex,ok.exfs,ok.sS,ok.frf⟩
section
variable {X:Cx} {pins nD:Aaa} {σ:St} {H H1 H':Hp} {s s1 s':Qdd}
def Inv.alt{A:Around}{calm:Bool}{pn:Aaa}{xe:Aab}(I:Inv X pins σ H s)(hd:calm=true->A.handled=none)(hf:A.frames=X.A.frames)(hp:∀p∈pn++nD,p∈X.pn++pins):Inv (X.alt A calm pn xe) nD σ H s:=
 ⟨I.ok.alt hd hf,I.os,I.bare,I.base,I.loc,I.cell,I.free,I.freeC,fun p hq=>I.pin p (hp p hq),I.hok,I.len⟩
def Inv.SR{calm:Bool}{pn:Aaa}{xe:Aab}(ok:X.Ok)(I:Inv (X.alt A calm pn xe) nD σ H s)(hp:∀p∈X.pn++pins,p∈pn++nD):Inv X pins σ H s:=
 ⟨ok,I.os,I.bare,I.base,I.loc,I.cell,I.free,I.freeC,fun p hq=>I.pin p (hp p hq),I.hok,I.len⟩
def F3{M:Model}{A:Around}{E:Aab}{i:Nat}{x:Str}{pos:Pos}{Q:Unit->Qdd->Prop}(I:Inv X pins σ H s)(hN:X.N.Nodup)(hi:X.N[i]? =some x)(hk:X.env.kindOf x=some .local)
 (h:∀s',Inv X pins (σ.set i none) H s'->Q () s'):wpAny M A (do bindName X.env x .none;unbindBehindTheSuite X.env x pos) Q E s:=by
 obtain⟨m,hn,hl⟩:=id I.loc;have hcls:(X.env.scope.kind== .class || (X.env.scope.kind== .module && X.env.locals !=X.env.globals))=false:=by rw[I.ok.kind];rfl
 have hiσ:i<σ.length:=by rw[I.len];exact(Qab.mp hi).1
 have KU:=I.KU;refine wpAny_nameGoes_keeps hk hn hcls fun h' v UO hs=>?_
 refine h _ ⟨I.ok,I.os,I.bare,⟨fun b o e n hb hx=>?_,fun b o e n hb hx=>?_,I.base.free,fun b o e hx=>?_,I.base.tups,I.base.frzs,I.base.tbls⟩,⟨_,UO,fun j y v' e1 e2 e3=>?_⟩,fun y c e=>?_,I.free,I.freeC,fun p hp=>?_,fun b ob e=>?_,by simpa using I.len⟩
 .exact(hs.2 b (QaO (QaC (Qaw e) I.ok.above))).trans (I.base.keep b o e n hb hx)
 .obtain⟨sl,e1⟩:=I.base.slot b o e n hb hx;exact⟨sl,(hs.2 b (QaO (QaC (Qaw e) I.ok.above))).trans e1⟩
 .obtain⟨o',e1⟩:=I.base.there b o e hx;exact⟨o',(hs.2 b (QaO (QaC (Qaw e) I.ok.above))).trans e1⟩
 .by_cases hj:j=i
  .subst hj;rw[Qao hiσ] at e2;cases e2
  .rw [Qaq (Qbh hj)] at e2;obtain⟨u',r',q⟩:=hl j y v' e1 e2 e3;refine⟨u',r',?_⟩;rcases q with⟨k,e⟩ | ⟨k,c,e,z⟩
   .refine .inl ⟨k,?_⟩;have:y≠x:=fun e=>hj (xE hN e1 (e▸hi))
    simp [this,e]
   .exact .inr ⟨k,c,e,z.sameBut hs (KU y c e)⟩
 .obtain⟨w',z⟩:=I.cell y c e;exact⟨w',z.sameBut hs (KU y c e)⟩
 .obtain⟨e,n,ne,nf,d⟩:=I.pin p hp;exact⟨(hs.2 p.1 ne).trans e,n,ne,nf,d⟩
 .refine(I.hok b ob e).vd (fun c w' hc q=>(hs.2 c ?_).trans q) (fun _ q=>q) fun _ _ q=>q
  rintro rfl;rcases hc with rfl | hc
  .have z:=I.free;rw [z] at e;cases e
  .have z:=I.free;rw [z] at hc;cases hc
def xc{B h5:Heap}{a:Addr}{C:Addr}{a0:Value}(I:Inv X pins σ H1 s1)(xV:X.stack=X.env ::X.outer)(os:s'.os=s1.os)(bare:AllBare s'.gens)(un:Un (ro X.stack) [] H1 H' s1.heap s'.heap)(hok:oF X.prog X.w H' s'.heap)
 (EI:∀b o,s'.heap.get? b=some o->b ∉ ro X.stack->((∃u,s1.heap.get? b=some u)\/∃u,H' b=some u)->B.get? b=some o) (fl:Heap.FlyingW B X.stack a (.ref C) a0 h5) (up:s'.heap.UpToSlots h5) :
 H' a=none/\AB a C h5/\Inv X pins σ (upd H' a (.ext (L3.isExc C a))) {s' with heap:=h5}:=by
 have hfree:∀b,b∈ro X.stack->H' b=none:=fun b hb=>by
  obtain⟨_,o,ho,_⟩:=I.stack.mem hb;exact un.free b o ho (I.ql b hb) (by simp)
 have stB:∀b o,B.get? b=some o->h5.get? b=some o:=fl.1;have Lp:∀b o,H' b=some o->∀u,s'.heap.get? b=some u->h5.get? b=some u:=fun b o q u hu=>stB b u (EI b u hu (fun hb=>by rw[hfree b hb] at q;cases q) (.inr ⟨o,q⟩))
 obtain⟨oe,vs,he,hec,hed,_⟩:=fl.first
 have nst:a ∉ ro X.stack:=fun hb=>by
  obtain⟨_,o,ho,hd⟩:=fl.2.2.1.mem hb;rw[he] at ho;cases ho;exact hd _ hed
 have n0:∀u,s1.heap.get? a≠some u:=fun u hu=>by
  obtain⟨u2,h2⟩:=un.there a u hu (by simp)
  have:=EI a u2 h2 nst (.inl ⟨u,hu⟩);rw[fl.2.1] at this;cases this
 have n1:H' a=none:=by
  cases q:H' a with
  | none=>rfl
  | some u=>
    obtain⟨u2,h2⟩:=zV hok q;have:=EI a u2 h2 nst (.inr ⟨u,q⟩);rw[fl.2.1] at this;cases this
 have n2:H1 a=none:=by
  cases q:H1 a with
  | none=>rfl
  | some u=>
    obtain⟨u2,h2⟩:=zV I.hok q;exact absurd h2 (n0 u2)
 refine⟨n1,⟨oe,he,hec⟩,?_⟩;have un2:Un (ro X.stack) [] H1 (upd H' a (.ext (L3.isExc C a))) s1.heap h5:=by
  refine⟨fun b o q n hb _=>?_,fun b o q n hb _=>?_,fun b o q n _=>?_,fun b o q _=>?_,fun b xs q=>?_,fun b o u q=>?_,fun b ps q=>?_⟩
  .exact stB b o (EI b o (un.keep b o q n hb (by simp)) hb (.inl ⟨o,q⟩))
  .obtain⟨OP,h2⟩:=un.slot b o q n hb (by simp)
   obtain⟨_,o',C7,hd⟩:=I.stack.mem hb;rw[q] at C7;cases C7;obtain⟨RP,h3⟩:=up b _ h2 hd;exact⟨RP,h3⟩
  .rw [aZ (fun z=>by subst z;exact n0 o q)];exact un.free b o q n (by simp)
  .obtain⟨u2,h2⟩:=un.there b o q (by simp)
   by_cases hb:b∈ro X.stack
   .obtain⟨_,o',C7,hd⟩:=I.stack.mem hb;obtain⟨sl,h3⟩:=un.slot b o' C7 (I.ql b hb) hb (by simp)
    obtain⟨RP,h4⟩:=up b _ h3 hd;exact⟨_,h4⟩
   .exact⟨u2,stB b u2 (EI b u2 h2 hb (.inl ⟨o,q⟩))⟩
  .rw [aZ (bU q n2)];exact un.tups b xs q
  .rw [aZ (bU q n2)];exact un.frzs b o u q
  .rw [aZ (bU q n2)];exact un.tbls b ps q
 have hok2:oF X.prog X.w (upd H' a (.ext (L3.isExc C a))) h5:=fun b o q=>by
  by_cases hb:b=a
  .subst hb;rw[bj] at q;cases q;refine⟨⟨oe,he,hec⟩,⟨oe,he⟩,fun h1 h2 p k=>?_⟩
   obtain⟨o,h3,h4⟩:=p;exact⟨o,k o h3,h4⟩
  .rw [aZ hb] at q;refine(hok b o q).vd (fun c u hc hu=>?_) (fun c z=>by rw[aZ (bU z n1)];exact z) (fun c xs z=>by rw[aZ (bU z n1)];exact z)
   rcases hc with rfl | hc
   .exact Lp c o q u hu
   .exact Lp c _ hc u hu
 exact I.Og (s':={s' with heap:=h5}) os un2 hok2 bare (fun b z=>absurd z (by simp))
end
end L2
namespace L3
open PySem PySem.Spec PyProof.Rows L2
section
variable {X:Cx} {cl:Aag}
def DO(F:FZ)(ok:Nat->Bool)(i:Nat)(G:FZ):FZ:=fun δ S=>match F δ S with
 | .ok o S'=> .ok o S'
 | .ex c S'=>R3.bV (ok c) ((Ow (G ((List.replicate δ.length none).set i (some (.loc S'.length))) (S'++[.exc c]))).bind fun o S2=>match o with | .nx eT=> .ok (.nx (eT.set i none)) S2 | .rt v=> .ok (.rt v) S2)
 | .no=> .no
def Rl{F G:FZ}{ok:Nat->Bool}{i:Nat}{n fx:Str}{Cf:Addr}{body K4:List Stmt}{b0:Stmt}{np UE pos:Pos}(xV:X.stack=X.env ::X.outer)(Lz:X.env.frame=some X.env.locals)(YG:X.calm=true)
 (hC:∀c,ok c=true->PySem.W.exmOne X.K (.ref (cl c)) (.ref Cf)=some true) (hg:Gl X fx) (hm:X.mg fx=some (.ref Cf)) (hN:X.N.Nodup) (hi:X.N[i]? =some n) (hk:X.env.kindOf n=some .local)
 (jf:∀(pn:Aaa) (xe:Aab) (E:XK),Passes (DB X.prog X.w) (X.alt X.A X.calm pn xe) E->Ak (X.alt X.A X.calm pn xe) cl E body F)
 (Uw:∀(a:Addr) (pn:Aaa),Hy (X.alt (X.A.mark (some (.ref a))) false pn fun _ _=>False) cl (b0 ::K4) G) (oi:(fx==("__debug__":Str))=false:=by decide) :
 PZ X cl (.Try body [.ExceptHandler (some (.Name fx np)) (some n) (b0 ::K4) UE] [] [] pos) (DO F ok i G):=⟨by
 intro pins s σ H D I ⟨ρ,S,δ,o,S',En,hf,q⟩;refine wpAny_Try_except ?_;have I1:∀xe,Inv (X.alt X.A X.calm (X.pn++pins) xe) [] σ H s:=fun xe=>I.alt I.ok.hd rfl fun p hp=>by simpa using hp
 have back:∀{c7 H' s'} {xe} {A calm nD},Inv (X.alt A calm (X.pn++pins) xe) nD c7 H' s'->Inv X pins c7 H' s':=fun J=>Inv.SR I.ok J fun p hp=>QcA _ hp
 have nxt:∀{xe f s1},SP (X.alt X.A X.calm (X.pn++pins) xe) [] D f s1->(match f with | .next=>wpAny (model X.prog X.w) X.A (execs [] X.env) (SP X pins D) X.xe s1 | f=>SP X pins D f s1):=fun {xe f s1} z=>by
  cases f with
  | next=>obtain⟨c7,H',J,w⟩:=z;exact QcC ⟨c7,H',back J,w⟩
  | brk=>obtain⟨c7,H',J,w⟩:=z;exact⟨c7,H',back J,w⟩
  | cont=>obtain⟨c7,H',J,w⟩:=z;exact⟨c7,H',back J,w⟩
  | ret u=>obtain⟨v,c7,H',J,r,w⟩:=z;exact⟨v,c7,H',back J,r,w⟩
 cases hF:F δ S with
 | no=>simp only[DO,hF] at hf;cases hf
 | ok o1 S1=>
   simp only[DO,hF] at hf;cases hf;exact eO ((jf (X.pn++pins) _ E0 fun _ _ _ _ _ _ _ ⟨_,_,_,_,_,_,_,_,_,_,_,_,z⟩=>z.elim).1 [] s σ H D (I1 _) ⟨ρ,S,δ,En, .inl ⟨_,_,hF,q⟩⟩) fun f s1 z=>nxt z
 | ex c S1=>
   simp only[DO,hF] at hf;obtain⟨hok,hf⟩:=R3.ba hf;obtain⟨o2,S2,hG,hf⟩:=R3.aq hf;have hG:=ud hG;refine eO ((jf (X.pn++pins) (fun e s₁=>wpAny (model X.prog X.w) X.A (noteFrame e X.env) (fun _ K9=>wpAny (model X.prog X.w) X.A (setFlight e none) (fun _ WJ=>wpAny (model X.prog X.w) X.A (handleBy e X.env [.ExceptHandler (some (.Name fx np)) (some n) (b0 ::K4) UE]) (SP X pins D) X.xe WJ) X.xe K9) X.xe s₁)
    (fun cls d H'=>cls= .ref (cl c)/\∃ck,Pre ρ H ck H'/\SW X.K cl ck H' S1) ?_).1 [] s σ H D (I1 _) ⟨ρ,S,δ,En, .inr ⟨c,S1,hF,fun ck H' p w=>⟨rfl,ck,p,w⟩⟩⟩) fun f s1 z=>nxt z
   intro nD c7 H1 s1 e s' J hc;obtain⟨a,B,cls,a0,H',rfl,os,bare,un,hokH,fl,EI,rfl,ck,p',w'⟩:=hc;have fl:Heap.FlyingW B (X.env ::X.outer) a (.ref (cl c)) a0 s'.heap:=by rw[<-xV];exact fl
   refine wpAny_looks_onW (by rw[I.ok.frames,xV]) Lz fl fun h4 held YI=>?_
   refine wpAny_landsW held fun h5 YJ Yx=>?_
   have C5:=xc (X:=X.alt X.A X.calm (X.pn++pins) _) (s':=s') J xV os bare un hokH EI (by rw[show Cx.stack (X.alt X.A X.calm (X.pn++pins) _)=X.env ::X.outer from xV];exact YJ) (YI.trans Yx)
   have J5:Inv (X.alt (X.A.mark (some (.ref a))) false (X.pn++pins) fun _ _=>False) nD c7 _ {s' with heap:=h5}:=Inv.alt (X:=X.alt X.A X.calm (X.pn++pins) _) C5.2.2 (fun z=>by cases z) rfl fun p hp=>hp
   refine wpAny_handleBy_cons (codeAny_handlers_test (tL J5 hg hm ?_ oi)) (by intro q;cases q)
   refine(PySem.W.exm_one J5.A9 (AB.ty C5.2.1) (hC c hok)).here ?_;refine codeAny_handlers_suite_as ?_;refine PyProof.Rows.lands_againW YJ fun h6 fl6 up6=>?_
   have C6:=xc (X:=X.alt X.A X.calm (X.pn++pins) _) (s':=s') J xV os bare un hokH EI (by rw[show Cx.stack (X.alt X.A X.calm (X.pn++pins) _)=X.env ::X.outer from xV];exact fl6) ((YI.trans Yx).trans up6)
   have J6:Inv (X.alt (X.A.mark (some (.ref a))) false (X.pn++pins) fun _ _=>False) nD c7 _ {s' with heap:=h6}:=Inv.alt (X:=X.alt X.A X.calm (X.pn++pins) _) C6.2.2 (fun z=>by cases z) rfl fun p hp=>hp
   have sm:aX H' (upd H' a (.ext (isExc (cl c) a))):=bf C6.1;obtain⟨w6,p6⟩:=w'.new (o:= .exc c) sm C6.1 (show HH X.K cl (ck.push a) _ (.exc c) _ from⟨a,bj⟩)
   have la:(ck.push a).r[S1.length]? =some a:=by
    show(ck.r++[a])[S1.length]? =some a;rw[<-w'.len,Qae (Qag _),QaQ];rfl
   refine wR (X:=X.alt (X.A.mark (some (.ref a))) false (X.pn++pins) fun _ _=>False) J6 hN hi (.inl hk) (v:= .ref a) rfl (fun s7 J7=>?_) (.inr hk)
   have En7:fW X.K cl (ck.push a) (upd H' a (.ext (isExc (cl c) a))) (S1++[.exc c]) (c7.set i (some (.ref a))) ((List.replicate δ.length none).set i (some (.loc S1.length))):=by
    refine⟨?_,w6,fun j d e=>?_⟩
    .rw [QaZ,QaZ,QaP,En.len,I.len];exact J.len.symm
    .by_cases hj:i=j
     .subst hj;have nE:i<(List.replicate δ.length (none:Option V3)).length:=by
       rw[QaP,En.len,I.len];exact(Qab.mp hi).1
      rw[Qao nE] at e;cases e;refine⟨.ref a,?_,by unfold a_;exact⟨a,la,rfl⟩⟩
      rw[Qao];have:c7.length=X.N.length:=J.len;rw[this];exact(Qab.mp hi).1
     .rw [Qaq hj,QaT] at e;split at e <;> cases e
   have q7:Ez X.K cl (ck.push a) (upd H' a (.ext (isExc (cl c) a))) {nx:=fun RU H8=>D.nx (RU.set i none) H8,rt:=D.rt} S2 o2:=by
    cases o2 with
    | nx ef=>
      cases hf;intro RU WT H8 p8 E8;refine q (RU.set i none) WT H8 ((p'.trans p6).trans p8) ⟨?_,E8.sw,fun j d e=>?_⟩
      .rw [QaZ,QaZ];exact E8.len
      .by_cases hj:i=j
       .subst hj;by_cases nE:i<ef.length
        .rw [Qao nE] at e;cases e
        .rw [Qcy (by rw[QaZ];omega)] at e;cases e
       .rw [Qaq hj] at e ⊢;exact E8.val j d e
    | rt v=>
      cases hf;exact fun u WT H8 p8 w8 r8=>q u WT H8 ((p'.trans p6).trans p8) w8 r8
   refine QcB ((Uw a (X.pn++pins)).1 nD s7 _ _ _ J7 ⟨ck.push a,S1++[.exc c],_,o2,S2,En7,hG,q7⟩) (fun f s8 z=>?_) fun _ _ z=>z.elim
   cases f with
   | next=>
     obtain⟨RU,H8,J8,z⟩:=z;exact F3 (back J8) hN hi hk fun s9 J9=>⟨_,H8,J9,z⟩
   | brk=>obtain⟨RU,H8,J8,z⟩:=z;exact z.elim
   | cont=>obtain⟨RU,H8,J8,z⟩:=z;exact z.elim
   | ret u=>
     obtain⟨v,RU,H8,J8,r8,z⟩:=z;exact F3 (back J8) hN hi hk fun s9 J9=>⟨v,_,H8,J9,r8,z⟩⟩
end
end L3
end
section
namespace L2
open PySem PySem.Spec PyProof.Rows
def Pp{H:Hp}{a b C:Addr}(k:oF P w H h)(e:H a=some (.ext (L3.isExc C b))):AB a C h:=by
 obtain⟨p,⟨o,ho⟩,st⟩:=(show gg P w H h a (.ext (L3.isExc C b)) from k a _ e)
 by_cases Sj:a=b
 .subst Sj;exact p
 .exfalso
  obtain⟨o2,h2,_⟩:=st h (PySem.W.hideAll h [b]) p fun o q=>QcM [b] q (by simpa using Sj)
  rw[PySem.W.hideAll_none [b] (QaS.mpr rfl)] at h2;cases h2
def xi:V->Bool | .ref _=>true | .ty _=>true | _=>false
def GK:V->Value | .ref a=> .ref a | .ty n=> .type n | _=> .none
def EX{v:V}{u:Value}(h:xi v=true)(r:RelV v u):u=GK v:=by
 cases v with
 | ref a=>exact r
 | ty n=>exact r
 | _=>cases h
section
variable {X:Cx}
def Rf(K:Qdc):List V->Hp->VK->Prop:=fun xs H Q=>∃a b C cv k,xs=[V.ref a,cv]/\H a=some (.ext (L3.isExc C b))/\XC K C/\xi cv=true/\PySem.W.kitOne K (.ref C) (GK cv)=some k/\Q (.bl k) H
def Qt(K:Qdc):List V->Hp->VK->Prop:=fun xs H Q=>∃cv k,xs=[V.cR,cv]/\xi cv=true/\PySem.W.kitOne K (.type "NoneType") (GK cv)=some k/\Q (.bl k) H
def Zl(K:Qdc):List V->Hp->VK->Prop:=fun xs H Q=>∃a b C tp UQ k,xs=[V.ref a,V.ref tp]/\H a=some (.ext (L3.isExc C b))/\XC K C/\H tp=some (.tup UQ)/\UQ.all xi=true/\PySem.W.kitAny K (.ref C) (UQ.map GK)=some k/\Q (.bl k) H
def J4:l3 X (.builtin "isinstance") (Rf X.K):=by
 intro pins s σ H xs us Q I r h;obtain⟨a,b,C,cv,k,rfl,e,T,hc,hk,q⟩:=h;obtain⟨u,w',rfl,ru,EL⟩:=vals2 r;cases ru;rw[EX hc EL];exact PySem.W.kia_one (JW T) I.A9 (Pp I.hok e) hk (fun z=>nomatch z) fun tk=>⟨.bl k,H,I.tok _,rfl,q⟩
def Kl:l3 X (.builtin "isinstance") (Qt X.K):=by
 intro pins s σ H xs us Q I r h;obtain⟨cv,k,rfl,hc,hk,q⟩:=h;obtain⟨u,w',rfl,ru,EL⟩:=vals2 r;cases ru;rw[EX hc EL];exact PySem.W.kia_one PySem.W.kitx_none I.A9 True.intro hk (fun z=>nomatch z) fun tk=>⟨.bl k,H,I.tok _,rfl,q⟩
end
end L2
namespace L3
open PySem PySem.Spec PyProof.Rows L2
section
variable {X:Cx} {cl:Aag} {E:XK}
def IL(f:FX)(tb:Nat->Option Bool):FX:=fun δ S=>(f δ S).bind fun v S1=>match v with
 | .loc k=>(match S1[k]? with | some (.exc c)=>(match tb c with | some b=> .ok (.d (.bl b)) S1 | none=> .no) | _=> .no)
 | .d .cR=> .ok (.d (.bl false)) S1
 | _=> .no
def DT{e c:Expr}{f:FX}{tb:Nat->Option Bool}{cv:V}{p pos:Pos}(he:PX X cl e f)(hc:PE X c (tC cv))(Yr:xi cv=true)(hg:Gl X "isinstance")(hm:X.mg "isinstance"=none)
 (ht:∀c b,tb c=some b->XC X.K (cl c)/\PySem.W.kitOne X.K (.ref (cl c)) (GK cv)=some b) (hn:PySem.W.kitOne X.K (.type "NoneType") (GK cv)=some false)
 (hs:starEach [e,c] X.env=(false,eval e X.env) ::starEach [c] X.env:=by rfl) (Gm:starEach [c] X.env=(false,eval c X.env) ::starEach [] X.env:=by rfl) (jY:(backTo pos (starEach [c] X.env)).any (·.1)=false:=by rfl) :
 PX X cl (.Call (.Name "isinstance" p) [e,c] [] pos) (IL f tb):=⟨by
 have both:l3 X (.builtin "isinstance") (fun xs H Q=>Rf X.K xs H Q\/Qt X.K xs H Q):=fun pins s σ H xs us Q I r h=>h.elim (J4 pins s σ H xs us Q I r) (Kl pins s σ H xs us Q I r)
 refine(Br both hg hm boot_isinstance (eV he.1 (eV hc jl Gm) hs) (by decide) (by decide) hs jY).imp fun σ H Q ⟨ρ,S,δ,v,S',En,hf,q⟩=>?_
 obtain⟨v1,S1,h1,h2⟩:=R3.aq hf;refine⟨ρ,S,δ,v1,S1,En,h1,fun u cq H1 p1 w1 r1=>?_⟩
 show Rf X.K [u,cv] H1 Q\/Qt X.K [u,cv] H1 Q;split at h2
 .rename_i k;split at h2
  .rename_i cc hS;split at h2
   .rename_i b hb;cases h2;unfold a_ at r1;obtain⟨a,ha,rfl⟩:=r1;obtain⟨b',hH⟩:=w1.ob k a _ ha hS;exact .inl ⟨a,b',cl cc,cv,b,rfl,hH,(ht cc b hb).1,Yr,(ht cc b hb).2,q _ cq H1 p1 w1 (by unfold a_;exact Rep.bl.mpr rfl)⟩
   .cases h2
  .cases h2
 .cases h2;unfold a_ at r1;cases Rep.cR.mp r1;exact .inr ⟨cv,false,rfl,Yr,hn,q _ cq H1 p1 w1 (by unfold a_;exact Rep.bl.mpr rfl)⟩
 .cases h2⟩
def ZO(f:FX)(tb:Nat->Option Bool):FX:=fun δ S=>(f δ S).bind fun v S1=>match v with
 | .loc k=>(match S1[k]? with | some (.exc c)=>(match tb c with | some b=> .ok (.d (.bl b)) S1 | none=> .no) | _=> .no)
 | _=> .no
def tCs(UQ:List V):TA:=fun _ H Q=>Q UQ H
def sJ{fs:FA}{n:Nat}(h:∀δ S ds S',fs δ S= .ok ds S'->ds.length=n):∀δ S ds S',wC fs δ S= .ok ds S'->ds.length=n:=fun δ S ds S' e=>h δ S ds S' (ud e)
end
end L3
namespace L3
def Tb(P:Nat->Bool->Prop)(l:List (Nat × Bool)):Prop:=∀p∈l,P p.1 p.2
def Ea{P:Nat->Bool->Prop}:Tb P []:=fun _ h=>by cases h
def qr{P:Nat->Bool->Prop}{c:Nat}{b:Bool}{l:List (Nat × Bool)}(h:P c b)(t:Tb P l):Tb P ((c,b) ::l):=fun p hp=>by
 rcases Qar.mp hp with rfl | hp
 .exact h
 .exact t p hp
def SN(l:List (Nat × Bool)):Nat->Option Bool:=fun c=>l.lookup c
theorem FV{P:Nat->Bool->Prop}:∀{l:List (Nat × Bool)},Tb P l->∀c b,SN l c=some b->P c b
 | [],_,c,b,e=>by cases e
 | (k,v) ::l,h,c,b,e=>by
   unfold SN at e;rw[Qal] at e;split at e
   .rename_i hk;cases e;rw[Qba.mp hk];exact h (k,v) (Qat ..)
   .exact FV (fun p hp=>h p (Qai _ hp)) c b e
def Oc(P:Nat->Prop)(l:List Nat):Prop:=∀c∈l,P c
def PF{P:Nat->Prop}:Oc P []:=fun _ h=>by cases h
def E5{P:Nat->Prop}{c:Nat}{l:List Nat}(h:P c)(t:Oc P l):Oc P (c ::l):=fun p hp=>by
 rcases Qar.mp hp with rfl | hp
 .exact h
 .exact t p hp
def Te{P:Nat->Prop}{l:List Nat}(h:Oc P l):∀c,l.contains c=true->P c:=fun c hc=>h c (by simpa using hc)
end L3
end
section
namespace L3
open PySem PySem.Spec PyProof.Rows L2
section
variable {α β:Type} {S S':aN} {δ:DE} {c:Nat}
def Nd{r:R3 α}{Q:α->aN->Prop}(h:W3 r Q):W3 (Ow r) Q:=by
 obtain⟨a,S,e,q⟩:=h;rw[e];exact⟨a,S,rfl,q⟩
def mC{f:FA}{Q:List V3->aN->Prop}(h:W3 (f δ S) Q):W3 (wC f δ S) Q:=Nd h
def Iy{f:FZ}{Q:Ou->aN->Prop}(h:W3 (f δ S) Q):W3 (Um f δ S) Q:=Nd h
def OI{f:FB}{Q:Bool->aN->Prop}(h:W3 (f δ S) Q):W3 (Se f δ S) Q:=Nd h
def zU{r:R3 α}{f:α->aN->R3 β}(h:r= .ex c S'):r.bind f= .ex c S':=by rw[h];rfl
def tj{r:R3 α}{f:α->aN->R3 β}(h:W3 r fun a S1=>f a S1= .ex c S'):r.bind f= .ex c S':=by
 obtain⟨a,S1,e,q⟩:=h;rw[e];exact q
def Aj{F G:FZ}(h:F δ S= .ex c S'):bt F G δ S= .ex c S':=zU h
def Pm{F G:FZ}(h:W3 (F δ S) fun o S1=>∃cX,o= .nx cX/\G cX S1= .ex c S'):bt F G δ S= .ex c S':=tj (h.mono fun o S1 ⟨cX,e,q⟩=>by subst e;exact q)
def Su{fc:FB}(h:W3 (fc δ S) fun b S1=>(if b then F δ S1 else G δ S1)= .ex c S'):A5 fc F G δ S= .ex c S':=tj h
def Ag{f:FX}(h:f δ S= .ex c S'):uW f δ S= .ex c S':=zU h
def x_call{g:List V3->aN->R3 V3}{fs:FA}(h:W3 (fs δ S) fun vs S1=>g vs S1= .ex c S'):dg g fs δ S= .ex c S':=tj h
def TK{N:List Str}{F:FZ}{vs:List V3}(e:bQ N vs=δ)(h:F δ S= .ex c S'):mB N F vs S= .ex c S':=by
 unfold mB;rw[e];exact zU h
def x_raise{fs:FA}(h:W3 (fs δ S) fun vs S1=>vs.length<=sizeLine/\S1=S'):Ax c fs δ S= .ex c S':=tj (h.mono fun vs S1 ⟨h1,h2⟩=>by
 subst h2;unfold R3.bV;rw[QaE h1];rfl)
def Vw{N:List Str}{F:FZ}{vs:List V3}{Q:V3->aN->Prop}(e:bQ N vs=δ)(h:W3 (F δ S) fun o S1=>(∃cX,o= .nx cX)/\Q (.d .cR) S1):W3 (mB N F vs S) Q:=by
 unfold mB;rw[e];exact W3.bind (h.mono fun o S1 ⟨⟨cX,e1⟩,q⟩=>by subst e1;exact W3.ok q)
def Kn{F G:FZ}{ok:Nat->Bool}{i:Nat}{Q:Ou->aN->Prop}(h:F δ S= .ex c S')(hc:ok c=true)(hg:W3 (G ((List.replicate δ.length none).set i (some (.loc S'.length))) (S'++[.exc c])) fun o S2=>∃cX,o= .nx cX/\Q (.nx (cX.set i none)) S2):W3 (DO F ok i G δ S) Q:=by
 unfold DO;rw[h];refine W3.wh hc (W3.bind (Nd (hg.mono fun o S2 ⟨cX,e,q⟩=>?_)))
 subst e;exact W3.ok q
def yI{f:FX}{tb:Nat->Option Bool}{Q:V3->aN->Prop}(h:W3 (f δ S) fun v S1=>∃k c b,v= .loc k/\S1[k]? =some (.exc c)/\tb c=some b/\Q (.d (.bl b)) S1):W3 (IL f tb δ S) Q:=W3.bind (h.mono fun v S1 ⟨k,c,b,e,e1,e2,q⟩=>by
 subst e;simp only[e1,e2];exact W3.ok q)
end
def QL(K:Qdc)(mg:Aaf)(x:Str):Prop:=∃f,PySem.W.nsIn K mainGlobals x=some (some (.ref f))/\mg x=some (.ref f)
section
variable {X:Cx} {cl:Aag} {E:XK}
def Sa(x:Str):FX:=fun _ S=> .ok (.fn x) S
def EV{p:Pos}(h:QL X.K X.mg x)(hg:Gl X x:=by rfl)(oi:(x==("__debug__":Str))=false:=by decide):PX X cl (.Name x p) (Sa x):=by
 obtain⟨f,h1,h2⟩:=h;exact⟨(vJ (v:= .ref f) hg h2 rfl oi).imp fun σ H Q ⟨ρ,S,δ,v,S',En,hf,q⟩=>by
  cases hf;exact q _ ρ H (Pre.refl ρ H) En.sw (by unfold a_;exact⟨f,h1,rfl⟩)⟩
def Pe:Passes (DB X.prog X.w) X E0:=fun _ _ _ _ _ _ _ ⟨_,_,_,_,_,_,_,_,_,_,_,_,z⟩=>z.elim
def OS(h:UT X cl E e f):PX X cl e f:=⟨h.1.imp fun σ H Q ⟨ρ,S,δ,v,S',En,hf,q⟩=>⟨ρ,S,δ,En, .inl ⟨v,S',hf,q⟩⟩⟩
abbrev GT:=List (Str × (List V3->aN->R3 V3))
def Ft(P:Program)(w:World)(K:Qdc)(mg:Aaf)(base:Heap)(cl:Aag)(j n:Nat)(l:GT):Prop:=∀x g,l.lookup x=some g->∃k,k<=j/\de P w K mg base cl k x n g
def Ii{K:Qdc}{mg:Aaf}{j n:Nat}:Ft P w K mg base cl j n []:=fun _ _ h=>by cases h
def qi{K:Qdc}{mg:Aaf}{j n k:Nat}{g:List V3->aN->R3 V3}{l:GT}(C:de P w K mg base cl k x n g)(hk:k<=j)(t:Ft P w K mg base cl j n l):Ft P w K mg base cl j n ((x,g) ::l):=fun y g' e=>by
 rw[Qal] at e;split at e
 .rename_i h;cases e;rw[Qba.mp h];exact⟨k,hk,C⟩
 .exact t y g' e
def k6(i:Nat)(l:GT)(fs:FA):FX:=fun δ S=>match δ[i]? with
 | some (some (.fn x))=>(match l.lookup x with | some g=>(fs δ S).bind g | none=> .no)
 | _=> .no
def zd{i j n:Nat}{y:Str}{l:GT}{p pos:Pos}{e:Expr}{es:List Expr}{fs:FA}(hp:Passes (DB X.prog X.w) X E)(ht:Ft X.prog X.w X.K X.mg X.base cl j n l)(hr:eW j X.A)(hN:X.N[i]? =some y)(hv:GQ X.env.scope y)(ha:ND X cl E (e ::es) fs)
 (hn:∀δ S ds S',fs δ S= .ok ds S'->ds.length=n) (oi:(y==("__debug__":Str))=false:=by decide) (qC:(y==("__classdict__":Str))=false:=by decide) (he:starEach (e ::es) X.env=(false,eval e X.env) ::starEach es X.env:=by rfl) (jY:(backTo pos (starEach es X.env)).any (·.1)=false:=by rfl) :
 UT X cl E (.Call (.Name y p) (e ::es) [] pos) (k6 i l fs):=⟨by
 intro pins s σ H Q I ⟨ρ,S,δ,En,z⟩;have key:∃x g,δ[i]? =some (some (.fn x))/\l.lookup x=some g/\k6 i l fs δ S=(fs δ S).bind g:=by
  have tV:k6 i l fs δ S≠ .no:=fun h=>by
   rcases z with⟨v,S',hf,_⟩ | ⟨c,S',hf,_⟩
   .rw [h] at hf;cases hf
   .rw [h] at hf;cases hf
  unfold k6 at tV ⊢;split at tV
  .rename_i x hx;cases hl:l.lookup x with
   | none=>rw [hl] at tV;exact absurd rfl tV
   | some g=>
     exact⟨x,g,hx,hl,rfl⟩
  .exact absurd rfl tV
 obtain⟨x,g,hx,hl,hw⟩:=key;obtain⟨k,EG,f,fd,ps,F,hm,hk,hb⟩:=ht x g hl;obtain⟨v,K0,rv⟩:=En.val i _ hx;unfold a_ at rv;obtain⟨a,Sh,rfl⟩:=rv;have hma:=Qbo I.mod.kin I.mod.glob Sh;rw[hm] at hma;cases hma;refine QbX (eO (pL hN hv oi qC pins s σ H (fun u H'=>u= .ref f/\H'=H) I ⟨_,K0,rfl,rfl⟩) fun u s1 ⟨uv,H',I1,ru,e1,e2⟩=>?_)
 subst e1 e2;obtain rfl:u=Value.ref f:=ru;refine Qcg (h₀:=X.base) I.ok.mod.kin hk (eO (ha.1 pos pins s1 σ H' (fun vs H1=>DU X.K cl n g (vs++[]) H1 Q E) I1 ⟨ρ,S,δ,En,?_⟩) fun us s2 ⟨vs,H1,I2,r,q⟩=>⟨I2.A9,Dt F (hr.mono EG) hb .nil hp I2 r q⟩) he jY
 rw[hw] at z;have go:∀vs S1,fs δ S= .ok vs S1->((∃v S',g vs S1= .ok v S'/\∀u ck H2,Pre ρ H' ck H2->SW X.K cl ck H2 S'->a_ X.K ck H2 v u->Q u H2)\/∃c S',g vs S1= .ex c S'/\HI X.K cl E ρ H' S' c)->
  (∃vs S',fs δ S= .ok vs S'/\∀us ck H2,Pre ρ H' ck H2->SW X.K cl ck H2 S'->aR X.K ck H2 vs us->(fun vs H1=>DU X.K cl n g (vs++[]) H1 Q E) us H2)\/∃c S',fs δ S= .ex c S'/\HI X.K cl E ρ H' S' c:=fun vs S1 h1 h2=>by
  refine .inl ⟨vs,S1,h1,fun us cq H1 p1 w1 r1=>?_⟩
  show DU X.K cl n g (us++[]) H1 Q E;rw[Qa7];refine⟨by rw[<-r1.length];exact hn δ S vs S1 h1,cq,S1,vs,w1,r1,?_⟩
  rcases h2 with⟨v,S',h3,q⟩ | ⟨c,S',h3,q⟩
  .exact .inl ⟨v,S',h3,fun u tW H2 p2 w2 r2=>q u tW H2 (p1.trans p2) w2 r2⟩
  .exact .inr ⟨c,S',h3,q.pre p1⟩
 rcases z with⟨v,S',hf,q⟩ | ⟨c,S',hf,q⟩
 .obtain⟨vs,S1,h1,h2⟩:=R3.aq hf;exact go vs S1 h1 (.inl ⟨v,S',h2,q⟩)
 .rcases R3.nO hf with h1 | ⟨vs,S1,h1,h2⟩
  .exact .inr ⟨c,S',h1,q⟩
  .exact go vs S1 h1 (.inr ⟨c,S',h2,q⟩)⟩
def Mn{δ:DE}{S:aN}{i:Nat}{l:GT}{fs:FA}{g:List V3->aN->R3 V3}{Q:V3->aN->Prop}(hx:δ[i]? =some (some (.fn x)))(hl:l.lookup x=some g)(h:W3 (fs δ S) fun vs S1=>W3 (g vs S1) Q):W3 (k6 i l fs δ S) Q:=by
 unfold k6;rw[hx];simp only[hl];exact W3.bind h
def MM{δ:DE}{S S':aN}{c i:Nat}{l:GT}{fs:FA}{g:List V3->aN->R3 V3}(hx:δ[i]? =some (some (.fn x)))(hl:l.lookup x=some g)(h:W3 (fs δ S) fun vs S1=>g vs S1= .ex c S'):k6 i l fs δ S= .ex c S':=by
 unfold k6;rw[hx];simp only[hl];exact tj h
def M_{δ:DE}{S:aN}{Q:V3->aN->Prop}(h:Q (.fn x) S):W3 (Sa x δ S) Q:=W3.ok h
end
end L3
end
section
namespace NT
def mx(f:Nat->Nat)(w:List Nat):Nat:=(w.map f).foldl max 0
def BX{f g:Nat->Nat}{w:List Nat}(h:∀z∈w,f z=g z):mx f w=mx g w:=by
 unfold mx;rw[Qa1 h]
theorem uT:∀(l:List Nat) (n:Nat),(l.map fun(x:Nat)=>(x:Int)).foldl max (n:Int)=((l.foldl max n:Nat):Int)
 | [],n=>rfl
 | a ::l,n=>by
   rw[Qay,QbY,QbY];have:max (n:Int) (a:Int)=((max n a:Nat):Int):=by omega
   rw[this];exact uT l (max n a)
structure BA (f:Nat->Nat) (M:Nat) (bs:List Int):Prop where
 a:∀(z:Nat) (v:Int),bs[z]? =some v->v= -1\/(0<=v/\v+f z<=M)
def BB(f:Nat->Nat)(M:Nat)(bs:List Int)(n:Nat):Prop:=∃(z:Nat) (v:Int),z<n/\bs[z]? =some v/\0<=v/\(M:Int)<=v+f z
def Up(bs YF:List Int):Prop:=YF.length=bs.length/\∀(z:Nat) (v:Int),bs[z]? =some v->∃v',YF[z]? =some v'/\v<=v'
end NT
namespace NT
open PySem PySem.Spec PyProof.Rows L2 L3
structure Gt where
 k:Str
 w:List Nat
 s:Bool
def nN(z:Nat):D:= .int z
def wN(w:List Nat):D:= .tup (w.map nN)
def gN(g:Gt):D:= .tup [.str g.k,wN g.w, .bl g.s]
def iN(x:Str × Nat):D:= .tup [.str x.1, .int x.2]
def oN(x:Str × List Nat):D:= .tup [.str x.1,wN x.2]
structure Net where
 i:Aac
 g:List Gt
 o:Aad
def Net.d(n:Net):D:= .tup [.lst (n.i.map iN), .lst (n.g.map gN), .lst (n.o.map oN)]
def Net.first(n:Net):Nat:=(n.i.map (·.2)).sum
structure SX (n:Nat) (w:List Nat):Prop where
 ne:w≠[]
 le:w.length<=3
 lt:∀z∈w,z<n
structure Net.Ok (n:Net):Prop where
 i1:1<=n.i.length
 i6:n.i.length<=6
 iw:∀x∈n.i,1<=x.2/\x.2<=3
 is:∀x∈n.i,eN 0 (.str x.1)
 g60:n.g.length<=60
 gw:∀(p:Nat) (g:Gt),n.g[p]? =some g->SX (n.first+p) g.w
 gs:∀g∈n.g,eN 0 (.str g.k)
 o1:1<=n.o.length
 o6:n.o.length<=6
 ow:∀x∈n.o,SX (n.first+n.g.length) x.2
 os:∀x∈n.o,eN 0 (.str x.1)
theorem Df:∀{l:Aac},(∀x∈l,1<=x.2/\x.2<=3)->l.length<=(l.map (·.2)).sum/\(l.map (·.2)).sum<=3*l.length
 | [],_=>by simp
 | x ::l,h=>by
   have ih:=Df (l:=l) fun y hy=>h y (Qai _ hy)
   have:=h x Qat;rw[Qay,QbK,QaM];omega
def ne_self{n:Nat}{ds:List D}(h:eN n (.tup ds))(hn:n<=64):Cn (.tup ds) (.tup ds)= .ok (.bl false):=by unfold Cn;rw [h.eqT hn];rfl
def eq_self{n:Nat}{ds:List D}(h:eN n (.tup ds))(hn:n<=64):oQ (.tup ds) (.tup ds)= .ok (.bl true):=by unfold oQ;rw [h.eqT hn];rfl
inductive Sm:Nat->D->Prop where
 | int (n:Nat) (i:Int):Sm n (.int i)
 | bl (n:Nat) (b:Bool):Sm n (.bl b)
 | str (n:Nat) (s:Str):Sm n (.str s)
 | lst {n:Nat} {ds:List D} (h:∀d∈ds,Sm n d) (hl:ds.length<=1000000):Sm (n+1) (.lst ds)
 | tup {n:Nat} {ds:List D} (h:∀d∈ds,Sm n d) (hl:ds.length<=1000000):Sm (n+1) (.tup ds)
def QU{f g:FD}{δ:az}{r:R D}(h:f δ= .ok (.bl true))(h2:g δ=r):JR f g δ=r:=by unfold JR;rw [RF h,R.aS,QaD rfl];exact h2
def nU{F G:FS}{δ:az}{d:D}(h:F δ= .ok (.rt d)):fG F G δ= .ok (.rt d):=by unfold fG;rw [h];rfl
def QT{m i:Nat}{v:V3}(h:((ip 0 m).map V3.d)[i]? =some v):i<m/\v= .d (.int i):=by
 rw[Qad,ip,Qad] at h;cases q:(List.range m)[i]? with
 | none=>rw [q] at h;cases h
 | some j=>
   rw[q] at h;cases h;obtain⟨q1,q2⟩:=Qab.mp q;rw[List.getElem_range] at q2;rw[Qaj] at q1;subst q2;exact⟨q1,by simp⟩
def FW(lo:Int)(m:Nat):(ip lo m).length=m:=by rw[ip,Qaa,Qaj]
def dG(S:aN)(x y:SO):(S++[x]).set S.length y=S++[y]:=by
 rw[Qa3 _ _ (Qag _),QaQ];rfl
def bc(S:aN)(x:SO):(S++[x])[S.length]? =some x:=by rw[Qae (Qag _),QaQ];rfl
def er{α:Type}{l:List α}{f:α->D}{i:Nat}{v:V3}(h:((l.map f).map V3.d)[i]? =some v):∃x,l[i]? =some x/\v= .d (f x):=by
 rw[Qad,Qad] at h;cases q:l[i]? with
 | none=>rw [q] at h;cases h
 | some x=>rw [q] at h;cases h;exact⟨x,rfl,rfl⟩
def oa{α:Type}{l:List α}{f:α->D}{i:Nat}{v:D}(h:(l.map f)[i]? =some v):∃x,l[i]? =some x/\v=f x:=by
 rw[Qad] at h;cases q:l[i]? with
 | none=>rw [q] at h;cases h
 | some x=>rw [q] at h;cases h;exact⟨x,rfl,rfl⟩
theorem bJ{α:Type}{t:FT}{c:az->R Bool}{f:FD}{δ:az}(a b:α->D):∀{xs:List α},(∀x∈xs,∃cX,t (a x) δ= .ok cX/\c cX= .ok true/\f cX= .ok (b x))->oM t c f δ (xs.map a)= .ok (xs.map b)
 | [],_=>rfl
 | x ::xs,h=>by
   obtain⟨cX,h1,h2,h3⟩:=h x Qat;have ih:=bJ (t:=t) (c:=c) (f:=f) (δ:=δ) a b (xs:=xs) fun y hy=>h y (Qai _ hy)
   rw[Qay];unfold oM;rw[h1,R.aS,h2,R.aS,QaD rfl,h3,R.aS,ih];rfl
theorem e_{α:Type}{t:FT}{c:az->R Bool}{f:FD}{δ:az}(p:α->Bool)(a b:α->D):∀{xs:List α},(∀x∈xs,∃cX,t (a x) δ= .ok cX/\c cX= .ok (p x)/\(p x=true->f cX= .ok (b x)))->oM t c f δ (xs.map a)= .ok ((xs.filter p).map b)
 | [],_=>rfl
 | x ::xs,h=>by
   obtain⟨cX,h1,h2,h3⟩:=h x Qat;have ih:=e_ (t:=t) (c:=c) (f:=f) (δ:=δ) p a b (xs:=xs) fun y hy=>h y (Qai _ hy)
   rw[Qay];unfold oM;rw[h1,R.aS,h2,R.aS];cases e:p x with
   | true=>rw [QaD rfl,h3 e,R.aS,ih,List.filter_cons,QaD e];rfl
   | false=>rw [QaB (by decide),ih,List.filter_cons,QaB (by rw[e];decide)]
theorem Gf:∀l:List Nat,ints? (l.map nN)=some (l.map fun(x:Nat)=>(x:Int))
 | []=>rfl
 | a ::l=>by show(ints? (l.map nN)).map _=_;rw [Gf l];rfl
def Ai{l:List Nat}(h:l≠[]):ph [.lst (l.map nN)]= .ok (nN (l.foldl max 0)):=by
 obtain⟨a,l,rfl⟩:=List.exists_cons_of_ne_nil h;show(match ints? ((a ::l).map nN) with | some (n ::ns)=>R.ok (D.int (ns.foldl max n)) | _=> .no)=_
 rw[Gf];show R.ok (D.int ((l.map fun(x:Nat)=>(x:Int)).foldl max (a:Int)))=_
 rw[uT,QbY,Nat.zero_max];rfl
def Nu{n z:Nat}(h:z<n):HD n (z:Int)=some z:=by
 unfold HD;rw[QaD (by omega),QaD (by omega)]
 simp
def CI{α:Type}{xs:List α}{z:Nat}{x:α}(h:xs[z]? =some x):vW xs (z:Int)=some x:=by
 have hl:=(Qab.mp h).1;unfold vW;rw[Nu hl];exact h
def iz{ds:List D}{z:Nat}{x:D}(h:ds[z]? =some x):bH (.lst ds) (.int z)= .ok x:=zP (CI h)
def LG{ds:List D}{z:Nat}{x:D}(h:ds[z]? =some x):bH (.tup ds) (.int z)= .ok x:=we (CI h)
def Qa{a b:Nat}(h:a<1000):nG (.int a) (.int b)= .ok (.int ((a*b:Nat):Int)):=by
 show R.bV (decide ((-(2 ^ 64)<(a:Int)/\(a:Int)<2 ^ 64)\/(-(2 ^ 64)<(b:Int)/\(b:Int)<2 ^ 64))) _=_;rw[c_ _ (.inl ⟨by omega,by omega⟩)]
 rfl
end NT
end
section
namespace MT
open PySem PySem.Spec PyProof.Rows L2 L3
abbrev M:=Nat->Bool
def To{N:List Str}{F:FZ}{vs:List V3}{δ:DE}{S:aN}{QV:V3->aN->Prop}(e:bQ N vs=δ)(h:W3 (F δ S) fun o S1=>∃eT,o= .nx eT/\QV (.d .cR) S1):W3 (mB N F vs S) QV:=by
 subst e;exact W3.bind (h.mono fun _ _ ⟨_,e,q⟩=>by subst e;exact W3.ok q)
def lW:Nat->M->Nat
 | 0,_=>0
 | N+1,f=>(if f 0 then 1 else 0)+2*lW N (fun i=>f (i+1))
theorem jT:∀(N:Nat) (f:M) (i:Nat),(lW N f).testBit i=(decide (i<N) && f i)
 | 0,f,i=>by unfold lW;simp
 | N+1,f,0=>by
   unfold lW;rw[Nat.testBit_zero];cases f 0 <;> simp <;> omega
 | N+1,f,i+1=>by
   unfold lW;rw[Nat.testBit_succ];have:((if f 0=true then 1 else 0)+2*lW N fun i=>f (i+1)) / 2=lW N fun i=>f (i+1):=by split <;> omega
   rw[this,jT N _ i];simp
theorem qo:∀{N:Nat} {f g:M},(∀i,i<N->f i=g i)->lW N f=lW N g
 | 0,_,_,_=>rfl
 | N+1,f,g,h=>by
   unfold lW;rw[h 0 (by omega),qo (N:=N) fun i hi=>h (i+1) (by omega)]
def F7(N:Nat)(f g:M):lW N f &&& lW N g=lW N fun i=>f i && g i:=by
 refine QcJ fun i=>?_
 rw[Nat.testBit_and,jT,jT,jT];cases decide (i<N) <;> simp
def Js(N:Nat)(f g:M):lW N f ||| lW N g=lW N fun i=>f i || g i:=by
 refine QcJ fun i=>?_
 rw[Nat.testBit_or,jT,jT,jT];cases decide (i<N) <;> simp
theorem Fm:∀(N:Nat) (f g:M),((lW N fun i=>f i || g i:Nat):Int) - (lW N fun i=>f i && g i:Nat)=(lW N fun i=>f i !=g i:Nat)
 | 0,f,g=>rfl
 | N+1,f,g=>by
   have ih:=Fm N (fun i=>f (i+1)) (fun i=>g (i+1))
   have e:∀h:M,lW (N+1) h=(if h 0 then 1 else 0)+2*lW N (fun i=>h (i+1)):=fun _=>rfl
   rw[e,e,e];generalize lW N (fun i=>f (i+1) || g (i+1))=a at ih ⊢
   generalize lW N (fun i=>f (i+1) && g (i+1))=b at ih ⊢
   generalize lW N (fun i=>f (i+1) !=g (i+1))=c at ih ⊢
   show(((if(f 0 || g 0) then 1 else 0)+2*a:Nat):Int) - ((if(f 0 && g 0) then 1 else 0)+2*b:Nat)=((if(f 0 !=g 0) then 1 else 0)+2*c:Nat)
   cases f 0 <;> cases g 0 <;> simp <;> omega
def sv(x y:Nat):Builtin.bitAnd (x:Int) (y:Int)=((x &&& y:Nat):Int):=by
 unfold Builtin.bitAnd;rw[QaE (by omega:(0:Int)<=x),QaE (by omega:(0:Int)<=y)]
 simp
def Fd(x y:Nat):Builtin.bitOr (x:Int) (y:Int)=((x ||| y:Nat):Int):=by
 unfold Builtin.bitOr Builtin.bitAnd Builtin.bitNot;rw[QaY (by omega:¬(0:Int)<= -(x:Int) - 1),QaY (by omega:¬(0:Int)<= -(y:Int) - 1)]
 show -(-(((-(-(x:Int) - 1) - 1).toNat ||| (-(-(y:Int) - 1) - 1).toNat:Nat):Int) - 1) - 1=_
 rw[show(-(-(x:Int) - 1) - 1).toNat=x by omega,show(-(-(y:Int) - 1) - 1).toNat=y by omega]
 omega
def mI(N:Nat)(f:M):D:= .int (lW N f:Nat)
def BP{N:Nat}{f g:M}(h:∀i,i<N->f i=g i):mI N f=mI N g:=by unfold mI;rw [qo h]
def wu(N:Nat)(f g:M):EB (mI N f) (mI N g)= .ok (mI N fun i=>f i && g i):=by
 show R.ok (D.int (Builtin.bitAnd (lW N f:Int) (lW N g:Int)))=_;rw[sv,F7];rfl
def B_(N:Nat)(f g:M):Ln (mI N f) (mI N g)= .ok (mI N fun i=>f i || g i):=by
 show R.ok (D.int (Builtin.bitOr (lW N f:Int) (lW N g:Int)))=_;rw[Fd,Js];rfl
def F_(N:Nat)(f g:M):HF (mI N f) (mI N g)= .ok (mI N fun i=>f i !=g i):=by
 show R.ok (D.int (Builtin.bitOr (lW N f:Int) (lW N g:Int) - Builtin.bitAnd (lW N f:Int) (lW N g:Int)))=_;rw[Fd,sv,Js,F7,Fm];rfl
def one:M:=fun _=>true
def CJ(N:Nat)(f:M):HF (mI N one) (mI N f)= .ok (mI N fun i=>!f i):=by
 rw[F_];have:(fun i=>one i !=f i)=fun i=>!f i:=by funext i;unfold one;simp
 rw[this]
def Kf(N:Nat)(f:M)(c:Bool):(if c then HF (mI N one) (mI N f) else .ok (mI N f))= .ok (mI N fun i=>f i !=c):=by
 cases c with
 | true=>
   rw[QaD rfl,CJ];have:(fun i=>!f i)=fun i=>f i !=true:=by funext i;cases f i <;> rfl
   rw[this]
 | false=>
   rw[QaB (by decide)]
   have:f=fun i=>f i !=false:=by funext i;cases f i <;> rfl
   rw[<-this]
def Bv{N:Nat}{f:M}:lW N f=0↔∀i,i<N->f i=false:=by
 constructor
 .intro h i hi;have:=jT N f i;rw[h,Nat.zero_testBit,QaE hi,Bool.true_and] at this;exact this.symm
 .intro h;refine QcJ fun i=>?_
  rw[jT,Nat.zero_testBit];by_cases q:i<N
  .rw [h i q];simp
  .rw [QaY q];rfl
def Uj(N:Nat)(f:M)(n:Nat):(BV (mI N f) (.int n)).bind (fun d=>EB d (.int 1))= .ok (.int (if decide (n<N) && f n then 1 else 0)):=by
 have h1:BV (mI N f) (.int n)= .ok (.int ((lW N f / 2 ^ n:Nat):Int)):=by
  show R.bV (decide ((0:Int)<=n)) (.ok (D.int ((lW N f:Int) / 2 ^ ((n:Int)).toNat)))=_;rw[c_ _ (by omega),Qa4]
  congr 2
 rw[h1,R.aS];show R.ok (D.int (Builtin.bitAnd ((lW N f / 2 ^ n:Nat):Int) ((1:Nat):Int)))=_;rw[sv,Nat.and_one_is_mod,<-jT];congr 2;unfold Nat.testBit;rw[Nat.shiftRight_eq_div_pow,Nat.one_and_eq_mod_two];have:lW N f / 2 ^ n % 2=0\/lW N f / 2 ^ n % 2=1:=by omega
 rcases this with q | q <;> rw[q] <;> rfl
def bI(b:Bool):D:= .int (if b then 1 else 0)
def Lo:List Bool->Nat
 | []=>0
 | b ::bs=>(if b then 1 else 0)+2*Lo bs
theorem Iz:∀bs:List Bool,Lo bs=lW bs.length fun i=>bs.getD i false
 | []=>rfl
 | b ::bs=>by
   unfold Lo;rw[Iz bs];rfl
def nI(n:Nat):D:= .int (n:Int)
def kS:Nat->Str | 0=>"not" | 1=>"and" | 2=>"or" | 3=>"xor" | _=>"vote"
def ar:Nat->Nat | 0=>1 | 4=>3 | _=>2
def y6(k:Nat):ar k<=3:=by unfold ar;split <;> omega
def gv:Nat->List Bool->Bool
 | 0,[a]=>!a
 | 1,[a,b]=>a && b
 | 2,[a,b]=>a || b
 | 3,[a,b]=>a !=b
 | 4,[a,b,c]=>(a && b) || (a && c) || (b && c)
 | _,_=>false
def g7(ws:List M)(n:Nat):M:=ws.getD n fun _=>false
def zA{ws:List M}{b:M}{n:Nat}(h:n<ws.length):g7 (ws++[b]) n=g7 ws n:=by
 unfold g7;rw[Qan,Qam h,Qan]
def BN(ws:List M)(b:M):g7 (ws++[b]) ws.length=b:=by
 unfold g7;rw[Qan,Qae (Qag _),QaQ];rfl
abbrev Gt:=Nat × List Nat × Bool
def cO(g:Gt):D:= .tup [.str (kS g.1), .tup (g.2.1.map nI), .bl g.2.2]
def l0(n:Nat)(g:Gt):Prop:=g.1<=4/\g.2.1.length=ar g.1/\∀w∈g.2.1,w<n
def inD(x:Str × Nat):D:= .tup [.str x.1,nI x.2]
def vk(x:Str × List Nat):D:= .tup [.str x.1, .tup (x.2.map nI)]
def aM(ins:Aac)(gs:List Gt)(os:Aad):D:= .tup [.lst (ins.map inD), .lst (gs.map cO), .lst (os.map vk)]
def l7(ins:Aac):Nat:=(ins.map (·.2)).sum
def gF(g:Gt)(ws:List M):M:=fun p=>gv g.1 (g.2.1.map fun n=>g7 ws n p)
def iU(bad:List Int)(b:M):Nat->List M->List M
 | 0,ws=>ws
 | n+1,ws=>iU bad b n ws++[fun p=>b p !=bad.contains ((iU bad b n ws).length:Int)]
theorem jj(bad:List Int)(b:M):∀n ws,(iU bad b n ws).length=ws.length+n
 | 0,ws=>rfl
 | n+1,ws=>by unfold iU;rw [Qau,jj bad b n ws];rfl
def fq(ins:Aac)(bits:List M)(bad:List Int):Nat->List M
 | 0=>[]
 | i+1=>match ins[i]?,bits[i]? with | some x,some b=>iU bad b x.2 (fq ins bits bad i) | _,_=>fq ins bits bad i
theorem j1{ins:Aac}{bits:List M}{bad:List Int}(hb:bits.length=ins.length):∀i,i<=ins.length->(fq ins bits bad i).length=l7 (ins.take i)
 | 0,_=>rfl
 | i+1,hi=>by
   have h1:ins[i]? =some ins[i]:=Qac (by omega)
   have h2:bits[i]? =some bits[i]:=Qac (by omega)
   unfold fq;rw[h1,h2];show(iU bad bits[i] ins[i].2 (fq ins bits bad i)).length=_;rw[jj,j1 hb i (by omega),QaU,h1]
   unfold l7;simp only[Option.toList_some,Qas,List.sum_append,Qay,Qci,QbK,List.sum_nil];omega
def rX(gs:List Gt)(turned:List Int)(w0:List M):Nat->List M
 | 0=>w0
 | i+1=>match gs[i]? with | some g=>rX gs turned w0 i++[fun p=>gF g (rX gs turned w0 i) p !=turned.contains (i:Int)] | none=>rX gs turned w0 i
theorem n5{gs:List Gt}{turned:List Int}{w0:List M}:∀i,i<=gs.length->(rX gs turned w0 i).length=w0.length+i
 | 0,_=>rfl
 | i+1,hi=>by
   have h1:gs[i]? =some gs[i]:=Qac (by omega)
   unfold rX;rw[h1];show(rX gs turned w0 i++[_]).length=_;rw[Qau,n5 i (by omega)]
   rfl
structure iB (ins:Aac) (gs:List Gt) (os:Aad):Prop where
 hi:ins.length<100
 hw:∀x∈ins,x.2<100
 hg:gs.length<1000
 g:∀(i:Nat) (x:Gt),gs[i]? =some x->l0 (l7 ins+i) x
 ho:os.length<1000
 o:∀x∈os,x.2.length<1000/\∀w∈x.2,w<l7 ins+gs.length
def lh(ins:Aac)(gs:List Gt)(bits:List M)(turned bad:List Int):List M:=rX gs turned (fq ins bits bad ins.length) gs.length
theorem Al:∀{l:Aac},(∀x∈l,x.2<100)->l7 l<=100*l.length
 | [],_=>by simp [l7]
 | x ::l,h=>by
   have ih:=Al (l:=l) fun y hy=>h y (Qai _ hy)
   have:=h x Qat;unfold l7 at ih ⊢;rw[Qay,QbK,QaM];omega
def H0{ins:Aac}{gs:List Gt}{bits:List M}{turned bad:List Int}(hb:bits.length=ins.length):(lh ins gs bits turned bad).length=l7 ins+gs.length:=by unfold lh;rw [n5 _ (Qag _),j1 hb _ (Qag _),QaV]
def tell(ws:List M)(x:Str × List Nat):List M:=x.2.map (g7 ws)
def zC:List Bool->Bool × Bool
 | [a]=>(!a,a)
 | [a,b]=>(!(a || b),a && b)
 | [a,b,c]=>let v:=(a && b) || (a && c) || (b && c);(!v,v)
 | _=>(false,false)
def brk(safe:Bool)(x y:Bool × Bool):Bool:=if safe then(x.1 && y.2) || (x.2 && y.1) else(x.1 !=y.1) || (x.2 !=y.2)
def AN(i:Int)(ps:List Int):OB (.int i) (.tup (ps.map .int))= .ok (.bl (ps.contains i)):=by
 show((match ints? (ps.map D.int) with | some ss=>R.ok (ss.contains i) | none=> .no)).bind (fun b=>R.ok (D.bl b))=_
 rw[L2.ints_map];rfl
def se{ds:List D}{i:Nat}{v:V3}(h:((cY ds).map V3.d)[i]? =some v):∃d,ds[i]? =some d/\v= .d (.tup [.int i,d]):=by
 rw[Qad,cY,Qad,QbM] at h;cases q:ds[i]? with
 | none=>rw [q] at h;cases h
 | some d=>
   rw[q] at h;simp at h;exact⟨d,rfl,h.symm⟩
def AU{c:az->R Bool}{δ:az}{b:Bool}{r:R D}(h:c δ= .ok b)(h2:(if b then f δ else g δ)=r):Qy c f g δ=r:=by unfold Qy;rw [h,R.aS];exact h2
def dG(S:aN)(x y:SO):(S++[x]).set S.length y=S++[y]:=by
 rw[Qa3 _ _ (Qag _),QaQ];rfl
def bc(S:aN)(x:SO):(S++[x])[S.length]? =some x:=by rw[Qae (Qag _),QaQ];rfl
def Qn{N:Nat}{ws:List M}{n:Nat}(h:n<ws.length):bH (.lst (ws.map (mI N))) (nI n)= .ok (mI N (g7 ws n)):=by
 refine NT.iz ?_;rw[Qad,Qac h];unfold g7;rw[Qan,Qac h];rfl
def rg{α:Type}{t:FG}{body:FZ}{S:aN}(g:α->V3)(f:α->Option V3)(E:DE->Prop):∀{xs:List α} {δ:DE},E δ->
 (∀x∈xs,∀δ,E δ->∃cX,t (g x) δ=some cX/\W3 (body cX S) fun o S1=>S1=S/\(match f x with | some v=>o= .rt v | none=>∃ef,o= .nx ef/\E ef))->
 W3 (pA t body (xs.map g) δ S) fun o S1=>S1=S/\(match xs.findSome? f with | some v=>o= .rt v | none=>∃ef,o= .nx ef/\E ef)
 | [],δ,h0,_=>W3.ok ⟨rfl,δ,rfl,h0⟩
 | x ::xs,δ,h0,hs=>by
   obtain⟨cX,e1,o,S1,e2,rfl,h2⟩:=hs x Qat δ h0;rw[Qay];unfold pA;rw[e1];refine W3.bind ⟨_,_,e2,?_⟩;rw[QcP];cases hf:f x with
   | some v=>rw [hf] at h2;subst h2;exact W3.ok ⟨rfl,rfl⟩
   | none=>
     rw[hf] at h2;obtain⟨ef,rfl,h2⟩:=h2;exact rg g f E h2 fun y hy=>hs y (Qai _ hy)
def qY{α:Type}{t:FT}{body:FS}(g:α->D)(f:α->Option D)(E:az->Prop):∀{xs:List α} {δ:az},E δ->
 (∀x∈xs,∀δ,E δ->∃o,((t (g x) δ).bind body)= .ok o/\(match f x with | some v=>o= .rt v | none=>∃ef,o= .nx ef/\E ef))->
 ∃o,qJ t body (xs.map g) δ= .ok o/\(match xs.findSome? f with | some v=>o= .rt v | none=>∃ef,o= .nx ef/\E ef)
 | [],δ,h0,_=>⟨_,rfl,δ,rfl,h0⟩
 | x ::xs,δ,h0,hs=>by
   obtain⟨o,e2,h2⟩:=hs x Qat δ h0;rw[Qay];unfold qJ;cases e3:t (g x) δ with
   | no=>rw [e3] at e2;cases e2
   | ex _=>rw [e3] at e2;cases e2
   | ok cX=>
     rw[e3,R.aS] at e2;rw[R.aS,e2,R.aS,QcP];cases hf:f x with
     | some v=>rw [hf] at h2;subst h2;exact⟨_,rfl,rfl⟩
     | none=>
       rw[hf] at h2;obtain⟨ef,rfl,h2⟩:=h2;exact qY g f E h2 fun y hy=>hs y (Qai _ hy)
def rZ:List Nat->Nat->Aae
 | _,0=>[[]]
 | ps,s+1=>(List.range ps.length).flatMap fun a=>(rZ (ps.drop (a+1)) s).map (ps.getD a 0 ::·)
theorem t7:∀{s:Nat} {ps T:List Nat},T∈rZ ps s->T.length=s/\∀x∈T,x∈ps
 | 0,ps,T,h=>by unfold rZ at h;rw [QaS.mp h];simp
 | s+1,ps,T,h=>by
   unfold rZ at h;obtain⟨a,ha,h⟩:=List.mem_flatMap.mp h;obtain⟨R,hR,rfl⟩:=QaR.mp h;rw[QaL] at ha;obtain⟨h1,h2⟩:=t7 hR;refine⟨by simp [h1],fun x hx=>?_⟩
   rcases Qar.mp hx with rfl | hx
   .rw [Qan,Qac ha];exact QbR ha
   .exact List.mem_of_mem_drop (h2 x hx)
theorem DI:∀{l:List Nat} {m:Nat},(∀x∈l,x<=m)->l.sum<=l.length*m
 | [],_,_=>by simp
 | x ::l,m,h=>by
   have:=DI (l:=l) (m:=m) fun y hy=>h y (Qai _ hy)
   have h0:=h x Qat;rw[QbK,QaM,Nat.add_mul];omega
theorem vy:∀{s:Nat} {ps:List Nat} {n:Nat},ps.length<=n->(rZ ps s).length<=n ^ s
 | 0,ps,n,_=>by unfold rZ;simp
 | s+1,ps,n,h=>by
   unfold rZ;rw[Qcc,Nat.pow_succ];refine Qa0 (DI (m:=n ^ s) fun x hx=>?_) ?_
   .obtain⟨a,_,rfl⟩:=QaR.mp hx;rw[Qaa];exact vy (by rw[QbP];omega)
   .rw [Qaa,Qaj,Qb3];exact QbT _ h
def QK{F G:FZ}{δ:DE}{S:aN}{QO:Ou->aN->Prop}(h:W3 (F δ S) fun o S1=>match o with | .nx cX=>W3 (G cX S1) QO | .rt v=>QO (.rt v) S1):W3 (bt F G δ S) QO:=
 W3.bind (h.mono fun o S1 q=>by cases o with | nx cX=>exact q | rt v=>exact W3.ok q)
end MT
end
section
set_option maxHeartbeats 400000
namespace MT
open PySem PySem.Spec PyProof.Rows L2 L3
theorem zw{gs:List Gt}{t:List Int}{w0:List M}{n:Nat}:∀{j i:Nat},i<=j->j<=gs.length->n<w0.length+i->g7 (rX gs t w0 j) n=g7 (rX gs t w0 i) n
 | 0,i,h,_,_=>by rw[Nat.le_zero.mp h]
 | j+1,i,h,hj,hn=>by
   by_cases e:i=j+1
   .rw [e]
   .have h1:gs[j]? =some gs[j]:=Qac (by omega)
    rw[<-zw (j:=j) (i:=i) (by omega) (by omega) hn]
    conv=>lhs;unfold rX
    rw[h1];exact zA (by rw[n5 _ (by omega)];omega)
section
variable {ins:Aac} {gs:List Gt} {bits:List M} {T bad:List Int} {p:Nat}
def OG(hb:bits.length=ins.length):(fq ins bits bad ins.length).length=l7 ins:=by rw[j1 hb _ (Qag _),QaV]
def ET(hb:bits.length=ins.length){n:Nat}(h:n<l7 ins):g7 (lh ins gs bits T bad) n=g7 (fq ins bits bad ins.length) n:=by
 unfold lh;rw[zw (i:=0) (QbG _) (Qag _) (by rw[OG hb];exact h)]
 rfl
def sI(hb:bits.length=ins.length){i:Nat}{g:Gt}(h:gs[i]? =some g)(hg:l0 (l7 ins+i) g) :
 g7 (lh ins gs bits T bad) (l7 ins+i) p=(gv g.1 (g.2.1.map fun n=>g7 (lh ins gs bits T bad) n p) !=T.contains (i:Int)):=by
 have hi:i<gs.length:=(Qab.mp h).1;have hw:=OG (bad:=bad) hb;unfold lh;rw[zw (i:=i+1) (by omega) (Qag _) (by rw[hw];omega)]
 conv=>lhs;unfold rX
 rw[h];have hl:(rX gs T (fq ins bits bad ins.length) i).length=l7 ins+i:=by rw[n5 _ (by omega),hw]
 show g7 (rX gs T (fq ins bits bad ins.length) i++[_]) (l7 ins+i) p=_;rw[<-hl,BN];show(gv g.1 (g.2.1.map fun n=>g7 (rX gs T (fq ins bits bad ins.length) i) n p) !=T.contains (i:Int))=_
 congr 2;refine Qa1 fun n hn=>?_
 rw[zw (j:=gs.length) (i:=i) (by omega) (Qag _) (by rw[hw];exact hg.2.2 n hn)]
theorem IQ{b:M}:∀m ws n,n<ws.length->g7 (iU bad b m ws) n=g7 ws n
 | 0,ws,n,_=>rfl
 | m+1,ws,n,h=>by unfold iU;rw [zA (by rw[jj];omega)];exact IQ m ws n h
theorem H_{b:M}:∀(m:Nat) (ws:List M) (k:Nat),k<m->g7 (iU bad b m ws) (ws.length+k) p=(b p !=bad.contains ((ws.length+k:Nat):Int))
 | 0,ws,k,h=>absurd h (by omega)
 | m+1,ws,k,h=>by
   unfold iU;by_cases e:k=m
   .subst e;rw[<-jj bad b k ws,BN]
   .rw [zA (by rw[jj];omega)]
    exact H_ m ws k (by omega)
end
theorem pf{m:Nat}:∀{ins:Aac},(∀x∈ins,x.2=m)->l7 ins=m*ins.length
 | [],_=>rfl
 | x ::l,h=>by
   have ih:=pf (ins:=l) fun y hy=>h y (Qai _ hy)
   have:=h x Qat;unfold l7 at ih ⊢;rw[Qay,QbK,QaM,ih,this,Nat.mul_succ,Nat.add_comm]
section
variable {ins:Aac} {gs:List Gt} {bits:List M} {T bad:List Int} {p m:Nat}
theorem wo(hw:∀x∈ins,x.2=m)(hb:bits.length=ins.length):∀i,i<=ins.length->∀j,j<i->∀k,k<m->g7 (fq ins bits bad i) (m*j+k) p=((bits.getD j fun _=>false) p !=bad.contains ((m*j+k:Nat):Int))
 | 0,_,j,hj,_,_=>absurd hj (by omega)
 | i+1,hi,j,hj,k,hk=>by
   have h1:ins[i]? =some ins[i]:=Qac (by omega)
   have h2:bits[i]? =some bits[i]:=Qac (by omega)
   have hl:(fq ins bits bad i).length=m*i:=by
    rw[j1 hb i (by omega),pf fun x hx=>hw x (QbN hx),QaX,Qb0 (by omega)]
   conv=>lhs;unfold fq
   rw[h1,h2];show g7 (iU bad bits[i] ins[i].2 (fq ins bits bad i)) (m*j+k) p=_;rw[hw _ (QbR _)];by_cases e:j=i
   .subst e;rw[<-hl,H_ _ _ _ hk,Qan,h2];rfl
   .have hji:j+1<=i:=by omega
    have:m*j+k<m*i:=by
     have:=QbT m hji;rw[QbH,Nat.mul_one] at this;omega
    rw[IQ _ _ _ (by rw[hl];exact this)]
    exact wo hw hb i (by omega) j (by omega) k hk
end
theorem yA{gs:List Gt}{t t':List Int}{w0:List M}(h:∀i,i<gs.length->t.contains (i:Int)=t'.contains (i:Int)):∀i,i<=gs.length->rX gs t w0 i=rX gs t' w0 i
 | 0,_=>rfl
 | i+1,hi=>by
   have h1:gs[i]? =some gs[i]:=Qac (by omega)
   unfold rX;rw[h1,yA h i (by omega)]
   show _++[fun p=>_ !=t.contains (i:Int)]=_++[fun p=>_ !=t'.contains (i:Int)]
   rw[h i (by omega)]
def wQ{ins:Aac}{gs:List Gt}{bits:List M}{t t' bad:List Int}(h:∀i,i<gs.length->t.contains (i:Int)=t'.contains (i:Int)):lh ins gs bits t bad=lh ins gs bits t' bad:=yA h _ (Qag _)
def bY(m:Nat)(ins:Aac):Aac:=ins.map fun x=>(x.1,m)
def SM(m:Nat)(g:Gt)(k:Nat):Gt:=(g.1,g.2.1.map (fun w=>m*w+k),g.2.2)
def fR(m:Nat)(gs:List Gt):List Gt:=gs.flatMap fun g=>(List.range m).map (SM m g)
def C8(m:Nat)(os:Aad):Aad:=os.map fun x=>(x.1,(List.range m).map fun k=>m*x.2.getD 0 0+k)
def shr(m k n:Nat)(T:List Int):List Int:=((List.range n).filter fun i=>T.contains ((m*i+k:Nat):Int)).map fun(i:Nat)=>(i:Int)
def vv{m k n i:Nat}{T:List Int}(h:i<n):(shr m k n T).contains (i:Int)=T.contains ((m*i+k:Nat):Int):=by
 unfold shr;rw[Qa6,Qbf];constructor
 .intro hm;obtain⟨j,hj,e⟩:=QaR.mp hm;have:j=i:=by omega
  subst this;exact(Qbg.mp hj).2
 .intro hm;exact QaR.mpr ⟨i,Qbg.mpr ⟨QaL.mpr h,hm⟩,rfl⟩
def tP(m k n:Nat):shr m k n []=[]:=by
 unfold shr;rw[Qb1.mpr (fun a _=>by simp)]
 rfl
section
variable {ins:Aac} {gs:List Gt} {os:Aad} {bits:List M} {T bad:List Int} {p m:Nat}
def kf:(fR m gs).length=m*gs.length:=by
 unfold fR
 induction gs with
 | nil=>rfl
 | cons g gs ih=>rw [List.flatMap_cons,Qau,ih,Qaa,Qaj,QaM,Nat.mul_succ,Nat.add_comm]
theorem sC:∀{gs:List Gt} {i k:Nat} {g:Gt},gs[i]? =some g->k<m->(fR m gs)[m*i+k]? =some (SM m g k)
 | [],i,k,g,h,_=>by simp at h
 | g0 ::gs,0,k,g,h,hk=>by
   obtain rfl:g0=g:=by simpa using h
   show((List.range m).map (SM m g0)++fR m gs)[m*0+k]? =_;rw[Nat.mul_zero,QbQ,Qam (by rw[Qaa,Qaj];exact hk),Qad,Qa2 hk];rfl
 | g0 ::gs,i+1,k,g,h,hk=>by
   show((List.range m).map (SM m g0)++fR m gs)[m*(i+1)+k]? =_;rw[Qae (by rw[Qaa,Qaj,Nat.mul_succ];omega),Qaa,Qaj,show m*(i+1)+k - m=m*i+k by rw[Nat.mul_succ];omega]
   exact sC (by simpa using h) hk
def xK:∀x∈bY m ins,x.2=m:=fun x hx=>by obtain⟨y,_,rfl⟩:=QaR.mp hx;rfl
def gr:(bY m ins).length=ins.length:=by unfold bY;rw [Qaa]
def j5:l7 (bY m ins)=m*ins.length:=by rw[pf xK,gr]
def KI{g:Gt}{n i k:Nat}(h:l0 (n+i) g)(hk:k<m):l0 (m*n+(m*i+k)) (SM m g k):=by
 refine⟨h.1,by show(g.2.1.map _).length=_;rw [Qaa];exact h.2.1,fun w hw=>?_⟩
 obtain⟨v,hv,rfl⟩:=QaR.mp hw;have h1:=h.2.2 v hv;have h2:=QbT m (show v+1<=n+i by omega)
 rw[QbH,QbH,Nat.mul_one] at h2;omega
def vA(hb:bits.length=ins.length)(h1:∀x∈ins,x.2=1)(hg:∀(i:Nat) (g:Gt),gs[i]? =some g->l0 (ins.length+i) g) :
 ∀N w,w<N->w<ins.length+gs.length->∀k,k<m->g7 (lh (bY m ins) (fR m gs) bits T bad) (m*w+k) p=g7 (lh ins gs bits (shr m k gs.length T) (shr m k ins.length bad)) w p
 | 0,w,hN,_,_,_=>absurd hN (by omega)
 | N+1,w,hN,hw,k,hk=>by
   have qB:bits.length=(bY m ins).length:=by rw[gr];exact hb
   have hw1:l7 ins=ins.length:=by rw[pf h1,Qb2]
   by_cases hwi:w<ins.length
   .have e:m*w+k<m*ins.length:=by
     have:=QbT m (show w+1<=ins.length by omega)
     rw[QbH,Nat.mul_one] at this;omega
    rw[ET qB (by rw[j5];exact e),ET hb (by rw[hw1];exact hwi),wo xK qB _ (Qag _) w (by rw[gr];exact hwi) k hk]
    have:=wo (p:=p) (bad:=shr m k ins.length bad) h1 hb _ (Qag _) w hwi 0 (by omega)
    rw[Qb2,Nat.add_zero] at this;rw[this,vv hwi]
   .obtain⟨i,rfl⟩:∃i,w=ins.length+i:=⟨w - ins.length,by omega⟩
    have hi:i<gs.length:=by omega
    have qA:gs[i]? =some gs[i]:=Qac hi;have hok:=hg i _ qA;have ew:m*(ins.length+i)+k=l7 (bY m ins)+(m*i+k):=by rw[j5,QbH];omega
    rw[ew,sI qB (sC qA hk) (by rw[j5];exact KI hok hk)]
    have hr:=sI (p:=p) (T:=shr m k gs.length T) (bad:=shr m k ins.length bad) hb qA (by rw[hw1];exact hok)
    rw[hw1] at hr;rw[hr,vv hi];congr 2;show(gs[i].2.1.map (fun w=>m*w+k)).map _=_
    rw[Qax];refine Qa1 fun n hn=>?_
    have RX:=hok.2.2 n hn;exact vA hb h1 hg N n (by omega) (by omega) k hk
def P6(hm:m<=10)(NO:iB ins gs os)(h1:∀x∈ins,x.2=1)(ho:∀x∈os,∃w,x.2=[w])(hg:gs.length<=90):iB (bY m ins) (fR m gs) (C8 m os):=by
 have hw1:l7 ins=ins.length:=by rw[pf h1,Qb2]
 refine⟨by rw[gr];exact NO.hi,fun x hx=>by rw[xK x hx];omega,?_,?_,by unfold C8;rw [Qaa];exact NO.ho,?_⟩
 .rw [kf];have:=QcS hm hg;omega
 .intro i x hx;have hi:i<m*gs.length:=by rw[<-kf];exact(Qab.mp hx).1
  have hm0:0<m:=by
   cases m with
   | zero=>rw [Nat.zero_mul] at hi;omega
   | succ n=>omega
  have hq:i / m<gs.length:=QcK hi;have hr:=Qcl i hm0;have e:m*(i / m)+i % m=i:=Nat.div_add_mod i m;have h2:=sC (m:=m) (k:=i % m) (Qac hq) hr;rw[e,hx] at h2;cases h2;rw[j5];have h3:=NO.g _ _ (Qac hq);rw[hw1] at h3;have h4:=KI (m:=m) (k:=i % m) h3 hr;rw[e] at h4;exact h4
 .intro x hx;obtain⟨y,hy,rfl⟩:=QaR.mp hx;obtain⟨w,hw⟩:=ho y hy;refine⟨by show((List.range m).map _).length<1000;rw [Qaa,Qaj];omega,fun v hv=>?_⟩
  obtain⟨k,hk,rfl⟩:=QaR.mp hv;have hk:=QaL.mp hk;have h2:=(NO.o y hy).2 w (by rw[hw];simp)
  rw[hw1] at h2;rw[j5,kf,hw];show m*w+k<_;have:=QbT m (show w+1<=ins.length+gs.length by omega)
  rw[QbH,QbH,Nat.mul_one] at this;omega
def mk_inj{i i' k k':Nat}(hk:k<m)(Uu:k'<m)(h:m*i+k=m*i'+k'):i=i'/\k=k':=by
 have h1:(m*i+k) / m=i:=by rw[Nat.mul_add_div (by omega),Nat.div_eq_of_lt hk,Nat.add_zero]
 have h2:(m*i'+k') / m=i':=by rw[Nat.mul_add_div (by omega),Nat.div_eq_of_lt Uu,Nat.add_zero]
 have:i=i':=by rw[<-h1,<-h2,h]
 subst this;exact⟨rfl,by omega⟩
def Jd{n i k:Nat}(hk:k<m)(j:Nat)(hj:j<n):(shr m k n [((m*i+k:Nat):Int)]).contains (j:Int)=[(i:Int)].contains (j:Int):=by
 rw[vv hj,Qa6,Qbf,Qbf,QaS,QaS];exact⟨fun h=>by rw[(mk_inj hk hk (QbW.mp h)).1],fun h=>by rw[QbW.mp h]⟩
def GY{n i k k':Nat}(hk:k<m)(Uu:k'<m)(h:k'≠k)(j:Nat)(hj:j<n):(shr m k' n [((m*i+k:Nat):Int)]).contains (j:Int)=([]:List Int).contains (j:Int):=by
 rw[vv hj];refine(QbA.mpr fun q=>h ?_).trans rfl
 rw[Qbf,QaS] at q;exact(mk_inj Uu hk (QbW.mp q)).2
end
def vD(n w j:Nat):Nat:=if w<n then 3*w+j else 3*n+6*(w - n)+3+j
def SG(n:Nat)(g:Gt)(k:Nat):Gt:=(g.1,g.2.1.map (fun w=>vD n w k),g.2.2)
def R8(n i:Nat)(g:Gt):Gt:=(4,[3*n+6*i,3*n+6*i+1,3*n+6*i+2],g.2.2)
def R9(n i:Nat)(g:Gt):List Gt:=[SG n g 0,SG n g 1,SG n g 2,R8 n i g,R8 n i g,R8 n i g]
def uf(n:Nat):Nat->List Gt->List Gt
 | _,[]=>[]
 | i,g ::gs=>R9 n i g++uf n (i+1) gs
def hX(n:Nat)(gs:List Gt):List Gt:=uf n 0 gs
def JQ(n:Nat)(os:Aad):Aad:=os.map fun x=>(x.1,(List.range 3).map fun j=>vD n (x.2.getD 0 0) j)
theorem px(n:Nat):∀(gs:List Gt) (i:Nat),(uf n i gs).length=6*gs.length
 | [],_=>rfl
 | g ::gs,i=>by
   unfold uf;rw[Qau,px n gs,QaM];show 6+_=_;omega
theorem wj(n:Nat):∀(gs hs:List Gt) (i:Nat),uf n i (gs++hs)=uf n i gs++uf n (i+gs.length) hs
 | [],hs,i=>rfl
 | g ::gs,hs,i=>by
   show R9 n i g++uf n (i+1) (gs++hs)=_;rw[wj n gs hs (i+1),<-QaN,QaM,show i+1+gs.length=i+(gs.length+1) by omega]
   rfl
theorem Av(n:Nat):∀{gs:List Gt} {i0 i k:Nat} {g:Gt},gs[i]? =some g->k<6->(uf n i0 gs)[6*i+k]? =(R9 n (i0+i) g)[k]?
 | [],i0,i,k,g,h,_=>by simp at h
 | g0 ::gs,i0,0,k,g,h,hk=>by
   obtain rfl:g0=g:=by simpa using h
   show(R9 n i0 g0++uf n (i0+1) gs)[6*0+k]? =_;rw[Qam (by show _<6;omega),Nat.mul_zero,QbQ];rfl
 | g0 ::gs,i0,i+1,k,g,h,hk=>by
   show(R9 n i0 g0++uf n (i0+1) gs)[6*(i+1)+k]? =_;rw[Qae (by show 6<=_;omega),show 6*(i+1)+k - (R9 n i0 g0).length=6*i+k by show _ - 6=_;omega,Av n (gs:=gs) (by simpa using h) hk,show i0+1+i=i0+(i+1) by omega]
section
variable {n:Nat} {gs:List Gt} {i j:Nat} {g:Gt}
def F0(h:gs[i]? =some g)(hj:j<3):(hX n gs)[6*i+j]? =some (SG n g j):=by
 unfold hX;rw[Av n h (by omega)]
 rcases(by omega:j=0\/j=1\/j=2) with rfl | rfl | rfl <;> rfl
def FI(h:gs[i]? =some g)(hj:j<3):(hX n gs)[6*i+(3+j)]? =some (R8 n i g):=by
 unfold hX;rw[Av n h (by omega),QbQ]
 rcases(by omega:j=0\/j=1\/j=2) with rfl | rfl | rfl <;> rfl
def OC{w:Nat}(h:w<n+i)(hj:j<3):vD n w j<3*n+6*i:=by
 unfold vD;split <;> omega
def Jt(h:l0 (n+i) g)(hj:j<3):l0 (3*n+(6*i+j)) (SG n g j):=by
 refine⟨h.1,by show(g.2.1.map _).length=_;rw [Qaa];exact h.2.1,fun w hw=>?_⟩
 obtain⟨v,hv,rfl⟩:=QaR.mp hw;have:=OC (j:=j) (h.2.2 v hv) hj;omega
def Ku:l0 (3*n+(6*i+(3+j))) (R8 n i g):=by
 refine⟨Qag _,rfl,fun w hw=>?_⟩
 simp only[R8,Qar,Qbb,QbS] at hw;rcases hw with rfl | rfl | rfl <;> omega
end
def Sv{a b c v:Bool}{jb:Nat}(h0:jb≠0->a=v)(h1:jb≠1->b=v)(h2:jb≠2->c=v):((a && b) || (a && c) || (b && c))=v:=by
 by_cases e0:jb=0
 .rw [h1 (by omega),h2 (by omega)];cases a <;> cases v <;> rfl
 .by_cases e1:jb=1
  .rw [h0 e0,h2 (by omega)];cases b <;> cases v <;> rfl
  .rw [h0 e0,h1 e1];cases c <;> cases v <;> rfl
section
variable {ins:Aac} {gs:List Gt} {os:Aad} {bits:List M} {T bad:List Int} {p w0 jb:Nat}
def vw(hb:bits.length=ins.length)(h1:∀x∈ins,x.2=1)(hg:∀(i:Nat) (g:Gt),gs[i]? =some g->l0 (ins.length+i) g)
 (Vd:∀i j,j<3->j≠jb->T.contains ((6*i+j:Nat):Int)=false)
 (Vh:∀i j,j<3->¬(ins.length+i=w0/\j=jb)->T.contains ((6*i+(3+j):Nat):Int)=false)
 (hB:∀w j,j<3->¬(w=w0/\j=jb)->bad.contains ((3*w+j:Nat):Int)=false) :
 ∀N w,w<N->w<ins.length+gs.length->∀j,j<3->¬(w=w0/\j=jb)->g7 (lh (bY 3 ins) (hX ins.length gs) bits T bad) (vD ins.length w j) p=g7 (lh ins gs bits [] []) w p
 | 0,w,hN,_,_,_,_=>absurd hN (by omega)
 | N+1,w,hN,hw,j,hj,tV=>by
   have qB:bits.length=(bY 3 ins).length:=by rw[gr];exact hb
   have hw1:l7 ins=ins.length:=by rw[pf h1,Qb2]
   have hwM:l7 (bY 3 ins)=3*ins.length:=j5;by_cases hwi:w<ins.length
   .have es:vD ins.length w j=3*w+j:=QaD hwi;rw[es,ET qB (by rw[hwM];omega),ET hb (by rw[hw1];exact hwi),wo xK qB _ (Qag _) w (by rw[gr];exact hwi) j hj]
    have:=wo (p:=p) (bad:=[]) h1 hb _ (Qag _) w hwi 0 (by omega)
    rw[Qb2,Nat.add_zero] at this;rw[this,hB w j hj tV];rfl
   .obtain⟨i,rfl⟩:∃i,w=ins.length+i:=⟨w - ins.length,by omega⟩
    have hi:i<gs.length:=by omega
    have qA:gs[i]? =some gs[i]:=Qac hi;have hok:=hg i _ qA;have hr:=sI (p:=p) (T:=[]) (bad:=[]) hb qA (by rw[hw1];exact hok)
    rw[hw1] at hr;have es:vD ins.length (ins.length+i) j=l7 (bY 3 ins)+(6*i+(3+j)):=by
     unfold vD;rw[QaB (by omega),hwM];omega
    rw[es,sI qB (FI qA hj) (by rw[hwM];exact Ku),Vh i j hj tV,hr]
    have hcp:∀k,k<3->k≠jb->g7 (lh (bY 3 ins) (hX ins.length gs) bits T bad) (3*ins.length+6*i+k) p=gv gs[i].1 (gs[i].2.1.map fun n=>g7 (lh ins gs bits [] []) n p):=fun k hk YC=>by
     have ek:3*ins.length+6*i+k=l7 (bY 3 ins)+(6*i+k):=by rw[hwM];omega
     rw[ek,sI qB (F0 qA hk) (by rw[hwM];exact Jt hok hk),Vd i k hk YC]
     show(gv gs[i].1 ((gs[i].2.1.map fun w=>vD ins.length w k).map _) !=false)=_
     rw[Qax];have:(gs[i].2.1.map ((fun n=>g7 (lh (bY 3 ins) (hX ins.length gs) bits T bad) n p) ∘ fun w=>vD ins.length w k))=gs[i].2.1.map fun n=>g7 (lh ins gs bits [] []) n p:=by
      refine Qa1 fun v hv=>?_
      have hv2:=hok.2.2 v hv;exact vw hb h1 hg Vd Vh hB N v (by omega) (by omega) k hk (fun z=>YC z.2)
     rw[this];cases gv gs[i].1 _ <;> rfl
    show(((g7 _ (3*ins.length+6*i+0) p && g7 _ (3*ins.length+6*i+1) p) || (g7 _ (3*ins.length+6*i+0) p && g7 _ (3*ins.length+6*i+2) p) || (g7 _ (3*ins.length+6*i+1) p && g7 _ (3*ins.length+6*i+2) p)) !=false)=(_ !=false)
    rw[Sv (jb:=jb) (fun z=>hcp 0 (by omega) (Qbh z)) (fun z=>hcp 1 (by omega) (Qbh z)) (fun z=>hcp 2 (by omega) (Qbh z))]
def RA(NO:iB ins gs os)(h1:∀x∈ins,x.2=1)(ho:∀x∈os,∃w,x.2=[w])(hg:gs.length<=90):iB (bY 3 ins) (hX ins.length gs) (JQ ins.length os):=by
 have hw1:l7 ins=ins.length:=by rw[pf h1,Qb2]
 have hl:(hX ins.length gs).length=6*gs.length:=px _ _ _;refine⟨by rw[gr];exact NO.hi,fun x hx=>by rw[xK x hx];omega,by rw[hl];omega,?_,by unfold JQ;rw [Qaa];exact NO.ho,?_⟩
 .intro i x hx;have hi:i<6*gs.length:=by rw[<-hl];exact(Qab.mp hx).1
  have hq:i / 6<gs.length:=QcK hi;have qA:=Qac hq;have h3:=NO.g _ _ qA;rw[hw1] at h3;rw[j5];by_cases hr:i % 6<3
  .have h2:=F0 (n:=ins.length) (j:=i % 6) qA hr;rw[show 6*(i / 6)+i % 6=i by omega,hx] at h2
   cases h2;have h4:=Jt (j:=i % 6) h3 hr;rw[show 6*(i / 6)+i % 6=i by omega] at h4
   exact h4
  .have h2:=FI (n:=ins.length) (j:=i % 6 - 3) qA (by omega)
   rw[show 6*(i / 6)+(3+(i % 6 - 3))=i by omega,hx] at h2
   cases h2;have h4:=Ku (n:=ins.length) (i:=i / 6) (j:=i % 6 - 3) (g:=gs[i / 6]);rw[show 6*(i / 6)+(3+(i % 6 - 3))=i by omega] at h4
   exact h4
 .intro x hx;obtain⟨y,hy,rfl⟩:=QaR.mp hx;obtain⟨w,hw⟩:=ho y hy;refine⟨by show((List.range 3).map _).length<1000;rw [Qaa,Qaj];omega,fun v hv=>?_⟩
  obtain⟨k,hk,rfl⟩:=QaR.mp hv;have hk:=QaL.mp hk;have h2:=(NO.o y hy).2 w (by rw[hw];simp)
  rw[hw1] at h2;rw[j5,hl,hw];show vD ins.length w k<_;have:=OC (j:=k) h2 hk;omega
end
end MT
end
section
set_option maxHeartbeats 4000000
namespace K43
open PySem PySem.Spec PyProof.Rows L2 L3
variable {P:Program} {w:World} {K:Qdc} {mg:Aaf} {base:Heap} {cl:Aag}
def top(i:Nat):Stmt:=PySem.Challenge.pw_bearfaults_k43_whole_made_in_copies.main.body.getD i (.Pass ⟨0,0,0,0⟩)
def f_:D:=(.int 60)
structure Tp (K:Qdc) (mg:Aaf) (cl:Aag):Prop where
 z_all:mg "all"=none
 z_len:mg "len"=none
 z_range:mg "range"=none
 z_tuple:mg "tuple"=none
 z_max:mg "max"=none
 z_enumerate:mg "enumerate"=none
 z_reversed:mg "reversed"=none
 z_zip:mg "zip"=none
 z_abs:mg "abs"=none
 z_min:mg "min"=none
 z_int:mg "int"=none
 z_sum:mg "sum"=none
 z_isinstance:mg "isinstance"=none
 z_ValueError:mg "ValueError"=none
 f_:Glob K mg "MOST_GATES" f_
 C_Bench:A6 K (cl 0)
 N_Bench_net:dE K (cl 0) "net"
 N_Bench_many_inputs:dE K (cl 0) "many_inputs"
 N_Bench_full:dE K (cl 0) "full"
 N_Bench_in_masks:dE K (cl 0) "in_masks"
 M_Bench:mg "Bench"=some (.ref (cl 0))
 C_Trial:A6 K (cl 1)
 N_Trial_bench:dE K (cl 1) "bench"
 N_Trial_plain:dE K (cl 1) "plain"
 N_Trial_unsure:dE K (cl 1) "unsure"
 M_Trial:mg "Trial"=some (.ref (cl 1))
 M_FaultError:mg "FaultError"=some (.ref (cl 2))
 M_Full:mg "Full"=some (.ref (cl 3))
 M_NotPlain:mg "NotPlain"=some (.ref (cl 4))
 X_Full:XC K (cl 3)
 X_NotPlain:XC K (cl 4)
 E_NotPlain_FaultError:PySem.W.exmOne K (.ref (cl 4)) (.ref (cl 2))=some true
 E_Full_FaultError:PySem.W.exmOne K (.ref (cl 3)) (.ref (cl 2))=some true
 I_NotPlain_Full:PySem.W.kitOne K (.ref (cl 4)) (.ref (cl 3))=some false
 I_Full_Full:PySem.W.kitOne K (.ref (cl 3)) (.ref (cl 3))=some true
 O_Full:PySem.W.kitOne K (.type "NoneType") (.ref (cl 3))=some false
 I_NotPlain_NotPlain:PySem.W.kitOne K (.ref (cl 4)) (.ref (cl 4))=some true
 I_Full_NotPlain:PySem.W.kitOne K (.ref (cl 3)) (.ref (cl 4))=some false
 O_NotPlain:PySem.W.kitOne K (.type "NoneType") (.ref (cl 4))=some false
 I_NotPlain_ValueError:PySem.W.kitOne K (.ref (cl 4)) (.type "ValueError")=some true
 I_Full_ValueError:PySem.W.kitOne K (.ref (cl 3)) (.type "ValueError")=some true
 O_ValueError:PySem.W.kitOne K (.type "NoneType") (.type "ValueError")=some false
 V_in_pairs:QL K mg "in_pairs"
 V_in_threes:QL K mg "in_threes"
 V_with_votes:QL K mg "with_votes"
abbrev iQ:Stmt:=top 7
noncomputable abbrev iC:List Str:=["net","width","ins_fit"]
abbrev Qda(s:Stmt):={b:List Stmt//aO s=b}
abbrev Qdb(s:Stmt):={b:Scope//aD s=b}
noncomputable def yh:Qda iQ:=⟨_,by conv=>lhs;whnf⟩
noncomputable def jW:Qdb iQ:=⟨_,by conv=>lhs;whnf⟩
def sP:aU iC ["net","width"] jW.1:={}
def su:FS:=(fG (ny 2 (aJ Hz (aj (eNew (cj (cF (e2 bH (af 0) (eC (.int 0)))) (aC 0) dC (e2 oQ (e2 bH (af 0) (eC (.int 1))) (af 1)) ["told"] [1])) aH))) (gp (JR (af 2) (aJ Hz (aj (eNew (cj (cF (e2 bH (af 0) (eC (.int 2)))) (eg 2 (bh (aC 0) (bh (aC 1) ei))) dC (e2 oQ (aJ dU (aj (af 1) aH)) (af 2)) ["name","wires"] [1])) aH)))))
def eX:List D->R D:=uV iC su
def zB(T:Tp K mg cl)(h:Def K mg "has_widths" iQ):Callee P w K mg base 1 "has_widths" 2 eX:=by
 obtain⟨f,fd,F,hm⟩:=h;exact⟨f,fd,_,cD (k:=0) yh.2 jW.2 F sP (fun dt A outer s H E hr=>(br (fV sP.nd rfl Qc9 (aK (OF rfl) rfl T.z_all PyProof.Rows.boot_all (ae (bR (bO rfl (bg.of (own:=["told"]) (kp:=[1]) (kn:=["width"]) (sc:=jW.1) (N:=iC) rfl rfl (by decide+kernel)) (bu (aA (aa 0) ag (fun _ _=>rfl))) (fun _ _ _=>(aG (by decide+kernel:List.Nodup [(Str.ofString "told"),"width"]) rfl Qc9)) (fun _ _ _=>bz) (fun _ _ _=>(n6 (nC hr.units) (aA (aa 0) ag (fun _ _=>rfl)) (aa 1) (cw _))))) ah))) (bb (bN (M7 (aa 2) (LQ (aK (OF rfl) rfl T.z_all PyProof.Rows.boot_all (ae (bR (bO rfl (bg.of (own:=["name","wires"]) (kp:=[1]) (kn:=["width"]) (sc:=jW.1) (N:=iC) rfl rfl (by decide+kernel)) (bu (aA (aa 0) ag (fun _ _=>rfl))) (fun _ _ _=>(eF rfl (bp (aG (by decide+kernel:List.Nodup [(Str.ofString "name"),"wires","width"]) rfl Qc9) (bp (aG (by decide+kernel:List.Nodup [(Str.ofString "name"),"wires","width"]) rfl Qc9) dA)))) (fun _ _ _=>bz) (fun _ _ _=>(n6 (nC hr.units) (aK dI rfl T.z_len QaI (ae (aa 1) ah)) (aa 2) (cw _))))) ah)))))))),hm,F.kp,F.binds fun _ _ _ _ _ _ us hl=>match us,hl with | [_,_],_=>rfl⟩
abbrev gy:Stmt:=top 8
noncomputable abbrev fA:List Str:=["net","times"]
noncomputable def vQ:Qda gy:=⟨_,by conv=>lhs;whnf⟩
noncomputable def pQ:Qdb gy:=⟨_,by conv=>lhs;whnf⟩
def x_:aU fA ["net","times"] pQ.1:={}
def gz:FZ:=(bt (A5 (Se (bP (xy (sO (aJ eX (aj (af 0) (aj (eC (.int 1)) aH))))))) (Ax 4 (wC (aI (xP (eC (.str "a net with an in or an out of more than one wire"))) c8))) rJ) (A5 (Se (bP (b2 RE (e2 nG (aJ dU (aj (e2 bH (af 0) (eC (.int 1))) aH)) (af 1)) (eC f_)))) (Ax 3 (wC (aI (xP (AF (E_ (Pg (af 1)) (E_ (eC (.str " gates in the place of each are too many")) Qo)))) c8))) rJ))
def bK:List V3->aN->R3 V3:=mB fA gz
def Ja:List V3->aN->R3 V3:=qk fA gz
def ya(T:Tp K mg cl)(h:Def K mg "check_makes" gy)(oz:Callee P w K mg base 1 "has_widths" 2 eX):de P w K mg base cl 2 "check_makes" 2 bK:=by
 obtain⟨f,fd,F,hm⟩:=h;exact⟨f,fd,_,tM (k:=1) vQ.2 pQ.2 F x_ (fun dt A outer s H E hr=>(qq (Kk (kg (z6 (qm (bE oz hr (by decide) rfl (ae (aa 0) (ae ag ah)) (aQ (aQ bX)))))) (si (yE yJ rfl T.X_NotPlain rfl T.M_NotPlain (nJ (ao (ai bC) aY)))) Cd) (si (Kk (kg (cS O1 (aF pk (aK dI rfl T.z_len QaI (ae (aA (aa 0) ag (fun _ _=>rfl)) ah)) (aa 1)) (JV T.f_ rfl) (cw _))) (si (yE yJ rfl T.X_Full rfl T.M_Full (nJ (ao (ai (DW (Bl (Mr (aa 1)) (Bl bC Nm)))) aY)))) Cd)))),hm,F.kp,F.binds fun _ _ _ _ _ _ us hl=>match us,hl with | [_,_],_=>rfl⟩
abbrev iM:Stmt:=top 9
noncomputable abbrev nP:List Str:=["first","many"]
noncomputable def ye:Qda iM:=⟨_,by conv=>lhs;whnf⟩
noncomputable def mD:Qdb iM:=⟨_,by conv=>lhs;whnf⟩
def zR:aU nP ["first","many"] mD.1:={}
def tJ:FS:=(gp (aJ il (aj (eNew (cj (cH (af 1)) (aC 0) dC (e2 dO (af 1) (af 0)) ["step"] [0])) aH)))
def eY:List D->R D:=uV nP tJ
def z_(T:Tp K mg cl)(h:Def K mg "next_wires" iM):Callee P w K mg base 1 "next_wires" 2 eY:=by
 obtain⟨f,fd,F,hm⟩:=h;exact⟨f,fd,_,cD (k:=0) ye.2 mD.2 F zR (fun dt A outer s H E hr=>(bb (bN (cW kR rfl T.z_tuple Qa9 (ae (bR (bO rfl (bg.of (own:=["step"]) (kp:=[0]) (kn:=["first"]) (sc:=mD.1) (N:=nP) rfl rfl (by decide+kernel)) (bo (aa 1) rfl T.z_range) (fun _ _ _=>(aG (by decide+kernel:List.Nodup [(Str.ofString "step"),"first"]) rfl Qc9)) (fun _ _ _=>bz) (fun _ _ _=>(aF dM (aa 1) (aa 0))))) ah))))),hm,F.kp,F.binds fun _ _ _ _ _ _ us hl=>match us,hl with | [_,_],_=>rfl⟩
abbrev pB:Stmt:=top 10
noncomputable abbrev ik:List Str:=["net","many","voted","top","stands","gates","gate","copies","step","votes","ins","outs"]
noncomputable def G2:Qda pB:=⟨_,by conv=>lhs;whnf⟩
noncomputable def ju:Qdb pB:=⟨_,by conv=>lhs;whnf⟩
def gM:aU ik ["net","many","voted"] ju.1:={}
def qX:FZ:=(kP 5 (xT (dk (aj (e2 bH (af 6) (eC (.int 0))) (aj (aJ il (aj (eNew (cj (cF (e2 bH (af 6) (eC (.int 1)))) (aC 0) dC (e2 bH (e2 bH (af 1) (af 0)) (af 2)) ["wire"] [4,8])) aH)) (aj (e2 bH (af 6) (eC (.int 2))) aH))))))
def jt:FZ:=(bt (cM 7 (xT (aJ eY (aj (e2 dO (af 3) (aJ dU (aj (af 5) aH))) (aj (af 1) aH))))) (bt (jr (iP (cH (af 1))) (kN 8) qX) (A5 (bP (sO (af 2))) (bt (cM 9 (xT (aJ eY (aj (e2 dO (af 3) (aJ dU (aj (af 5) aH))) (aj (af 1) aH))))) (bt (IZ 5 (xP (eNew (cj (cF (af 9)) (aC 0) dC (dk (aj (eC (.str "vote")) (aj (af 2) (aj (e2 bH (af 1) (eC (.int 2))) aH)))) ["wire"] [6,7])))) (kP 4 (xP (af 9))))) (kP 4 (xP (af 7))))))
def xI:FZ:=(bt (cM 3 (xP (e2 nG (aJ dU (aj (e2 bH (af 0) (eC (.int 0))) aH)) (af 1)))) (bt (cM 4 (nW (cj (cH (aJ dU (aj (e2 bH (af 0) (eC (.int 0))) aH))) (aC 0) dC (aJ eY (aj (e2 nG (af 0) (af 1)) (aj (af 1) aH))) ["place"] [1]))) (bt (cM 5 (nW (gH aH))) (bt (jr (iP (cF (e2 bH (af 0) (eC (.int 1))))) (kN 6) jt) (bt (cM 10 (nW (cj (cF (e2 bH (af 0) (eC (.int 0)))) (eg 2 (bh (aC 0) (bh (aC 1) ei))) dC (dk (aj (af 0) (aj (af 2) aH))) ["name","width"] [1]))) (bt (cM 11 (zm (cj (cF (e2 bH (af 0) (eC (.int 2)))) (eg 2 (bh (aC 0) (bh (aC 1) ei))) dC (dk (aj (af 0) (aj (e2 bH (af 2) (e2 bH (af 1) (eC (.int 0)))) aH))) ["name","wires"] [4]))) (fS (L_ (aI (eA 10) (aI (eA 5) (aI (eA 11) c8)))))))))))
def Hv:List V3->aN->R3 V3:=mB ik xI
def fu:List V3->aN->R3 V3:=qk ik xI
def IP(T:Tp K mg cl)(h:Def K mg "copied" pB)(iX:Callee P w K mg base 1 "next_wires" 2 eY):bF P w K mg base cl 2 "copied" 3 Hv:=by
 obtain⟨f,fd,F,hm⟩:=h;exact⟨f,fd,_,cx (k:=1) G2.2 ju.2 F gM (fun dt A outer s H E hr=>(aw (bA gM.nd rfl Qc9 (ai (aF pk (aK dI rfl T.z_len QaI (ae (aA (aa 0) ag (fun _ _=>rfl)) ah)) (aa 1)))) (aw (bA gM.nd rfl (Or.inr rfl) (ig (bO rfl (bg.of (own:=["place"]) (kp:=[1]) (kn:=["many"]) (sc:=ju.1) (N:=ik) rfl rfl (by decide+kernel)) (bo (aK dI rfl T.z_len QaI (ae (aA (aa 0) ag (fun _ _=>rfl)) ah)) rfl T.z_range) (fun _ _ _=>(aG (by decide+kernel:List.Nodup [(Str.ofString "place"),"many"]) rfl Qc9)) (fun _ _ _=>bz) (fun _ _ _=>(bE iX hr (by decide) rfl (ae (aF pk (aa 0) (aa 1)) (ae (aa 1) ah)) (aQ (aQ bX))))))) (aw (bA gM.nd rfl Qc9 (ig (cP ah))) (aw (dP QaF rfl (b_ (bu (aA (aa 0) ag (fun _ _=>rfl)))) (aV gM.nd rfl (Or.inr rfl)) (aw (bA gM.nd rfl (Or.inr rfl) (jX (bE iX hr (by decide) rfl (ae (aF dM (aa 3) (aK dI rfl T.z_len QaI (ae (aa 5) ah))) (ae (aa 1) ah)) (aQ (aQ bX))))) (aw (dP QaF rfl (b_ (bo (aa 1) rfl T.z_range)) (aV gM.nd rfl (Or.inr rfl)) (aP (f6 rfl Qc9 (jX (bq (ae (aA (aa 6) ag (fun _ _=>rfl)) (ae (cW kR rfl T.z_tuple Qa9 (ae (bR (bO rfl (bg.of (own:=["wire"]) (kp:=[4,8]) (kn:=["stands","step"]) (sc:=ju.1) (N:=ik) rfl rfl (by decide+kernel)) (bu (aA (aa 6) ag (fun _ _=>rfl))) (fun _ _ _=>(aG (by decide+kernel:List.Nodup [(Str.ofString "wire"),"stands","step"]) rfl Qc9)) (fun _ _ _=>bz) (fun _ _ _=>(aA (aA (aa 1) (aa 0) (fun _ _=>rfl)) (aa 2) (fun _ _=>rfl))))) ah)) (ae (aA (aa 6) ag (fun _ _=>rfl)) ah)))))))) (aP (oK (kg (qm (aa 2))) (aw (bA gM.nd rfl Qc9 (jX (bE iX hr (by decide) rfl (ae (aF dM (aa 3) (aK dI rfl T.z_len QaI (ae (aa 5) ah))) (ae (aa 1) ah)) (aQ (aQ bX))))) (aw (Pa rfl Qc9 (ai (bR (bO rfl (bg.of (own:=["wire"]) (kp:=[6,7]) (kn:=["gate","copies"]) (sc:=ju.1) (N:=ik) rfl rfl (by decide+kernel)) (bu (aa 9)) (fun _ _ _=>(aG (by decide+kernel:List.Nodup [(Str.ofString "wire"),"gate","copies"]) rfl Qc9)) (fun _ _ _=>bz) (fun _ _ _=>(bq (ae bC (ae (aa 2) (ae (aA (aa 1) ag (fun _ _=>rfl)) ah))))))))) (aP (f6 rfl (Or.inr Qc9) (ai (aa 9)))))) (aP (f6 rfl (Or.inr Qc9) (ai (aa 7))))))))) (aw (CS rfl gM.nd rfl rfl (bg.of (own:=["name","width"]) (kp:=[1]) (kn:=["many"]) (sc:=ju.1) (N:=ik) rfl rfl (by decide+kernel)) (bu (aA (aa 0) ag (fun _ _=>rfl))) (fun _ _ _=>(eF rfl (bp (aG (by decide+kernel:List.Nodup [(Str.ofString "name"),"width","many"]) rfl Qc9) (bp (aG (by decide+kernel:List.Nodup [(Str.ofString "name"),"width","many"]) rfl Qc9) dA)))) (fun _ _ _=>bz) (fun _ _ _=>(bq (ae (aa 0) (ae (aa 2) ah))))) (aw (Ci rfl gM.nd rfl rfl (bg.of (own:=["name","wires"]) (kp:=[4]) (kn:=["stands"]) (sc:=ju.1) (N:=ik) rfl rfl (by decide+kernel)) (bu (aA (aa 0) ag (fun _ _=>rfl))) (fun _ _ _=>(eF rfl (bp (aG (by decide+kernel:List.Nodup [(Str.ofString "name"),"wires","stands"]) rfl Qc9) (bp (aG (by decide+kernel:List.Nodup [(Str.ofString "name"),"wires","stands"]) rfl Qc9) dA)))) (fun _ _ _=>bz) (fun _ _ _=>(bq (ae (aa 0) (ae (aA (aa 2) (aA (aa 1) ag (fun _ _=>rfl)) (fun _ _=>rfl)) ah))))) (aP (cG (JJ (ao (cy 10) (ao (cy 5) (ao (cy 11) aY))))))))))))),hm,F.kp,F.binds fun _ _ _ _ _ _ us hl=>match us,hl with | [_,_,_],_=>rfl⟩
abbrev km:Stmt:=top 11
noncomputable abbrev j6:List Str:=["net"]
noncomputable def Ap:Qda km:=⟨_,by conv=>lhs;whnf⟩
noncomputable def sV:Qdb km:=⟨_,by conv=>lhs;whnf⟩
def B8:aU j6 ["net"] sV.1:={}
def mf:FZ:=(bt (uW (dg bK (wC (aI (xP (af 0)) (aI (xP (eC (.int 3))) c8))))) (Um (fS (dg fu (aI (xP (af 0)) (aI (xP (eC (.int 3))) (aI (xP (eC (.bl false))) c8)))))))
def c6:List V3->aN->R3 V3:=mB j6 mf
def LJ:List V3->aN->R3 V3:=qk j6 mf
def CC(T:Tp K mg cl)(h:Def K mg "in_threes" km)(cT:de P w K mg base cl 2 "check_makes" 2 bK)(gd:bF P w K mg base cl 2 "copied" 3 fu):de P w K mg base cl 3 "in_threes" 1 c6:=by
 obtain⟨f,fd,F,hm⟩:=h;exact⟨f,fd,_,tM (k:=2) Ap.2 sV.2 F B8 (fun dt A outer s H E hr=>(qq (tq (xl ui cT hr (by decide) rfl (nJ (ao (ai (aa 0)) (ao (ai ag) aY))) (sJ (ak (ak aW))))) (zW (aP (cG (cE gd hr (by decide) rfl (ao (ai (aa 0)) (ao (ai ag) (ao (ai fH) aY))) (ak (ak (ak aW))))))))),hm,F.kp,F.binds fun _ _ _ _ _ _ us hl=>match us,hl with | [_],_=>rfl⟩
abbrev lP:Stmt:=top 12
noncomputable abbrev lQ:List Str:=["net"]
noncomputable def Bh:Qda lP:=⟨_,by conv=>lhs;whnf⟩
noncomputable def u3:Qdb lP:=⟨_,by conv=>lhs;whnf⟩
def Ej:aU lQ ["net"] u3.1:={}
def nH:FZ:=(bt (uW (dg bK (wC (aI (xP (af 0)) (aI (xP (eC (.int 2))) c8))))) (Um (fS (dg fu (aI (xP (af 0)) (aI (xP (eC (.int 2))) (aI (xP (eC (.bl false))) c8)))))))
def dy:List V3->aN->R3 V3:=mB lQ nH
def OD:List V3->aN->R3 V3:=qk lQ nH
def Dy(T:Tp K mg cl)(h:Def K mg "in_pairs" lP)(cT:de P w K mg base cl 2 "check_makes" 2 bK)(gd:bF P w K mg base cl 2 "copied" 3 fu):de P w K mg base cl 3 "in_pairs" 1 dy:=by
 obtain⟨f,fd,F,hm⟩:=h;exact⟨f,fd,_,tM (k:=2) Bh.2 u3.2 F Ej (fun dt A outer s H E hr=>(qq (tq (xl ui cT hr (by decide) rfl (nJ (ao (ai (aa 0)) (ao (ai ag) aY))) (sJ (ak (ak aW))))) (zW (aP (cG (cE gd hr (by decide) rfl (ao (ai (aa 0)) (ao (ai ag) (ao (ai fH) aY))) (ak (ak (ak aW))))))))),hm,F.kp,F.binds fun _ _ _ _ _ _ us hl=>match us,hl with | [_],_=>rfl⟩
abbrev ix:Stmt:=top 13
noncomputable abbrev iH:List Str:=["net"]
noncomputable def yi:Qda ix:=⟨_,by conv=>lhs;whnf⟩
noncomputable def qL:Qdb ix:=⟨_,by conv=>lhs;whnf⟩
def Ac:aU iH ["net"] qL.1:={}
def kQ:FZ:=(bt (uW (dg bK (wC (aI (xP (af 0)) (aI (xP (eC (.int 6))) c8))))) (Um (fS (dg fu (aI (xP (af 0)) (aI (xP (eC (.int 3))) (aI (xP (eC (.bl true))) c8)))))))
def cK:List V3->aN->R3 V3:=mB iH kQ
def Ll:List V3->aN->R3 V3:=qk iH kQ
def AO(T:Tp K mg cl)(h:Def K mg "with_votes" ix)(cT:de P w K mg base cl 2 "check_makes" 2 bK)(gd:bF P w K mg base cl 2 "copied" 3 fu):de P w K mg base cl 3 "with_votes" 1 cK:=by
 obtain⟨f,fd,F,hm⟩:=h;exact⟨f,fd,_,tM (k:=2) yi.2 qL.2 F Ac (fun dt A outer s H E hr=>(qq (tq (xl ui cT hr (by decide) rfl (nJ (ao (ai (aa 0)) (ao (ai ag) aY))) (sJ (ak (ak aW))))) (zW (aP (cG (cE gd hr (by decide) rfl (ao (ai (aa 0)) (ao (ai ag) (ao (ai fH) aY))) (ak (ak (ak aW))))))))),hm,F.kp,F.binds fun _ _ _ _ _ _ us hl=>match us,hl with | [_],_=>rfl⟩
abbrev nv:Stmt:=top 14
noncomputable abbrev t4:List Str:=["depths","wires"]
noncomputable def Dv:Qda nv:=⟨_,by conv=>lhs;whnf⟩
noncomputable def rD:Qdb nv:=⟨_,by conv=>lhs;whnf⟩
def Gx:aU t4 ["depths","wires"] rD.1:={}
def yW:FS:=(gp (aJ ph (aj (eNew (cj (cF (af 1)) (aC 0) dC (e2 bH (af 1) (af 0)) ["wire"] [0])) aH)))
def js:List D->R D:=uV t4 yW
def Hr(T:Tp K mg cl)(h:Def K mg "deepest" nv):Callee P w K mg base 1 "deepest" 2 js:=by
 obtain⟨f,fd,F,hm⟩:=h;exact⟨f,fd,_,cD (k:=0) Dv.2 rD.2 F Gx (fun dt A outer s H E hr=>(bb (bN (aK (uj rfl) rfl T.z_max Qbw (ae (bR (bO rfl (bg.of (own:=["wire"]) (kp:=[0]) (kn:=["depths"]) (sc:=rD.1) (N:=t4) rfl rfl (by decide+kernel)) (bu (aa 1)) (fun _ _ _=>(aG (by decide+kernel:List.Nodup [(Str.ofString "wire"),"depths"]) rfl Qc9)) (fun _ _ _=>bz) (fun _ _ _=>(aA (aa 1) (aa 0) (fun _ _=>rfl))))) ah))))),hm,F.kp,F.binds fun _ _ _ _ _ _ us hl=>match us,hl with | [_,_],_=>rfl⟩
abbrev gC:Stmt:=top 15
noncomputable abbrev jP:List Str:=["net","depths","name","width","gate"]
noncomputable def wg:Qda gC:=⟨_,by conv=>lhs;whnf⟩
noncomputable def k7:Qdb gC:=⟨_,by conv=>lhs;whnf⟩
def gx:aU jP ["net"] k7.1:={}
def ky:FS:=(Nc 1 (cj (cH (af 3)) (aC 0) dC (eC (.int 0)) ["figure"] []))
def ku:FS:=(Cw 1 (e2 dO (eC (.int 1)) (Bq (aJ js (aj (af 1) (aj (e2 bH (af 4) (eC (.int 1))) aH))))))
def qG:FS:=(fG (Bj 1 (gH aH)) (fG (vg (cF (e2 bH (af 0) (eC (.int 0)))) (eg 2 (bh (aC 2) (bh (aC 3) ei))) ky) (fG (vg (cF (e2 bH (af 0) (eC (.int 1)))) (aC 4) ku) (G6 1 (gp (af 1))))))
def gq:List D->R D:=uV jP qG
def yo(T:Tp K mg cl)(h:Def K mg "wire_depths" gC)(kY:Callee P w K mg base 1 "deepest" 2 js):Callee P w K mg base 2 "wire_depths" 1 gq:=by
 obtain⟨f,fd,F,hm⟩:=h;exact⟨f,fd,_,cD (k:=1) wg.2 k7.2 F gx (fun dt A outer s H E hr=>(br (vZ gx.nd rfl Qc9 (cP ah)) (br (j9 QaF rfl (bu (aA (aa 0) ag (fun _ _=>rfl))) (eF rfl (bp (aG gx.nd rfl Qc9) (bp (aG gx.nd rfl Qc9) dA))) (bb (IK rfl Qc9 (bO rfl (bg.of (own:=["figure"]) (kp:=[]) (kn:=[]) (sc:=k7.1) (N:=jP) rfl rfl (by decide+kernel)) (bo (aa 3) rfl T.z_range) (fun _ _ _=>(aG (by decide+kernel:List.Nodup [(Str.ofString "figure")]) rfl Qc9)) (fun _ _ _=>bz) (fun _ _ _=>ag))))) (br (j9 QaF rfl (bu (aA (aa 0) ag (fun _ _=>rfl))) (aG gx.nd rfl Qc9) (bb (sT rfl Qc9 (aF dM ag (JY (bE kY hr (by decide) rfl (ae (aa 1) (ae (aA (aa 4) ag (fun _ _=>rfl)) ah)) (aQ (aQ bX)))))))) (xg 1 (bb (bN (aa 1)))))))),hm,F.kp,F.binds fun _ _ _ _ _ _ us hl=>match us,hl with | [_],_=>rfl⟩
abbrev vX:Stmt:=top 16
noncomputable abbrev nV:List Str:=["net","votes","sure","depths","deep"]
noncomputable def Ml:Qda vX:=⟨_,by conv=>lhs;whnf⟩
noncomputable def tI:Qdb vX:=⟨_,by conv=>lhs;whnf⟩
def wx:aU nV ["net"] tI.1:={}
def JE:FS:=(fG (ny 1 (eNew (cj (cF (e2 bH (af 0) (eC (.int 1)))) (aC 0) (b2 oQ (e2 bH (af 0) (eC (.int 0))) (eC (.str "vote"))) (af 0) ["gate"] []))) (fG (ny 2 (eNew (cj (cF (e2 bH (af 0) (eC (.int 1)))) (aC 0) (sO (e2 bH (af 0) (eC (.int 2)))) (af 0) ["gate"] []))) (fG (ny 3 (aJ gq (aj (af 0) aH))) (fG (ny 4 (aJ ph (aj (eNew (cj (cF (e2 bH (af 0) (eC (.int 2)))) (eg 2 (bh (aC 0) (bh (aC 1) ei))) dC (aJ js (aj (af 2) (aj (af 1) aH))) ["name","wires"] [3])) aH))) (gp (dk (aj (aJ dU (aj (e2 bH (af 0) (eC (.int 1))) aH)) (aj (aJ dU (aj (af 1) aH)) (aj (aJ dU (aj (af 2) aH)) (aj (af 4) aH))))))))))
def rF:List D->R D:=uV nV JE
def Qk(T:Tp K mg cl)(h:Def K mg "size" vX)(mJ:Callee P w K mg base 2 "wire_depths" 1 gq)(kY:Callee P w K mg base 1 "deepest" 2 js):Callee P w K mg base 3 "size" 1 rF:=by
 obtain⟨f,fd,F,hm⟩:=h;exact⟨f,fd,_,cD (k:=2) Ml.2 tI.2 F wx (fun dt A outer s H E hr=>(br (tw rfl wx.nd rfl rfl (bg.of (own:=["gate"]) (kp:=[]) (kn:=[]) (sc:=tI.1) (N:=nV) rfl rfl (by decide+kernel)) (bu (aA (aa 0) ag (fun _ _=>rfl))) (fun _ _ _=>(aG (by decide+kernel:List.Nodup [(Str.ofString "gate")]) rfl Qc9)) (fun _ _ _=>(o7 (cS (nC hr.units) (aA (aa 0) ag (fun _ _=>rfl)) bC (cw _)))) (fun _ _ _=>(aa 0))) (br (tw rfl wx.nd rfl rfl (bg.of (own:=["gate"]) (kp:=[]) (kn:=[]) (sc:=tI.1) (N:=nV) rfl rfl (by decide+kernel)) (bu (aA (aa 0) ag (fun _ _=>rfl))) (fun _ _ _=>(aG (by decide+kernel:List.Nodup [(Str.ofString "gate")]) rfl Qc9)) (fun _ _ _=>(o7 (qm (aA (aa 0) ag (fun _ _=>rfl))))) (fun _ _ _=>(aa 0))) (br (fV wx.nd rfl (Or.inr rfl) (bE mJ hr (by decide) rfl (ae (aa 0) ah) (aQ bX))) (br (fV wx.nd rfl Qc9 (aK (uj rfl) rfl T.z_max Qbw (ae (bR (bO rfl (bg.of (own:=["name","wires"]) (kp:=[3]) (kn:=["depths"]) (sc:=tI.1) (N:=nV) rfl rfl (by decide+kernel)) (bu (aA (aa 0) ag (fun _ _=>rfl))) (fun _ _ _=>(eF rfl (bp (aG (by decide+kernel:List.Nodup [(Str.ofString "name"),"wires","depths"]) rfl Qc9) (bp (aG (by decide+kernel:List.Nodup [(Str.ofString "name"),"wires","depths"]) rfl Qc9) dA)))) (fun _ _ _=>bz) (fun _ _ _=>(bE kY hr (by decide) rfl (ae (aa 2) (ae (aa 1) ah)) (aQ (aQ bX)))))) ah))) (bb (bN (bq (ae (aK dI rfl T.z_len QaI (ae (aA (aa 0) ag (fun _ _=>rfl)) ah)) (ae (aK dI rfl T.z_len QaI (ae (aa 1) ah)) (ae (aK dI rfl T.z_len QaI (ae (aa 2) ah)) (ae (aa 4) ah)))))))))))),hm,F.kp,F.binds fun _ _ _ _ _ _ us hl=>match us,hl with | [_],_=>rfl⟩
abbrev mY:Stmt:=top 18
noncomputable abbrev zi:List Str:=["masks"]
noncomputable def DN:Qda mY:=⟨_,by conv=>lhs;whnf⟩
noncomputable def xx:Qdb mY:=⟨_,by conv=>lhs;whnf⟩
def G5:aU zi ["masks"] xx.1:={}
def zh:FS:=(gp (e2 Ln (e2 Ln (e2 EB (e2 bH (af 0) (eC (.int 0))) (e2 bH (af 0) (eC (.int 1)))) (e2 EB (e2 bH (af 0) (eC (.int 0))) (e2 bH (af 0) (eC (.int 2))))) (e2 EB (e2 bH (af 0) (eC (.int 1))) (e2 bH (af 0) (eC (.int 2))))))
def jg:List D->R D:=uV zi zh
def GR(T:Tp K mg cl)(h:Def K mg "vote_of" mY):Callee P w K mg base 1 "vote_of" 1 jg:=by
 obtain⟨f,fd,F,hm⟩:=h;exact⟨f,fd,_,cD (k:=0) DN.2 xx.2 F G5 (fun dt A outer s H E hr=>(bb (bN (aF Ck (aF Ck (aF AQ (aA (aa 0) ag (fun _ _=>rfl)) (aA (aa 0) ag (fun _ _=>rfl))) (aF AQ (aA (aa 0) ag (fun _ _=>rfl)) (aA (aa 0) ag (fun _ _=>rfl)))) (aF AQ (aA (aa 0) ag (fun _ _=>rfl)) (aA (aa 0) ag (fun _ _=>rfl))))))),hm,F.kp,F.binds fun _ _ _ _ _ _ us hl=>match us,hl with | [_],_=>rfl⟩
abbrev j3:Stmt:=top 19
noncomputable abbrev oZ:List Str:=["kind","masks","full"]
noncomputable def zK:Qda j3:=⟨_,by conv=>lhs;whnf⟩
noncomputable def sW:Qdb j3:=⟨_,by conv=>lhs;whnf⟩
def Bs:aU oZ ["kind","masks","full"] sW.1:={}
def uM:FS:=(fG (CL (b2 oQ (af 0) (eC (.str "not"))) (gp (e2 HF (af 2) (e2 bH (af 1) (eC (.int 0))))) vc) (fG (CL (b2 oQ (af 0) (eC (.str "and"))) (gp (e2 EB (e2 bH (af 1) (eC (.int 0))) (e2 bH (af 1) (eC (.int 1))))) vc) (fG (CL (b2 oQ (af 0) (eC (.str "or"))) (gp (e2 Ln (e2 bH (af 1) (eC (.int 0))) (e2 bH (af 1) (eC (.int 1))))) vc) (fG (CL (b2 oQ (af 0) (eC (.str "xor"))) (gp (e2 HF (e2 bH (af 1) (eC (.int 0))) (e2 bH (af 1) (eC (.int 1))))) vc) (gp (aJ jg (aj (af 1) aH)))))))
def ka:List D->R D:=uV oZ uM
def CD(T:Tp K mg cl)(h:Def K mg "gate_mask" j3)(kW:Callee P w K mg base 1 "vote_of" 1 jg):Callee P w K mg base 2 "gate_mask" 3 ka:=by
 obtain⟨f,fd,F,hm⟩:=h;exact⟨f,fd,_,cD (k:=1) zK.2 sW.2 F Bs (fun dt A outer s H E hr=>(br (jS (cS (nC hr.units) (aa 0) bC (cw _)) (bb (bN (aF Bp (aa 2) (aA (aa 1) ag (fun _ _=>rfl))))) iS) (br (jS (cS (nC hr.units) (aa 0) bC (cw _)) (bb (bN (aF AQ (aA (aa 1) ag (fun _ _=>rfl)) (aA (aa 1) ag (fun _ _=>rfl))))) iS) (br (jS (cS (nC hr.units) (aa 0) bC (cw _)) (bb (bN (aF Ck (aA (aa 1) ag (fun _ _=>rfl)) (aA (aa 1) ag (fun _ _=>rfl))))) iS) (br (jS (cS (nC hr.units) (aa 0) bC (cw _)) (bb (bN (aF Bp (aA (aa 1) ag (fun _ _=>rfl)) (aA (aa 1) ag (fun _ _=>rfl))))) iS) (bb (bN (bE kW hr (by decide) rfl (ae (aa 1) ah) (aQ bX))))))))),hm,F.kp,F.binds fun _ _ _ _ _ _ us hl=>match us,hl with | [_,_,_],_=>rfl⟩
abbrev fm:Stmt:=top 20
noncomputable abbrev gQ:List Str:=["ins","in_masks","full","bad","wires","place","mask","figure"]
noncomputable def uc:Qda fm:=⟨_,by conv=>lhs;whnf⟩
noncomputable def m8:Qdb fm:=⟨_,by conv=>lhs;whnf⟩
def fk:aU gQ ["ins","in_masks","full","bad"] m8.1:={}
def iA:FZ:=(kP 4 (xT (Qy (b2 OB (aJ dU (aj (af 4) aH)) (af 3)) (e2 HF (af 2) (af 6)) (af 6))))
def l5:FZ:=(jr (iP (cH (e2 bH (e2 bH (af 0) (af 5)) (eC (.int 1))))) (kN 7) iA)
def kr:FZ:=(bt (cM 4 (nW (gH aH))) (bt (jr (iP (Ff (af 1))) (Kj 2 (x5 (kN 5) (x5 (kN 6) Lq))) l5) (fS (eA 4))))
def eJ:List V3->aN->R3 V3:=mB gQ kr
def GX:List V3->aN->R3 V3:=qk gQ kr
def va(T:Tp K mg cl)(h:Def K mg "in_wire_masks" fm):bF P w K mg base cl 1 "in_wire_masks" 4 eJ:=by
 obtain⟨f,fd,F,hm⟩:=h;exact⟨f,fd,_,cx (k:=0) uc.2 m8.2 F fk (fun dt A outer s H E hr=>(aw (bA fk.nd rfl Qc9 (ig (cP ah))) (aw (dP QaF rfl (b_ (D3 (aa 1) rfl T.z_enumerate)) (kM rfl (cm (aV fk.nd rfl Qc9) (cm (aV fk.nd rfl Qc9) iV))) (aP (dP QaF rfl (b_ (bo (aA (aA (aa 0) (aa 5) (fun _ _=>rfl)) ag (fun _ _=>rfl)) rfl T.z_range)) (aV fk.nd rfl Qc9) (aP (f6 rfl Qc9 (jX (DL (cS L9 (aK dI rfl T.z_len QaI (ae (aa 4) ah)) (aa 3) (by with_unfolding_all rfl)) (aF Bp (aa 2) (aa 6)) (aa 6)))))))) (aP (cG (cy 4)))))),hm,F.kp,F.binds fun _ _ _ _ _ _ us hl=>match us,hl with | [_,_,_,_],_=>rfl⟩
abbrev lC:Stmt:=top 21
noncomputable abbrev qU:List Str:=["wires","numbers"]
noncomputable def Cv:Qda lC:=⟨_,by conv=>lhs;whnf⟩
noncomputable def pX:Qdb lC:=⟨_,by conv=>lhs;whnf⟩
def Dx:aU qU ["wires","numbers"] pX.1:={}
def vM:FS:=(gp (aJ il (aj (eNew (cj (cF (af 1)) (aC 0) dC (e2 bH (af 1) (af 0)) ["number"] [0])) aH)))
def gS:List D->R D:=uV qU vM
def Dg(T:Tp K mg cl)(h:Def K mg "masks_at" lC):Callee P w K mg base 1 "masks_at" 2 gS:=by
 obtain⟨f,fd,F,hm⟩:=h;exact⟨f,fd,_,cD (k:=0) Cv.2 pX.2 F Dx (fun dt A outer s H E hr=>(bb (bN (cW kR rfl T.z_tuple Qa9 (ae (bR (bO rfl (bg.of (own:=["number"]) (kp:=[0]) (kn:=["wires"]) (sc:=pX.1) (N:=qU) rfl rfl (by decide+kernel)) (bu (aa 1)) (fun _ _ _=>(aG (by decide+kernel:List.Nodup [(Str.ofString "number"),"wires"]) rfl Qc9)) (fun _ _ _=>bz) (fun _ _ _=>(aA (aa 1) (aa 0) (fun _ _=>rfl))))) ah))))),hm,F.kp,F.binds fun _ _ _ _ _ _ us hl=>match us,hl with | [_,_],_=>rfl⟩
abbrev iE:Stmt:=top 22
noncomputable abbrev kK:List Str:=["net","in_masks","full","turned","bad","wires","place","gate","mask"]
noncomputable def yk:Qda iE:=⟨_,by conv=>lhs;whnf⟩
noncomputable def qE:Qdb iE:=⟨_,by conv=>lhs;whnf⟩
def iK:aU kK ["net","in_masks","full","turned","bad"] qE.1:={}
def lB:FZ:=(bt (cM 8 (xT (aJ ka (aj (e2 bH (af 7) (eC (.int 0))) (aj (aJ gS (aj (af 5) (aj (e2 bH (af 7) (eC (.int 1))) aH))) (aj (af 2) aH)))))) (kP 5 (xP (Qy (b2 OB (af 6) (af 3)) (e2 HF (af 2) (af 8)) (af 8)))))
def n_:FZ:=(bt (cM 5 (dg eJ (aI (xP (e2 bH (af 0) (eC (.int 0)))) (aI (xP (af 1)) (aI (xP (af 2)) (aI (xP (af 4)) c8)))))) (bt (jr (iP (ib (e2 bH (af 0) (eC (.int 1))))) (Kj 2 (x5 (kN 6) (x5 (kN 7) Lq))) lB) (fS (eA 5))))
def x9:List V3->aN->R3 V3:=mB kK n_
def jO:List V3->aN->R3 V3:=qk kK n_
def zY(T:Tp K mg cl)(h:Def K mg "wire_masks" iE)(jx:Callee P w K mg base 1 "masks_at" 2 gS)(p9:Callee P w K mg base 2 "gate_mask" 3 ka)(gf:bF P w K mg base cl 1 "in_wire_masks" 4 eJ):bF P w K mg base cl 3 "wire_masks" 5 x9:=by
 obtain⟨f,fd,F,hm⟩:=h;exact⟨f,fd,_,cx (k:=2) yk.2 qE.2 F iK (fun dt A outer s H E hr=>(aw (bA iK.nd rfl Qc9 (cE gf hr (by decide) rfl (ao (ai (aA (aa 0) ag (fun _ _=>rfl))) (ao (ai (aa 1)) (ao (ai (aa 2)) (ao (ai (aa 4)) aY)))) (ak (ak (ak (ak aW)))))) (aw (dP QaF rfl (b_ (m_ (aA (aa 0) ag (fun _ _=>rfl)) rfl T.z_enumerate)) (kM rfl (cm (aV iK.nd rfl Qc9) (cm (aV iK.nd rfl Qc9) iV))) (aw (bA iK.nd rfl Qc9 (jX (bE p9 hr (by decide) rfl (ae (aA (aa 7) ag (fun _ _=>rfl)) (ae (bE jx hr (by decide) rfl (ae (aa 5) (ae (aA (aa 7) ag (fun _ _=>rfl)) ah)) (aQ (aQ bX))) (ae (aa 2) ah))) (aQ (aQ (aQ bX)))))) (aP (f6 rfl Qc9 (ai (DL (cS L9 (aa 6) (aa 3) (by with_unfolding_all rfl)) (aF Bp (aa 2) (aa 8)) (aa 8))))))) (aP (cG (cy 5)))))),hm,F.kp,F.binds fun _ _ _ _ _ _ us hl=>match us,hl with | [_,_,_,_,_],_=>rfl⟩
abbrev j_:Stmt:=top 23
noncomputable abbrev kl:List Str:=["net","wires"]
noncomputable def Aq:Qda j_:=⟨_,by conv=>lhs;whnf⟩
noncomputable def n8:Qdb j_:=⟨_,by conv=>lhs;whnf⟩
def BK:aU kl ["net","wires"] n8.1:={}
def pC:FZ:=(fS (nW (cj (cF (e2 bH (af 0) (eC (.int 2)))) (eg 2 (bh (aC 0) (bh (aC 1) ei))) dC (aJ gS (aj (af 2) (aj (af 1) aH))) ["name","numbers"] [1])))
def zD:List V3->aN->R3 V3:=mB kl pC
def kJ:List V3->aN->R3 V3:=qk kl pC
def Bt(T:Tp K mg cl)(h:Def K mg "out_masks" j_)(jx:Callee P w K mg base 1 "masks_at" 2 gS):bF P w K mg base cl 2 "out_masks" 2 zD:=by
 obtain⟨f,fd,F,hm⟩:=h;exact⟨f,fd,_,cx (k:=1) Aq.2 n8.2 F BK (fun dt A outer s H E hr=>(aP (cG (ig (bO rfl (bg.of (own:=["name","numbers"]) (kp:=[1]) (kn:=["wires"]) (sc:=n8.1) (N:=kl) rfl rfl (by decide+kernel)) (bu (aA (aa 0) ag (fun _ _=>rfl))) (fun _ _ _=>(eF rfl (bp (aG (by decide+kernel:List.Nodup [(Str.ofString "name"),"numbers","wires"]) rfl Qc9) (bp (aG (by decide+kernel:List.Nodup [(Str.ofString "name"),"numbers","wires"]) rfl Qc9) dA)))) (fun _ _ _=>bz) (fun _ _ _=>(bE jx hr (by decide) rfl (ae (aa 2) (ae (aa 1) ah)) (aQ (aQ bX))))))))),hm,F.kp,F.binds fun _ _ _ _ _ _ us hl=>match us,hl with | [_,_],_=>rfl⟩
abbrev ni:Stmt:=top 24
noncomputable abbrev qp:List Str:=["masks","full","ones"]
noncomputable def Dw:Qda ni:=⟨_,by conv=>lhs;whnf⟩
noncomputable def wL:Qdb ni:=⟨_,by conv=>lhs;whnf⟩
def yz:aU qp ["masks","full"] wL.1:={}
def yX:FS:=(fG (CL (b2 oQ (aJ dU (aj (af 0) aH)) (eC (.int 2))) (gp (dk (aj (e2 HF (af 1) (e2 Ln (e2 bH (af 0) (eC (.int 0))) (e2 bH (af 0) (eC (.int 1))))) (aj (e2 EB (e2 bH (af 0) (eC (.int 0))) (e2 bH (af 0) (eC (.int 1)))) aH)))) vc) (fG (ny 2 (Qy (b2 oQ (aJ dU (aj (af 0) aH)) (eC (.int 1))) (e2 bH (af 0) (eC (.int 0))) (aJ jg (aj (af 0) aH)))) (gp (dk (aj (e2 HF (af 1) (af 2)) (aj (af 2) aH))))))
def mX:List D->R D:=uV qp yX
def Ho(T:Tp K mg cl)(h:Def K mg "reading" ni)(kW:Callee P w K mg base 1 "vote_of" 1 jg):Callee P w K mg base 2 "reading" 2 mX:=by
 obtain⟨f,fd,F,hm⟩:=h;exact⟨f,fd,_,cD (k:=1) Dw.2 wL.2 F yz (fun dt A outer s H E hr=>(br (jS (cS (nC hr.units) (aK dI rfl T.z_len QaI (ae (aa 0) ah)) ag (cw _)) (bb (bN (bq (ae (aF Bp (aa 1) (aF Ck (aA (aa 0) ag (fun _ _=>rfl)) (aA (aa 0) ag (fun _ _=>rfl)))) (ae (aF AQ (aA (aa 0) ag (fun _ _=>rfl)) (aA (aa 0) ag (fun _ _=>rfl))) ah))))) iS) (br (fV yz.nd rfl Qc9 (DL (cS (nC hr.units) (aK dI rfl T.z_len QaI (ae (aa 0) ah)) ag (cw _)) (aA (aa 0) ag (fun _ _=>rfl)) (bE kW hr (by decide) rfl (ae (aa 0) ah) (aQ bX)))) (bb (bN (bq (ae (aF Bp (aa 1) (aa 2)) (ae (aa 2) ah)))))))),hm,F.kp,F.binds fun _ _ _ _ _ _ us hl=>match us,hl with | [_,_],_=>rfl⟩
abbrev pV:Stmt:=top 25
noncomputable abbrev Bb:List Str:=["mask","number"]
noncomputable def Gv:Qda pV:=⟨_,by conv=>lhs;whnf⟩
noncomputable def ze:Qdb pV:=⟨_,by conv=>lhs;whnf⟩
def JN:aU Bb ["mask","number"] ze.1:={}
def BZ:FS:=(gp (e2 EB (e2 BV (af 0) (af 1)) (eC (.int 1))))
def pS:List D->R D:=uV Bb BZ
def JC(T:Tp K mg cl)(h:Def K mg "bit_at" pV):Callee P w K mg base 1 "bit_at" 2 pS:=by
 obtain⟨f,fd,F,hm⟩:=h;exact⟨f,fd,_,cD (k:=0) Gv.2 ze.2 F JN (fun dt A outer s H E hr=>(bb (bN (aF AQ (aF N3 (aa 0) (aa 1)) ag)))),hm,F.kp,F.binds fun _ _ _ _ _ _ us hl=>match us,hl with | [_,_],_=>rfl⟩
abbrev iF:Stmt:=top 26
noncomputable abbrev kO:List Str:=["count","inputs","place","longer","bits"]
noncomputable def x6:Qda iF:=⟨_,by conv=>lhs;whnf⟩
noncomputable def qO:Qdb iF:=⟨_,by conv=>lhs;whnf⟩
def f9:aU kO ["count"] qO.1:={}
def o3:FZ:=(bt (kP 3 (xP (e2 uS (af 4) (dk (aj (eC (.int 0)) aH))))) (kP 3 (xP (e2 uS (af 4) (dk (aj (eC (.int 1)) aH))))))
def o9:FZ:=(AI 1 (bt (cM 3 (nW (gH aH))) (bt (jr (iP (cF (af 1))) (kN 4) o3) (cM 1 (eA 3)))))
def nF:FZ:=(bt (cM 1 (nW (gH (aj (dk aH) aH)))) (bt (jr (iP (cH (af 0))) (kN 2) o9) (fS (eA 1))))
def yg:List V3->aN->R3 V3:=mB kO nF
def jQ:List V3->aN->R3 V3:=qk kO nF
def zF(T:Tp K mg cl)(h:Def K mg "all_inputs" iF):bF P w K mg base cl 1 "all_inputs" 1 yg:=by
 obtain⟨f,fd,F,hm⟩:=h;exact⟨f,fd,_,cx (k:=0) x6.2 qO.2 F f9 (fun dt A outer s H E hr=>(aw (bA f9.nd rfl Qc9 (ig (cP (ae (bq ah) ah)))) (aw (dP QaF rfl (b_ (bo (aa 0) rfl T.z_range)) (aV f9.nd rfl Qc9) (tu 1 (aw (bA f9.nd rfl Qc9 (ig (cP ah))) (aw (dP QaF rfl (b_ (bu (aa 1))) (aV f9.nd rfl Qc9) (aw (f6 rfl Qc9 (ai (aF zS (aa 4) (bq (ae ag ah))))) (aP (f6 rfl Qc9 (ai (aF zS (aa 4) (bq (ae ag ah)))))))) (aP (bA f9.nd rfl Qc9 (cy 3))))))) (aP (cG (cy 1)))))),hm,F.kp,F.binds fun _ _ _ _ _ _ us hl=>match us,hl with | [_],_=>rfl⟩
abbrev nq:Stmt:=top 27
noncomputable abbrev t8:List Str:=["bits","mask","bit"]
noncomputable def Ed:Qda nq:=⟨_,by conv=>lhs;whnf⟩
noncomputable def wY:Qdb nq:=⟨_,by conv=>lhs;whnf⟩
def qj:aU t8 ["bits"] wY.1:={}
def pK:FS:=(ny 1 (e2 dO (e2 nG (af 1) (eC (.int 2))) (af 2)))
def yZ:FS:=(fG (ny 1 (eC (.int 0))) (fG (vg (Ox (af 0)) (aC 2) pK) (gp (af 1))))
def ji:List D->R D:=uV t8 yZ
def GI(T:Tp K mg cl)(h:Def K mg "mask_of" nq):Callee P w K mg base 1 "mask_of" 1 ji:=by
 obtain⟨f,fd,F,hm⟩:=h;exact⟨f,fd,_,cD (k:=0) Ed.2 wY.2 F qj (fun dt A outer s H E hr=>(br (fV qj.nd rfl Qc9 ag) (br (j9 QaF rfl (JG (aa 0) rfl T.z_reversed) (aG qj.nd rfl Qc9) (bb (fV qj.nd rfl Qc9 (aF dM (aF pk (aa 1) ag) (aa 2))))) (bb (bN (aa 1)))))),hm,F.kp,F.binds fun _ _ _ _ _ _ us hl=>match us,hl with | [_],_=>rfl⟩
abbrev mV:Stmt:=top 28
noncomputable abbrev t9:List Str:=["inputs","place"]
noncomputable def Dj:Qda mV:=⟨_,by conv=>lhs;whnf⟩
noncomputable def rE:Qdb mV:=⟨_,by conv=>lhs;whnf⟩
def G1:aU t9 ["inputs","place"] rE.1:={}
def y7:FS:=(gp (aJ ji (aj (eNew (cj (cF (af 0)) (aC 0) dC (e2 bH (af 0) (af 1)) ["bits"] [1])) aH)))
def m5:List D->R D:=uV t9 y7
def Hw(T:Tp K mg cl)(h:Def K mg "in_mask" mV)(kU:Callee P w K mg base 1 "mask_of" 1 ji):Callee P w K mg base 2 "in_mask" 2 m5:=by
 obtain⟨f,fd,F,hm⟩:=h;exact⟨f,fd,_,cD (k:=1) Dj.2 rE.2 F G1 (fun dt A outer s H E hr=>(bb (bN (bE kU hr (by decide) rfl (ae (bR (bO rfl (bg.of (own:=["bits"]) (kp:=[1]) (kn:=["place"]) (sc:=rE.1) (N:=t9) rfl rfl (by decide+kernel)) (bu (aa 0)) (fun _ _ _=>(aG (by decide+kernel:List.Nodup [(Str.ofString "bits"),"place"]) rfl Qc9)) (fun _ _ _=>bz) (fun _ _ _=>(aA (aa 0) (aa 1) (fun _ _=>rfl))))) ah) (aQ bX))))),hm,F.kp,F.binds fun _ _ _ _ _ _ us hl=>match us,hl with | [_,_],_=>rfl⟩
abbrev nj:Stmt:=top 31
noncomputable abbrev ng:List Str:=["places","size","found","ahead","place","rest"]
noncomputable def Dr:Qda nj:=⟨_,by conv=>lhs;whnf⟩
noncomputable def v_:Qdb nj:=⟨_,by conv=>lhs;whnf⟩
def nk:aU ng ["places","size"] v_.1:={}
def oY(self:List D->R D):FS:=(Cw 2 (e2 uS (dk (aj (af 4) aH)) (af 5)))
def o8(self:List D->R D):FS:=(vg (cF (aJ self (aj (Tj (af 0) (BE (e2 uS (af 3) (eC (.int 1)))) Jm) (aj (e2 qy (af 1) (eC (.int 1))) aH)))) (aC 5) (oY self))
def nc(self:List D->R D):FS:=(fG (CL (b2 oQ (af 1) (eC (.int 0))) (gp (eNew (gH (aj (dk aH) aH)))) vc) (fG (Bj 2 (gH aH)) (fG (vg (ib (af 0)) (eg 2 (bh (aC 3) (bh (aC 4) ei))) (o8 self)) (G6 2 (gp (af 2))))))
def fB:Nat->List D->R D
 | 0=>fun _=> .no
 | n+1=>uV ng (nc (fB n))
theorem yY(T:Tp K mg cl)(h:Def K mg "choices" nj):∀n,Callee P w K mg base (1+n) "choices" 2 (fB n)
 | 0=>by
   obtain⟨f,fd,F,hm⟩:=h;exact⟨f,fd,["places","size"],Us,hm,F.kp,F.binds fun _ _ _ _ _ _ us hl=>match us,hl with | [_,_],_=>rfl⟩
 | n+1=>by
   have RN:=yY T h n;obtain⟨f,fd,F,hm⟩:=h;exact⟨f,fd,_,cD (k:=1+n) Dr.2 v_.2 F nk (fun dt A outer s H E hr=>(br (jS (cS (nC hr.units) (aa 1) ag (cw _)) (bb (bN (bR (cP (ae (bq ah) ah))))) iS) (br (vZ nk.nd rfl Qc9 (cP ah)) (br (j9 QaF rfl (m_ (aa 0) rfl T.z_enumerate) (eF rfl (bp (aG nk.nd rfl Qc9) (bp (aG nk.nd rfl Qc9) dA))) (bb (j9 QaF rfl (bu (bE RN hr (by omega) rfl (ae (OU (aa 0) (Il (aF zS (aa 3) ag)) HR) (ae (aF sN (aa 1) ag) ah)) (aQ (aQ bX)))) (aG nk.nd rfl Qc9) (bb (sT rfl Qc9 (aF zS (bq (ae (aa 4) ah)) (aa 5))))))) (xg 2 (bb (bN (aa 2)))))))),hm,F.kp,F.binds fun _ _ _ _ _ _ us hl=>match us,hl with | [_,_],_=>rfl⟩
abbrev cC:Stmt:=inClass (top 29) 0
noncomputable abbrev dD:List Str:=["self","net","inputs"]
noncomputable def sF:Qda cC:=⟨_,by conv=>lhs;whnf⟩
noncomputable def fL:Qdb cC:=⟨_,by conv=>lhs;whnf⟩
def nA:aU dD ["self","net"] fL.1:={}
def jv:FZ:=(bt (cM 2 (dg jQ (aI (xP (aJ dU (aj (e2 bH (af 1) (eC (.int 0))) aH))) c8))) (bt (zL 0 "net" (eA 0) (xP (af 1))) (bt (zL 0 "many_inputs" (eA 0) (xP (aJ dU (aj (af 2) aH)))) (bt (zL 0 "full" (eA 0) (xP (aJ ji (aj (eNew (cj (cF (af 2)) (aC 0) dC (eC (.int 1)) ["bits"] [])) aH)))) (zL 0 "in_masks" (eA 0) (xP (eNew (cj (cH (aJ dU (aj (e2 bH (af 1) (eC (.int 0))) aH))) (aC 0) dC (aJ m5 (aj (af 1) (aj (af 0) aH))) ["place"] [2]))))))))
def d5:List V3->aN->R3 V3:=mB dD jv
def EN:List V3->aN->R3 V3:=qk dD jv
def eu(T:Tp K mg cl)(h:Hg K (cl 0) "__init__" "Bench.__init__" cC)(kU:Callee P w K mg base 1 "mask_of" 1 ji)(uJ:Callee P w K mg base 2 "in_mask" 2 m5)(mG:bF P w K mg base cl 1 "all_inputs" 1 jQ):Cc P w K mg base cl 3 0 "Bench" 1 d5:=by
 obtain⟨f,fd,F,hm⟩:=h;exact⟨f,fd,_,hm,cx (k:=2) sF.2 fL.2 F nA (fun dt A outer s H E hr=>(aw (bA nA.nd rfl (Or.inr rfl) (cE mG hr (by decide) rfl (ao (ai (aK dI rfl T.z_len QaI (ae (aA (aa 1) ag (fun _ _=>rfl)) ah))) aY) (ak aW))) (aw (q8 T.C_Bench T.N_Bench_net (cy 0) (ai (aa 1))) (aw (q8 T.C_Bench T.N_Bench_many_inputs (cy 0) (ai (aK dI rfl T.z_len QaI (ae (aa 2) ah)))) (aw (q8 T.C_Bench T.N_Bench_full (cy 0) (ai (bE kU hr (by decide) rfl (ae (bR (bO rfl (bg.of (own:=["bits"]) (kp:=[]) (kn:=[]) (sc:=fL.1) (N:=dD) rfl rfl (by decide+kernel)) (bu (aa 2)) (fun _ _ _=>(aG (by decide+kernel:List.Nodup [(Str.ofString "bits")]) rfl Qc9)) (fun _ _ _=>bz) (fun _ _ _=>ag))) ah) (aQ bX)))) (aP (q8 T.C_Bench T.N_Bench_in_masks (cy 0) (ai (bR (bO rfl (bg.of (own:=["place"]) (kp:=[2]) (kn:=["inputs"]) (sc:=fL.1) (N:=dD) rfl rfl (by decide+kernel)) (bo (aK dI rfl T.z_len QaI (ae (aA (aa 1) ag (fun _ _=>rfl)) ah)) rfl T.z_range) (fun _ _ _=>(aG (by decide+kernel:List.Nodup [(Str.ofString "place"),"inputs"]) rfl Qc9)) (fun _ _ _=>bz) (fun _ _ _=>(bE uJ hr (by decide) rfl (ae (aa 1) (ae (aa 0) ah)) (aQ (aQ bX)))))))))))))),T.M_Bench,F.binds fun _ _ _ _ _ _ us hl=>match us,hl with | [_,_],_=>rfl⟩
abbrev cZ:Stmt:=inClass (top 29) 1
noncomputable abbrev jR:List Str:=["self","turned","bad"]
noncomputable def xO:Qda cZ:=⟨_,by conv=>lhs;whnf⟩
noncomputable def pU:Qdb cZ:=⟨_,by conv=>lhs;whnf⟩
def ym:aU jR ["self","turned","bad"] pU.1:={}
def mv:FZ:=(fS (dg kJ (aI (tZ 0 "net" (eA 0)) (aI (dg jO (aI (tZ 0 "net" (eA 0)) (aI (tZ 0 "in_masks" (eA 0)) (aI (tZ 0 "full" (eA 0)) (aI (xP (af 1)) (aI (xP (af 2)) c8)))))) c8))))
def wz:List V3->aN->R3 V3:=mB jR mv
def iq:List V3->aN->R3 V3:=qk jR mv
def gK(T:Tp K mg cl)(h:u9 K (cl 0) "tells" "Bench.tells" cZ)(mH:bF P w K mg base cl 3 "wire_masks" 5 jO)(oq:bF P w K mg base cl 2 "out_masks" 2 kJ):mW P w K mg base cl 4 0 "tells" 2 wz:=by
 obtain⟨f,fd,F,hm⟩:=h;exact⟨f,fd,_,T.C_Bench,hm,cx (k:=3) xO.2 pU.2 F ym (fun dt A outer s H E hr=>(aP (cG (cE oq hr (by decide) rfl (ao (k_ T.C_Bench T.N_Bench_net (cy 0)) (ao (cE mH hr (by decide) rfl (ao (k_ T.C_Bench T.N_Bench_net (cy 0)) (ao (k_ T.C_Bench T.N_Bench_in_masks (cy 0)) (ao (k_ T.C_Bench T.N_Bench_full (cy 0)) (ao (ai (aa 1)) (ao (ai (aa 2)) aY))))) (ak (ak (ak (ak (ak aW)))))) aY)) (ak (ak aW)))))),F.binds fun _ _ _ _ _ _ us hl=>match us,hl with | [_,_,_],_=>rfl⟩
abbrev cA:Stmt:=inClass (top 29) 2
noncomputable abbrev eG:List Str:=["self","turned"]
noncomputable def sr:Qda cA:=⟨_,by conv=>lhs;whnf⟩
noncomputable def iW:Qdb cA:=⟨_,by conv=>lhs;whnf⟩
def t_:aU eG ["self","turned"] iW.1:={}
def jh:FZ:=(fS (lI (Km (xw 0 "tells" iq (eA 0) (aI (xP (af 1)) (aI (xP (dk aH)) c8)))) (kN 0) wb (xq mX (aI (xP (af 0)) (aI (tZ 0 "full" (eA 1)) c8))) ["masks"] [0]))
def tU:List V3->aN->R3 V3:=mB eG jh
def dh:List V3->aN->R3 V3:=qk eG jh
def eI(T:Tp K mg cl)(h:u9 K (cl 0) "readings" "Bench.readings" cA)(uG:Callee P w K mg base 2 "reading" 2 mX)(lU:mW P w K mg base cl 4 0 "tells" 2 iq):mW P w K mg base cl 5 0 "readings" 1 tU:=by
 obtain⟨f,fd,F,hm⟩:=h;exact⟨f,fd,_,T.C_Bench,hm,cx (k:=4) sr.2 iW.2 F t_ (fun dt A outer s H E hr=>(aP (cG (z9 rfl (bg.of (own:=["masks"]) (kp:=[0]) (kn:=["self"]) (sc:=iW.1) (N:=eG) rfl rfl (by decide+kernel)) (Au (tf lU hr (by decide) (cy 0) (ao (ai (aa 1)) (ao (ai (bq ah)) aY)) (ak (ak aW)))) (fun _ _ _=>(aV (by decide+kernel:List.Nodup [(Str.ofString "masks"),"self"]) rfl Qc9)) (fun _ _ _=>jk) (fun _ _ _=>(wW uG hr (by decide) rfl (ao (ai (aa 0)) (ao (k_ T.C_Bench T.N_Bench_full (cy 1)) aY)) (ak (ak aW)))))))),F.binds fun _ _ _ _ _ _ us hl=>match us,hl with | [_,_],_=>rfl⟩
abbrev cB:Stmt:=inClass (top 32) 0
noncomputable abbrev eH:List Str:=["self","net"]
noncomputable def sE:Qda cB:=⟨_,by conv=>lhs;whnf⟩
noncomputable def ie:Qdb cB:=⟨_,by conv=>lhs;whnf⟩
def t5:aU eH ["self","net"] ie.1:={}
def jn:FZ:=(bt (zL 1 "bench" (eA 0) (F5 0 d5 (aI (xP (af 1)) c8))) (bt (zL 1 "plain" (eA 0) (xw 0 "readings" dh (tZ 1 "bench" (eA 0)) (aI (xP (dk aH)) c8))) (zL 1 "unsure" (eA 0) (xP (eNew (cj (ib (e2 bH (af 1) (eC (.int 1)))) (eg 2 (bh (aC 0) (bh (aC 1) ei))) (xy (sO (e2 bH (af 1) (eC (.int 2))))) (af 0) ["place","gate"] []))))))
def dY:List V3->aN->R3 V3:=mB eH jn
def E9:List V3->aN->R3 V3:=qk eH jn
def eB(T:Tp K mg cl)(h:Hg K (cl 1) "__init__" "Trial.__init__" cB)(i4:Cc P w K mg base cl 3 0 "Bench" 1 d5)(di:mW P w K mg base cl 5 0 "readings" 1 dh):Cc P w K mg base cl 6 1 "Trial" 1 dY:=by
 obtain⟨f,fd,F,hm⟩:=h;exact⟨f,fd,_,hm,cx (k:=5) sE.2 ie.2 F t5 (fun dt A outer s H E hr=>(aw (q8 T.C_Trial T.N_Trial_bench (cy 0) (FK i4 hr (by decide) rfl (ao (ai (aa 1)) aY) (ak aW))) (aw (q8 T.C_Trial T.N_Trial_plain (cy 0) (tf di hr (by decide) (k_ T.C_Trial T.N_Trial_bench (cy 0)) (ao (ai (bq ah)) aY) (ak aW))) (aP (q8 T.C_Trial T.N_Trial_unsure (cy 0) (ai (bR (bO rfl (bg.of (own:=["place","gate"]) (kp:=[]) (kn:=[]) (sc:=ie.1) (N:=eH) rfl rfl (by decide+kernel)) (m_ (aA (aa 1) ag (fun _ _=>rfl)) rfl T.z_enumerate) (fun _ _ _=>(eF rfl (bp (aG (by decide+kernel:List.Nodup [(Str.ofString "place"),"gate"]) rfl Qc9) (bp (aG (by decide+kernel:List.Nodup [(Str.ofString "place"),"gate"]) rfl Qc9) dA)))) (fun _ _ _=>(o7 (z6 (qm (aA (aa 1) ag (fun _ _=>rfl)))))) (fun _ _ _=>(aa 0)))))))))),T.M_Trial,F.binds fun _ _ _ _ _ _ us hl=>match us,hl with | [_,_],_=>rfl⟩
abbrev cg:Stmt:=inClass (top 32) 1
noncomputable abbrev fN:List Str:=["self","turned","level","mask","before","after"]
noncomputable def qS:Qda cg:=⟨_,by conv=>lhs;whnf⟩
noncomputable def lr:Qdb cg:=⟨_,by conv=>lhs;whnf⟩
def dc:aU fN ["self","turned","level"] lr.1:={}
def kC:FZ:=(A5 (bP (b2 oQ (af 2) (eC (.str "safe")))) (cM 3 (xP (e2 Ln (e2 Ln (af 3) (e2 EB (e2 bH (af 4) (eC (.int 0))) (e2 bH (af 5) (eC (.int 1))))) (e2 EB (e2 bH (af 4) (eC (.int 1))) (e2 bH (af 5) (eC (.int 0))))))) (cM 3 (xP (e2 Ln (e2 Ln (af 3) (e2 HF (e2 bH (af 4) (eC (.int 0))) (e2 bH (af 5) (eC (.int 0))))) (e2 HF (e2 bH (af 4) (eC (.int 1))) (e2 bH (af 5) (eC (.int 1))))))))
def iJ:FZ:=(bt (cM 3 (xP (eC (.int 0)))) (bt (jr (QQ (tZ 1 "plain" (eA 0)) (xw 0 "readings" dh (tZ 1 "bench" (eA 0)) (aI (xP (af 1)) c8))) (Kj 2 (x5 (kN 4) (x5 (kN 5) Lq))) kC) (fS (xP (af 3)))))
def rh:List V3->aN->R3 V3:=mB fN iJ
def eZ:List V3->aN->R3 V3:=qk fN iJ
def dS(T:Tp K mg cl)(h:u9 K (cl 1) "breaks_at" "Trial.breaks_at" cg)(di:mW P w K mg base cl 5 0 "readings" 1 dh):mW P w K mg base cl 6 1 "breaks_at" 2 rh:=by
 obtain⟨f,fd,F,hm⟩:=h;exact⟨f,fd,_,T.C_Trial,hm,cx (k:=5) qS.2 lr.2 F dc (fun dt A outer s H E hr=>(aw (bA dc.nd rfl Qc9 (ai ag)) (aw (dP QaF rfl (Nw (k_ T.C_Trial T.N_Trial_plain (cy 0)) (tf di hr (by decide) (k_ T.C_Trial T.N_Trial_bench (cy 0)) (ao (ai (aa 1)) aY) (ak aW)) rfl T.z_zip) (kM rfl (cm (aV dc.nd rfl Qc9) (cm (aV dc.nd rfl Qc9) iV))) (aP (oK (kg (cS (nC hr.units) (aa 2) bC (cw _))) (aP (bA dc.nd rfl Qc9 (ai (aF Ck (aF Ck (aa 3) (aF AQ (aA (aa 4) ag (fun _ _=>rfl)) (aA (aa 5) ag (fun _ _=>rfl)))) (aF AQ (aA (aa 4) ag (fun _ _=>rfl)) (aA (aa 5) ag (fun _ _=>rfl))))))) (aP (bA dc.nd rfl Qc9 (ai (aF Ck (aF Ck (aa 3) (aF Bp (aA (aa 4) ag (fun _ _=>rfl)) (aA (aa 5) ag (fun _ _=>rfl)))) (aF Bp (aA (aa 4) ag (fun _ _=>rfl)) (aA (aa 5) ag (fun _ _=>rfl)))))))))) (aP (cG (ai (aa 3))))))),F.binds fun _ _ _ _ _ _ us hl=>match us,hl with | [_,_,_],_=>rfl⟩
abbrev cf:Stmt:=inClass (top 29) 4
noncomputable abbrev dW:List Str:=["self","mask"]
noncomputable def rq:Qda cf:=⟨_,by conv=>lhs;whnf⟩
noncomputable def gT:Qdb cf:=⟨_,by conv=>lhs;whnf⟩
def sk:aU dW ["self","mask"] gT.1:={}
def iT:FZ:=(fS (lI (Ct (tZ 0 "many_inputs" (eA 0))) (kN 0) (bP (b2 oQ (aJ pS (aj (af 1) (aj (af 0) aH))) (eC (.int 1)))) (xP (af 0)) ["number"] [1]))
def q_:List V3->aN->R3 V3:=mB dW iT
def e8:List V3->aN->R3 V3:=qk dW iT
def dX(T:Tp K mg cl)(h:u9 K (cl 0) "inputs_in" "Bench.inputs_in" cf)(xX:Callee P w K mg base 1 "bit_at" 2 pS):mW P w K mg base cl 2 0 "inputs_in" 1 q_:=by
 obtain⟨f,fd,F,hm⟩:=h;exact⟨f,fd,_,T.C_Bench,hm,cx (k:=1) rq.2 gT.2 F sk (fun dt A outer s H E hr=>(aP (cG (z9 rfl (bg.of (own:=["number"]) (kp:=[1]) (kn:=["mask"]) (sc:=gT.1) (N:=dW) rfl rfl (by decide+kernel)) (DS (k_ T.C_Bench T.N_Bench_many_inputs (cy 0)) rfl T.z_range) (fun _ _ _=>(aV (by decide+kernel:List.Nodup [(Str.ofString "number"),"mask"]) rfl Qc9)) (fun _ _ _=>(HX (kg (cS (nC hr.units) (bE xX hr (by decide) rfl (ae (aa 1) (ae (aa 0) ah)) (aQ (aQ bX))) ag (cw _))))) (fun _ _ _=>(ai (aa 0))))))),F.binds fun _ _ _ _ _ _ us hl=>match us,hl with | [_,_],_=>rfl⟩
abbrev sM:Stmt:=top 33
noncomputable abbrev vH:List Str:=["net","many","level","trial","size","turned","mask"]
noncomputable def KQ:Qda sM:=⟨_,by conv=>lhs;whnf⟩
noncomputable def BD:Qdb sM:=⟨_,by conv=>lhs;whnf⟩
def sR:aU vH ["net","many","level"] BD.1:={}
def tY:FZ:=(bt (cM 6 (xw 1 "breaks_at" eZ (eA 3) (aI (xP (af 5)) (aI (xP (af 2)) c8)))) (A5 (bP (b2 Cn (af 6) (eC (.int 0)))) (fS (L_ (aI (xP (eC (.str "breaks"))) (aI (xP (af 5)) (aI (Wo (xw 0 "inputs_in" e8 (tZ 1 "bench" (eA 3)) (aI (xP (af 6)) c8)) (xP (eC (.int 0)))) c8))))) rJ))
def zc:FZ:=(jr (Km (xq (fB 4) (aI (tZ 1 "unsure" (eA 3)) (aI (xP (af 4)) c8)))) (kN 5) tY)
def zG:FZ:=(bt (cM 3 (F5 1 dY (aI (xP (af 0)) c8))) (bt (jr (iP (cH (e2 dO (af 1) (eC (.int 1))))) (kN 4) zc) (fS (xP (dk (aj (eC (.str "bears")) aH))))))
def JK:List V3->aN->R3 V3:=mB vH zG
def tK:List V3->aN->R3 V3:=qk vH zG
def Nz(T:Tp K mg cl)(h:Def K mg "bears" sM)(uz:Callee P w K mg base 5 "choices" 2 (fB 4))(i8:Cc P w K mg base cl 6 1 "Trial" 1 dY)(gU:mW P w K mg base cl 6 1 "breaks_at" 2 eZ)(g6:mW P w K mg base cl 2 0 "inputs_in" 1 e8):bF P w K mg base cl 8 "bears" 3 JK:=by
 obtain⟨f,fd,F,hm⟩:=h;exact⟨f,fd,_,cx (k:=7) KQ.2 BD.2 F sR (fun dt A outer s H E hr=>(aw (bA sR.nd rfl Qc9 (FK i8 hr (by decide) rfl (ao (ai (aa 0)) aY) (ak aW))) (aw (dP QaF rfl (b_ (bo (aF dM (aa 1) ag) rfl T.z_range)) (aV sR.nd rfl Qc9) (aP (dP QaF rfl (Au (wW uz hr (by decide) rfl (ao (k_ T.C_Trial T.N_Trial_unsure (cy 3)) (ao (ai (aa 4)) aY)) (ak (ak aW)))) (aV sR.nd rfl Qc9) (aw (bA sR.nd rfl Qc9 (tf gU hr (by decide) (cy 3) (ao (ai (aa 5)) (ao (ai (aa 2)) aY)) (ak (ak aW)))) (aP (oK (kg (cS (CG hr.units) (aa 6) ag (cw _))) (aP (cG (JJ (ao (ai bC) (ao (ai (aa 5)) (ao (T_ (tf g6 hr (by decide) (k_ T.C_Trial T.N_Trial_bench (cy 3)) (ao (ai (aa 6)) aY) (ak aW)) (ai ag) (fun _ _=>rfl)) aY)))))) jL)))))) (aP (cG (ai (bq (ae bC ah)))))))),hm,F.kp,F.binds fun _ _ _ _ _ _ us hl=>match us,hl with | [_,_,_],_=>rfl⟩
abbrev gA:Stmt:=top 35
noncomputable abbrev gJ:List Str:=["script","k"]
noncomputable def xD:Qda gA:=⟨_,by conv=>lhs;whnf⟩
noncomputable def pI:Qdb gA:=⟨_,by conv=>lhs;whnf⟩
def yr:aU gJ ["script","k"] pI.1:={}
def mw:FS:=(fG (CL (b2 VB (af 1) (aJ dU (aj (af 0) aH))) (gp (e2 bH (af 0) (af 1))) vc) (gp (eC (.int 0))))
def dv:List D->R D:=uV gJ mw
def xZ(T:Tp K mg cl)(h:Def K mg "_law_cell_at" gA):Callee P w K mg base 1 "_law_cell_at" 2 dv:=by
 obtain⟨f,fd,F,hm⟩:=h;exact⟨f,fd,_,cD (k:=0) xD.2 pI.2 F yr (fun dt A outer s H E hr=>(br (jS (cS VP (aa 1) (aK dI rfl T.z_len QaI (ae (aa 0) ah)) (cw _)) (bb (bN (aA (aa 0) (aa 1) (fun _ _=>rfl)))) iS) (bb (bN ag)))),hm,F.kp,F.binds fun _ _ _ _ _ _ us hl=>match us,hl with | [_,_],_=>rfl⟩
abbrev gu:Stmt:=top 36
noncomputable abbrev jU:List Str:=["cell","many","found","rest","k","one"]
noncomputable def wG:Qda gu:=⟨_,by conv=>lhs;whnf⟩
noncomputable def pe:Qdb gu:=⟨_,by conv=>lhs;whnf⟩
def d_:aU jU ["cell","many"] pe.1:={}
def kq:FS:=(CL (b2 Wa (aJ cAbs (aj (af 0) aH)) (e2 QM (eC (.int 10)) (eC (.int 18)))) (fG (Cw 2 (e2 lZ (af 3) (eC (.int 1009)))) (ny 3 (e2 uR (af 3) (eC (.int 1009))))) (fG (ny 5 (e2 lZ (e2 dO (e2 lZ (af 3) (eC (.int 2147483629))) (e2 nG (e2 nG (eC (.int 7919)) (e2 dO (af 4) (eC (.int 1)))) (e2 dO (af 4) (eC (.int 3))))) (eC (.int 2147483629)))) (fG (ny 5 (e2 dO (e2 lZ (e2 nG (af 5) (af 5)) (eC (.int 2147483587))) (e2 uR (af 5) (eC (.int 7))))) (Cw 2 (e2 uR (e2 lZ (e2 nG (af 5) (eC (.int 48271))) (eC (.int 2147483647))) (eC (.int 16)))))))
def qI:FS:=(fG (Bj 2 (gH aH)) (fG (ny 3 (aJ cAbs (aj (af 0) aH))) (fG (vg (cH (af 1)) (aC 4) kq) (G6 2 (gp (af 2))))))
def d8:List D->R D:=uV jU qI
def yy(T:Tp K mg cl)(h:Def K mg "_law_numbers" gu):Callee P w K mg base 1 "_law_numbers" 2 d8:=by
 obtain⟨f,fd,F,hm⟩:=h;exact⟨f,fd,_,cD (k:=0) wG.2 pe.2 F d_ (fun dt A outer s H E hr=>(br (vZ d_.nd rfl Qc9 (cP ah)) (br (fV d_.nd rfl Qc9 (aK Ob rfl T.z_abs PyProof.Rows.boot_abs (ae (aa 0) ah))) (br (j9 QaF rfl (bo (aa 1) rfl T.z_range) (aG d_.nd rfl Qc9) (bb (jS (cS Wi (aK Ob rfl T.z_abs PyProof.Rows.boot_abs (ae (aa 0) ah)) (aF TV ag ag) (cw _)) (br (sT rfl Qc9 (aF j8 (aa 3) ag)) (bb (fV d_.nd rfl Qc9 (aF xm (aa 3) ag)))) (br (fV d_.nd rfl Qc9 (aF j8 (aF dM (aF j8 (aa 3) ag) (aF pk (aF pk ag (aF dM (aa 4) ag)) (aF dM (aa 4) ag))) ag)) (br (fV d_.nd rfl Qc9 (aF dM (aF j8 (aF pk (aa 5) (aa 5)) ag) (aF xm (aa 5) ag))) (bb (sT rfl Qc9 (aF xm (aF j8 (aF pk (aa 5) ag) ag) ag)))))))) (xg 2 (bb (bN (aa 2)))))))),hm,F.kp,F.binds fun _ _ _ _ _ _ us hl=>match us,hl with | [_,_],_=>rfl⟩
abbrev lG:Stmt:=top 37
noncomputable abbrev v8:List Str:=["number"]
noncomputable def CT:Qda lG:=⟨_,by conv=>lhs;whnf⟩
noncomputable def uQ:Qdb lG:=⟨_,by conv=>lhs;whnf⟩
def D5:aU v8 ["number"] uQ.1:={}
def w9:FS:=(gp (e2 bH (eNew (gH (aj (dk (aj (eC (.str "and")) (aj (eC (.int 2)) aH))) (aj (dk (aj (eC (.str "or")) (aj (eC (.int 2)) aH))) (aj (dk (aj (eC (.str "xor")) (aj (eC (.int 2)) aH))) (aj (dk (aj (eC (.str "not")) (aj (eC (.int 1)) aH))) (aj (dk (aj (eC (.str "vote")) (aj (eC (.int 3)) aH))) (aj (dk (aj (eC (.str "and")) (aj (eC (.int 2)) aH))) (aj (dk (aj (eC (.str "xor")) (aj (eC (.int 2)) aH))) aH))))))))) (e2 lZ (af 0) (eC (.int 7)))))
def lz:List D->R D:=uV v8 w9
def EA(T:Tp K mg cl)(h:Def K mg "_law_kind" lG):Callee P w K mg base 1 "_law_kind" 1 lz:=by
 obtain⟨f,fd,F,hm⟩:=h;exact⟨f,fd,_,cD (k:=0) CT.2 uQ.2 F D5 (fun dt A outer s H E hr=>(bb (bN (aA (bR (cP (ae (bq (ae bC (ae ag ah))) (ae (bq (ae bC (ae ag ah))) (ae (bq (ae bC (ae ag ah))) (ae (bq (ae bC (ae ag ah))) (ae (bq (ae bC (ae ag ah))) (ae (bq (ae bC (ae ag ah))) (ae (bq (ae bC (ae ag ah))) ah))))))))) (aF j8 (aa 0) ag) (fun _ _=>rfl))))),hm,F.kp,F.binds fun _ _ _ _ _ _ us hl=>match us,hl with | [_],_=>rfl⟩
abbrev ki:Stmt:=top 38
noncomputable abbrev l6:List Str:=["script","first","many","wires","gates","k","numbers","kind","count","some","j","near"]
noncomputable def AK:Qda ki:=⟨_,by conv=>lhs;whnf⟩
noncomputable def sZ:Qdb ki:=⟨_,by conv=>lhs;whnf⟩
def dz:aU l6 ["script","first","many","wires"] sZ.1:={}
def mE:FZ:=(bt (cM 11 (xP (e2 bH (eNew (gH (aj (e2 lZ (e2 uR (e2 bH (af 6) (e2 dO (eC (.int 1)) (af 10))) (eC (.int 2))) (aJ uY (aj (eC (.int 4)) (aj (af 3) aH)))) (aj (e2 lZ (e2 uR (e2 bH (af 6) (e2 dO (eC (.int 1)) (af 10))) (eC (.int 2))) (af 3)) aH)))) (e2 lZ (e2 bH (af 6) (e2 dO (eC (.int 1)) (af 10))) (eC (.int 2)))))) (kP 9 (xP (e2 qy (e2 qy (af 3) (eC (.int 1))) (af 11)))))
def qN:FZ:=(bt (cM 6 (xP (aJ d8 (aj (aJ dv (aj (af 0) (aj (e2 dO (af 1) (af 5)) aH))) (aj (eC (.int 6)) aH))))) (bt (Rx (xP (aJ lz (aj (e2 bH (af 6) (eC (.int 0))) aH))) (Kj 2 (x5 (kN 7) (x5 (kN 8) Lq)))) (bt (cM 9 (nW (gH aH))) (bt (jr (iP (cH (af 8))) (kN 10) mE) (bt (kP 4 (xT (dk (aj (af 7) (aj (aJ il (aj (af 9) aH)) (aj (e2 oQ (e2 lZ (e2 bH (af 6) (eC (.int 4))) (eC (.int 6))) (eC (.int 0))) aH)))))) (cM 3 (xP (e2 dO (af 3) (eC (.int 1))))))))))
def pR:FZ:=(bt (cM 4 (nW (gH aH))) (bt (jr (iP (cH (af 2))) (kN 5) qN) (AI 4 (fS (xP (af 4))))))
def zx:List V3->aN->R3 V3:=mB l6 pR
def kI:List V3->aN->R3 V3:=qk l6 pR
def Cr(T:Tp K mg cl)(h:Def K mg "_law_gates" ki)(fF:Callee P w K mg base 1 "_law_cell_at" 2 dv)(fD:Callee P w K mg base 1 "_law_numbers" 2 d8)(rO:Callee P w K mg base 1 "_law_kind" 1 lz):bF P w K mg base cl 2 "_law_gates" 4 zx:=by
 obtain⟨f,fd,F,hm⟩:=h;exact⟨f,fd,_,cx (k:=1) AK.2 sZ.2 F dz (fun dt A outer s H E hr=>(aw (bA dz.nd rfl Qc9 (ig (cP ah))) (aw (dP QaF rfl (b_ (bo (aa 2) rfl T.z_range)) (aV dz.nd rfl Qc9) (aw (bA dz.nd rfl Qc9 (ai (bE fD hr (by decide) rfl (ae (bE fF hr (by decide) rfl (ae (aa 0) (ae (aF dM (aa 1) (aa 5)) ah)) (aQ (aQ bX))) (ae ag ah)) (aQ (aQ bX))))) (aw (OV (ai (bE rO hr (by decide) rfl (ae (aA (aa 6) ag (fun _ _=>rfl)) ah) (aQ bX))) (kM rfl (cm (aV dz.nd rfl Qc9) (cm (aV dz.nd rfl Qc9) iV)))) (aw (bA dz.nd rfl Qc9 (ig (cP ah))) (aw (dP QaF rfl (b_ (bo (aa 8) rfl T.z_range)) (aV dz.nd rfl Qc9) (aw (bA dz.nd rfl Qc9 (ai (aA (bR (cP (ae (aF j8 (aF xm (aA (aa 6) (aF dM ag (aa 10)) (fun _ _=>rfl)) ag) (aK (DK rfl) rfl T.z_min Qcz (ae ag (ae (aa 3) ah)))) (ae (aF j8 (aF xm (aA (aa 6) (aF dM ag (aa 10)) (fun _ _=>rfl)) ag) (aa 3)) ah)))) (aF j8 (aA (aa 6) (aF dM ag (aa 10)) (fun _ _=>rfl)) ag) (fun _ _=>rfl)))) (aP (f6 rfl Qc9 (ai (aF sN (aF sN (aa 3) ag) (aa 11))))))) (aw (f6 rfl Qc9 (jX (bq (ae (aa 7) (ae (cW kR rfl T.z_tuple Qa9 (ae (aa 9) ah)) (ae (n6 (nC hr.units) (aF j8 (aA (aa 6) ag (fun _ _=>rfl)) ag) ag (cw _)) ah)))))) (aP (bA dz.nd rfl Qc9 (ai (aF dM (aa 3) ag)))))))))) (tu 4 (aP (cG (ai (aa 4)))))))),hm,F.kp,F.binds fun _ _ _ _ _ _ us hl=>match us,hl with | [_,_,_,_],_=>rfl⟩
abbrev lO:Stmt:=top 39
noncomputable abbrev jo:List Str:=["net","bits","turned","bad","wires","bit","one","place","gate","some","found"]
noncomputable def CQ:Qda lO:=⟨_,by conv=>lhs;whnf⟩
noncomputable def md:Qdb lO:=⟨_,by conv=>lhs;whnf⟩
def dH:aU jo ["net","bits","turned","bad"] md.1:={}
def sQ:FZ:=(cM 4 (Rj (eA 4) (xP (eNew (Ei (gH (aj (af 5) aH)) (e2 bH (af 6) (eC (.int 1))))))))
def nM:FZ:=(bt (cM 9 (lI (iP (cF (e2 bH (af 8) (eC (.int 1))))) (kN 0) wb (xT (e2 bH (af 1) (af 0))) ["wire"] [4])) (bt (cM 10 (zT ["and","or","xor","not"] (aj (aJ uY (aj (af 9) aH)) (aj (aJ ph (aj (af 9) aH)) (aj (e2 lZ (aJ oG (aj (af 9) aH)) (eC (.int 2))) (aj (e2 qy (eC (.int 1)) (e2 bH (af 9) (eC (.int 0)))) aH)))))) (bt (cM 5 (B5 10 (e2 bH (af 8) (eC (.int 0))) (aJ tG (aj (e2 RE (aJ oG (aj (af 9) aH)) (eC (.int 1))) aH)))) (kP 4 (xP (e2 lZ (e2 dO (af 5) (aJ tG (aj (e2 OB (af 7) (af 2)) aH))) (eC (.int 2))))))))
def rH:FZ:=(bt (cM 4 (nW (gH aH))) (bt (jr (iP (F8 (af 1) (e2 bH (af 0) (eC (.int 0))))) (Kj 2 (x5 (kN 5) (x5 (kN 6) Lq))) sQ) (bt (cM 4 (zm (cj (ib (af 4)) (eg 2 (bh (aC 0) (bh (aC 1) ei))) dC (e2 lZ (e2 dO (af 1) (aJ tG (aj (e2 OB (af 0) (af 2)) aH))) (eC (.int 2))) ["k","bit"] [3]))) (bt (jr (iP (ib (e2 bH (af 0) (eC (.int 1))))) (Kj 2 (x5 (kN 7) (x5 (kN 8) Lq))) nM) (fS (eA 4))))))
def CA:List V3->aN->R3 V3:=mB jo rH
def mi:List V3->aN->R3 V3:=qk jo rH
def Dh(T:Tp K mg cl)(h:Def K mg "_law_told" lO):bF P w K mg base cl 1 "_law_told" 4 CA:=by
 obtain⟨f,fd,F,hm⟩:=h;exact⟨f,fd,_,cx (k:=0) CQ.2 md.2 F dH (fun dt A outer s H E hr=>(aw (bA dH.nd rfl (Or.inr rfl) (ig (cP ah))) (aw (dP QaF rfl (b_ (Bx (aa 1) (aA (aa 0) ag (fun _ _=>rfl)) rfl T.z_zip)) (kM rfl (cm (aV dH.nd rfl Qc9) (cm (aV dH.nd rfl Qc9) iV))) (aP (bA dH.nd rfl (Or.inr rfl) (P0 (cy 4) (ai (bR (zZ (cP (ae (aa 5) ah)) (aA (aa 6) ag (fun _ _=>rfl))))))))) (aw (bA dH.nd rfl (Or.inr rfl) (LD (bO rfl (bg.of (own:=["k","bit"]) (kp:=[3]) (kn:=["bad"]) (sc:=md.1) (N:=jo) rfl rfl (by decide+kernel)) (m_ (aa 4) rfl T.z_enumerate) (fun _ _ _=>(eF rfl (bp (aG (by decide+kernel:List.Nodup [(Str.ofString "k"),"bit","bad"]) rfl Qc9) (bp (aG (by decide+kernel:List.Nodup [(Str.ofString "k"),"bit","bad"]) rfl Qc9) dA)))) (fun _ _ _=>bz) (fun _ _ _=>(aF j8 (aF dM (aa 1) (cW AH rfl T.z_int Qb4 (ae (n6 L9 (aa 0) (aa 2) (by with_unfolding_all rfl)) ah))) ag))))) (aw (dP QaF rfl (b_ (m_ (aA (aa 0) ag (fun _ _=>rfl)) rfl T.z_enumerate)) (kM rfl (cm (aV dH.nd rfl Qc9) (cm (aV dH.nd rfl Qc9) iV))) (aw (lH rfl dH.nd rfl rfl (bg.of (own:=["wire"]) (kp:=[4]) (kn:=["wires"]) (sc:=md.1) (N:=jo) rfl rfl (by decide+kernel)) (b_ (bu (aA (aa 8) ag (fun _ _=>rfl)))) (fun _ _ _=>(aV (by decide+kernel:List.Nodup [(Str.ofString "wire"),"wires"]) rfl Qc9)) (fun _ _ _=>jk) (fun _ _ _=>(jX (aA (aa 1) (aa 0) (fun _ _=>rfl))))) (aw (bA dH.nd rfl Qc9 (JB (tQ bC (aK (DK rfl) rfl T.z_min Qcz (ae (aa 9) ah)) (tQ bC (aK (uj rfl) rfl T.z_max Qbw (ae (aa 9) ah)) (tQ bC (aF j8 (aK (Ah rfl) rfl T.z_sum Qb5 (ae (aa 9) ah)) ag) (tQ bC (aF sN ag (aA (aa 9) ag (fun _ _=>rfl))) M4)))) rfl rfl (by simp) (by decide))) (aw (bA dH.nd rfl Qc9 (MI (Tr hr) rfl Qc9 (aA (aa 8) ag (fun _ _=>rfl)) (cW AH rfl T.z_int Qb4 (ae (n6 O1 (aK (Ah rfl) rfl T.z_sum Qb5 (ae (aa 9) ah)) ag (cw _)) ah)))) (aP (f6 rfl (Or.inr Qc9) (ai (aF j8 (aF dM (aa 5) (cW AH rfl T.z_int Qb4 (ae (n6 L9 (aa 7) (aa 2) (by with_unfolding_all rfl)) ah))) ag)))))))) (aP (cG (cy 4)))))))),hm,F.kp,F.binds fun _ _ _ _ _ _ us hl=>match us,hl with | [_,_,_,_],_=>rfl⟩
abbrev lJ:Stmt:=top 40
noncomputable abbrev xh:List Str:=["bits"]
noncomputable def CU:Qda lJ:=⟨_,by conv=>lhs;whnf⟩
noncomputable def uN:Qdb lJ:=⟨_,by conv=>lhs;whnf⟩
def DA:aU xh ["bits"] uN.1:={}
def El:FS:=(fG (CL (Ht (b2 oQ (aJ dU (aj (af 0) aH)) (eC (.int 2))) (b2 Cn (e2 bH (af 0) (eC (.int 0))) (e2 bH (af 0) (eC (.int 1))))) (gp (eC .cR)) vc) (gp (aJ tG (aj (e2 RE (e2 nG (eC (.int 2)) (aJ oG (aj (af 0) aH))) (aJ dU (aj (af 0) aH))) aH))))
def nK:List D->R D:=uV xh El
def Ds(T:Tp K mg cl)(h:Def K mg "_law_read" lJ):Callee P w K mg base 1 "_law_read" 1 nK:=by
 obtain⟨f,fd,F,hm⟩:=h;exact⟨f,fd,_,cD (k:=0) CU.2 uN.2 F DA (fun dt A outer s H E hr=>(br (jS (zN (Bk (cS (nC hr.units) (aK dI rfl T.z_len QaI (ae (aa 0) ah)) ag (cw _)) (y8 (cS (CG hr.units) (aA (aa 0) ag (fun _ _=>rfl)) (aA (aa 0) ag (fun _ _=>rfl)) (cw _))))) (bb (bN sj)) iS) (bb (bN (cW AH rfl T.z_int Qb4 (ae (n6 O1 (aF pk ag (aK (Ah rfl) rfl T.z_sum Qb5 (ae (aa 0) ah))) (aK dI rfl T.z_len QaI (ae (aa 0) ah)) (cw _)) ah)))))),hm,F.kp,F.binds fun _ _ _ _ _ _ us hl=>match us,hl with | [_],_=>rfl⟩
abbrev lL:Stmt:=top 41
noncomputable abbrev kZ:List Str:=["net","bits","turned","bad","wires"]
noncomputable def BW:Qda lL:=⟨_,by conv=>lhs;whnf⟩
noncomputable def o4:Qdb lL:=⟨_,by conv=>lhs;whnf⟩
def xr:aU kZ ["net","bits","turned","bad"] o4.1:={}
def rA:FZ:=(bt (cM 4 (dg mi (aI (xP (af 0)) (aI (xP (af 1)) (aI (xP (af 2)) (aI (xP (af 3)) c8)))))) (fS (xP (eNew (cj (cF (e2 bH (af 0) (eC (.int 2)))) (eg 2 (bh (aC 0) (bh (aC 1) ei))) dC (aJ il (aj (eNew (cj (cF (af 1)) (aC 0) dC (e2 bH (af 1) (af 0)) ["wire"] [2])) aH)) ["name","wired"] [4])))))
def B9:List V3->aN->R3 V3:=mB kZ rA
def mh:List V3->aN->R3 V3:=qk kZ rA
def DQ(T:Tp K mg cl)(h:Def K mg "_law_outs" lL)(qb:bF P w K mg base cl 1 "_law_told" 4 mi):bF P w K mg base cl 2 "_law_outs" 4 B9:=by
 obtain⟨f,fd,F,hm⟩:=h;exact⟨f,fd,_,cx (k:=1) BW.2 o4.2 F xr (fun dt A outer s H E hr=>(aw (bA xr.nd rfl (Or.inr rfl) (cE qb hr (by decide) rfl (ao (ai (aa 0)) (ao (ai (aa 1)) (ao (ai (aa 2)) (ao (ai (aa 3)) aY)))) (ak (ak (ak (ak aW)))))) (aP (cG (ai (bR (bO rfl (bg.of (own:=["name","wired"]) (kp:=[4]) (kn:=["wires"]) (sc:=o4.1) (N:=kZ) rfl rfl (by decide+kernel)) (bu (aA (aa 0) ag (fun _ _=>rfl))) (fun _ _ _=>(eF rfl (bp (aG (by decide+kernel:List.Nodup [(Str.ofString "name"),"wired","wires"]) rfl Qc9) (bp (aG (by decide+kernel:List.Nodup [(Str.ofString "name"),"wired","wires"]) rfl Qc9) dA)))) (fun _ _ _=>bz) (fun _ _ _=>(cW kR rfl T.z_tuple Qa9 (ae (bR (bO rfl (bg.of (own:=["wire"]) (kp:=[2]) (kn:=["wires"]) rfl rfl rfl) (bu (aa 1)) (fun _ _ _=>(aG (by decide+kernel:List.Nodup [(Str.ofString "wire"),"wires"]) rfl Qc9)) (fun _ _ _=>bz) (fun _ _ _=>(aA (aa 1) (aa 0) (fun _ _=>rfl))))) ah)))))))))),hm,F.kp,F.binds fun _ _ _ _ _ _ us hl=>match us,hl with | [_,_,_,_],_=>rfl⟩
abbrev lN:Stmt:=top 42
noncomputable abbrev nQ:List Str:=["net","number","many"]
noncomputable def BY:Qda lN:=⟨_,by conv=>lhs;whnf⟩
noncomputable def o5:Qdb lN:=⟨_,by conv=>lhs;whnf⟩
def xN:aU nQ ["net","number"] o5.1:={}
def xf:FS:=(fG (ny 2 (aJ dU (aj (e2 bH (af 0) (eC (.int 0))) aH))) (gp (aJ il (aj (eNew (cj (cH (af 2)) (aC 0) dC (e2 EB (e2 BV (af 1) (e2 qy (e2 qy (af 2) (eC (.int 1))) (af 0))) (eC (.int 1))) ["k"] [1,2])) aH))))
def jw:List D->R D:=uV nQ xf
def Eh(T:Tp K mg cl)(h:Def K mg "_law_bits" lN):Callee P w K mg base 1 "_law_bits" 2 jw:=by
 obtain⟨f,fd,F,hm⟩:=h;exact⟨f,fd,_,cD (k:=0) BY.2 o5.2 F xN (fun dt A outer s H E hr=>(br (fV xN.nd rfl (Or.inr rfl) (aK dI rfl T.z_len QaI (ae (aA (aa 0) ag (fun _ _=>rfl)) ah))) (bb (bN (cW kR rfl T.z_tuple Qa9 (ae (bR (bO rfl (bg.of (own:=["k"]) (kp:=[1,2]) (kn:=["number","many"]) (sc:=o5.1) (N:=nQ) rfl rfl (by decide+kernel)) (bo (aa 2) rfl T.z_range) (fun _ _ _=>(aG (by decide+kernel:List.Nodup [(Str.ofString "k"),"number","many"]) rfl Qc9)) (fun _ _ _=>bz) (fun _ _ _=>(aF AQ (aF N3 (aa 1) (aF sN (aF sN (aa 2) ag) (aa 0))) ag)))) ah)))))),hm,F.kp,F.binds fun _ _ _ _ _ _ us hl=>match us,hl with | [_,_],_=>rfl⟩
abbrev gI:Stmt:=top 43
noncomputable abbrev gO:List Str:=["net","turned","found","number"]
noncomputable def wk:Qda gI:=⟨_,by conv=>lhs;whnf⟩
noncomputable def k9:Qdb gI:=⟨_,by conv=>lhs;whnf⟩
def mq:aU gO ["net","turned"] k9.1:={}
def oO:FZ:=(kP 2 (lI (Km (dg mh (aI (xP (af 0)) (aI (xP (aJ jw (aj (af 0) (aj (af 3) aH)))) (aI (xP (af 1)) (aI (xP (dk aH)) c8)))))) (kN 0) wb (xP (aJ nK (aj (af 0) aH))) ["bits"] []))
def my:FZ:=(bt (cM 2 (nW (gH aH))) (bt (jr (iP (cH (e2 Pr (eC (.int 1)) (aJ dU (aj (e2 bH (af 0) (eC (.int 0))) aH))))) (kN 3) oO) (fS (eA 2))))
def xH:List V3->aN->R3 V3:=mB gO my
def dF:List V3->aN->R3 V3:=qk gO my
def yp(T:Tp K mg cl)(h:Def K mg "_law_columns" gI)(rS:Callee P w K mg base 1 "_law_bits" 2 jw)(rT:Callee P w K mg base 1 "_law_read" 1 nK)(p_:bF P w K mg base cl 2 "_law_outs" 4 mh):bF P w K mg base cl 3 "_law_columns" 2 xH:=by
 obtain⟨f,fd,F,hm⟩:=h;exact⟨f,fd,_,cx (k:=2) wk.2 k9.2 F mq (fun dt A outer s H E hr=>(aw (bA mq.nd rfl Qc9 (ig (cP ah))) (aw (dP QaF rfl (b_ (bo (aF S8 ag (aK dI rfl T.z_len QaI (ae (aA (aa 0) ag (fun _ _=>rfl)) ah))) rfl T.z_range)) (aV mq.nd rfl Qc9) (aP (f6 rfl Qc9 (z9 rfl (bg.of (own:=["bits"]) (kp:=[]) (kn:=[]) (sc:=k9.1) (N:=gO) rfl rfl (by decide+kernel)) (Au (cE p_ hr (by decide) rfl (ao (ai (aa 0)) (ao (ai (bE rS hr (by decide) rfl (ae (aa 0) (ae (aa 3) ah)) (aQ (aQ bX)))) (ao (ai (aa 1)) (ao (ai (bq ah)) aY)))) (ak (ak (ak (ak aW)))))) (fun _ _ _=>(aV (by decide+kernel:List.Nodup [(Str.ofString "bits")]) rfl Qc9)) (fun _ _ _=>jk) (fun _ _ _=>(ai (bE rT hr (by decide) rfl (ae (aa 0) ah) (aQ bX)))))))) (aP (cG (cy 2)))))),hm,F.kp,F.binds fun _ _ _ _ _ _ us hl=>match us,hl with | [_,_],_=>rfl⟩
abbrev iR:Stmt:=top 44
noncomputable abbrev sG:List Str:=["plain","other","level","number","one","two"]
noncomputable def yt:Qda iR:=⟨_,by conv=>lhs;whnf⟩
noncomputable def qF:Qdb iR:=⟨_,by conv=>lhs;whnf⟩
def kF:aU sG ["plain","other","level"] qF.1:={}
def lg:FS:=(CL (Ht (b2 Cn (af 5) (af 4)) (TX (b2 oQ (af 2) (eC (.str "right"))) (b2 DY (af 5) (eC .cR)))) (gp (af 3)) vc)
def lA:FS:=(vg (F8 (e2 bH (af 0) (af 3)) (e2 bH (af 1) (af 3))) (eg 2 (bh (aC 4) (bh (aC 5) ei))) lg)
def tO:FS:=(fG (vg (cH (aJ dU (aj (af 0) aH))) (aC 3) lA) (gp (eC .cR)))
def iG:List D->R D:=uV sG tO
def Aa(T:Tp K mg cl)(h:Def K mg "_law_breaks" iR):Callee P w K mg base 1 "_law_breaks" 3 iG:=by
 obtain⟨f,fd,F,hm⟩:=h;exact⟨f,fd,_,cD (k:=0) yt.2 qF.2 F kF (fun dt A outer s H E hr=>(br (j9 QaF rfl (bo (aK dI rfl T.z_len QaI (ae (aa 0) ah)) rfl T.z_range) (aG kF.nd rfl Qc9) (bb (j9 QaF rfl (Bx (aA (aa 0) (aa 3) (fun _ _=>rfl)) (aA (aa 1) (aa 3) (fun _ _=>rfl)) rfl T.z_zip) (eF rfl (bp (aG kF.nd rfl Qc9) (bp (aG kF.nd rfl Qc9) dA))) (bb (jS (zN (Bk (cS (CG hr.units) (aa 5) (aa 4) (cw _)) (y8 (zN (Nl (cS (nC hr.units) (aa 2) bC (cw _)) (Jn (cS N8 (aa 5) sj (cw _)))))))) (bb (bN (aa 3))) iS))))) (bb (bN sj)))),hm,F.kp,F.binds fun _ _ _ _ _ _ us hl=>match us,hl with | [_,_,_],_=>rfl⟩
abbrev nu:Stmt:=top 46
noncomputable abbrev m7:List Str:=["script","most","head","ins","gates","outs","k","many","wire"]
noncomputable def DR:Qda nu:=⟨_,by conv=>lhs;whnf⟩
noncomputable def qR:Qdb nu:=⟨_,by conv=>lhs;whnf⟩
def g_:aU m7 ["script","most"] qR.1:={}
def uO:FZ:=(bt (cM 7 (xP (e2 dO (aJ dU (aj (af 3) aH)) (aJ dU (aj (af 4) aH))))) (bt (cM 8 (xP (e2 qy (e2 qy (af 7) (eC (.int 1))) (e2 lZ (e2 bH (af 2) (e2 dO (eC (.int 3)) (af 6))) (aJ uY (aj (af 7) (aj (eC (.int 5)) aH))))))) (kP 5 (xP (dk (aj (e2 bH (eNew (gH (aj (eC (.str "b")) (aj (eC (.str "a")) (aj (eC (.str "outer")) aH))))) (af 6)) (aj (dk (aj (af 8) aH)) aH)))))))
def ug:FZ:=(bt (cM 2 (xP (aJ d8 (aj (aJ dv (aj (af 0) (aj (eC (.int 0)) aH))) (aj (eC (.int 8)) aH))))) (bt (cM 3 (lI (iP (cH (e2 dO (eC (.int 1)) (e2 lZ (e2 bH (af 2) (eC (.int 0))) (eC (.int 4)))))) (kN 0) wb (xP (dk (aj (e2 bH (eNew (gH (aj (eC (.str "a")) (aj (eC (.str "ab")) (aj (eC (.str "long")) (aj (eC (.str "x")) aH)))))) (af 0)) (aj (eC (.int 1)) aH)))) ["k"] [])) (bt (cM 4 (dg kI (aI (xP (af 0)) (aI (xP (eC (.int 1))) (aI (xP (e2 lZ (e2 bH (af 2) (eC (.int 1))) (e2 dO (af 1) (eC (.int 1))))) (aI (xP (aJ dU (aj (af 3) aH))) c8)))))) (bt (cM 5 (nW (gH aH))) (bt (jr (iP (cH (e2 dO (eC (.int 1)) (e2 lZ (e2 bH (af 2) (eC (.int 2))) (eC (.int 3)))))) (kN 6) uO) (AI 5 (fS (xP (dk (aj (af 3) (aj (af 4) (aj (af 5) aH))))))))))))
def Dk:List V3->aN->R3 V3:=mB m7 ug
def nY:List V3->aN->R3 V3:=qk m7 ug
def GO(T:Tp K mg cl)(h:Def K mg "_law_net" nu)(fF:Callee P w K mg base 1 "_law_cell_at" 2 dv)(fD:Callee P w K mg base 1 "_law_numbers" 2 d8)(ox:bF P w K mg base cl 2 "_law_gates" 4 kI):bF P w K mg base cl 3 "_law_net" 2 Dk:=by
 obtain⟨f,fd,F,hm⟩:=h;exact⟨f,fd,_,cx (k:=2) DR.2 qR.2 F g_ (fun dt A outer s H E hr=>(aw (bA g_.nd rfl Qc9 (ai (bE fD hr (by decide) rfl (ae (bE fF hr (by decide) rfl (ae (aa 0) (ae ag ah)) (aQ (aQ bX))) (ae ag ah)) (aQ (aQ bX))))) (aw (lH rfl g_.nd rfl rfl (bg.of (own:=["k"]) (kp:=[]) (kn:=[]) (sc:=qR.1) (N:=m7) rfl rfl (by decide+kernel)) (b_ (bo (aF dM ag (aF j8 (aA (aa 2) ag (fun _ _=>rfl)) ag)) rfl T.z_range)) (fun _ _ _=>(aV (by decide+kernel:List.Nodup [(Str.ofString "k")]) rfl Qc9)) (fun _ _ _=>jk) (fun _ _ _=>(ai (bq (ae (aA (bR (cP (ae bC (ae bC (ae bC (ae bC ah)))))) (aa 0) (fun _ _=>rfl)) (ae ag ah)))))) (aw (bA g_.nd rfl Qc9 (cE ox hr (by decide) rfl (ao (ai (aa 0)) (ao (ai ag) (ao (ai (aF j8 (aA (aa 2) ag (fun _ _=>rfl)) (aF dM (aa 1) ag))) (ao (ai (aK dI rfl T.z_len QaI (ae (aa 3) ah))) aY)))) (ak (ak (ak (ak aW)))))) (aw (bA g_.nd rfl Qc9 (ig (cP ah))) (aw (dP QaF rfl (b_ (bo (aF dM ag (aF j8 (aA (aa 2) ag (fun _ _=>rfl)) ag)) rfl T.z_range)) (aV g_.nd rfl Qc9) (aw (bA g_.nd rfl Qc9 (ai (aF dM (aK dI rfl T.z_len QaI (ae (aa 3) ah)) (aK dI rfl T.z_len QaI (ae (aa 4) ah))))) (aw (bA g_.nd rfl Qc9 (ai (aF sN (aF sN (aa 7) ag) (aF j8 (aA (aa 2) (aF dM ag (aa 6)) (fun _ _=>rfl)) (aK (DK rfl) rfl T.z_min Qcz (ae (aa 7) (ae ag ah))))))) (aP (f6 rfl Qc9 (ai (bq (ae (aA (bR (cP (ae bC (ae bC (ae bC ah))))) (aa 6) (fun _ _=>rfl)) (ae (bq (ae (aa 8) ah)) ah))))))))) (tu 5 (aP (cG (ai (bq (ae (aa 3) (ae (aa 4) (ae (aa 5) ah)))))))))))))),hm,F.kp,F.binds fun _ _ _ _ _ _ us hl=>match us,hl with | [_,_],_=>rfl⟩
abbrev iu:Stmt:=top 47
noncomputable abbrev c0:List Str:=["net","many","votes","ins","at","k","wires","gates","kind","some","sure","copies","j","mine"]
noncomputable def yc:Qda iu:=⟨_,by conv=>lhs;whnf⟩
noncomputable def dw:Qdb iu:=⟨_,by conv=>lhs;whnf⟩
def bS:aU c0 ["net","many","votes"] dw.1:={}
def pP:FZ:=(kP 4 (xP (eNew (cj (cH (af 1)) (aC 0) dC (e2 dO (e2 nG (af 1) (af 2)) (af 0)) ["j"] [1,5]))))
def lx:FZ:=(bt (cM 13 (xT (aJ il (aj (eNew (cj (cF (af 9)) (aC 0) dC (e2 bH (e2 bH (af 1) (af 0)) (af 2)) ["wire"] [4,12])) aH)))) (kP 7 (xP (dk (aj (af 8) (aj (af 13) (aj (af 10) aH)))))))
def lK:FZ:=(kP 7 (xP (dk (aj (eC (.str "vote")) (aj (aJ il (aj (af 11) aH)) (aj (af 10) aH))))))
def lF:FZ:=(bt (cM 11 (lI (iP (cH (af 1))) (kN 0) wb (xP (e2 dO (af 1) (af 0))) ["j"] [6])) (bt (jr (iP (cH (af 1))) (kN 12) lx) (bt (cM 6 (xP (e2 dO (af 6) (af 1)))) (bt (A5 (bP (b2 oQ (af 2) (eC (.int 1)))) (bt (jr (iP (cH (af 1))) (kN 12) lK) (bt (cM 11 (lI (iP (cH (af 1))) (kN 0) wb (xP (e2 dO (af 1) (af 0))) ["j"] [6])) (cM 6 (xP (e2 dO (af 6) (af 1)))))) rJ) (kP 4 (xP (af 11)))))))
def n4:FZ:=(bt (cM 3 (lI (iP (cF (e2 bH (af 0) (eC (.int 0))))) (Kj 2 (x5 (kN 0) (x5 (kN 1) Lq))) wb (xP (dk (aj (af 0) (aj (af 2) aH)))) ["name","width"] [1])) (bt (cM 4 (nW (gH aH))) (bt (jr (iP (cH (aJ dU (aj (af 3) aH)))) (kN 5) pP) (bt (cM 6 (xP (e2 nG (af 1) (aJ dU (aj (af 3) aH))))) (bt (cM 7 (nW (gH aH))) (bt (jr (iP (cF (e2 bH (af 0) (eC (.int 1))))) (Kj 3 (x5 (kN 8) (x5 (kN 9) (x5 (kN 10) Lq)))) lF) (AI 7 (AI 4 (fS (xP (dk (aj (af 3) (aj (af 7) (aj (eNew (cj (cF (e2 bH (af 0) (eC (.int 2)))) (eg 2 (bh (aC 0) (bh (aC 1) ei))) dC (dk (aj (af 0) (aj (aJ il (aj (e2 bH (af 2) (e2 bH (af 1) (eC (.int 0)))) aH)) aH))) ["name","some"] [4])) aH))))))))))))))
def yj:List V3->aN->R3 V3:=mB c0 n4
def d9:List V3->aN->R3 V3:=qk c0 n4
def AD(T:Tp K mg cl)(h:Def K mg "_law_copies" iu):bF P w K mg base cl 1 "_law_copies" 3 yj:=by
 obtain⟨f,fd,F,hm⟩:=h;exact⟨f,fd,_,cx (k:=0) yc.2 dw.2 F bS (fun dt A outer s H E hr=>(aw (lH rfl bS.nd rfl rfl (bg.of (own:=["name","width"]) (kp:=[1]) (kn:=["many"]) (sc:=dw.1) (N:=c0) rfl rfl (by decide+kernel)) (b_ (bu (aA (aa 0) ag (fun _ _=>rfl)))) (fun _ _ _=>(kM rfl (cm (aV (by decide+kernel:List.Nodup [(Str.ofString "name"),"width","many"]) rfl Qc9) (cm (aV (by decide+kernel:List.Nodup [(Str.ofString "name"),"width","many"]) rfl Qc9) iV)))) (fun _ _ _=>jk) (fun _ _ _=>(ai (bq (ae (aa 0) (ae (aa 2) ah)))))) (aw (bA bS.nd rfl (Or.inr rfl) (ig (cP ah))) (aw (dP QaF rfl (b_ (bo (aK dI rfl T.z_len QaI (ae (aa 3) ah)) rfl T.z_range)) (aV bS.nd rfl (Or.inr rfl)) (aP (f6 rfl (Or.inr Qc9) (ai (bR (bO rfl (bg.of (own:=["j"]) (kp:=[1,5]) (kn:=["many","k"]) (sc:=dw.1) (N:=c0) rfl rfl (by decide+kernel)) (bo (aa 1) rfl T.z_range) (fun _ _ _=>(aG (by decide+kernel:List.Nodup [(Str.ofString "j"),"many","k"]) rfl Qc9)) (fun _ _ _=>bz) (fun _ _ _=>(aF dM (aF pk (aa 1) (aa 2)) (aa 0))))))))) (aw (bA bS.nd rfl (Or.inr rfl) (ai (aF pk (aa 1) (aK dI rfl T.z_len QaI (ae (aa 3) ah))))) (aw (bA bS.nd rfl Qc9 (ig (cP ah))) (aw (dP QaF rfl (b_ (bu (aA (aa 0) ag (fun _ _=>rfl)))) (kM rfl (cm (aV bS.nd rfl Qc9) (cm (aV bS.nd rfl Qc9) (cm (aV bS.nd rfl Qc9) iV)))) (aw (lH rfl bS.nd rfl rfl (bg.of (own:=["j"]) (kp:=[6]) (kn:=["wires"]) (sc:=dw.1) (N:=c0) rfl rfl (by decide+kernel)) (b_ (bo (aa 1) rfl T.z_range)) (fun _ _ _=>(aV (by decide+kernel:List.Nodup [(Str.ofString "j"),"wires"]) rfl Qc9)) (fun _ _ _=>jk) (fun _ _ _=>(ai (aF dM (aa 1) (aa 0))))) (aw (dP QaF rfl (b_ (bo (aa 1) rfl T.z_range)) (aV bS.nd rfl (Or.inr rfl)) (aw (bA bS.nd rfl Qc9 (jX (cW kR rfl T.z_tuple Qa9 (ae (bR (bO rfl (bg.of (own:=["wire"]) (kp:=[4,12]) (kn:=["at","j"]) (sc:=dw.1) (N:=c0) rfl rfl (by decide+kernel)) (bu (aa 9)) (fun _ _ _=>(aG (by decide+kernel:List.Nodup [(Str.ofString "wire"),"at","j"]) rfl Qc9)) (fun _ _ _=>bz) (fun _ _ _=>(aA (aA (aa 1) (aa 0) (fun _ _=>rfl)) (aa 2) (fun _ _=>rfl))))) ah)))) (aP (f6 rfl Qc9 (ai (bq (ae (aa 8) (ae (aa 13) (ae (aa 10) ah))))))))) (aw (bA bS.nd rfl (Or.inr rfl) (ai (aF dM (aa 6) (aa 1)))) (aw (oK (kg (cS (nC hr.units) (aa 2) ag (cw _))) (aw (dP QaF rfl (b_ (bo (aa 1) rfl T.z_range)) (aV bS.nd rfl (Or.inr rfl)) (aP (f6 rfl Qc9 (ai (bq (ae bC (ae (cW kR rfl T.z_tuple Qa9 (ae (aa 11) ah)) (ae (aa 10) ah)))))))) (aw (lH rfl bS.nd rfl rfl (bg.of (own:=["j"]) (kp:=[6]) (kn:=["wires"]) (sc:=dw.1) (N:=c0) rfl rfl (by decide+kernel)) (b_ (bo (aa 1) rfl T.z_range)) (fun _ _ _=>(aV (by decide+kernel:List.Nodup [(Str.ofString "j"),"wires"]) rfl Qc9)) (fun _ _ _=>jk) (fun _ _ _=>(ai (aF dM (aa 1) (aa 0))))) (aP (bA bS.nd rfl (Or.inr rfl) (ai (aF dM (aa 6) (aa 1))))))) jL) (aP (f6 rfl (Or.inr Qc9) (ai (aa 11))))))))) (tu 7 (tu 4 (aP (cG (ai (bq (ae (aa 3) (ae (aa 7) (ae (bR (bO rfl (bg.of (own:=["name","some"]) (kp:=[4]) (kn:=["at"]) (sc:=dw.1) (N:=c0) rfl rfl (by decide+kernel)) (bu (aA (aa 0) ag (fun _ _=>rfl))) (fun _ _ _=>(eF rfl (bp (aG (by decide+kernel:List.Nodup [(Str.ofString "name"),"some","at"]) rfl Qc9) (bp (aG (by decide+kernel:List.Nodup [(Str.ofString "name"),"some","at"]) rfl Qc9) dA)))) (fun _ _ _=>bz) (fun _ _ _=>(bq (ae (aa 0) (ae (cW kR rfl T.z_tuple Qa9 (ae (aA (aa 2) (aA (aa 1) ag (fun _ _=>rfl)) (fun _ _=>rfl)) ah)) ah)))))) ah)))))))))))))))),hm,F.kp,F.binds fun _ _ _ _ _ _ us hl=>match us,hl with | [_,_,_],_=>rfl⟩
abbrev lq:Stmt:=top 48
noncomputable abbrev eU:List Str:=["net","deep","kind","some","sure","most","votes"]
noncomputable def Cz:Qda lq:=⟨_,by conv=>lhs;whnf⟩
noncomputable def fX:Qdb lq:=⟨_,by conv=>lhs;whnf⟩
def gR:aU eU ["net"] fX.1:={}
def r9:FZ:=(kP 1 (xT (e2 dO (eC (.int 1)) (aJ ph (aj (eNew (cj (cF (af 3)) (aC 0) dC (e2 bH (af 1) (af 0)) ["wire"] [1])) aH)))))
def qZ:FZ:=(bt (cM 1 (nW (Ei (gH (aj (eC (.int 0)) aH)) (aJ oG (aj (eNew (cj (cF (e2 bH (af 0) (eC (.int 0)))) (aC 0) dC (e2 bH (af 0) (eC (.int 1))) ["one"] [])) aH))))) (bt (jr (iP (cF (e2 bH (af 0) (eC (.int 1))))) (Kj 3 (x5 (kN 2) (x5 (kN 3) (x5 (kN 4) Lq)))) r9) (bt (cM 5 (xT (aJ ph (aj (eNew (cj (cF (e2 bH (af 0) (eC (.int 2)))) (eg 2 (bh (aC 0) (bh (aC 1) ei))) dC (aJ ph (aj (eNew (cj (cF (af 1)) (aC 0) dC (e2 bH (af 1) (af 0)) ["wire"] [2])) aH)) ["name","some"] [1])) aH)))) (bt (cM 6 (xP (aJ dU (aj (eNew (cj (cF (e2 bH (af 0) (eC (.int 1)))) (aC 0) (b2 oQ (e2 bH (af 0) (eC (.int 0))) (eC (.str "vote"))) (af 0) ["gate"] [])) aH)))) (fS (xP (dk (aj (aJ dU (aj (e2 bH (af 0) (eC (.int 1))) aH)) (aj (af 6) (aj (aJ dU (aj (eNew (cj (cF (e2 bH (af 0) (eC (.int 1)))) (aC 0) (sO (e2 bH (af 0) (eC (.int 2)))) (af 0) ["gate"] [])) aH)) (aj (af 5) aH)))))))))))
def Bc:List V3->aN->R3 V3:=mB eU qZ
def g8:List V3->aN->R3 V3:=qk eU qZ
def EC(T:Tp K mg cl)(h:Def K mg "_law_size" lq):bF P w K mg base cl 1 "_law_size" 1 Bc:=by
 obtain⟨f,fd,F,hm⟩:=h;exact⟨f,fd,_,cx (k:=0) Cz.2 fX.2 F gR (fun dt A outer s H E hr=>(aw (bA gR.nd rfl (Or.inr rfl) (ig (zZ (cP (ae ag ah)) (aK (Ah rfl) rfl T.z_sum Qb5 (ae (bR (bO rfl (bg.of (own:=["one"]) (kp:=[]) (kn:=[]) (sc:=fX.1) (N:=eU) rfl rfl (by decide+kernel)) (bu (aA (aa 0) ag (fun _ _=>rfl))) (fun _ _ _=>(aG (by decide+kernel:List.Nodup [(Str.ofString "one")]) rfl Qc9)) (fun _ _ _=>bz) (fun _ _ _=>(aA (aa 0) ag (fun _ _=>rfl))))) ah))))) (aw (dP QaF rfl (b_ (bu (aA (aa 0) ag (fun _ _=>rfl)))) (kM rfl (cm (aV gR.nd rfl Qc9) (cm (aV gR.nd rfl Qc9) (cm (aV gR.nd rfl Qc9) iV)))) (aP (f6 rfl (Or.inr Qc9) (jX (aF dM ag (aK (uj rfl) rfl T.z_max Qbw (ae (bR (bO rfl (bg.of (own:=["wire"]) (kp:=[1]) (kn:=["deep"]) (sc:=fX.1) (N:=eU) rfl rfl (by decide+kernel)) (bu (aa 3)) (fun _ _ _=>(aG (by decide+kernel:List.Nodup [(Str.ofString "wire"),"deep"]) rfl Qc9)) (fun _ _ _=>bz) (fun _ _ _=>(aA (aa 1) (aa 0) (fun _ _=>rfl))))) ah))))))) (aw (bA gR.nd rfl Qc9 (jX (aK (uj rfl) rfl T.z_max Qbw (ae (bR (bO rfl (bg.of (own:=["name","some"]) (kp:=[1]) (kn:=["deep"]) (sc:=fX.1) (N:=eU) rfl rfl (by decide+kernel)) (bu (aA (aa 0) ag (fun _ _=>rfl))) (fun _ _ _=>(eF rfl (bp (aG (by decide+kernel:List.Nodup [(Str.ofString "name"),"some","deep"]) rfl Qc9) (bp (aG (by decide+kernel:List.Nodup [(Str.ofString "name"),"some","deep"]) rfl Qc9) dA)))) (fun _ _ _=>bz) (fun _ _ _=>(aK (uj rfl) rfl T.z_max Qbw (ae (bR (bO rfl (bg.of (own:=["wire"]) (kp:=[2]) (kn:=["deep"]) rfl rfl rfl) (bu (aa 1)) (fun _ _ _=>(aG (by decide+kernel:List.Nodup [(Str.ofString "wire"),"deep"]) rfl Qc9)) (fun _ _ _=>bz) (fun _ _ _=>(aA (aa 1) (aa 0) (fun _ _=>rfl))))) ah))))) ah)))) (aw (bA gR.nd rfl Qc9 (ai (aK dI rfl T.z_len QaI (ae (bR (bO rfl (bg.of (own:=["gate"]) (kp:=[]) (kn:=[]) (sc:=fX.1) (N:=eU) rfl rfl (by decide+kernel)) (bu (aA (aa 0) ag (fun _ _=>rfl))) (fun _ _ _=>(aG (by decide+kernel:List.Nodup [(Str.ofString "gate")]) rfl Qc9)) (fun _ _ _=>(o7 (cS (nC hr.units) (aA (aa 0) ag (fun _ _=>rfl)) bC (cw _)))) (fun _ _ _=>(aa 0)))) ah)))) (aP (cG (ai (bq (ae (aK dI rfl T.z_len QaI (ae (aA (aa 0) ag (fun _ _=>rfl)) ah)) (ae (aa 6) (ae (aK dI rfl T.z_len QaI (ae (bR (bO rfl (bg.of (own:=["gate"]) (kp:=[]) (kn:=[]) (sc:=fX.1) (N:=eU) rfl rfl (by decide+kernel)) (bu (aA (aa 0) ag (fun _ _=>rfl))) (fun _ _ _=>(aG (by decide+kernel:List.Nodup [(Str.ofString "gate")]) rfl Qc9)) (fun _ _ _=>(o7 (qm (aA (aa 0) ag (fun _ _=>rfl))))) (fun _ _ _=>(aa 0)))) ah)) (ae (aa 5) ah))))))))))))),hm,F.kp,F.binds fun _ _ _ _ _ _ us hl=>match us,hl with | [_],_=>rfl⟩
abbrev j7:Stmt:=top 49
noncomputable abbrev l4:List Str:=["net","made","plain","level","place"]
noncomputable def AJ:Qda j7:=⟨_,by conv=>lhs;whnf⟩
noncomputable def r6:Qdb j7:=⟨_,by conv=>lhs;whnf⟩
def uZ:aU l4 ["net","made","plain","level"] r6.1:={}
def qM:FZ:=(A5 (PV (bP (xy (sO (e2 bH (e2 bH (e2 bH (af 1) (eC (.int 1))) (af 4)) (eC (.int 2)))))) (Oo DY (xq iG (aI (xP (af 2)) (aI (dg dF (aI (xP (af 1)) (aI (xP (dk (aj (af 4) aH))) c8))) (aI (xP (af 3)) c8)))) (xP (eC .cR)))) (fS (xP (eC (.bl false)))) rJ)
def pM:FZ:=(bt (jr (iP (cH (aJ dU (aj (e2 bH (af 1) (eC (.int 1))) aH)))) (kN 4) qM) (fS (x2 oQ (dg tK (aI (xP (af 1)) (aI (xP (eC (.int 1))) (aI (xP (af 3)) c8)))) (xP (dk (aj (eC (.str "bears")) aH))))))
def zH:List V3->aN->R3 V3:=mB l4 pM
def kG:List V3->aN->R3 V3:=qk l4 pM
def Cm(T:Tp K mg cl)(h:Def K mg "_law_borne" j7)(oC:Callee P w K mg base 1 "_law_breaks" 3 iG)(dJ:bF P w K mg base cl 3 "_law_columns" 2 dF)(xR:bF P w K mg base cl 8 "bears" 3 tK):bF P w K mg base cl 9 "_law_borne" 4 zH:=by
 obtain⟨f,fd,F,hm⟩:=h;exact⟨f,fd,_,cx (k:=8) AJ.2 r6.2 F uZ (fun dt A outer s H E hr=>(aw (dP QaF rfl (b_ (bo (aK dI rfl T.z_len QaI (ae (aA (aa 1) ag (fun _ _=>rfl)) ah)) rfl T.z_range)) (aV uZ.nd rfl Qc9) (aP (oK (Li.pb (Ma (kg (z6 (qm (aA (aA (aA (aa 1) ag (fun _ _=>rfl)) (aa 4) (fun _ _=>rfl)) ag (fun _ _=>rfl))))) (JO (qt N8 (wW oC hr (by decide) rfl (ao (ai (aa 2)) (ao (cE dJ hr (by decide) rfl (ao (ai (aa 1)) (ao (ai (bq (ae (aa 4) ah))) aY)) (ak (ak aW))) (ao (ai (aa 3)) aY))) (ak (ak (ak aW)))) (ai sj) (cw _))))) (aP (cG (ai fH))) jL))) (aP (cG (DP (nC hr.units) (cE xR hr (by decide) rfl (ao (ai (aa 1)) (ao (ai ag) (ao (ai (aa 3)) aY))) (ak (ak (ak aW)))) (ai (bq (ae bC ah))) (cw _)))))),hm,F.kp,F.binds fun _ _ _ _ _ _ us hl=>match us,hl with | [_,_,_,_],_=>rfl⟩
abbrev gG:Stmt:=top 50
noncomputable abbrev jV:List Str:=["make","net","caught","e"]
noncomputable def wU:Qda gG:=⟨_,by conv=>lhs;whnf⟩
noncomputable def pq:Qdb gG:=⟨_,by conv=>lhs;whnf⟩
def jN:aU jV ["make","net"] pq.1:={}
def mr:FZ:=(bt (cM 2 (xP (eC .cR))) (bt (DO (uW (k6 0 [("in_threes",c6),("in_pairs",dy),("with_votes",cK)] (wC (aI (xP (af 1)) c8)))) (fun c=>[3,4].contains c) 3 (cM 2 (eA 3))) (fS (Q1 (aI (IL (eA 2) (SN [(3,true),(4,true)])) (aI (IL (eA 2) (SN [(3,false),(4,true)])) (aI (IL (eA 2) (SN [(3,true),(4,false)])) c8)))))))
def vR:List V3->aN->R3 V3:=mB jV mr
def ij:List V3->aN->R3 V3:=qk jV mr
def yx(T:Tp K mg cl)(h:Def K mg "_law_refused" gG)(fE:de P w K mg base cl 3 "with_votes" 1 cK)(hJ:de P w K mg base cl 3 "in_pairs" 1 dy)(gb:de P w K mg base cl 3 "in_threes" 1 c6):bF P w K mg base cl 4 "_law_refused" 2 vR:=by
 obtain⟨f,fd,F,hm⟩:=h;exact⟨f,fd,_,cx (k:=3) wU.2 pq.2 F jN (fun dt A outer s H E hr=>(aw (bA jN.nd rfl Qc9 (ai sj)) (aw (Rl rfl rfl rfl (Te (E5 T.E_Full_FaultError (E5 T.E_NotPlain_FaultError PF))) rfl T.M_FaultError jN.nd rfl rfl (fun pn xe E hp=>(si (tq (zd hp (qi gb (by decide) (qi hJ (by decide) (qi fE (by decide) Ii))) hr rfl Qc9 (nJ (ao (ai (aa 1)) aY)) (sJ (ak aW)))))) (fun a pn=>(aP (bA jN.nd rfl Qc9 (cy 3))))) (aP (cG (O9 (ao (DT (cy 2) (LF (v:= .ty "ValueError") rfl T.z_ValueError PyProof.Rows.Boot.«ValueError» rfl) rfl rfl T.z_isinstance (FV (qr ⟨T.X_Full,T.I_Full_ValueError⟩ (qr ⟨T.X_NotPlain,T.I_NotPlain_ValueError⟩ Ea))) T.O_ValueError) (ao (DT (cy 2) (vJ (v:= .ref (cl 4)) rfl T.M_NotPlain rfl) rfl rfl T.z_isinstance (FV (qr ⟨T.X_Full,T.I_Full_NotPlain⟩ (qr ⟨T.X_NotPlain,T.I_NotPlain_NotPlain⟩ Ea))) T.O_NotPlain) (ao (DT (cy 2) (vJ (v:= .ref (cl 3)) rfl T.M_Full rfl) rfl rfl T.z_isinstance (FV (qr ⟨T.X_Full,T.I_Full_Full⟩ (qr ⟨T.X_NotPlain,T.I_NotPlain_Full⟩ Ea))) T.O_Full) aY))))))))),hm,F.kp,F.binds fun _ _ _ _ _ _ us hl=>match us,hl with | [_,_],_=>rfl⟩
abbrev j0:Stmt:=top 51
noncomputable abbrev l8:List Str:=["net","plain","make","made","level"]
noncomputable def z8:Qda j0:=⟨_,by conv=>lhs;whnf⟩
noncomputable def sd:Qdb j0:=⟨_,by conv=>lhs;whnf⟩
def Cs:aU l8 ["net","plain","make","made","level"] sd.1:={}
def pH:FZ:=(bt (A5 (UW (Oo Cn (k6 2 [("in_threes",c6),("in_pairs",dy),("with_votes",cK)] (wC (aI (xP (af 0)) c8))) (xP (af 3))) (UW (Oo Cn (dg dF (aI (xP (af 3)) (aI (xP (dk aH)) c8))) (xP (af 1))) (Oo Cn (xP (aJ rF (aj (af 3) aH))) (dg g8 (aI (xP (af 3)) c8))))) (fS (xP (eC (.bl false)))) rJ) (bt (A5 (Hn (ED (dg kG (aI (xP (af 0)) (aI (xP (af 3)) (aI (xP (af 1)) (aI (xP (af 4)) c8))))))) (fS (xP (eC (.bl false)))) rJ) (fS (x2 oQ (dg ij (aI (eA 2) (aI (xP (af 3)) c8))) (xP (eNew (gH (aj (eC (.bl true)) (aj (eC (.bl true)) (aj (eC (.bl false)) aH))))))))))
def z0:List V3->aN->R3 V3:=mB l8 pH
def d3:List V3->aN->R3 V3:=qk l8 pH
def Bf(T:Tp K mg cl)(h:Def K mg "_law_right" j0)(AZ:Callee P w K mg base 3 "size" 1 rF)(fE:de P w K mg base cl 3 "with_votes" 1 cK)(hJ:de P w K mg base cl 3 "in_pairs" 1 dy)(gb:de P w K mg base cl 3 "in_threes" 1 c6)(dJ:bF P w K mg base cl 3 "_law_columns" 2 dF)(mj:bF P w K mg base cl 1 "_law_size" 1 g8)(oj:bF P w K mg base cl 9 "_law_borne" 4 kG)(i7:bF P w K mg base cl 4 "_law_refused" 2 ij):bF P w K mg base cl 10 "_law_right" 5 z0:=by
 obtain⟨f,fd,F,hm⟩:=h;exact⟨f,fd,_,cx (k:=9) z8.2 sd.2 F Cs (fun dt A outer s H E hr=>(aw (oK (Li.pb (Jf (qt (CG hr.units) (OS (zd Pe (qi gb (by decide) (qi hJ (by decide) (qi fE (by decide) Ii))) hr rfl Qc9 (nJ (ao (ai (aa 0)) aY)) (sJ (ak aW)))) (ai (aa 3)) (cw _)) (Jf (qt (CG hr.units) (cE dJ hr (by decide) rfl (ao (ai (aa 3)) (ao (ai (bq ah)) aY)) (ak (ak aW))) (ai (aa 1)) (cw _)) (Mz (qt (CG hr.units) (ai (bE AZ hr (by decide) rfl (ae (aa 3) ah) (aQ bX))) (cE mj hr (by decide) rfl (ao (ai (aa 3)) aY) (ak aW)) (cw _)))))) (aP (cG (ai fH))) jL) (aw (oK (vI (sY (cE oj hr (by decide) rfl (ao (ai (aa 0)) (ao (ai (aa 3)) (ao (ai (aa 1)) (ao (ai (aa 4)) aY)))) (ak (ak (ak (ak aW))))))) (aP (cG (ai fH))) jL) (aP (cG (DP (nC hr.units) (cE i7 hr (by decide) rfl (ao (cy 2) (ao (ai (aa 3)) aY)) (ak (ak aW))) (ai (bR (cP (ae fH (ae fH (ae fH ah)))))) (cw _))))))),hm,F.kp,F.binds fun _ _ _ _ _ _ us hl=>match us,hl with | [_,_,_,_,_],_=>rfl⟩
abbrev Fb:Stmt:=top 52
noncomputable abbrev w_:List Str:=["script","net","plain","many"]
noncomputable def RH:Qda Fb:=⟨_,by conv=>lhs;whnf⟩
noncomputable def IS:Qdb Fb:=⟨_,by conv=>lhs;whnf⟩
def Ga:aU w_ ["script"] IS.1:={}
def yB:FZ:=(bt (cM 1 (dg nY (aI (xP (af 0)) (aI (xP (eC (.int 7))) c8)))) (bt (cM 2 (dg dF (aI (xP (af 1)) (aI (xP (dk aH)) c8)))) (bt (A5 (Oo Cn (xP (aJ rF (aj (af 1) aH))) (dg g8 (aI (xP (af 1)) c8))) (fS (xP (eC (.bl false)))) rJ) (bt (A5 (Hn (ED (dg d3 (aI (xP (af 1)) (aI (xP (af 2)) (aI (Sa "in_threes") (aI (dg d9 (aI (xP (af 1)) (aI (xP (eC (.int 3))) (aI (xP (eC (.int 0))) c8)))) (aI (xP (eC (.str "right"))) c8)))))))) (fS (xP (eC (.bl false)))) rJ) (bt (A5 (Hn (ED (dg d3 (aI (xP (af 1)) (aI (xP (af 2)) (aI (Sa "in_pairs") (aI (dg d9 (aI (xP (af 1)) (aI (xP (eC (.int 2))) (aI (xP (eC (.int 0))) c8)))) (aI (xP (eC (.str "safe"))) c8)))))))) (fS (xP (eC (.bl false)))) rJ) (bt (A5 (Hn (ED (dg d3 (aI (xP (af 1)) (aI (xP (af 2)) (aI (Sa "with_votes") (aI (dg d9 (aI (xP (af 1)) (aI (xP (eC (.int 3))) (aI (xP (eC (.int 1))) c8)))) (aI (xP (eC (.str "right"))) c8)))))))) (fS (xP (eC (.bl false)))) rJ) (bt (cM 3 (xP (e2 dO (e2 bH (af 1) (eC (.int 1))) (eNew (Ei (gH (aj (dk (aj (eC (.str "not")) (aj (dk (aj (eC (.int 0)) aH)) (aj (eC (.bl false)) aH)))) aH)) (e2 qy (eC (.int 11)) (aJ dU (aj (e2 bH (af 1) (eC (.int 1))) aH)))))))) (bt (A5 (Oo Cn (dg ij (aI (Sa "with_votes") (aI (xP (dk (aj (e2 bH (af 1) (eC (.int 0))) (aj (af 3) (aj (e2 bH (af 1) (eC (.int 2))) aH))))) c8))) (xP (eNew (gH (aj (eC (.bl true)) (aj (eC (.bl false)) (aj (eC (.bl true)) aH))))))) (fS (xP (eC (.bl false)))) rJ) (fS (x2 oQ (xP (af 1)) (dg nY (aI (xP (af 0)) (aI (xP (eC (.int 7))) c8)))))))))))))
def Vk:List V3->aN->R3 V3:=mB w_ yB
def Vp:List V3->aN->R3 V3:=qk w_ yB
def ER:List D->R D:=US w_ yB
structure Cf (K:Qdc) (mg:Aaf) (cl:Aag):Prop where
 C_Bench:A6 K (cl 0)
 N_Bench_net:dE K (cl 0) "net"
 N_Bench_many_inputs:dE K (cl 0) "many_inputs"
 N_Bench_full:dE K (cl 0) "full"
 N_Bench_in_masks:dE K (cl 0) "in_masks"
 M_Bench:mg "Bench"=some (.ref (cl 0))
 C_Trial:A6 K (cl 1)
 N_Trial_bench:dE K (cl 1) "bench"
 N_Trial_plain:dE K (cl 1) "plain"
 N_Trial_unsure:dE K (cl 1) "unsure"
 M_Trial:mg "Trial"=some (.ref (cl 1))
 M_FaultError:mg "FaultError"=some (.ref (cl 2))
 M_Full:mg "Full"=some (.ref (cl 3))
 M_NotPlain:mg "NotPlain"=some (.ref (cl 4))
 X_Full:XC K (cl 3)
 X_NotPlain:XC K (cl 4)
 E_NotPlain_FaultError:PySem.W.exmOne K (.ref (cl 4)) (.ref (cl 2))=some true
 E_Full_FaultError:PySem.W.exmOne K (.ref (cl 3)) (.ref (cl 2))=some true
 I_NotPlain_Full:PySem.W.kitOne K (.ref (cl 4)) (.ref (cl 3))=some false
 I_Full_Full:PySem.W.kitOne K (.ref (cl 3)) (.ref (cl 3))=some true
 O_Full:PySem.W.kitOne K (.type "NoneType") (.ref (cl 3))=some false
 I_NotPlain_NotPlain:PySem.W.kitOne K (.ref (cl 4)) (.ref (cl 4))=some true
 I_Full_NotPlain:PySem.W.kitOne K (.ref (cl 3)) (.ref (cl 4))=some false
 O_NotPlain:PySem.W.kitOne K (.type "NoneType") (.ref (cl 4))=some false
 I_NotPlain_ValueError:PySem.W.kitOne K (.ref (cl 4)) (.type "ValueError")=some true
 I_Full_ValueError:PySem.W.kitOne K (.ref (cl 3)) (.type "ValueError")=some true
 O_ValueError:PySem.W.kitOne K (.type "NoneType") (.type "ValueError")=some false
 V_in_pairs:QL K mg "in_pairs"
 V_in_threes:QL K mg "in_threes"
 V_with_votes:QL K mg "with_votes"
 eM:Hg K (cl 0) "__init__" "Bench.__init__" cC
 gP:u9 K (cl 0) "tells" "Bench.tells" cZ
 eK:u9 K (cl 0) "readings" "Bench.readings" cA
 eL:Hg K (cl 1) "__init__" "Trial.__init__" cB
 d7:u9 K (cl 1) "breaks_at" "Trial.breaks_at" cg
 d6:u9 K (cl 0) "inputs_in" "Bench.inputs_in" cf
def SA{K:Qdc}{h:Heap}{mg:Aaf}(X:K.In h)(G:h.Ns mainGlobals mg){C0:Addr}{C1:Addr}{C2:Addr}{C3:Addr}{C4:Addr}{W0:Addr}{W1:Addr}{W2:Addr}{f0:Addr}{od0 an0:Option Addr}{sl0:Array (Option Value)}{oc0 kV0 dc0 pm0 Yq ct0:Value}{f1:Addr}{od1 an1:Option Addr}{sl1:Array (Option Value)}{oc1 kV1 dc1 pm1 Yu ct1:Value}{f2:Addr}{od2 an2:Option Addr}{OP:Array (Option Value)}{oc2 kV2 dc2 pm2 YE ct2:Value}{f3:Addr}{od3 an3:Option Addr}{RP:Array (Option Value)}{oc3 kV3 dc3 pm3 Yw ct3:Value}{f4:Addr}{od4 an4:Option Addr}{sl4:Array (Option Value)}{oc4 kV4 dc4 pm4 YD ct4:Value}{f5:Addr}{od5 an5:Option Addr}{sl5:Array (Option Value)}{oc5 kV5 dc5 pm5 YO ct5:Value}(Xu:PySem.W.nsIn K mainGlobals "Bench"=some (some (.ref C0)))(Xw:PySem.W.plainGet K C0 Str.empty=true)(RO:PySem.W.hasDictIn K C0=true)(Xy:PySem.W.plainOver K C0=true)(W6:PySem.W.findIn K (.ref C0) "__setattr__"=some (some (.builtin "object.__setattr__")))(WM:PySem.W.makesIn K C0=true)(WE:PySem.W.keepIn K (.ref C0)=true)(EJ:PySem.W.findIn K (.ref C0) "net"=some none)(lS:PySem.W.findIn K (.ref C0) "many_inputs"=some none)(AV:PySem.W.findIn K (.ref C0) "full"=some none)(pY:PySem.W.findIn K (.ref C0) "in_masks"=some none)(Xb:PySem.W.nsIn K mainGlobals "Trial"=some (some (.ref C1)))(WC:PySem.W.plainGet K C1 Str.empty=true)(HK:PySem.W.hasDictIn K C1=true)(Xj:PySem.W.plainOver K C1=true)(Xx:PySem.W.findIn K (.ref C1) "__setattr__"=some (some (.builtin "object.__setattr__")))(W9:PySem.W.makesIn K C1=true)(Xm:PySem.W.keepIn K (.ref C1)=true)(xW:PySem.W.findIn K (.ref C1) "bench"=some none)(xQ:PySem.W.findIn K (.ref C1) "plain"=some none)(uH:PySem.W.findIn K (.ref C1) "unsure"=some none)(W_:PySem.W.nsIn K mainGlobals "FaultError"=some (some (.ref C2)))(XB:PySem.W.nsIn K mainGlobals "Full"=some (some (.ref C3)))(Xa:PySem.W.nsIn K mainGlobals "NotPlain"=some (some (.ref C4)))(Xc:PySem.W.excIn K C3 Sd "ValueError.__new__"=true)(WR:PySem.W.findIn K (.ref C3) "__getattribute__"=some (some (.builtin "BaseException.__getattribute__")))(Xz:PySem.W.findIn K (.ref C3) "__getattr__"=some none)(WO:PySem.W.findIn K (.ref C3) "__class__"=some (some (.builtin "object.__class__")))(Xe:PySem.W.mroIn K C3 (.type "object")=some true)(WH:PySem.W.mroIn K C3 (.type "BaseException")=some true)(WG:(PySem.W.clsIn K C3).isSome=true)(Xl:PySem.W.excIn K C4 Sd "ValueError.__new__"=true)(Xr:PySem.W.findIn K (.ref C4) "__getattribute__"=some (some (.builtin "BaseException.__getattribute__")))(XA:PySem.W.findIn K (.ref C4) "__getattr__"=some none)(Xf:PySem.W.findIn K (.ref C4) "__class__"=some (some (.builtin "object.__class__")))(Wz:PySem.W.mroIn K C4 (.type "object")=some true)(Xg:PySem.W.mroIn K C4 (.type "BaseException")=some true)(WY:(PySem.W.clsIn K C4).isSome=true)(Vc:PySem.W.specialIn K (.builtin "object.__class__") "__get__"=some (some (.builtin "getset_descriptor.__get__")))(Vf:PySem.W.takesIn K (.builtin "object.__class__")=some true)(v0:PySem.W.nsIn K mainGlobals "in_pairs"=some (some (.ref W0)))(v1:PySem.W.nsIn K mainGlobals "in_threes"=some (some (.ref W1)))(v2:PySem.W.nsIn K mainGlobals "with_votes"=some (some (.ref W2)))(fj:PySem.W.exmOne K (.ref C4) (.ref C2)=some true)(gW:PySem.W.exmOne K (.ref C3) (.ref C2)=some true)(jE:PySem.W.kitOne K (.ref C4) (.ref C3)=some false)(og:PySem.W.kitOne K (.ref C3) (.ref C3)=some true)(A2:PySem.W.kitOne K (.type "NoneType") (.ref C3)=some false)(f7:PySem.W.kitOne K (.ref C4) (.ref C4)=some true)(jI:PySem.W.kitOne K (.ref C3) (.ref C4)=some false)(qf:PySem.W.kitOne K (.type "NoneType") (.ref C4)=some false)(fg:PySem.W.kitOne K (.ref C4) (.type "ValueError")=some true)(gY:PySem.W.kitOne K (.ref C3) (.type "ValueError")=some true)(mL:PySem.W.kitOne K (.type "NoneType") (.type "ValueError")=some false)(jH:PySem.W.findIn K (.ref C0) "__init__"=some (some (.ref f0)))(jD:PySem.W.isFn K (.ref f0)=true)(jF:K.lookup f0=some ⟨oc0,od0, .func (PySem.W.fnOf "__init__" "Bench.__init__" (iL cC) (aO cC) (aD cC) .none kV0 dc0 pm0 an0 Yq ct0),sl0⟩)(eu:PySem.W.codeIn K Yq "Bench.__init__"=true)(jK:PySem.W.keepIn K (.ref f0)=true)(mR:PySem.W.findIn K (.ref C0) "tells"=some (some (.ref f1)))(mO:PySem.W.isFn K (.ref f1)=true)(mU:K.lookup f1=some ⟨oc1,od1, .func (PySem.W.fnOf "tells" "Bench.tells" (iL cZ) (aO cZ) (aD cZ) .none kV1 dc1 pm1 an1 Yu ct1),sl1⟩)(gK:PySem.W.codeIn K Yu "Bench.tells"=true)(jZ:PySem.W.keepIn K (.ref f1)=true)(jz:PySem.W.findIn K (.ref C0) "readings"=some (some (.ref f2)))(jy:PySem.W.isFn K (.ref f2)=true)(jA:K.lookup f2=some ⟨oc2,od2, .func (PySem.W.fnOf "readings" "Bench.readings" (iL cA) (aO cA) (aD cA) .none kV2 dc2 pm2 an2 YE ct2),OP⟩)(eI:PySem.W.codeIn K YE "Bench.readings"=true)(gc:PySem.W.keepIn K (.ref f2)=true)(jB:PySem.W.findIn K (.ref C1) "__init__"=some (some (.ref f3)))(jJ:PySem.W.isFn K (.ref f3)=true)(jG:K.lookup f3=some ⟨oc3,od3, .func (PySem.W.fnOf "__init__" "Trial.__init__" (iL cB) (aO cB) (aD cB) .none kV3 dc3 pm3 an3 Yw ct3),RP⟩)(eB:PySem.W.codeIn K Yw "Trial.__init__"=true)(jC:PySem.W.keepIn K (.ref f3)=true)(i9:PySem.W.findIn K (.ref C1) "breaks_at"=some (some (.ref f4)))(iY:PySem.W.isFn K (.ref f4)=true)(iZ:K.lookup f4=some ⟨oc4,od4, .func (PySem.W.fnOf "breaks_at" "Trial.breaks_at" (iL cg) (aO cg) (aD cg) .none kV4 dc4 pm4 an4 YD ct4),sl4⟩)(dS:PySem.W.codeIn K YD "Trial.breaks_at"=true)(fQ:PySem.W.keepIn K (.ref f4)=true)(i5:PySem.W.findIn K (.ref C0) "inputs_in"=some (some (.ref f5)))(i_:PySem.W.isFn K (.ref f5)=true)(i3:K.lookup f5=some ⟨oc5,od5, .func (PySem.W.fnOf "inputs_in" "Bench.inputs_in" (iL cf) (aO cf) (aD cf) .none kV5 dc5 pm5 an5 YO ct5),sl5⟩)(dX:PySem.W.codeIn K YO "Bench.inputs_in"=true)(fP:PySem.W.keepIn K (.ref f5)=true):∃cl,Cf K mg cl:=by
 exact⟨fun n=>if n=0 then C0 else if n=1 then C1 else if n=2 then C2 else if n=3 then C3 else C4,⟨Xw,RO,Xy,W6⟩,EJ,lS,AV,pY,Qbo X G Xu,⟨WC,HK,Xj,Xx⟩,xW,xQ,uH,Qbo X G Xb,Qbo X G W_,Qbo X G XB,Qbo X G Xa,⟨Xc,WR,Xz,WO,Vc,Vf,Xe,WH,WG⟩,⟨Xl,Xr,XA,Xf,Vc,Vf,Wz,Xg,WY⟩,fj,gW,jE,og,A2,f7,jI,qf,fg,gY,mL,⟨W0,v0,Qbo X G v0⟩,⟨W1,v1,Qbo X G v1⟩,⟨W2,v2,Qbo X G v2⟩,⟨_,_,rG (st:=cC) jF eu jK,⟨WM,jH,jD,WE⟩⟩,⟨_,_,rG (st:=cZ) mU gK jZ,⟨mR,mO,jZ⟩⟩,⟨_,_,rG (st:=cA) jA eI gc,⟨jz,jy,gc⟩⟩,⟨_,_,rG (st:=cB) jG eB jC,⟨W9,jB,jJ,Xm⟩⟩,⟨_,_,rG (st:=cg) iZ dS fQ,⟨i9,iY,fQ⟩⟩,⟨_,_,rG (st:=cf) i3 dX fP,⟨i5,i_,fP⟩⟩⟩
def Qf{K:Qdc}{mg:Aaf}{f:Addr}{fd:FuncData}{cl:Aag}(T:Tp K mg cl)(oB:Def K mg "has_widths" iQ)(mQ:Def K mg "check_makes" gy)(ot:Def K mg "next_wires" iM)(xU:Def K mg "copied" pB)(qd:Def K mg "in_threes" km)(rM:Def K mg "in_pairs" lP)(om:Def K mg "with_votes" ix)(uq:Def K mg "deepest" nv)(mP:Def K mg "wire_depths" gC)(EF:Def K mg "size" vX)(uI:Def K mg "vote_of" mY)(pZ:Def K mg "gate_mask" j3)(kA:Def K mg "in_wire_masks" fm)(rW:Def K mg "masks_at" lC)(oA:Def K mg "wire_masks" iE)(qg:Def K mg "out_masks" j_)(uF:Def K mg "reading" ni)(xS:Def K mg "bit_at" pV)(oy:Def K mg "all_inputs" iF)(uD:Def K mg "mask_of" nq)(uu:Def K mg "in_mask" mV)(uw:Def K mg "choices" nj)(eM:Hg K (cl 0) "__init__" "Bench.__init__" cC)(gP:u9 K (cl 0) "tells" "Bench.tells" cZ)(eK:u9 K (cl 0) "readings" "Bench.readings" cA)(eL:Hg K (cl 1) "__init__" "Trial.__init__" cB)(d7:u9 K (cl 1) "breaks_at" "Trial.breaks_at" cg)(d6:u9 K (cl 0) "inputs_in" "Bench.inputs_in" cf)(A1:Def K mg "bears" sM)(mM:Def K mg "_law_cell_at" gA)(mK:Def K mg "_law_numbers" gu)(rL:Def K mg "_law_kind" lG)(p7:Def K mg "_law_gates" ki)(rR:Def K mg "_law_told" lO)(rK:Def K mg "_law_read" lJ)(rP:Def K mg "_law_outs" lL)(rQ:Def K mg "_law_bits" lN)(mS:Def K mg "_law_columns" gI)(oE:Def K mg "_law_breaks" iR)(uC:Def K mg "_law_net" nu)(oh:Def K mg "_law_copies" iu)(rN:Def K mg "_law_size" lq)(qc:Def K mg "_law_borne" j7)(mT:Def K mg "_law_refused" gG)(qe:Def K mg "_law_right" j0)(F:D_ K "law" "law" Fb f fd):j2 P w K mg base yn 11 f fd ["script"] (Ik K 1 ER):=by
 have oz:=zB (P:=P) (w:=w) (base:=base) T oB;have cT:de P w K mg base cl 2 "check_makes" 2 bK:=ya T mQ oz;have iX:=z_ (P:=P) (w:=w) (base:=base) T ot;have XK_copied:=IP (P:=P) (w:=w) (base:=base) T xU iX;have gd:=XK_copied.p;have gb:de P w K mg base cl 3 "in_threes" 1 c6:=CC T qd cT gd;have hJ:de P w K mg base cl 3 "in_pairs" 1 dy:=Dy T rM cT gd;have fE:de P w K mg base cl 3 "with_votes" 1 cK:=AO T om cT gd;have kY:=Hr (P:=P) (w:=w) (base:=base) T uq;have mJ:=yo (P:=P) (w:=w) (base:=base) T mP kY;have AZ:=Qk (P:=P) (w:=w) (base:=base) T EF mJ kY;have kW:=GR (P:=P) (w:=w) (base:=base) T uI;have p9:=CD (P:=P) (w:=w) (base:=base) T pZ kW;have gf:=va (P:=P) (w:=w) (base:=base) T kA;have XP_in_wire_masks:=gf.p;have jx:=Dg (P:=P) (w:=w) (base:=base) T rW;have XK_wire_masks:=zY (P:=P) (w:=w) (base:=base) T oA jx p9 gf;have mH:=XK_wire_masks.p;have XK_out_masks:=Bt (P:=P) (w:=w) (base:=base) T qg jx;have oq:=XK_out_masks.p;have uG:=Ho (P:=P) (w:=w) (base:=base) T uF kW;have xX:=JC (P:=P) (w:=w) (base:=base) T xS;have XK_all_inputs:=zF (P:=P) (w:=w) (base:=base) T oy;have mG:=XK_all_inputs.p;have kU:=GI (P:=P) (w:=w) (base:=base) T uD;have uJ:=Hw (P:=P) (w:=w) (base:=base) T uu kU;have uz:=yY (P:=P) (w:=w) (base:=base) T uw 4;have i4:=eu (P:=P) (w:=w) (base:=base) T eM kU uJ mG;have XK_Bench_tells:=gK (P:=P) (w:=w) (base:=base) T gP mH oq;have lU:=XK_Bench_tells.p;have XK_Bench_readings:=eI (P:=P) (w:=w) (base:=base) T eK uG lU;have di:=XK_Bench_readings.p;have i8:=eB (P:=P) (w:=w) (base:=base) T eL i4 di;have XK_Trial_breaks_at:=dS (P:=P) (w:=w) (base:=base) T d7 di;have gU:=XK_Trial_breaks_at.p;have XK_Bench_inputs_in:=dX (P:=P) (w:=w) (base:=base) T d6 xX;have g6:=XK_Bench_inputs_in.p;have XK_bears:=Nz (P:=P) (w:=w) (base:=base) T A1 uz i8 gU g6;have xR:=XK_bears.p;have fF:=xZ (P:=P) (w:=w) (base:=base) T mM;have fD:=yy (P:=P) (w:=w) (base:=base) T mK;have rO:=EA (P:=P) (w:=w) (base:=base) T rL;have XK_law_gates:=Cr (P:=P) (w:=w) (base:=base) T p7 fF fD rO;have ox:=XK_law_gates.p;have XK_law_told:=Dh (P:=P) (w:=w) (base:=base) T rR;have qb:=XK_law_told.p;have rT:=Ds (P:=P) (w:=w) (base:=base) T rK;have XK_law_outs:=DQ (P:=P) (w:=w) (base:=base) T rP qb;have p_:=XK_law_outs.p;have rS:=Eh (P:=P) (w:=w) (base:=base) T rQ;have XK_law_columns:=yp (P:=P) (w:=w) (base:=base) T mS rS rT p_;have dJ:=XK_law_columns.p;have oC:=Aa (P:=P) (w:=w) (base:=base) T oE;have XK_law_net:=GO (P:=P) (w:=w) (base:=base) T uC fF fD ox;have XP_law_net:=XK_law_net.p;have XK_law_copies:=AD (P:=P) (w:=w) (base:=base) T oh;have XP_law_copies:=XK_law_copies.p;have XK_law_size:=EC (P:=P) (w:=w) (base:=base) T rN;have mj:=XK_law_size.p;have XK_law_borne:=Cm (P:=P) (w:=w) (base:=base) T qc oC dJ xR;have oj:=XK_law_borne.p;have XK_law_refused:=yx (P:=P) (w:=w) (base:=base) T mT fE hJ gb;have i7:=XK_law_refused.p;have XK_law_right:=Bf (P:=P) (w:=w) (base:=base) T qe AZ fE hJ gb dJ mj oj i7;have XP_law_right:=XK_law_right.p;exact(cx (cl:=cl) (N:=w_) (F:=yB) (k:=10) RH.2 IS.2 F Ga (fun dt A outer s H E hr=>(aw (bA Ga.nd rfl Qc9 (cE XP_law_net hr (by decide) rfl (ao (ai (aa 0)) (ao (ai ag) aY)) (ak (ak aW)))) (aw (bA Ga.nd rfl Qc9 (cE dJ hr (by decide) rfl (ao (ai (aa 1)) (ao (ai (bq ah)) aY)) (ak (ak aW)))) (aw (oK (qt (CG hr.units) (ai (bE AZ hr (by decide) rfl (ae (aa 1) ah) (aQ bX))) (cE mj hr (by decide) rfl (ao (ai (aa 1)) aY) (ak aW)) (cw _)) (aP (cG (ai fH))) jL) (aw (oK (vI (sY (cE XP_law_right hr (by decide) rfl (ao (ai (aa 1)) (ao (ai (aa 2)) (ao (EV T.V_in_threes) (ao (cE XP_law_copies hr (by decide) rfl (ao (ai (aa 1)) (ao (ai ag) (ao (ai ag) aY))) (ak (ak (ak aW)))) (ao (ai bC) aY))))) (ak (ak (ak (ak (ak aW)))))))) (aP (cG (ai fH))) jL) (aw (oK (vI (sY (cE XP_law_right hr (by decide) rfl (ao (ai (aa 1)) (ao (ai (aa 2)) (ao (EV T.V_in_pairs) (ao (cE XP_law_copies hr (by decide) rfl (ao (ai (aa 1)) (ao (ai ag) (ao (ai ag) aY))) (ak (ak (ak aW)))) (ao (ai bC) aY))))) (ak (ak (ak (ak (ak aW)))))))) (aP (cG (ai fH))) jL) (aw (oK (vI (sY (cE XP_law_right hr (by decide) rfl (ao (ai (aa 1)) (ao (ai (aa 2)) (ao (EV T.V_with_votes) (ao (cE XP_law_copies hr (by decide) rfl (ao (ai (aa 1)) (ao (ai ag) (ao (ai ag) aY))) (ak (ak (ak aW)))) (ao (ai bC) aY))))) (ak (ak (ak (ak (ak aW)))))))) (aP (cG (ai fH))) jL) (aw (bA Ga.nd rfl Qc9 (ai (aF dM (aA (aa 1) ag (fun _ _=>rfl)) (bR (zZ (cP (ae (bq (ae bC (ae (bq (ae ag ah)) (ae fH ah)))) ah)) (aF sN ag (aK dI rfl T.z_len QaI (ae (aA (aa 1) ag (fun _ _=>rfl)) ah)))))))) (aw (oK (qt (CG hr.units) (cE i7 hr (by decide) rfl (ao (EV T.V_with_votes) (ao (ai (bq (ae (aA (aa 1) ag (fun _ _=>rfl)) (ae (aa 3) (ae (aA (aa 1) ag (fun _ _=>rfl)) ah))))) aY)) (ak (ak aW))) (ai (bR (cP (ae fH (ae fH (ae fH ah)))))) (cw _)) (aP (cG (ai fH))) jL) (aP (cG (DP (nC hr.units) (ai (aa 1)) (cE XP_law_net hr (by decide) rfl (ao (ai (aa 0)) (ao (ai ag) aY)) (ak (ak aW))) (cw _)))))))))))))).imp fun _ _ _ _ h=>Rp h
end K43
end
section
namespace K43
open PySem PySem.Spec PyProof.Rows L2 L3
end K43
end
section
namespace K43
open PySem PySem.Spec PyProof.Rows L2 L3 MT
def GJ{a:D}{r:List D}:bH (.tup (a ::r)) (.int 0)= .ok a:=we (by rw[rp (by omega) (by simp)];rfl)
def Kp{a b:D}{r:List D}:bH (.tup (a ::b ::r)) (.int 1)= .ok b:=we (by rw[rp (by omega) (by simp)];rfl)
def XY{a b c:D}{r:List D}:bH (.tup (a ::b ::c ::r)) (.int 2)= .ok c:=we (by rw[rp (by omega) (by simp)];rfl)
def Gb{N:Nat}{a b c:M}:jg [.tup [mI N a,mI N b,mI N c]]= .ok (mI N fun p=>(a p && b p) || (a p && c p) || (b p && c p)):=by
 unfold jg zh;refine cV (cL ?_);exact av (av (av (av rfl rfl GJ) (av rfl rfl Kp) (wu N a b)) (av (av rfl rfl GJ) (av rfl rfl XY) (wu N a c)) (B_ N _ _)) (av (av rfl rfl Kp) (av rfl rfl XY) (wu N b c)) (B_ N _ _)
def Tx(k j:Nat)(hk:k<=4)(hj:j<=4):oQ (.str (kS k)) (.str (kS j))= .ok (.bl (decide (k=j))):=by
 show R.ok (D.bl (kS k==kS j))=_;congr 2
 revert hk hj
 have:∀a∈List.range 5,∀b∈List.range 5,(kS a==kS b)=decide (a=b):=by decide+kernel
 intro hk hj;exact this k (by rw[QaL];omega) j (by rw[QaL];omega)
def Mq{N kd:Nat}{xs:List M}(hk:kd<=4)(hx:xs.length=ar kd):ka [.str (kS kd), .tup (xs.map (mI N)),mI N one]= .ok (mI N fun p=>gv kd (xs.map (· p))):=by
 unfold ka uM;have q:∀j,j<=4->b2 oQ (af 0) (eC (.str (kS j))) (dj oZ [.str (kS kd), .tup (xs.map (mI N)),mI N one])= .ok (decide (kd=j)):=fun j hj=>je (a:= .str (kS kd)) (b:= .str (kS j)) rfl rfl (Tx kd j hk hj)
 have q0:=q 0 (by omega)
 have q1:=q 1 (by omega)
 have q2:=q 2 (by omega)
 have q3:=q 3 (by omega)
 match kd,hk,xs,hx with
 | 0,_,[a],_=>
   refine cV (NT.nU (tH q0 (cL (av (a:=mI N one) (b:=mI N a) rfl (av rfl rfl GJ) (CJ N a)))))
 | 1,_,[a,b],_=>
   refine cV (bG (kB q0 rfl) (NT.nU (tH q1 (cL (av (av rfl rfl GJ) (av rfl rfl Kp) (wu N a b))))))
 | 2,_,[a,b],_=>
   refine cV (bG (kB q0 rfl) (bG (kB q1 rfl) (NT.nU (tH q2 (cL (av (av rfl rfl GJ) (av rfl rfl Kp) (B_ N a b)))))))
 | 3,_,[a,b],_=>
   refine cV (bG (kB q0 rfl) (bG (kB q1 rfl) (bG (kB q2 rfl) (NT.nU (tH q3 (cL (av (av rfl rfl GJ) (av rfl rfl Kp) (F_ N a b))))))))
 | 4,_,[a,b,c],_=>
   refine cV (bG (kB q0 rfl) (bG (kB q1 rfl) (bG (kB q2 rfl) (bG (kB q3 rfl) (cL (ax (ds:=[.tup [mI N a,mI N b,mI N c]]) rfl Gb))))))
def OA{N:Nat}{ws:List M}{ns:List Nat}(hn:∀n∈ns,n<ws.length)(hl:ns.length<1000):gS [.lst (ws.map (mI N)), .tup (ns.map nI)]= .ok (.tup ((ns.map (g7 ws)).map (mI N))):=by
 have hz:=Qap;unfold gS vM;refine cV (cL (ax (ds:=[.lst ((ns.map (g7 ws)).map (mI N))]) (au (cu (bB (ds:=ns.map nI) (pW rfl) (by rw[Qaa];omega) ?_)) rfl) rfl))
 rw[Qax];exact NT.bJ nI _ fun n UO=>⟨[.val (nI n), .val (.lst (ws.map (mI N)))],rfl,rfl,av (a:= .lst (ws.map (mI N))) (b:=nI n) rfl rfl (Qn (hn n UO))⟩
def Ef(N:Nat)(S:aN)(h_ oS Xd:D)(a5 a6 a7:Option V3):DE:=[some (.d h_),some (.d oS),some (.d (mI N one)),some (.d Xd),some (.loc S.length),a5,a6,a7]
def Kt{N:Nat}{S:aN}{h_ oS:D}{bad:List Int}{a5 a7:Option V3}{b:M}{ws:List M}(hl:ws.length<10000) :
 W3 (iA (Ef N S h_ oS (.tup (bad.map .int)) a5 (some (.d (mI N b))) a7) (S++[.lst (ws.map (mI N))])) fun o S1=>o= .nx (Ef N S h_ oS (.tup (bad.map .int)) a5 (some (.d (mI N b))) a7)/\S1=S++[SO.lst ((ws++[fun p=>b p !=bad.contains (ws.length:Int)]).map (mI N))]:=by
 have hz:=Qap;unfold iA;refine jd (k:=S.length) rfl ⟨_,bc _ _⟩ (Ji (d:=mI N fun p=>b p !=bad.contains (ws.length:Int)) ?_ rfl ⟨_,_,rfl,bc _ _,by rw[Qaa];omega,rfl,?_⟩)
 .have h4:(dN (S++[.lst (ws.map (mI N))]) (Ef N S h_ oS (.tup (bad.map .int)) a5 (some (.d (mI N b))) a7))[4]? =some (.val (.lst (ws.map (mI N)))):=by
   unfold dN Ef;show some (match res (S++[.lst (ws.map (mI N))]) (.loc S.length) with | some d=>Sl.val d | none=> .un)=_
   unfold res;rw[bc]
  refine AU (b:=bad.contains (ws.length:Int)) (je (a:= .int ws.length) (b:= .tup (bad.map .int)) (ax (ds:=[.lst (ws.map (mI N))]) (au (by unfold af;rw [h4]) rfl) (by rw[jm,Qaa])) rfl (AN _ _)) ?_
  rw[<-Kf];rfl
 .rw [dG,Qas];rfl
def Cq{N:Nat}{S:aN}{bD:D}{ins:Aac}{bits:List M}{bad:List Int}(hB:bD= .lst (bits.map (mI N))\/bD= .tup (bits.map (mI N)))(hb:bits.length=ins.length)(hi:ins.length<100)(hw:∀x∈ins,x.2<100){Q:V3->aN->Prop}
 (h:Q (.loc S.length) (S++[.lst ((fq ins bits bad ins.length).map (mI N))])) :
 W3 (eJ [.d (.lst (ins.map inD)), .d bD, .d (mI N one), .d (.tup (bad.map .int))] S) Q:=by
 have hz:=Qap;unfold eJ;refine vB rfl ?_;simp only[bQ,gQ,List.map,List.length,List.replicate,Qav,QaA,Nat.reduceAdd,Nat.reduceSub];unfold kr;refine aT (bM (by simp) (ll (ds:=[]) rfl ⟨_,rfl,?_⟩))
 simp only[List.set];refine aT (gh (kL (ds:=cY (bits.map (mI N))) (by rcases hB with rfl | rfl <;> rfl) ?_))
 have big:∀i,i<=ins.length->(fq ins bits bad i).length<=100*i:=by
  intro i hi'
  induction i with
  | zero=>simp [fq]
  | succ i ih=>
    have ih:=ih (by omega)
    have h1:ins[i]? =some ins[i]:=Qac (by omega)
    have h2:bits[i]? =some bits[i]:=Qac (by omega)
    unfold fq;rw[h1,h2];show(iU bad bits[i] ins[i].2 (fq ins bits bad i)).length<=_;rw[jj];have:=hw ins[i] (QbR _);omega
 refine(cn (fun i δ S2=>(∃a b c,δ=Ef N S (.lst (ins.map inD)) bD (.tup (bad.map .int)) a b c)/\S2=S++[SO.lst ((fq ins bits bad i).map (mI N))])
  ⟨⟨_,_,_,rfl⟩,rfl⟩ ?_).mono fun o S2 ⟨ef,gm,⟨a,b,c,hδ⟩,hS⟩=>⟨ef,gm,?_⟩
 .rintro i v δ S2 hv ⟨⟨a,b,c,rfl⟩,rfl⟩;obtain⟨d,hd,rfl⟩:=se hv;rw[Qad] at hd;have hib:i<bits.length:=by
   have:=(Qab.mp hv).1;simpa [cY] using this
  have h1:ins[i]? =some ins[i]:=Qac (by omega)
  have h2:bits[i]? =some bits[i]:=Qac hib;rw[h2] at hd;cases hd;refine⟨Ef N S (.lst (ins.map inD)) bD (.tup (bad.map .int)) (some (.d (.int i))) (some (.d (mI N bits[i]))) c,rfl,?_⟩;unfold l5;have hwi:=hw ins[i] (QbR _);refine gh (kL (cU (n:=ins[i].2) ?_ (by omega)) ?_)
  .refine av (a:=inD ins[i]) (b:= .int 1) (av (a:= .lst (ins.map inD)) (b:= .int i) rfl rfl (zP ?_)) rfl rfl;rw[rp (by omega) (by rw[Qaa,Qa4];omega)]
   simp
  refine(cn (fun j δ S3=>(∃c,δ=Ef N S (.lst (ins.map inD)) bD (.tup (bad.map .int)) (some (.d (.int i))) (some (.d (mI N bits[i]))) c)/\S3=S++[SO.lst ((iU bad bits[i] j (fq ins bits bad i)).map (mI N))])
   ⟨⟨_,rfl⟩,rfl⟩ ?_).mono fun o S3 ⟨NS,e3,⟨c3,K7⟩,Gj⟩=>⟨NS,e3,⟨_,_,c3,K7⟩,?_⟩
  .rintro j v δ S3 hv ⟨⟨c3,rfl⟩,rfl⟩;refine⟨_,rfl,?_⟩;have hj:j<ins[i].2:=by
    have:=(Qab.mp hv).1
    rwa [Qaa,ip,Qaa,Qaj] at this
   refine(Kt ?_).mono fun o S4 ⟨e4,e5⟩=>⟨_,e4,⟨_,rfl⟩,e5⟩
   rw[jj];have:=big i (by omega)
   omega
  .rw [Gj,Qaa,ip,Qaa,Qaj];show _=S++[SO.lst ((match ins[i]?,bits[i]? with | some x,some b=>iU bad b x.2 (fq ins bits bad i) | _,_=>fq ins bits bad i).map (mI N))]
   rw[h1,h2]
 have hlen:((cY (bits.map (mI N))).map V3.d).length=ins.length:=by simp [cY,hb]
 rw[hlen] at hS;subst hδ hS;exact eQ (w_var rfl ⟨_,rfl,h⟩)
section
variable {N:Nat} {ins:Aac} {gs:List Gt} {os:Aad} {bits:List M} {turned bad:List Int}
def CM(N:Nat)(S:aN)(nt oS tD bD:D)(a6 a7 a8:Option V3):DE:=[some (.d nt),some (.d oS),some (.d (mI N one)),some (.d tD),some (.d bD),some (.loc S.length),a6,a7,a8]
def Hx{S:aN}{nt oS bD:D}{a8:Option V3}{g:Gt}{i:Nat}{ws:List M}(hg:l0 ws.length g)(hl:ws.length<20000) :
 W3 (lB (CM N S nt oS (.tup (turned.map .int)) bD (some (.d (.int i))) (some (.d (cO g))) a8) (S++[.lst (ws.map (mI N))])) fun o S1=>(∃c,o= .nx (CM N S nt oS (.tup (turned.map .int)) bD (some (.d (.int i))) (some (.d (cO g))) c))/\S1=S++[SO.lst ((ws++[fun p=>gF g ws p !=turned.contains (i:Int)]).map (mI N))]:=by
 have hz:=Qap;have ha:=y6 g.1;unfold lB;refine aT (bM (by unfold CM;simp only[QaM,List.length_nil];omega) (Ji (d:=mI N (gF g ws)) ?_ rfl ⟨_,rfl,?_⟩))
 .have h5:(dN (S++[.lst (ws.map (mI N))]) (CM N S nt oS (.tup (turned.map .int)) bD (some (.d (.int i))) (some (.d (cO g))) a8))[5]? =some (.val (.lst (ws.map (mI N)))):=by
   unfold dN CM;show some (match res (S++[.lst (ws.map (mI N))]) (.loc S.length) with | some d=>Sl.val d | none=> .un)=_
   unfold res;rw[bc]
  refine(ax (ds:=[.str (kS g.1), .tup ((g.2.1.map (g7 ws)).map (mI N)),mI N one]) (au (av (a:=cO g) (b:= .int 0) rfl rfl rfl) (au ?_ (au rfl rfl))) (Mq hg.1 (by rw[Qaa];exact hg.2.1))).trans ?_
  .exact ax (ds:=[.lst (ws.map (mI N)), .tup (g.2.1.map nI)]) (au (by unfold af;rw [h5]) (au (av (a:=cO g) (b:= .int 1) rfl rfl rfl) rfl)) (OA hg.2.2 (by rw[hg.2.1];omega))
  .have:(fun p=>gv g.1 ((g.2.1.map (g7 ws)).map (· p)))=gF g ws:=by funext p;unfold gF;rw [Qax];rfl
   rw[this]
 .show W3 (kP 5 _ (CM N S nt oS (.tup (turned.map .int)) bD (some (.d (.int i))) (some (.d (cO g))) (some (.d (mI N (gF g ws))))) _) _;refine jd (k:=S.length) rfl ⟨_,bc _ _⟩ (bZ (d:=mI N fun p=>gF g ws p !=turned.contains (i:Int)) ?_ ⟨_,_,rfl,bc _ _,by rw[Qaa];omega,⟨_,rfl⟩,?_⟩)
  .refine AU (b:=turned.contains (i:Int)) (je (a:= .int i) (b:= .tup (turned.map .int)) rfl rfl (AN _ _)) ?_;rw[<-Kf];rfl
  .rw [dG,Qas];rfl
def KP{S:aN}{bD:D}(hB:bD= .lst (bits.map (mI N))\/bD= .tup (bits.map (mI N)))(NO:iB ins gs os)(hb:bits.length=ins.length)(hS:ma S){Q:V3->aN->Prop}(h:Q (.d (.lst ((lh ins gs bits turned bad).map (mI N)))) S) :
 W3 (jO [.d (aM ins gs os), .d bD, .d (mI N one), .d (.tup (turned.map .int)), .d (.tup (bad.map .int))] S) Q:=by
 have hz:=Qap;unfold jO;refine g9 hS (vB rfl ?_);simp only[bQ,kK,List.map,List.length,List.replicate,Qav,QaA,Nat.reduceAdd,Nat.reduceSub];unfold n_;refine aT<|bM (by simp)<|cQ<|ay<|bZ (d:= .lst (ins.map inD)) rfl<|ay<|bZ (d:=bD) rfl<|ay<|bZ (d:=mI N one) rfl<|ay<|bZ (d:= .tup (bad.map .int)) rfl<|cb<|Cq hB hb NO.hi NO.hw ⟨_,rfl,?_⟩
 simp only[List.set];have hwd:=Al NO.hw;have hN:=NO.hi;have hG:=NO.hg;refine aT (gh (kL (ds:=cY (gs.map cO)) rfl ?_));refine(cn (fun i δ S2=>(∃a b c,δ=CM N S (aM ins gs os) bD (.tup (turned.map .int)) (.tup (bad.map .int)) a b c)/\S2=S++[SO.lst ((rX gs turned (fq ins bits bad ins.length) i).map (mI N))])
  ⟨⟨_,_,_,rfl⟩,rfl⟩ ?_).mono fun o S2 ⟨ef,gm,⟨a,b,c,hδ⟩,zr⟩=>⟨ef,gm,?_⟩
 .rintro i v δ S2 hv ⟨⟨a,b,c,rfl⟩,rfl⟩;obtain⟨d,hd,rfl⟩:=se hv;rw[Qad] at hd;cases q:gs[i]? with
  | none=>rw [q] at hd;cases hd
  | some g=>
    rw[q] at hd;cases hd;have hi:i<gs.length:=(Qab.mp q).1;have hl:(rX gs turned (fq ins bits bad ins.length) i).length=l7 ins+i:=by rw[n5 _ (by omega),j1 hb _ (Qag _),QaV]
    refine⟨CM N S (aM ins gs os) bD (.tup (turned.map .int)) (.tup (bad.map .int)) (some (.d (.int i))) (some (.d (cO g))) c,rfl,?_⟩;refine(Hx (by rw[hl];exact NO.g i g q) (by rw[hl];omega)).mono fun o S4 ⟨⟨c4,e4⟩,e5⟩=>⟨_,e4,⟨_,_,_,rfl⟩,?_⟩
    rw[e5];show _=S++[SO.lst ((match gs[i]? with | some g=>rX gs turned (fq ins bits bad ins.length) i++[fun p=>gF g (rX gs turned (fq ins bits bad ins.length) i) p !=turned.contains (i:Int)] | none=>rX gs turned (fq ins bits bad ins.length) i).map (mI N))]
    rw[q]
 have hlen:((cY (gs.map cO)).map V3.d).length=gs.length:=by simp [cY]
 rw[hlen] at zr;subst hδ zr;exact eQ (w_var rfl ⟨_,rfl,by unfold fT;exact QaE (Qag _),⟨_,rfl⟩,_,by unfold res;rw [bc];rfl,h⟩)
def rf(N:Nat)(os:Aad)(ws:List M):List D:=os.map fun x=> .tup ((tell ws x).map (mI N))
def MO{S:aN}{ws:List M}(hO:os.length<1000)(ho:∀x∈os,x.2.length<1000/\∀w∈x.2,w<ws.length)(hS:ma S){Q:V3->aN->Prop}(h:Q (.d (.lst (rf N os ws))) S) :
 W3 (kJ [.d (aM ins gs os), .d (.lst (ws.map (mI N)))] S) Q:=by
 have hz:=Qap;unfold kJ;refine g9 hS (vB rfl ?_);simp only[bQ,kl,List.map,List.length,List.replicate,Qav,QaA,Nat.reduceAdd,Nat.reduceSub];unfold pC;refine eQ (ll (ds:=rf N os ws) ?_ ⟨_,rfl,by unfold fT;exact QaE (Qag _),⟨_,rfl⟩,_,by unfold res;rw [bc],h⟩)
 refine bB (ds:=os.map vk) (iy (av (a:=aM ins gs os) (b:= .int 2) rfl rfl rfl)) (by rw[Qaa];omega) ?_
 unfold rf;refine NT.bJ vk _ fun(x:Str × List Nat) hx=>⟨[.val (.str x.1), .val (.tup (x.2.map nI)), .val (.lst (ws.map (mI N)))],rfl,rfl,?_⟩
 exact ax (ds:=[.lst (ws.map (mI N)), .tup (x.2.map nI)]) rfl (OA (ho x hx).2 (ho x hx).1)
end
def r0(xs:List M):M:=fun p=>(zC (xs.map (· p))).1
def r1(xs:List M):M:=fun p=>(zC (xs.map (· p))).2
def vS{n:Nat}{ds:List D}{δ:az}{j:Int}(h:af 0 δ= .ok (.tup ds))(hl:ds.length=n):b2 oQ (aJ dU (aj (af 0) aH)) (eC (.int j)) δ= .ok (decide ((n:Int)=j)):=by
 refine je (a:= .int n) (b:= .int j) (ax (ds:=[.tup ds]) (au h rfl) ?_) rfl ?_
 .show R.ok (D.int ds.length)=_;rw[hl]
 .show R.ok (D.bl ((n:Int)==j))=_;congr 2
def Ex{N:Nat}{xs:List M}(h:1<=xs.length/\xs.length<=3):mX [.tup (xs.map (mI N)),mI N one]= .ok (.tup [mI N (r0 xs),mI N (r1 xs)]):=by
 have hz:=Qap;unfold mX yX
 match xs,h with
 | [a],_=>
   refine cV (bG (kB (vS (n:=1) rfl rfl) rfl) (bG (fO (d:=mI N a) (AU (vS (n:=1) rfl rfl) (av (a:= .tup [mI N a]) (b:= .int 0) rfl rfl GJ)) (by simp [dj,qp])) (cL ?_)))
   exact cI (au (av (a:=mI N one) (b:=mI N a) rfl rfl (CJ N a)) (au rfl rfl)) (by simp;omega)
 | [a,b],_=>
   refine cV (NT.nU (tH (vS (n:=2) rfl rfl) (cL ?_)));exact cI (au (av (a:=mI N one) (b:=mI N fun p=>a p || b p) rfl (av (av rfl rfl GJ) (av rfl rfl Kp) (B_ N a b)) (CJ N _)) (au (av (av rfl rfl GJ) (av rfl rfl Kp) (wu N a b)) rfl)) (by simp;omega)
 | [a,b,c],_=>
   refine cV (bG (kB (vS (n:=3) rfl rfl) rfl) (bG (fO (d:=mI N fun p=>(a p && b p) || (a p && c p) || (b p && c p)) (AU (vS (n:=3) rfl rfl) (ax (ds:=[.tup [mI N a,mI N b,mI N c]]) rfl Gb)) (by simp [dj,qp])) (cL ?_)))
   exact cI (au (av (a:=mI N one) (b:=mI N fun p=>(a p && b p) || (a p && c p) || (b p && c p)) rfl rfl (CJ N _)) (au rfl rfl)) (by simp;omega)
def Ph{N n:Nat}{f:M}:pS [mI N f, .int n]= .ok (.int (if decide (n<N) && f n then 1 else 0)):=by
 unfold pS BZ;refine cV (cL ?_);have h:=Uj N f n;show(R.bind (R.bind (R.ok (mI N f)) fun d=>R.bind (R.ok (D.int n)) fun e=>BV d e) fun d=>R.bind (R.ok (D.int 1)) fun e=>EB d e)=_
 exact h
def xF{bs:List Bool}(hl:bs.length<100000):ji [.lst (bs.map bI)]= .ok (.int (Lo bs)):=by
 unfold ji yZ;refine cV (bG (fO (d:= .int 0) rfl (by simp [dj,t8])) ?_)
 obtain⟨cX,e1,a2,CY⟩:=kT (t:=aC 2) (body:=pK) (ds:=(bs.map bI).reverse)
  (fun i δ=>∃a2,δ=[.val (.lst (bs.map bI)), .val (.int (Lo (bs.drop (bs.length - i)))),a2]) (δ:=[.val (.lst (bs.map bI)), .val (.int 0), .un]) ⟨.un,by simp [Lo]⟩ (by
    rintro i d δ hd ⟨a2,rfl⟩;have hi:i<bs.length:=by
     have:=(Qab.mp hd).1
     rwa [Qcb,Qaa] at this
    rw[List.getElem?_reverse (by rw[Qaa];exact hi),Qaa,Qad,Qac (by omega:bs.length - 1 - i<bs.length)] at hd
    cases hd;have hdr:bs.drop (bs.length - (i+1))=bs[bs.length - 1 - i] ::bs.drop (bs.length - i):=by
     rw[show bs.length - (i+1)=bs.length - 1 - i by omega,Qbx (by omega:bs.length - 1 - i<bs.length),show bs.length - 1 - i+1=bs.length - i by omega]
    refine⟨_,?_,⟨.val (bI bs[bs.length - 1 - i]),rfl⟩⟩;have hm:(Lo (bs.drop (bs.length - (i+1))):Int)=(Lo (bs.drop (bs.length - i)):Int)*2+(if bs[bs.length - 1 - i] then 1 else 0):=by
     rw[hdr];show(((if bs[bs.length - 1 - i] then 1 else 0)+2*Lo (bs.drop (bs.length - i)):Nat):Int)=_
     cases bs[bs.length - 1 - i] <;> simp <;> omega
    rw[hm];generalize (Lo (bs.drop (bs.length - i)):Int)=m;generalize bs[bs.length - 1 - i]=x;generalize D.lst (bs.map bI)=y;rw[show aC 2 (bI x) [.val y, .val (.int m),a2]= .ok [.val y, .val (.int m), .val (bI x)] from rfl,R.aS]
    unfold pK;exact fO (av (a:= .int (m*2)) (b:=bI x) (av (a:= .int m) (b:= .int 2) rfl rfl (c_ _ (.inr ⟨by omega,by omega⟩))) rfl rfl) (by simp))
 refine bG (kE (ds:=(bs.map bI).reverse) rfl e1) ?_;rw[Qcb,Qaa,QaQ,List.drop_zero] at CY;subst CY;exact cL rfl
def dm:Nat->List (List Bool)
 | 0=>[[]]
 | c+1=>(dm c).flatMap fun b=>[b++[false],b++[true]]
theorem eE:∀c,(dm c).length=2 ^ c
 | 0=>rfl
 | c+1=>by
   unfold dm;rw[Qcc];have:(dm c).map (fun b=>[b++[false],b++[true]].length)=(dm c).map fun _=>2:=rfl
   rw[this,List.map_const',List.sum_replicate_nat,eE c];omega
theorem ue:∀c,∀b∈dm c,b.length=c
 | 0,b,h=>by unfold dm at h;rw [QaS.mp h];rfl
 | c+1,b,h=>by
   unfold dm at h;obtain⟨a,ha,hb⟩:=List.mem_flatMap.mp h;have:=ue c a ha;simp only[Qar,Qbb,QbS] at hb;rcases hb with rfl | rfl <;> simp [this]
def ja(b:List Bool):D:= .tup (b.map bI)
def aE(c:Nat)(inp:Option V3)(a2 a3 a4:Option V3):DE:=[some (.d (nI c)),inp,a2,a3,a4]
def yw{c:Nat}{S:aN}(hc:c<=10)(hS:ma S){Q:V3->aN->Prop}(h:Q (.d (.lst ((dm c).map ja))) S):W3 (jQ [.d (nI c)] S) Q:=by
 have hz:=Qap;unfold jQ;refine g9 hS (vB rfl ?_);simp only[bQ,kO,List.map,List.length,List.replicate,Qav,QaA,Nat.reduceAdd,Nat.reduceSub];unfold nF;refine aT<|bM (by simp)<|ll (ds:=(dm 0).map ja) rfl ⟨_,rfl,?_⟩
 simp only[List.set];refine aT<|gh<|kL (cU (n:=c) rfl (by omega)) ?_
 refine(cn (fun i δ S2=>∃(T:aN) (a2 a3 a4:Option V3),S2=S++T++[.lst ((dm i).map ja)]/\δ=aE c (some (.loc (S++T).length)) a2 a3 a4)
  ⟨[],none,none,none,by simp,by simp [aE]⟩ ?_).mono fun o S2 ⟨ef,gm,T,a2,a3,a4,zr,hδ⟩=>⟨ef,gm,?_⟩
 .rintro i v δ S2 hv ⟨T,a2,a3,a4,rfl,rfl⟩;have hi:i<c:=by
   have:=(Qab.mp hv).1
   rwa [Qaa,ip,Qaa,Qaj] at this
  have hpow:(dm i).length<=1024:=by
   rw[eE];exact Qbq (by omega) (by omega:i<=10)
  refine⟨aE c (some (.loc (S++T).length)) (some v) a3 a4,rfl,?_⟩;unfold o9 aE;refine Cu (i:=1) rfl (bc _ _) ?_;rw[dG];simp only[List.set];refine aT<|bM (by simp)<|ll (ds:=[]) rfl ⟨_,rfl,?_⟩
  simp only[List.set];generalize hU:S++T++[SO.lV]=U;refine aT<|gh<|kL (ds:=(dm i).map ja) rfl ?_
  refine(cn (fun j δ S3=>(∃b4,δ=[some (.d (nI c)),some (.d (.lst ((dm i).map ja))),some v,some (.loc U.length),b4])/\S3=U++[.lst ((((dm i).take j).flatMap fun b=>[b++[false],b++[true]]).map ja)])
   ⟨⟨_,rfl⟩,by simp⟩ ?_).mono fun o S3 ⟨NS,e3,⟨b4,K7⟩,Gj⟩=>⟨NS,e3,?_⟩
  .rintro j v3 δ S3 hv3 ⟨⟨b4,rfl⟩,rfl⟩;obtain⟨b,hb,rfl⟩:=NT.er hv3;have hj:=(Qab.mp hb).1;have hbl:=ue i b (QaH hb);refine⟨[some (.d (nI c)),some (.d (.lst ((dm i).map ja))),some v,some (.loc U.length),some (.d (ja b))],rfl,?_⟩;unfold o3;generalize hL:((((dm i).take j).flatMap fun b=>[b++[false],b++[true]]).map ja)=L
   have hLl:L.length<=2048:=by
    rw[<-hL,Qaa,Qcc];have:((dm i).take j).map (fun b=>[b++[false],b++[true]].length)=((dm i).take j).map fun _=>2:=rfl
    rw[this,List.map_const',List.sum_replicate_nat,QaX];omega
   have add:∀(x:Bool) (δ:az),af 4 δ= .ok (ja b)->e2 uS (af 4) (dk (aj (eC (bI x)) aH)) δ= .ok (ja (b++[x])):=fun x δ h4=>by
    refine av (a:=ja b) (b:= .tup [bI x]) h4 (cI rfl (by simp;omega)) ?_
    show R.bV (decide ((b.map bI).length+[bI x].length<=sizeLine)) _=_;rw[c_ _ (by rw[Qaa];simp;omega)]
    unfold ja;rw[Qas];rfl
   refine aT<|jd (k:=U.length) rfl ⟨_,bc _ _⟩<|bZ (d:=ja (b++[false])) (add false _ rfl) ⟨_,_,rfl,bc _ _,by omega,_,rfl,?_⟩
   rw[dG];refine jd (k:=U.length) rfl ⟨_,bc _ _⟩<|bZ (d:=ja (b++[true])) (add true _ rfl) ⟨_,_,rfl,bc _ _,by rw[Qau];simp;omega,_,rfl,⟨_,rfl⟩,?_⟩
   rw[dG,QaU,hb,Qcd,Qas,hL];simp
  rw[Qaa,Qaa,QaV] at Gj;subst K7 Gj;refine bM (by simp)<|w_var (v:= .loc U.length) rfl ⟨_,rfl,T++[SO.lV],some v,some (.loc U.length),b4,?_,?_⟩
  .rw [<-hU,QaN S];rfl
  .rw [<-hU,QaN S];rfl
 have hlen:((ip 0 c).map V3.d).length=c:=by simp [ip]
 rw[hlen] at zr;subst hδ zr;unfold aE;refine eQ (w_var rfl ⟨_,rfl,by unfold fT;exact QaE (by rw[Qau];omega),⟨T++[.lst ((dm c).map ja)],by rw[QaN]⟩,_,by unfold res;rw [bc],h⟩)
def R4(c j:Nat):M:=fun p=>((dm c).getD p []).getD j false
def fU(c:Nat):List M:=(List.range c).map (R4 c)
def QS{b:List Bool}{j:Nat}(h:j<b.length):bH (ja b) (.int j)= .ok (bI (b.getD j false)):=by
 refine we ?_;rw[rp (by omega) (by rw[Qaa,Qa4];exact h)]
 rw[Qan,Qac h];simp
def DV{c j:Nat}(hc:c<=10)(hj:j<c):m5 [.lst ((dm c).map ja), .int j]= .ok (mI (2 ^ c) (R4 c j)):=by
 have hz:=Qap;have hp:2 ^ c<=1024:=Qbq (by omega) hc
 unfold m5 y7;refine cV (cL (ax (ds:=[.lst (((dm c).map fun b=>b.getD j false).map bI)]) (au (cu (bB (ds:=(dm c).map ja) rfl (by rw[Qaa,eE];omega) ?_)) rfl) ?_))
 .rw [Qax];exact NT.bJ ja _ fun b hb=>⟨[.val (ja b), .val (.int j)],rfl,rfl,av (a:=ja b) (b:= .int j) rfl rfl (QS (by rw[ue c b hb];exact hj))⟩
 .rw [xF (by rw[Qaa,eE];omega),Iz,Qaa,eE]
  unfold mI;congr 3;refine qo fun p W4=>?_
  unfold R4;rw[Qan,Qad,Qan (l:=dm c),Qac (by rw[eE];exact W4)]
  rfl
section
variable {c:Nat} {ins:Aac} {gs:List Gt} {os:Aad}
abbrev G4:=Str.ofString "net"
abbrev yC:=Str.ofString "many_inputs"
abbrev zf:=Str.ofString "full"
abbrev uo:=Str.ofString "in_masks"
def fJ(c:Nat)(nt:D):List (Str × V3):=[(G4, .d nt),(yC, .d (nI (2 ^ c))),(zf, .d (mI (2 ^ c) one)),(uo, .d (.lst ((fU c).map (mI (2 ^ c)))))]
def MQ{S:aN}(hc:ins.length=c)(Lf:c<=10)(hS:ma (S++[.ins 0 []])){Q:V3->aN->Prop}(h:Q (.d .cR) (S++[.ins 0 (fJ c (aM ins gs os))])) :
 W3 (d5 [.loc S.length, .d (aM ins gs os)] (S++[.ins 0 []])) Q:=by
 have hz:=Qap;have hp:2 ^ c<=1024:=Qbq (by omega) Lf
 unfold d5;refine To rfl ?_;simp only[bQ,dD,List.map,List.length,List.replicate,Qav,QaA,Nat.reduceAdd,Nat.reduceSub];unfold jv;refine aT<|bM (by simp)<|cQ<|ay<|bZ (d:=nI c) (ax (ds:=[.lst (ins.map inD)]) rfl (by rw[jm,Qaa,hc];rfl))<|cb<|yw Lf hS ⟨_,rfl,?_⟩
 simp only[List.set];refine aT<|lu (k:=S.length)<|bZ (d:=aM ins gs os) rfl<|w_var (v:= .loc S.length) rfl ⟨_,rfl,bc _ _,by simp,_,rfl,?_⟩
 rw[dG];refine aT<|lu (k:=S.length)<|bZ (d:=nI (2 ^ c)) (ax (ds:=[.lst ((dm c).map ja)]) rfl (by rw[jm,Qaa,eE];rfl))<|w_var (v:= .loc S.length) rfl ⟨_,rfl,bc _ _,by unfold BO;simp,_,rfl,?_⟩
 rw[dG];refine aT<|lu (k:=S.length)<|bZ (d:=mI (2 ^ c) one) (ax (ds:=[.lst (((dm c).map fun _=>true).map bI)]) (au (cu (bB (ds:=(dm c).map ja) rfl (by rw[Qaa,eE];omega) ?_)) rfl) ?_)<|w_var (v:= .loc S.length) rfl ⟨_,rfl,bc _ _,?_,_,rfl,?_⟩
 .rw [Qax];exact NT.bJ ja _ fun b hb=>⟨[.val (ja b)],rfl,rfl,rfl⟩
 .rw [xF (by rw[Qaa,eE];omega),Iz,Qaa,eE]
  unfold mI;congr 3;refine qo fun p W4=>?_
  rw[Qan,Qad,Qac (by rw[eE];exact W4)]
  rfl
 .exact(by decide:2<1000)
 rw[dG];refine lu (k:=S.length)<|bZ (d:= .lst ((fU c).map (mI (2 ^ c)))) (cu (bB (ds:=ip 0 c) (cU (n:=c) (ax (ds:=[.lst (ins.map inD)]) rfl (by rw[jm,Qaa,hc])) (by omega)) (by simp [ip];omega) ?_))<|w_var (v:= .loc S.length) rfl ⟨_,rfl,bc _ _,?_,_,rfl,?_⟩
 .unfold fU;rw[Qax];unfold ip;refine NT.bJ (fun i:Nat=>D.int (0+(i:Int))) _ fun j hj=>⟨[.val (.int (0+(j:Int))), .val (.lst ((dm c).map ja))],rfl,rfl,ax (ds:=[.lst ((dm c).map ja), .int j]) ?_ (DV Lf (QaL.mp hj))⟩
  rw[Int.zero_add];rfl
 .exact(by decide:3<1000)
 rw[dG];exact h
end
section
variable {c:Nat} {ins:Aac} {gs:List Gt} {os:Aad} {S:aN} {k:Nat} {turned bad:List Int}
def Zn:(yC==G4)=false:=by decide+kernel
def Zb:(zf==G4)=false:=by decide+kernel
def Zd:(zf==yC)=false:=by decide+kernel
def Zs:(uo==G4)=false:=by decide+kernel
def Z0:(uo==yC)=false:=by decide+kernel
def YV:(uo==zf)=false:=by decide+kernel
def Iv{nt:D}:(fJ c nt).lookup G4=some (.d nt):=by unfold fJ;rw [Qal,Qbe]
def Mw{nt:D}:(fJ c nt).lookup yC=some (.d (nI (2 ^ c))):=by unfold fJ;rw [Qal,Zn,Qal,Qbe]
def Gh{nt:D}:(fJ c nt).lookup zf=some (.d (mI (2 ^ c) one)):=by unfold fJ;rw [Qal,Zb,Qal,Zd,Qal,Qbe]
def IT{nt:D}:(fJ c nt).lookup uo=some (.d (.lst ((fU c).map (mI (2 ^ c))))):=by unfold fJ;rw [Qal,Zs,Qal,Z0,Qal,YV,Qal,Qbe]
def s_:(fU c).length=c:=by unfold fU;simp
abbrev Wd(c:Nat)(ins:Aac)(gs:List Gt)(turned bad:List Int):List M:=lh ins gs (fU c) turned bad
def M6(m:Str)(nt:D)(h1:(m==G4)=false)(h2:(m==yC)=false)(h3:(m==zf)=false)(h4:(m==uo)=false):(fJ c nt).lookup m=none:=by unfold fJ;rw [Qal,h1,Qal,h2,Qal,h3,Qal,h4];rfl
def JX(NO:iB ins gs os)(hc:ins.length=c)(hS:ma S)(hb:S[k]? =some (.ins 0 (fJ c (aM ins gs os)))){Q:V3->aN->Prop}(h:Q (.d (.lst (rf (2 ^ c) os (Wd c ins gs turned bad)))) S) :
 W3 (iq [.loc k, .d (.tup (turned.map .int)), .d (.tup (bad.map .int))] S) Q:=by
 have hz:=Qap;unfold iq;refine g9 hS (vB rfl ?_);simp only[bQ,jR,List.map,List.length,List.replicate,Qav,QaA,Nat.reduceAdd,Nat.reduceSub];unfold mv;have hl:(fU c).length=ins.length:=by rw[s_,hc]
 refine eQ<|cQ<|ay<|w_fld (k:=k)<|w_var (v:= .loc k) rfl ⟨_,_,rfl,hb,Iv,?_⟩
 refine ay<|cQ<|ay<|w_fld (k:=k)<|w_var (v:= .loc k) rfl ⟨_,_,rfl,hb,Iv,?_⟩
 refine ay<|w_fld (k:=k)<|w_var (v:= .loc k) rfl ⟨_,_,rfl,hb,IT,?_⟩
 refine ay<|w_fld (k:=k)<|w_var (v:= .loc k) rfl ⟨_,_,rfl,hb,Gh,?_⟩
 refine ay<|bZ (d:= .tup (turned.map .int)) rfl<|ay<|bZ (d:= .tup (bad.map .int)) rfl<|cb ?_
 refine KP (.inl rfl) NO hl hS (cb ?_);refine MO NO.ho (fun x hx=>⟨(NO.o x hx).1,fun w hw=>by rw[H0 hl];exact(NO.o x hx).2 w hw⟩) hS ?_
 exact⟨_,rfl,by unfold fT;rfl,⟨[],by simp⟩,_,by unfold res;rfl,h⟩
def MK(N:Nat)(os:Aad)(ws:List M):List D:=os.map fun x=> .tup [mI N (r0 (tell ws x)),mI N (r1 (tell ws x))]
def uU(NO:iB ins gs os)(hc:ins.length=c)(ho:∀x∈os,1<=x.2.length/\x.2.length<=3)(hS:ma S)(hb:S[k]? =some (.ins 0 (fJ c (aM ins gs os)))){Q:V3->aN->Prop}(h:Q (.d (.lst (MK (2 ^ c) os (Wd c ins gs turned [])))) S) :
 W3 (dh [.loc k, .d (.tup (turned.map .int))] S) Q:=by
 have hz:=Qap;have hO:=NO.ho;unfold dh;refine g9 hS (vB rfl ?_);simp only[bQ,eG,List.map,List.length,List.replicate,Qav,QaA,Nat.reduceAdd,Nat.reduceSub];unfold jh;refine eQ<|nT (fun j ds S2=>S2=S/\ds=(MK (2 ^ c) os (Wd c ins gs turned [])).take j) ?_
 refine zO<|vO (k:=k)<|w_var (v:= .loc k) rfl ⟨_,rfl,hb,M6 _ _ (by decide+kernel) (by decide+kernel) (by decide+kernel) (by decide+kernel),?_⟩
 refine ay<|bZ (d:= .tup (turned.map .int)) rfl<|ay<|bZ (d:= .tup (([]:List Int).map .int)) rfl<|cb ?_
 refine JX NO hc hS hb ⟨_,rfl,?_,⟨rfl,by simp⟩,?_,?_⟩
 .rw [Qaa,rf,Qaa];omega
 .rintro j v ds S2 hv ⟨rfl,rfl⟩;rw[rf] at hv;obtain⟨x,hx,rfl⟩:=NT.er hv;refine⟨[some (.d (.tup ((tell (Wd c ins gs turned []) x).map (mI (2 ^ c))))),some (.loc k)],rfl,yN ?_⟩;rw[QaD rfl];refine zI<|ay<|bZ (d:= .tup ((tell (Wd c ins gs turned []) x).map (mI (2 ^ c)))) rfl<|ay<|w_fld (k:=k)<|w_var (v:= .loc k) rfl ⟨_,_,rfl,hb,Gh,cb ⟨[.tup ((tell (Wd c ins gs turned []) x).map (mI (2 ^ c))),mI (2 ^ c) one],_,rfl,Ex ?_,_,rfl,rfl,?_⟩⟩
  .unfold tell;rw [Qaa];exact ho x (QaH hx)
  .unfold MK;rw[QaU,Qad,hx];rfl
 .rintro ds S2 ⟨rfl,rfl⟩;rw[Qaa,rf,Qaa,Qbi (by rw[MK,Qaa];exact Qag _)]
  exact⟨_,rfl,by unfold fT;rfl,⟨[],by simp⟩,_,by unfold res;rfl,h⟩
def Ay{nt:D}{f:M}(hc:c<=10)(hS:ma S)(hb:S[k]? =some (.ins 0 (fJ c nt))){Q:V3->aN->Prop}(h:Q (.d (.lst (((List.range (2 ^ c)).filter f).map nI))) S) :
 W3 (e8 [.loc k, .d (mI (2 ^ c) f)] S) Q:=by
 have hz:=Qap;have hp:2 ^ c<=1024:=Qbq (by omega) hc
 unfold e8;refine g9 hS (vB rfl ?_);simp only[bQ,dW,List.map,List.length,List.replicate,Qav,QaA,Nat.reduceAdd,Nat.reduceSub];unfold iT;refine eQ<|nT (fun j ds S2=>S2=S/\ds=((List.range j).filter f).map nI) ?_
 refine Qi<|w_fld (k:=k)<|w_var (v:= .loc k) rfl ⟨_,_,rfl,hb,Mw,2 ^ c,rfl,by omega,?_⟩
 have hlen:((ip 0 (2 ^ c)).map V3.d).length=2 ^ c:=by simp [ip]
 rw[hlen];refine⟨by omega,⟨rfl,rfl⟩,?_,?_⟩
 .rintro j v ds S2 hv ⟨rfl,rfl⟩;obtain⟨hj,rfl⟩:=NT.QT hv;refine⟨[some (.d (.int j)),some (.d (mI (2 ^ c) f))],rfl,yu (b:=f j) ?_ ?_⟩
  .refine je (a:= .int (if decide (j<2 ^ c) && f j then 1 else 0)) (b:= .int 1) (ax (ds:=[mI (2 ^ c) f, .int j]) rfl Ph) rfl ?_
   rw[QaE hj,Bool.true_and];cases f j <;> rfl
  .rw [Qbs,List.filter_append,Qas];cases hf:f j with
   | true=>rw [QaD rfl];exact bZ (d:=nI j) rfl ⟨_,rfl,rfl,by simp [hf]⟩
   | false=>rw [QaB (by decide)];exact⟨rfl,by simp [hf]⟩
 .rintro ds S2 ⟨rfl,rfl⟩;exact⟨_,rfl,by unfold fT;rfl,⟨[],by simp⟩,_,by unfold res;rfl,h⟩
end
def fI(n:Nat):ip 0 n=(List.range n).map nI:=by
 unfold ip;refine Qa1 fun i _=>?_
 show D.int (0+(i:Int))=D.int (i:Int);rw[Int.zero_add]
def el(T:List Nat):D:= .tup (T.map nI)
def LU{ps:List Nat}{a:Nat}(ha:a<ps.length):SE (.lst (ps.map nI)) (some ((a+1:Nat):Int)) none= .ok (.lst ((ps.drop (a+1)).map nI)):=by
 show R.ok (D.lst (L2.cutD (ps.map nI) (some ((a+1:Nat):Int)) none))=_;congr 2;unfold L2.cutD;rw[Qaa,HT.LH,HT.Iq,Qb0 (by omega),<-List.map_drop,<-List.map_take,Qbi (by rw[QbP];omega)]
def P5{ds es:List D}(h:ds.length+es.length<=sizeLine):uS (.tup ds) (.tup es)= .ok (.tup (ds++es)):=c_ _ h
theorem wI:∀(n s:Nat) (ps:List Nat),s<=n->n<=3->ps.length<=100->fB (n+1) [.lst (ps.map nI), .int s]= .ok (.lst ((rZ ps s).map el))
 | n,0,ps,_,_,_=>by
   show uV ng (nc (fB n)) _=_;unfold nc;exact cV (NT.nU (tH (je (a:= .int 0) (b:= .int 0) rfl rfl rfl) (cL rfl)))
 | 0,s+1,ps,h,_,_=>by omega
 | n+1,s+1,ps,h,hn,hp=>by
   have hz:=Qap;show uV ng (nc (fB (n+1))) _=_;unfold nc;have hcl:(rZ ps (s+1)).length<=100 ^ (s+1):=vy hp;have hpow:∀m,m<=3->(100:Nat) ^ m<=1000000:=fun m hm=>Qbq (by omega) hm
   refine cV (bG (kB (je (a:= .int (s+1:Nat)) (b:= .int 0) (k:=false) rfl rfl ?_) rfl) ?_)
   .show R.ok (D.bl (((s+1:Nat):Int)==0))=_;congr 2
   refine bG (Ad (ds:=[]) rfl (by simp [dj,ng])) ?_
   let F:Nat->Aae:=fun i=>(List.range i).flatMap fun a=>(rZ (ps.drop (a+1)) s).map (ps.getD a 0 ::·)
   have hF:∀i,i<=ps.length->(F i).length<=i*100 ^ s:=fun i hi=>by
    show((List.range i).flatMap fun a=>(rZ (ps.drop (a+1)) s).map (ps.getD a 0 ::·)).length<=_
    rw[Qcc];refine Qa0 (DI (m:=100 ^ s) fun x hx=>?_) (by rw[Qaa,Qaj];exact Qag _)
    obtain⟨a,_,rfl⟩:=QaR.mp hx;rw[Qaa];exact vy (by rw[QbP];omega)
   have hFs:∀i,F (i+1)=F i++(rZ (ps.drop (i+1)) s).map (ps.getD i 0 ::·):=fun i=>by
    show(List.range (i+1)).flatMap _=_;rw[Qbs,Qcd];simp [F]
   obtain⟨cX,e1,a3,a4,a5,CY⟩:=kT (t:=eg 2 (bh (aC 3) (bh (aC 4) ei))) (body:=o8 (fB (n+1))) (ds:=cY (ps.map nI))
    (fun i δ=>∃a3 a4 a5,δ=[.val (.lst (ps.map nI)), .val (.int (s+1:Nat)), .bld ((F i).map el),a3,a4,a5]) (δ:=[.val (.lst (ps.map nI)), .val (.int (s+1:Nat)), .bld [], .un, .un, .un]) ⟨.un, .un, .un,by simp [F]⟩ (by
      rintro i d δ hd ⟨a3,a4,a5,rfl⟩;have hv:((cY (ps.map nI)).map V3.d)[i]? =some (.d d):=by rw[Qad,hd];rfl
      obtain⟨d0,RO,ed⟩:=se hv;cases ed;obtain⟨x,hx,rfl⟩:=NT.oa RO;have hil:=(Qab.mp hx).1;have hxd:ps.getD i 0=x:=by rw[Qan,hx];rfl
      have hFi:=hF i (by omega)
      have hFb:i*100 ^ s<=100*100 ^ s:=Nat.mul_le_mul_right _ (by omega)
      have hp2:=hpow (s+1) (by omega)
      rw[Nat.pow_succ,Qb3] at hp2;rw[show eg 2 (bh (aC 3) (bh (aC 4) ei)) (.tup [.int i,nI x]) [.val (.lst (ps.map nI)), .val (.int (s+1:Nat)), .bld ((F i).map el),a3,a4,a5]= .ok [.val (.lst (ps.map nI)), .val (.int (s+1:Nat)), .bld ((F i).map el), .val (.int i), .val (nI x),a5] from rfl,R.aS]
      unfold o8;have ihc:=wI n s (ps.drop (i+1)) (by omega) (by omega) (by rw[QbP];omega)
      have hdl:(rZ (ps.drop (i+1)) s).length<=100 ^ s:=vy (by rw[QbP];omega)
      obtain⟨ef,gm,c5,La⟩:=kT (t:=aC 5) (body:=oY (fB (n+1))) (ds:=(rZ (ps.drop (i+1)) s).map el)
       (fun j δ=>∃c5,δ=[.val (.lst (ps.map nI)), .val (.int (s+1:Nat)), .bld ((F i++((rZ (ps.drop (i+1)) s).take j).map (x ::·)).map el), .val (.int i), .val (nI x),c5]) (δ:=[.val (.lst (ps.map nI)), .val (.int (s+1:Nat)), .bld ((F i).map el), .val (.int i), .val (nI x),a5]) ⟨a5,by simp⟩ (by
         rintro j d δ hd ⟨c5,rfl⟩;obtain⟨T,hT,rfl⟩:=NT.oa hd;have hjl:=(Qab.mp hT).1;have hTl:=(t7 (QaH hT)).1;refine⟨[.val (.lst (ps.map nI)), .val (.int (s+1:Nat)), .bld ((F i++((rZ (ps.drop (i+1)) s).take (j+1)).map (x ::·)).map el), .val (.int i), .val (nI x), .val (el T)],?_,⟨_,rfl⟩⟩
         generalize hL:(F i++((rZ (ps.drop (i+1)) s).take j).map (x ::·)).map el=L
         have hLl:L.length<sizeLine:=by
          rw[<-hL,Qaa,Qau,Qaa,QaX];omega
         rw[show aC 5 (el T) [.val (.lst (ps.map nI)), .val (.int (s+1:Nat)), .bld L, .val (.int i), .val (nI x),c5]= .ok [.val (.lst (ps.map nI)), .val (.int (s+1:Nat)), .bld L, .val (.int i), .val (nI x), .val (el T)] from rfl,R.aS]
         unfold oY;rw[vG (d:=el (x ::T)) (ds:=L) (av (a:= .tup [nI x]) (b:=el T) (cI rfl (by simp;omega)) rfl (P5 (by rw[Qaa];simp;omega))) rfl hLl,<-hL,QaU,hT]
         simp [el])
      refine⟨_,kE (ds:=(rZ (ps.drop (i+1)) s).map el) (iy (ax (ds:=[.lst ((ps.drop (i+1)).map nI), .int s]) (au (P7 (d:= .lst (ps.map nI)) (lo:=some ((i+1:Nat):Int)) (hi:=none) rfl (IE (av (a:= .int i) (b:= .int 1) rfl rfl rfl)) rfl (LU hil)) (au (av (a:= .int (s+1:Nat)) (b:= .int 1) rfl rfl ?_) rfl)) ihc)) gm,?_⟩
      .show R.ok (D.int (((s+1:Nat):Int) - 1))=_;congr 2;omega
      .rw [Qaa,QaV] at La;refine⟨.val (.int i), .val (nI x),c5,?_⟩;rw[La,hFs,hxd])
   refine bG (kE (ds:=cY (ps.map nI)) rfl e1) ?_;have hlen:(cY (ps.map nI)).length=ps.length:=by simp [cY]
   rw[hlen] at CY;subst CY;exact cL rfl
section
variable {c:Nat} {ins:Aac} {gs:List Gt} {os:Aad} {S:aN} {k:Nat} {turned:List Int} {safe:Bool}
abbrev qW:=Str.ofString "bench"
abbrev wm:=Str.ofString "plain"
abbrev tF:=Str.ofString "unsure"
def rY(gs:List Gt):List Nat:=(List.range gs.length).filter fun i=>match gs[i]? with | some g=>!g.2.2 | none=>false
def kx(c:Nat)(ins:Aac)(gs:List Gt)(os:Aad)(b:Nat):List (Str × V3):=[(qW, .loc b),(wm, .d (.lst (MK (2 ^ c) os (Wd c ins gs [] [])))),(tF, .d (.lst ((rY gs).map nI)))]
def Y1:(wm==qW)=false:=by decide+kernel
def Zy:(tF==qW)=false:=by decide+kernel
def YT:(tF==wm)=false:=by decide+kernel
def CH{b:Nat}:(kx c ins gs os b).lookup qW=some (.loc b):=by unfold kx;rw [Qal,Qbe]
def IJ{b:Nat}:(kx c ins gs os b).lookup wm=some (.d (.lst (MK (2 ^ c) os (Wd c ins gs [] [])))):=by unfold kx;rw [Qal,Y1,Qal,Qbe]
def Q_{b:Nat}:(kx c ins gs os b).lookup tF=some (.d (.lst ((rY gs).map nI))):=by unfold kx;rw [Qal,Zy,Qal,YT,Qal,Qbe]
def Ug{b:Nat}(m:Str)(h1:(m==qW)=false)(h2:(m==wm)=false)(h3:(m==tF)=false):(kx c ins gs os b).lookup m=none:=by unfold kx;rw [Qal,h1,Qal,h2,Qal,h3];rfl
def TS(S:aN)(c:Nat)(ins:Aac)(gs:List Gt)(os:Aad):aN:=S++[.ins 1 (kx c ins gs os (S.length+1)), .ins 0 (fJ c (aM ins gs os))]
mutual
theorem D6{n m:Nat}(h:n<=m):∀v:V3,oH n v=true->oH m v=true
 | .d _,_=>by unfold oH;rfl
 | .fn _,_=>by unfold oH;rfl
 | .loc k,q=>by
   unfold oH at q ⊢;exact QaE (QaC (Qak q) h)
 | .lst vs,q=>by unfold oH at q ⊢;exact me h vs q
 | .tup vs,q=>by unfold oH at q ⊢;exact me h vs q
theorem me{n m:Nat}(h:n<=m):∀vs:List V3,k8 n vs=true->k8 m vs=true
 | [],_=>by unfold k8;rfl
 | v ::vs,q=>by
   unfold k8 at q ⊢;rw[Qbn] at q ⊢;exact⟨D6 h v q.1,me h vs q.2⟩
end
def yG{n m:Nat}(h:n<=m)(o:SO)(q:vU n o=true):vU m o=true:=by
 cases o with
 | ins k fs=>exact me h _ q
 | _=>rfl
def ma.push{S:aN}(hS:ma S){x:SO}(hx:∀n,vU n x=true):ma (S++[x]):=fun o ho=>by
 rcases Qbm.mp ho with q | q
 .exact yG (by simp) o (hS o q)
 .rw [QaS.mp q];exact hx _
def Qu{S:aN}(hS:ma S){x y:SO}(hx:vU (S.length+2) x=true)(hy:vU (S.length+2) y=true):ma (S++[x,y]):=fun o ho=>by
 rw[show(S++[x,y]).length=S.length+2 by simp]
 rcases Qbm.mp ho with q | q
 .exact yG (by omega) o (hS o q)
 .simp only[Qar,Qbb,QbS] at q;rcases q with rfl | rfl
  .exact hx
  .exact hy
def Jl{δ:az}(hg:gs.length<1000)(h1:af 1 δ= .ok (aM ins gs os)):cj (ib (e2 bH (af 1) (eC (.int 1)))) (eg 2 (bh (aC 0) (bh (aC 1) ei))) (xy (sO (e2 bH (af 1) (eC (.int 2))))) (af 0) ["place","gate"] [] δ= .ok ((rY gs).map nI):=by
 have hz:=Qap;refine bB (ds:=cY (gs.map cO)) (Pt (av (a:=aM ins gs os) (b:= .int 1) h1 rfl rfl)) (by simp [cY];omega) ?_
 have e:cY (gs.map cO)=(List.range gs.length).map fun i=> .tup [.int i,cO (gs.getD i (0,[],false))]:=by
  refine List.ext_getElem? fun i=>?_
  rw[Qad,cY,Qad,QbM,Qad];by_cases q:i<gs.length
  .rw [Qac q,Qa2 q];show some (D.tup [.int ((0+i:Nat):Int),cO gs[i]])=some (D.tup [.int i,cO (gs.getD i (0,[],false))]);rw[QbQ,Qan,Qac q];rfl
  .rw [Qcy (by omega),Qcy (by simp;omega)];rfl
 rw[e];unfold rY;refine NT.e_ (fun i:Nat=>match gs[i]? with | some g=>!g.2.2 | none=>false) (fun i:Nat=>D.tup [.int i,cO (gs.getD i (0,[],false))]) nI fun i hi=>?_
 rw[QaL] at hi;refine⟨[.val (.int i), .val (cO (gs.getD i (0,[],false)))],rfl,?_,fun _=>rfl⟩
 rw[Qac hi,Qan,Qac hi];rfl
def Ka(NO:iB ins gs os)(hc:ins.length=c)(Lf:c<=10)(ho:∀x∈os,1<=x.2.length/\x.2.length<=3)(hS:ma S){Q:V3->aN->Prop}(h:Q (.d .cR) (TS S c ins gs os)) :
 W3 (dY [.loc S.length, .d (aM ins gs os)] (S++[.ins 1 []])) Q:=by
 have hz:=Qap;unfold dY;refine To rfl ?_;simp only[bQ,eH,List.map,List.length,List.replicate,Qav,QaA,Nat.reduceAdd,Nat.reduceSub];unfold jn;have l1:(S++[SO.ins 1 []]).length=S.length+1:=by simp
 have g0:∀(x y:SO),(S++[x,y])[S.length]? =some x:=fun x y=>by rw[Qae (Qag _),QaQ];rfl
 have g1:∀(x y:SO),(S++[x,y])[S.length+1]? =some y:=fun x y=>by rw[Qae (by omega),show S.length+1 - S.length=1 by omega];rfl
 have st:∀(x y z:SO),(S++[x,y]).set S.length z=S++[z,y]:=fun x y z=>by rw[Qa3 _ _ (Qag _),QaQ];rfl
 have ap:∀(x y:SO),S++[x]++[y]=S++[x,y]:=fun x y=>by simp
 refine aT<|lu (k:=S.length)<|I0<|ay<|bZ (d:=aM ins gs os) rfl<|cb<|MQ hc Lf ?_ ⟨rfl,?_⟩
 .rw [ap];exact Qu hS rfl rfl
 rw[ap];refine w_var (v:= .loc S.length) rfl ⟨_,rfl,g0 _ _,by simp,_,rfl,?_⟩
 rw[st,l1];have hcl:∀fs:List (Str × V3),k8 (S.length+2) (fs.map (·.2))=true->ma (S++[.ins 1 fs, .ins 0 (fJ c (aM ins gs os))]):=fun fs hf=>Qu hS hf rfl
 refine aT<|lu (k:=S.length)<|vO (k:=S.length+1)<|w_fld (k:=S.length)<|w_var (v:= .loc S.length) rfl ⟨_,_,rfl,g0 _ _,(by show List.lookup qW [(qW,V3.loc (S.length+1))]=_;rw [Qal,Qbe]),_,rfl,g1 _ _,M6 _ _ (by decide+kernel) (by decide+kernel) (by decide+kernel) (by decide+kernel),?_⟩
 refine ay<|bZ (d:= .tup (([]:List Int).map .int)) rfl<|cb<|uU NO hc ho (hcl _ ?_) (g1 _ _) ?_
 .show(decide (S.length+1<S.length+2) && true)=true;rw[QaE (by omega)];rfl
 refine w_var (v:= .loc S.length) rfl ⟨_,rfl,g0 _ _,(by decide:1<1000),_,rfl,?_⟩
 rw[st];refine lu (k:=S.length)<|bZ (d:= .lst ((rY gs).map nI)) (cu (Jl NO.hg rfl))<|w_var (v:= .loc S.length) rfl ⟨_,rfl,g0 _ _,?_,_,rfl,?_⟩
 .exact(by decide:2<1000)
 rw[st];exact h
def pz(safe:Bool):Str:=if safe then "safe" else "right"
def pt(ws:List M)(x:Str × List Nat)(p:Nat):Bool × Bool:=zC ((tell ws x).map (· p))
def An(safe:Bool)(c:Nat)(ins:Aac)(gs:List Gt)(os:Aad)(turned:List Int):M:=fun p=>os.any fun x=>brk safe (pt (Wd c ins gs [] []) x p) (pt (Wd c ins gs turned []) x p)
def Hd{b:Nat}(NO:iB ins gs os)(hc:ins.length=c)(ho:∀x∈os,1<=x.2.length/\x.2.length<=3)(hS:ma S)(hk:S[k]? =some (.ins 1 (kx c ins gs os b)))(hb:S[b]? =some (.ins 0 (fJ c (aM ins gs os)))){Q:V3->aN->Prop}
 (h:Q (.d (mI (2 ^ c) (An safe c ins gs os turned))) S):W3 (eZ [.loc k, .d (.tup (turned.map .int)), .d (.str (pz safe))] S) Q:=by
 have hz:=Qap;unfold eZ;refine g9 hS (vB rfl ?_);simp only[bQ,fN,List.map,List.length,List.replicate,Qav,QaA,Nat.reduceAdd,Nat.reduceSub];unfold iJ;have h0:D.int 0=mI (2 ^ c) fun _=>false:=by
  unfold mI;rw[Bv.mpr fun _ _=>rfl];rfl
 refine aT<|bM (by simp)<|bZ (d:=mI (2 ^ c) fun _=>false) (by rw[<-h0];rfl) ⟨_,rfl,?_⟩
 simp only[List.set];refine aT<|gh<|S_<|w_fld (k:=k)<|w_var (v:= .loc k) rfl ⟨_,_,rfl,hk,IJ,?_⟩
 refine vO (k:=b)<|w_fld (k:=k)<|w_var (v:= .loc k) rfl ⟨_,_,rfl,hk,CH,_,rfl,hb,M6 _ _ (by decide+kernel) (by decide+kernel) (by decide+kernel) (by decide+kernel),?_⟩
 refine ay<|bZ (d:= .tup (turned.map .int)) rfl<|cb<|uU NO hc ho hS hb ⟨_,_,_,_,rfl,rfl,rfl,rfl,?_⟩
 have hzip:mm (MK (2 ^ c) os (Wd c ins gs [] [])) (MK (2 ^ c) os (Wd c ins gs turned []))=os.map fun x=> .tup [.tup [mI (2 ^ c) (r0 (tell (Wd c ins gs [] []) x)),mI (2 ^ c) (r1 (tell (Wd c ins gs [] []) x))], .tup [mI (2 ^ c) (r0 (tell (Wd c ins gs turned []) x)),mI (2 ^ c) (r1 (tell (Wd c ins gs turned []) x))]]:=by
  unfold mm MK;rw[List.zip_map',Qax];rfl
 rw[hzip];refine(cn (fun i δ S2=>S2=S/\∃a4 a5,δ=[some (.loc k),some (.d (.tup (turned.map .int))),some (.d (.str (pz safe))),some (.d (mI (2 ^ c) fun p=>(os.take i).any fun x=>brk safe (pt (Wd c ins gs [] []) x p) (pt (Wd c ins gs turned []) x p))),a4,a5])
  ⟨rfl,none,none,rfl⟩ ?_).mono fun o S2 ⟨ef,gm,zr,a4,a5,hδ⟩=>⟨ef,gm,?_⟩
 .rintro i v δ S2 hv ⟨rfl,a4,a5,rfl⟩;obtain⟨x,hx,rfl⟩:=NT.er hv;generalize hm:(fun p=>(os.take i).any fun x=>brk safe (pt (Wd c ins gs [] []) x p) (pt (Wd c ins gs turned []) x p))=m
  have hnext:(fun p=>(os.take (i+1)).any fun x=>brk safe (pt (Wd c ins gs [] []) x p) (pt (Wd c ins gs turned []) x p))=fun p=>m p || brk safe (pt (Wd c ins gs [] []) x p) (pt (Wd c ins gs turned []) x p):=by
   funext p;rw[QaU,hx,List.any_append,<-hm];simp
  rw[hnext];refine⟨[some (.loc k),some (.d (.tup (turned.map .int))),some (.d (.str (pz safe))),some (.d (mI (2 ^ c) m)),some (.d (.tup [mI (2 ^ c) (r0 (tell (Wd c ins gs [] []) x)),mI (2 ^ c) (r1 (tell (Wd c ins gs [] []) x))])),some (.d (.tup [mI (2 ^ c) (r0 (tell (Wd c ins gs turned []) x)),mI (2 ^ c) (r1 (tell (Wd c ins gs turned []) x))]))],rfl,?_⟩;unfold kC;refine pE<|yu (b:=safe) (je (a:= .str (pz safe)) (b:= .str "safe") rfl rfl ?_) ?_
  .show R.ok (D.bl (pz safe=="safe"))=_;congr 2;cases safe <;> decide+kernel
  cases safe with
  | true=>
    rw[QaD rfl];refine bM (by simp)<|bZ (av (av (a:=mI (2 ^ c) m) rfl (av (av rfl rfl GJ) (av rfl rfl Kp) (wu _ _ _)) (B_ _ _ _)) (av (av rfl rfl Kp) (av rfl rfl GJ) (wu _ _ _)) (B_ _ _ _)) ⟨_,rfl,rfl,some (.d (.tup [mI (2 ^ c) (r0 (tell (Wd c ins gs [] []) x)),mI (2 ^ c) (r1 (tell (Wd c ins gs [] []) x))])),some (.d (.tup [mI (2 ^ c) (r0 (tell (Wd c ins gs turned []) x)),mI (2 ^ c) (r1 (tell (Wd c ins gs turned []) x))])),?_⟩
    simp only[List.set];congr 6;refine BP fun p _=>?_
    rw[Bool.or_assoc];rfl
  | false=>
    rw[QaB (by decide)]
    refine bM (by simp)<|bZ (av (av (a:=mI (2 ^ c) m) rfl (av (av rfl rfl GJ) (av rfl rfl GJ) (F_ _ _ _)) (B_ _ _ _)) (av (av rfl rfl Kp) (av rfl rfl Kp) (F_ _ _ _)) (B_ _ _ _)) ⟨_,rfl,rfl,some (.d (.tup [mI (2 ^ c) (r0 (tell (Wd c ins gs [] []) x)),mI (2 ^ c) (r1 (tell (Wd c ins gs [] []) x))])),some (.d (.tup [mI (2 ^ c) (r0 (tell (Wd c ins gs turned []) x)),mI (2 ^ c) (r1 (tell (Wd c ins gs turned []) x))])),?_⟩
    simp only[List.set];congr 6;refine BP fun p _=>?_
    rw[Bool.or_assoc];rfl
 rw[Qaa,Qaa,QaV] at hδ;subst hδ zr;exact eQ<|bZ (d:=mI (2 ^ c) (An safe c ins gs os turned)) rfl ⟨_,rfl,by unfold fT;rfl,⟨[],by simp⟩,_,by unfold res;rfl,h⟩
end
end K43
end
section
namespace K43
open PySem PySem.Spec PyProof.Rows L2 L3 MT
def nZ(ps:List Nat):List Int:=ps.map fun(n:Nat)=>(n:Int)
def TL(ps:List Nat):(nZ ps).map D.int=ps.map nI:=by unfold nZ;rw [Qax];rfl
def KD(ps:List Nat)(i:Nat):(nZ ps).contains (i:Int)=ps.contains i:=by
 rw[Qa6];unfold nZ;simp only[Qbf,QaR];exact⟨fun⟨a,ha,e⟩=>(by rw[<-QbW.mp e];exact ha),fun h=>⟨i,h,rfl⟩⟩
section
variable {c:Nat} {ins:Aac} {gs:List Gt} {os:Aad} {S:aN} {k:Nat} {safe:Bool}
def T5(T:List Nat)(p:Nat):D:= .tup [.str "breaks",el T,nI p]
def nh:D:= .tup [.str "bears"]
def qx(safe:Bool)(c:Nat)(ins:Aac)(gs:List Gt)(os:Aad)(T:List Nat):Option D:=
 ((List.range (2 ^ c)).filter (An safe c ins gs os (nZ T))).head?.map (T5 T)
def bears(safe:Bool)(c:Nat)(ins:Aac)(gs:List Gt)(os:Aad)(m:Nat):D:=
 ((List.range (m+1)).findSome? fun s=>(rZ (rY gs) s).findSome? (qx safe c ins gs os)).getD nh
def LL:(rY gs).length<=gs.length:=by
 unfold rY;exact Qa0 (List.length_filter_le _ _) (by rw[Qaj];exact Qag _)
def y9{f:M}{N:Nat}:lW N f=0↔((List.range N).filter f).head? =none:=by
 rw[Bv,List.head?_eq_none_iff,Qb1];exact⟨fun h i hi=>by rw[h i (QaL.mp hi)];decide,fun h i hi=>by have:=h i (QaL.mpr hi);cases hf:f i with | false=>rfl | true=>exact absurd hf this⟩
def KS{Yt sz a6:Option V3}{m:V3}{T:List Nat}(NO:iB ins gs os)(hc:ins.length=c)(Lf:c<=10)(ho:∀x∈os,1<=x.2.length/\x.2.length<=3)(hS:ma S) :
 W3 (tY [Yt,some m,some (.d (.str (pz safe))),some (.loc S.length),sz,some (.d (el T)),a6] (TS S c ins gs os)) fun o S1=>S1=TS S c ins gs os/\(match (qx safe c ins gs os T).map V3.d with | some v=>o= .rt v | none=>∃ef,o= .nx ef/\∃b6,ef=[Yt,some m,some (.d (.str (pz safe))),some (.loc S.length),sz,some (.d (el T)),b6]):=by
 have hz:=Qap;have hk:(TS S c ins gs os)[S.length]? =some (.ins 1 (kx c ins gs os (S.length+1))):=by unfold TS;rw [Qae (Qag _),QaQ];rfl
 have hb:(TS S c ins gs os)[S.length+1]? =some (.ins 0 (fJ c (aM ins gs os))):=by unfold TS;rw [Qae (by omega),show S.length+1 - S.length=1 by omega];rfl
 have hcl:ma (TS S c ins gs os):=Qu hS (by
  show(decide (S.length+1<S.length+2) && true)=true;rw[QaE (by omega)];rfl) rfl
 unfold tY;refine aT<|bM (by simp)<|vO (k:=S.length)<|w_var (v:= .loc S.length) rfl ⟨_,rfl,hk,Ug _ (by decide+kernel) (by decide+kernel) (by decide+kernel),?_⟩
 refine ay<|bZ (d:= .tup ((nZ T).map .int)) (by rw[TL];rfl)<|ay<|bZ (d:= .str (pz safe)) rfl<|cb<|Hd NO hc ho hcl hk hb ⟨_,rfl,?_⟩
 simp only[List.set];generalize hf:An safe c ins gs os (nZ T)=f;have htry:qx safe c ins gs os T=((List.range (2 ^ c)).filter f).head?.map (T5 T):=by unfold qx;rw [hf]
 refine pE<|yu (b:=!(decide (lW (2 ^ c) f=0))) (je (a:=mI (2 ^ c) f) (b:= .int 0) rfl rfl ?_) ?_
 .show R.ok (D.bl (!((lW (2 ^ c) f:Int)==0)))=_;congr 3;by_cases q:lW (2 ^ c) f=0
  .rw [q];rfl
  .rw [QaY q];exact Qbt.mpr (by omega)
 cases hh:((List.range (2 ^ c)).filter f).head? with
 | none=>
   rw[htry,hh,QaE (y9.mpr hh),QaB (by decide)]
   exact iI ⟨rfl,_,rfl,_,rfl⟩
 | some p=>
   have tV:¬lW (2 ^ c) f=0:=fun q=>by rw[y9.mp q] at hh;cases hh
   rw[htry,hh,QaY tV,QaD (by decide)]
   refine eQ<|Oy<|ay<|bZ (d:= .str "breaks") rfl<|ay<|bZ (d:=el T) rfl<|ay<|Ww<|vO (k:=S.length+1)<|w_fld (k:=S.length)<|w_var (v:= .loc S.length) rfl ⟨_,_,rfl,hk,CH,_,rfl,hb,M6 _ _ (by decide+kernel) (by decide+kernel) (by decide+kernel) (by decide+kernel),?_⟩
   refine ay<|bZ (d:=mI (2 ^ c) f) rfl<|cb<|Ay Lf hcl hb<|bZ (d:= .int 0) rfl ⟨_,_,nI p,rfl,rfl,?_,cb ⟨by simp;omega,rfl,rfl⟩⟩
   refine zP ?_;obtain⟨r,hr⟩:∃r,(List.range (2 ^ c)).filter f=p ::r:=by
    cases q:(List.range (2 ^ c)).filter f with
    | nil=>rw [q] at hh;cases hh
    | cons a r=>rw [q] at hh;cases hh;exact⟨r,rfl⟩
   rw[hr,rp (by omega) (by simp)]
   rfl
def Ib{m:Nat}(NO:iB ins gs os)(hc:ins.length=c)(Lf:c<=10)(ho:∀x∈os,1<=x.2.length/\x.2.length<=3)(hg:gs.length<=100)(hm:m<=3)(hS:ma S){Q:V3->aN->Prop}(h:Q (.d (bears safe c ins gs os m)) S) :
 W3 (tK [.d (aM ins gs os), .d (nI m), .d (.str (pz safe))] S) Q:=by
 have hz:=Qap;have hk:(TS S c ins gs os)[S.length]? =some (.ins 1 (kx c ins gs os (S.length+1))):=by unfold TS;rw [Qae (Qag _),QaQ];rfl
 unfold tK;refine g9 hS (vB rfl ?_);simp only[bQ,vH,List.map,List.length,List.replicate,Qav,QaA,Nat.reduceAdd,Nat.reduceSub];unfold zG;refine aT<|bM (by simp)<|I0<|ay<|bZ (d:=aM ins gs os) rfl<|cb<|Ka NO hc Lf ho hS ⟨rfl,_,rfl,?_⟩
 simp only[List.set];refine QK<|gh<|kL (ds:=(List.range (m+1)).map nI) ?_ ?_
 .rw [<-fI];exact cU (n:=m+1) (av (a:=nI m) (b:= .int 1) rfl rfl rfl) (by omega)
 rw[Qax];refine(rg (S:=TS S c ins gs os) (V3.d ∘ nI) (fun s=>((rZ (rY gs) s).findSome? (qx safe c ins gs os)).map V3.d) (fun δ=>∃a4 a5 a6,δ=[some (.d (aM ins gs os)),some (.d (nI m)),some (.d (.str (pz safe))),some (.loc S.length),a4,a5,a6])
  ⟨_,_,_,rfl⟩ ?_).mono fun o S1 ⟨e1,h1⟩=>?_
 .rintro s hs δ ⟨a4,a5,a6,rfl⟩;rw[QaL] at hs;have hul:(rY gs).length<=100:=Qa0 LL hg;have hcs:fB 4 [.lst ((rY gs).map nI), .int s]= .ok (.lst ((rZ (rY gs) s).map el)):=wI 3 s (rY gs) (by omega) (by omega) hul
  refine⟨[some (.d (aM ins gs os)),some (.d (nI m)),some (.d (.str (pz safe))),some (.loc S.length),some (.d (nI s)),a5,a6],rfl,?_⟩;unfold zc;refine gh<|zO<|zI<|ay<|w_fld (k:=S.length)<|w_var (v:= .loc S.length) rfl ⟨_,_,rfl,hk,Q_,ay<|bZ (d:= .int s) rfl<|cb ⟨[.lst ((rY gs).map nI), .int s],_,rfl,hcs,_,rfl,?_⟩⟩
  rw[Qax];refine(rg (S:=TS S c ins gs os) (V3.d ∘ el) (fun T=>(qx safe c ins gs os T).map V3.d) (fun δ=>∃a5 a6,δ=[some (.d (aM ins gs os)),some (.d (nI m)),some (.d (.str (pz safe))),some (.loc S.length),some (.d (nI s)),a5,a6])
   ⟨_,_,rfl⟩ ?_).mono fun o S1 ⟨e1,h1⟩=>⟨e1,?_⟩
  .rintro T hT δ ⟨a5,a6,rfl⟩;refine⟨[some (.d (aM ins gs os)),some (.d (nI m)),some (.d (.str (pz safe))),some (.loc S.length),some (.d (nI s)),some (.d (el T)),a6],rfl,?_⟩;refine(KS NO hc Lf ho hS).mono fun o S1 ⟨e1,h1⟩=>⟨e1,?_⟩
   cases htt:qx safe c ins gs os T with
   | none=>rw [htt] at h1;obtain⟨ef,gm,b6,e3⟩:=h1;exact⟨ef,gm,_,b6,e3⟩
   | some d=>rw [htt] at h1;exact h1
  .have hfs:(rZ (rY gs) s).findSome? (fun T=>(qx safe c ins gs os T).map V3.d)=((rZ (rY gs) s).findSome? (qx safe c ins gs os)).map V3.d:=by
    rw[List.map_findSome?];rfl
   rw[hfs] at h1;cases htt:(rZ (rY gs) s).findSome? (qx safe c ins gs os) with
   | none=>rw [htt] at h1;obtain⟨ef,gm,b5,b6,e3⟩:=h1;exact⟨ef,gm,_,b5,b6,e3⟩
   | some d=>rw [htt] at h1;exact h1
 .subst e1;have hfs:(List.range (m+1)).findSome? (fun s=>((rZ (rY gs) s).findSome? (qx safe c ins gs os)).map V3.d)=((List.range (m+1)).findSome? fun s=>(rZ (rY gs) s).findSome? (qx safe c ins gs os)).map V3.d:=by
   rw[List.map_findSome?];rfl
  rw[hfs] at h1;unfold bears at h;cases htt:(List.range (m+1)).findSome? fun s=>(rZ (rY gs) s).findSome? (qx safe c ins gs os) with
  | none=>
    rw[htt] at h1 h;obtain⟨ef,rfl,b4,b5,b6,rfl⟩:=h1;exact eQ<|bZ (d:=nh) rfl ⟨_,rfl,by unfold fT;rfl,⟨_,rfl⟩,_,by unfold res;rfl,h⟩
  | some d=>
    rw[htt] at h1 h;subst h1;exact⟨_,rfl,by unfold fT;rfl,⟨_,rfl⟩,_,by unfold res;rfl,h⟩
end
def OR{ds:List D}{i:Nat}{x:D}(h:ds[i]? =some x):vW ds (i:Int)=some x:=by
 obtain⟨h1,h2⟩:=Qab.mp h;rw[rp (by omega) (by rw[Qa4];exact h1)]
 simp [h2]
section
variable {gs:List Gt}
end
section
variable {S:aN} {q:Nat}
def fM{ds:List D}(e:S[q]? =some (.lst ds)):res S (.loc q)=some (.lst ds):=by unfold res;rw [e]
end
def pT(ws:List Nat):kh (.tup (ws.map nI))=true:=by
 unfold kh
 induction ws with
 | nil=>unfold jc;rfl
 | cons w ws ih=>rw [Qay];unfold jc;rw [ih];rfl
def D8{f:az->R (List D)}{g:FD}{δ:az}{ds:List D}{n:Nat}(h1:f δ= .ok ds)(h2:g δ= .ok (.int n))(hn:n<1000000)(hl:ds.length*n<=sizeLine):Ei f g δ= .ok (List.replicate n ds).flatten:=by
 unfold Ei;rw[h1,R.aS,h2,R.aS];show R.bV (decide (0<=(n:Int)/\(n:Int)<1000000/\ds.length*(n:Int).toNat<=sizeLine)) _=_;rw[c_ _ ⟨by omega,by omega,by rw[Qa4];exact hl⟩,Qa4]
def Px(g:Gt):kh (cO g)=true:=by
 unfold cO kh jc;rw[show kh (.str _)=true from by unfold kh;rfl]
 unfold jc;rw[pT];unfold jc;rw[show kh (.bl _)=true from by unfold kh;rfl]
 unfold jc;rfl
def Ud(x:Str × Nat):Prop:=(1<=x.2/\x.2<=3)/\eN 0 (.str x.1)
def O_{f g:FB}{δ:DE}{S:aN}{QB:Bool->aN->Prop}(h:W3 (f δ S) fun b S1=>(b=false/\QB false S1)\/(b=true/\W3 (g δ S1) QB)):W3 (PV f g δ S) QB:=W3.bind (h.mono fun b S1 h=>by
 rcases h with⟨e,q⟩ | ⟨e,q⟩
 .subst e;rw [QaB (by decide)];exact W3.ok q
 .subst e;rw [QaD rfl];exact q)
def Jh{δ:DE}{S:aN}{i:Nat}{v:V3}{d:D}(h:δ[i]? =some (some v))(hr:res S v=some d):af i (dN S δ)= .ok d:=by
 unfold af dN;rw[Qad,h];show(match (some (match res S v with | some d=>Sl.val d | none=> .un)) with | some (.val d)=>R.ok d | _=> .no)=_
 rw[hr]
def PU{g:Gt}:eN 2 (cO g):=by
 refine eN.tup fun x hx=>?_
 simp only[Qar,Qbb,QbS] at hx;rcases hx with rfl | rfl | rfl
 .refine(eN.str ?_).mono (by omega)
  unfold kS;split <;> decide+kernel
 .exact eN.tup fun d hd=>by obtain⟨z,_,rfl⟩:=QaR.mp hd;exact eN.int _
 .exact(eN.bl _).mono (by omega)
def YZ(l:Aac)(gs:List Gt):Prop:=∀(i:Nat) (g:Gt),gs[i]? =some g->l0 (l7 l+i) g
def okN(s:List Nat)(o:Nat):Bool:=match s.getLast? with | none=>true | some l=>decide (o > l)
def We(free:List Nat)(m:Nat):Aae:=(List.range (m+1)).flatMap (rZ free)
def subB(T o:List Nat):Bool:=o.all fun x=>T.contains x
def ZH(B:List Nat->Bool)(f:Aae)(T:List Nat):Aae:=if f.any (subB T) then f else if B T then f++[T] else f
def VE(B:List Nat->Bool)(sets:Aae):Aae:=sets.foldl (ZH B) []
def SS(x:Nat)(T:List Nat):OB (nI x) (el T)= .ok (.bl (T.contains x)):=by
 have h:=AN (x:Int) (nZ T);rw[TL,KD] at h;exact h
section
variable {c:Nat} {l:Aac} {gs:List Gt} {os:Aad} {S:aN} {safe:Bool} {m:Nat}
def BT(safe:Bool)(c:Nat)(l:Aac)(gs:List Gt)(os:Aad)(T:List Nat):Bool:=!(decide (lW (2 ^ c) (An safe c l gs os (nZ T))=0))
def YU(safe:Bool)(c:Nat)(l:Aac)(gs:List Gt)(os:Aad)(m:Nat):Aae:=VE (BT safe c l gs os) (We (rY gs) m)
end
def Pz{x:Str × List Nat}(h:eN 0 (.str x.1)):eN 2 (vk x):=eN.tup fun d hd=>by
 simp only[Qar,Qbb,QbS] at hd;rcases hd with rfl | rfl
 .exact h.mono (by omega)
 .exact eN.tup fun d hd=>by obtain⟨z,_,rfl⟩:=QaR.mp hd;exact eN.int _
def tS{a b:Nat}(h:0<b):lZ (nI a) (nI b)= .ok (nI (a % b)):=c_ _ (show 0<(b:Int) by omega)
def NM{a b:Nat}(h:0<b)(h2:b<1073741824):uR (nI a) (nI b)= .ok (nI (a / b)):=c_ _ (show 0<(b:Int)/\(b:Int)<1073741824 by omega)
def LN{a b:Nat}(h:b<18446744073709551616):nG (nI a) (nI b)= .ok (nI (a*b)):=c_ _ (.inr (by omega))
def qw(a b:Nat):dO (nI a) (nI b)= .ok (nI (a+b)):=rfl
def Gw{a b:Nat}(h:b<=a):qy (nI a) (nI b)= .ok (nI (a - b)):=by
 show R.ok (D.int ((a:Int) - (b:Int)))=R.ok (D.int ((a - b:Nat):Int));congr 2;omega
def Zc(a b:Nat):oQ (nI a) (nI b)= .ok (.bl (a==b)):=by
 show R.ok (D.bl ((a:Int)==(b:Int)))=_;congr 2;rw[Qa6,Qba,Qba];omega
def Fx(ns:List Int)(k:Nat):∃c:Int,dv [.lst (ns.map .int),nI k]= .ok (.int c):=by
 by_cases h:k<ns.length
 .refine⟨ns[k],?_⟩;unfold dv mw;refine cV ?_;have e:CL (b2 VB (af 1) (aJ dU (aj (af 0) aH))) (gp (e2 bH (af 0) (af 1))) vc (dj gJ [.lst (ns.map .int), .int k])= .ok (.rt (.int ns[k])):=by
   refine tH ?_ (cL (av (a:= .lst (ns.map .int)) (b:= .int k) rfl rfl (zP (OR (by rw[Qad,Qac h];rfl)))))
   refine je (a:= .int k) (b:= .int ns.length) rfl (ax (ds:=[.lst (ns.map .int)]) rfl (by rw[jm,Qaa])) ?_
   show R.ok (D.bl (decide ((k:Int)<(ns.length:Int))))=_;rw[QaE (by omega)]
  unfold fG;rw[show dj gJ [.lst (ns.map .int),nI k]=dj gJ [.lst (ns.map .int), .int k] from rfl,e];rfl
 .refine⟨0,?_⟩;unfold dv mw;refine cV (bG (kB ?_ rfl) rfl);refine je (a:= .int k) (b:= .int ns.length) rfl (ax (ds:=[.lst (ns.map .int)]) rfl (by rw[jm,Qaa])) ?_
  show R.ok (D.bl (decide ((k:Int)<(ns.length:Int))))=_;rw[QaY (by omega)]
def xu(c:Int)(n:Nat)(hn:n<100):∃ns:List Nat,ns.length=n/\d8 [.int c,nI n]= .ok (.lst (ns.map nI)):=by
 have hz:=Qap;obtain⟨a,ha⟩:∃a:Nat,(if c<0 then -c else c)=(a:Int):=⟨(if c<0 then -c else c).toNat,by split <;> omega⟩
 obtain⟨cX,e1,ns,r,a4,a5,hl,hδ⟩:=kT (t:=aC 4) (body:=kq) (ds:=(List.range n).map nI)
  (fun i δ=>∃(ns:List Nat) (r:Nat) (a4 a5:Sl),ns.length=i/\δ=[.val (.int c), .val (nI n), .bld (ns.map nI), .val (nI r),a4,a5]) (δ:=[.val (.int c), .val (nI n), .bld [], .val (nI a), .un, .un]) ⟨[],a, .un, .un,rfl,rfl⟩ (by
    rintro i d δ hd ⟨ns,r,a4,a5,hl,rfl⟩;obtain⟨k,hk,rfl⟩:=NT.oa hd;have hkn:k<n:=QaL.mp (QaH hk);have hin:i<n:=by
     have:=(Qab.mp hk).1;simpa using this
    have hlen:(ns.map nI).length<sizeLine:=by rw[Qaa];omega
    rw[show aC 4 (nI k) [.val (.int c), .val (nI n), .bld (ns.map nI), .val (nI r),a4,a5]= .ok [.val (.int c), .val (nI n), .bld (ns.map nI), .val (nI r), .val (nI k),a5] from rfl,R.aS]
    unfold kq;have hc:b2 Wa (aJ cAbs (aj (af 0) aH)) (e2 QM (eC (.int 10)) (eC (.int 18))) [.val (.int c), .val (nI n), .bld (ns.map nI), .val (nI r), .val (nI k),a5]= .ok (decide ((a:Int)>=1000000000000000000)):=
     je (a:= .int a) (b:= .int 1000000000000000000) (ax (ds:=[.int c]) rfl (by show R.ok (D.int (if c<0 then -c else c))=_;rw [ha])) (av (a:= .int 10) (b:= .int 18) rfl rfl rfl) rfl
    cases q:decide ((a:Int)>=1000000000000000000) with
    | true=>
      rw[q] at hc;refine⟨_,tH hc (bG (vG (d:=nI (r % 1009)) (ds:=ns.map nI) (av (a:=nI r) (b:=nI 1009) rfl rfl (tS (by omega))) rfl hlen) (fO (d:=nI (r / 1009)) (av (a:=nI r) (b:=nI 1009) rfl rfl (NM (by omega) (by omega))) (by simp))),ns++[r % 1009],r / 1009, .val (nI k),a5,by simp [hl],?_⟩
      rw[Qas];rfl
    | false=>
      rw[q] at hc;generalize ho:(r % 2147483629+7919*(k+1)*(k+3)) % 2147483629=o;have hob:o<2147483629:=by rw[<-ho];exact Qcl _ (by omega)
      generalize NW:o*o % 2147483587+o / 7=o2;refine⟨_,kB hc (bG (fO (d:=nI o) (av (a:=nI (r % 2147483629+7919*(k+1)*(k+3))) (b:=nI 2147483629) (av (a:=nI (r % 2147483629)) (b:=nI (7919*(k+1)*(k+3))) (av (a:=nI r) (b:=nI 2147483629) rfl rfl (tS (by omega))) (av (a:=nI (7919*(k+1))) (b:=nI (k+3)) (av (a:=nI 7919) (b:=nI (k+1)) rfl (av (a:=nI k) (b:=nI 1) rfl rfl (qw _ _)) (LN (by omega))) (av (a:=nI k) (b:=nI 3) rfl rfl (qw _ _)) (LN (by omega))) (qw _ _)) rfl (by rw[<-ho];exact tS (by omega))) (by simp)) (bG (fO (d:=nI o2) (av (a:=nI (o*o % 2147483587)) (b:=nI (o / 7)) (av (a:=nI (o*o)) (b:=nI 2147483587) (av (a:=nI o) (b:=nI o) rfl rfl (LN (by omega))) rfl (tS (by omega))) (av (a:=nI o) (b:=nI 7) rfl rfl (NM (by omega) (by omega))) (by rw[<-NW];exact qw _ _)) (by simp)) (vG (d:=nI (o2*48271 % 2147483647 / 16)) (ds:=ns.map nI) (av (a:=nI (o2*48271 % 2147483647)) (b:=nI 16) (av (a:=nI (o2*48271)) (b:=nI 2147483647) (av (a:=nI o2) (b:=nI 48271) rfl rfl (LN (by omega))) rfl (tS (by omega))) rfl (NM (by omega) (by omega))) rfl hlen))),ns++[o2*48271 % 2147483647 / 16],r, .val (nI k), .val (nI o2),by simp [hl],?_⟩
      rw[Qas];rfl)
 rw[Qaa,Qaj] at hl;refine⟨ns,hl,?_⟩;unfold d8 qI;subst hδ;refine cV (bG (Ad (ds:=[]) rfl (by simp [dj,jU])) (bG (fO (d:=nI a) (ax (ds:=[.int c]) rfl (by show R.ok (D.int (if c<0 then -c else c))=_;rw [ha];rfl)) (by simp [dj,jU])) (bG (kE (ds:=(List.range n).map nI) ?_ e1) (cL rfl))))
 rw[<-fI];exact cU (n:=n) rfl (by omega)
def Mc(n:Nat):∃kd,kd<=4/\lz [nI n]= .ok (.tup [.str (kS kd),nI (ar kd)]):=by
 have key:∀r,r<7->∃kd,kd<=4/\bH (.lst [.tup [.str "and", .int 2], .tup [.str "or", .int 2], .tup [.str "xor", .int 2], .tup [.str "not", .int 1], .tup [.str "vote", .int 3], .tup [.str "and", .int 2], .tup [.str "xor", .int 2]]) (nI r)= .ok (.tup [.str (kS kd),nI (ar kd)]):=fun r hr=>by
  match r,hr with
  | 0,_=>exact⟨1,by omega,rfl⟩
  | 1,_=>exact⟨2,by omega,rfl⟩
  | 2,_=>exact⟨3,by omega,rfl⟩
  | 3,_=>exact⟨0,by omega,rfl⟩
  | 4,_=>exact⟨4,by omega,rfl⟩
  | 5,_=>exact⟨1,by omega,rfl⟩
  | 6,_=>exact⟨3,by omega,rfl⟩
 obtain⟨kd,h1,h2⟩:=key (n % 7) (Qcl _ (by omega))
 refine⟨kd,h1,?_⟩;unfold lz w9;exact cV (cL (av (b:=nI (n % 7)) rfl (av (a:=nI n) (b:=nI 7) rfl rfl (tS (by omega))) h2))
def q9{ms:List Nat}{n x:Nat}(h:ms[n]? =some x):bH (.lst (ms.map nI)) (nI n)= .ok (nI x):=NT.iz (by rw[Qad,h];rfl)
def gE(sc:D)(f m w n:Nat)(a5 a6 a7 a8 a9 a10 a11:Option V3):DE:=[some (.d sc),some (.d (nI f)),some (.d (nI m)),some (.d (nI w)),some (.loc n),a5,a6,a7,a8,a9,a10,a11]
def x0(S X:aN)(x:SO):(S++x ::X)[S.length]? =some x:=by rw[Qae (Qag _),QaQ];rfl
def y0(S X:aN)(x y:SO):(S++x ::X).set S.length y=S++y ::X:=by rw[Qa3 _ _ (Qag _),QaQ];rfl
def xL(S X:aN)(x y:SO):(S++x ::(X++[y]))[S.length+1+X.length]? =some y:=by
 rw[Qae (by omega),show S.length+1+X.length - S.length=X.length+1 by omega,QbE,Qae (Qag _),QaQ];rfl
def yL(S X:aN)(x y z:SO):(S++x ::(X++[y])).set (S.length+1+X.length) z=S++x ::(X++[z]):=by
 rw[Qa3 _ _ (by omega),show S.length+1+X.length - S.length=X.length+1 by omega,List.set_cons_succ,Qa3 _ _ (Qag _),QaQ];rfl
def Vx(w:Nat)(hw:0<w):∃mn:Nat,0<mn/\mn<=w/\uY [nI 4,nI w]= .ok (nI mn):=by
 by_cases h:w<4
 .refine⟨w,hw,Qag _,?_⟩;show R.ok (D.int (if(w:Int)<4 then(w:Int) else 4))=_
  rw[QaD (by omega)];rfl
 .refine⟨4,by omega,by omega,?_⟩
  show R.ok (D.int (if(w:Int)<4 then(w:Int) else 4))=_
  rw[QaB (by omega)];rfl
def Hf{sc:D}{f m w j x:Nat}{g0:SO}{S X:aN}{ms ws:List Nat}{a5 a7 a8 a11:Option V3}(hw:0<w)(hx:ms[1+j]? =some x)(hl:ws.length<1000) :
 W3 (mE (gE sc f m w S.length a5 (some (.d (.lst (ms.map nI)))) a7 a8 (some (.loc (S.length+1+X.length))) (some (.d (nI j))) a11) (S++g0 ::(X++[.lst (ws.map nI)]))) fun o S2=>∃(y:Nat) (Ly:Option V3),o= .nx (gE sc f m w S.length a5 (some (.d (.lst (ms.map nI)))) a7 a8 (some (.loc (S.length+1+X.length))) (some (.d (nI j))) Ly)/\y<w/\S2=S++g0 ::(X++[.lst ((ws++[y]).map nI)]):=by
 have hz:=Qap;obtain⟨mn,h1,h2,h3⟩:=Vx w hw;unfold mE gE;generalize hδ:down [some (.d sc),some (.d (nI f)),some (.d (nI m)),some (.d (nI w)),some (.loc S.length),a5,some (.d (.lst (ms.map nI))),a7,a8,some (.loc (S.length+1+X.length)),some (.d (nI j)),a11]=δ;have v6:af 6 δ= .ok (.lst (ms.map nI)):=by rw[<-hδ];rfl
 have v10:af 10 δ= .ok (nI j):=by rw[<-hδ];rfl
 have v3:af 3 δ= .ok (nI w):=by rw[<-hδ];rfl
 have ex:(e2 bH (af 6) (e2 dO (eC (.int 1)) (af 10))) δ= .ok (nI x):=av (a:= .lst (ms.map nI)) (b:=nI (1+j)) v6 (av (a:=nI 1) (b:=nI j) rfl v10 (qw _ _)) (q9 hx);have e2x:(e2 uR (e2 bH (af 6) (e2 dO (eC (.int 1)) (af 10))) (eC (.int 2))) δ= .ok (nI (x / 2)):=av (a:=nI x) (b:=nI 2) ex rfl (NM (by omega) (by omega))
 obtain⟨nr,hnr,en⟩:∃nr,nr<w/\bH (.lst [nI (x / 2 % mn),nI (x / 2 % w)]) (nI (x % 2))= .ok (nI nr):=by
  have:x % 2=0\/x % 2=1:=by omega
  rcases this with q | q
  .rw [q];exact⟨x / 2 % mn,QaC (Qcl _ h1) h2,rfl⟩
  .rw [q];exact⟨x / 2 % w,Qcl _ hw,rfl⟩
 refine aT<|bM (by simp)<|bZ (d:=nI nr) (by rw[hδ];exact av (a:= .lst [nI (x / 2 % mn),nI (x / 2 % w)]) (b:=nI (x % 2)) (cu (Fq (ds:=[nI (x / 2 % mn),nI (x / 2 % w)]) (au (av (a:=nI (x / 2)) (b:=nI mn) e2x (ax (ds:=[nI 4,nI w]) (au rfl (au v3 rfl)) h3) (tS h1)) (au (av (a:=nI (x / 2)) (b:=nI w) e2x v3 (tS hw)) rfl)) (by simp;omega))) (av (a:=nI x) (b:=nI 2) ex rfl (tS (by omega))) en) ⟨_,rfl,?_⟩
 simp only[List.set];refine jd (k:=S.length+1+X.length) rfl ⟨_,xL _ _ _ _⟩<|bZ (d:=nI (w - 1 - nr)) (av (a:=nI (w - 1)) (b:=nI nr) (av (a:=nI w) (b:=nI 1) rfl rfl (Gw (by omega))) rfl (Gw (by omega))) ⟨_,_,rfl,xL _ _ _ _,by rw[Qaa];omega,w - 1 - nr,_,rfl,by omega,?_⟩
 rw[yL,Qas];rfl
def J2(ns:List Int)(f m w:Nat)(hw:0<w)(hm:m<100)(hwb:w<1000){S:aN}(hS:ma S):W3 (kI [.d (.lst (ns.map .int)), .d (nI f), .d (nI m), .d (nI w)] S) fun v S1=>∃gs:List Gt,v= .d (.lst (gs.map cO))/\S1=S/\gs.length=m/\∀(i:Nat) (g:Gt),gs[i]? =some g->l0 (w+i) g:=by
 have hz:=Qap;unfold kI;refine g9 hS (vB rfl ?_);simp only[bQ,l6,List.map,List.length,List.replicate,Qav,QaA,Nat.reduceAdd,Nat.reduceSub];unfold pR;refine aT<|bM (by simp)<|ll (ds:=[]) rfl ⟨_,rfl,?_⟩
 simp only[List.set];refine aT<|gh<|kL (ds:=(List.range m).map nI) (by rw[<-fI];exact cU (n:=m) rfl (by omega)) ?_
 refine(cn (fun i δ S2=>∃(gs:List Gt) (X:aN) (a5 a6 a7 a8 a9 a10 a11:Option V3),gs.length=i/\(∀(i:Nat) (g:Gt),gs[i]? =some g->l0 (w+i) g)/\S2=S++SO.lst (gs.map cO) ::X/\δ=gE (.lst (ns.map .int)) f m (w+i) S.length a5 a6 a7 a8 a9 a10 a11)
  ⟨[],[],none,none,none,none,none,none,none,rfl,by simp,rfl,rfl⟩ ?_).mono fun o S2 ⟨ef,gm,gs,X,a5,a6,a7,a8,a9,a10,a11,hl,hgs,zr,hδ⟩=>⟨ef,gm,?_⟩
 .rintro i v δ S2 hv ⟨gs,X,a5,a6,a7,a8,a9,a10,a11,hl,hgs,rfl,rfl⟩;have hin:i<m:=by
   have:=(Qab.mp hv).1;simpa using this
  obtain⟨k,hk,rfl⟩:=NT.er hv;refine⟨gE (.lst (ns.map .int)) f m (w+i) S.length (some (.d (nI k))) a6 a7 a8 a9 a10 a11,rfl,?_⟩;unfold qN gE;obtain⟨c,hc⟩:=Fx ns (f+k);obtain⟨ms,hms,em⟩:=xu c 6 (by omega)
  obtain⟨YN,hx0⟩:∃x,ms[0]? =some x:=⟨ms[0],Qac (by omega)⟩
  obtain⟨x4,hx4⟩:∃x,ms[4]? =some x:=⟨ms[4],Qac (by omega)⟩
  obtain⟨kd,hkd,ek⟩:=Mc YN;have har:=y6 kd;refine aT<|bM (by simp)<|bZ (d:= .lst (ms.map nI)) (ax (ds:=[.int c,nI 6]) (au (ax (ds:=[.lst (ns.map .int),nI (f+k)]) (au rfl (au (av (a:=nI f) (b:=nI k) rfl rfl (qw _ _)) rfl)) hc) rfl) em) ⟨_,rfl,?_⟩
  simp only[List.set];refine aT<|Tt<|bZ (d:= .tup [.str (kS kd),nI (ar kd)]) (ax (ds:=[nI YN]) (au (av (a:= .lst (ms.map nI)) (b:=nI 0) rfl rfl (q9 hx0)) rfl) ek) ⟨_,rfl,_,rfl,?_⟩
  refine aT<|bM (by simp)<|ll (ds:=[]) rfl ⟨_,rfl,?_⟩
  have hlen:(S++SO.lst (gs.map cO) ::X).length=S.length+1+X.length:=by rw[Qau,QaM];omega
  rw[hlen,QaN,Qav];show W3 (bt _ _ (gE (.lst (ns.map .int)) f m (w+i) S.length (some (.d (nI k))) (some (.d (.lst (ms.map nI)))) (some (.d (.str (kS kd)))) (some (.d (nI (ar kd)))) (some (.loc (S.length+1+X.length))) a10 a11) _) _;refine aT<|gh<|kL (ds:=(List.range (ar kd)).map nI) (by rw[<-fI];exact cU (n:=ar kd) rfl (by omega)) ?_
  refine(cn (fun j δ S3=>∃(ws:List Nat) (OJ Ly:Option V3),ws.length=j/\(∀y∈ws,y<w+i)/\S3=S++SO.lst (gs.map cO) ::(X++[SO.lst (ws.map nI)])/\δ=gE (.lst (ns.map .int)) f m (w+i) S.length (some (.d (nI k))) (some (.d (.lst (ms.map nI)))) (some (.d (.str (kS kd)))) (some (.d (nI (ar kd)))) (some (.loc (S.length+1+X.length))) OJ Ly)
   ⟨[],a10,a11,rfl,by simp,rfl,rfl⟩ ?_).mono fun o S3 ⟨NS,e3,ws,OJ,Ly,HA,hws,Gj,K7⟩=>⟨NS,e3,?_⟩
  .rintro j u δ S3 hu ⟨ws,OJ,Ly,HA,hws,rfl,rfl⟩;have hjn:j<ar kd:=by
    have:=(Qab.mp hu).1;simpa using this
   obtain⟨k2,hk2,rfl⟩:=NT.er hu;have hk3:k2<ar kd:=QaL.mp (QaH hk2);refine⟨gE (.lst (ns.map .int)) f m (w+i) S.length (some (.d (nI k))) (some (.d (.lst (ms.map nI)))) (some (.d (.str (kS kd)))) (some (.d (nI (ar kd)))) (some (.loc (S.length+1+X.length))) (some (.d (nI k2))) Ly,rfl,?_⟩;refine(Hf (by omega) (Qac (by omega:1+k2<ms.length)) (by omega)).mono fun o S4 ⟨y,c11,eo,hy,NR⟩=>⟨_,eo,ws++[y],_,_,by simp [HA],?_,NR,rfl⟩
   intro z hz';rcases Qbm.mp hz' with q | q
   .exact hws z q
   .rw [QaS.mp q];exact hy
  rw[Qaa,Qaa,Qaj] at HA;subst K7 Gj;unfold gE;refine aT<|jd (k:=S.length) rfl ⟨_,x0 _ _ _⟩<|Ji (d:=cO (kd,ws,(x4 % 6==0))) ?_ (Px _) ⟨_,gs.map cO,rfl,x0 _ _ _,by rw[Qaa];omega,_,rfl,?_⟩
  .refine cI (ds:=[.str (kS kd), .tup (ws.map nI), .bl (x4 % 6==0)]) (au rfl (au (ax (ds:=[.lst (ws.map nI)]) (au (Jh rfl (fM (xL _ _ _ _))) rfl) rfl) (au (av (a:=nI (x4 % 6)) (b:=nI 0) (av (a:=nI x4) (b:=nI 6) (av (a:= .lst (ms.map nI)) (b:=nI 4) rfl rfl (q9 hx4)) rfl (tS (by omega))) rfl (Zc _ _)) rfl))) (by simp;omega)
  rw[y0];refine bM (by simp)<|bZ (d:=nI (w+i+1)) (av (a:=nI (w+i)) (b:=nI 1) rfl rfl (qw _ _)) ?_
  simp only[List.set];refine⟨_,rfl,gs++[(kd,ws,(x4 % 6==0))],X++[SO.lst (ws.map nI)],_,_,_,_,_,_,_,by simp [hl],?_,by rw[Qas];rfl,rfl⟩
  intro j g hj;by_cases hjl:j<gs.length
  .rw [Qam hjl] at hj;exact hgs j g hj
  .rw [Qae (by omega)] at hj
   have h0:j - gs.length=0:=by
    cases q:j - gs.length with
    | zero=>rfl
    | succ n=>rw [q] at hj;simp at hj
   rw[h0] at hj;cases hj;rw[show j=i by omega]
   exact⟨hkd,HA,hws⟩
 rw[Qaa,Qaa,Qaj] at hl;subst hδ zr;unfold gE;refine Cu (k:=S.length) (ds:=gs.map cO) rfl (x0 _ _ _) ?_;rw[y0];simp only[List.set];exact eQ<|bZ (d:= .lst (gs.map cO)) rfl ⟨.d (.lst (gs.map cO)),rfl,by unfold fT;rfl,⟨_,rfl⟩, .lst (gs.map cO),by unfold res;rfl,⟨gs,rfl,trivial,hl,hgs⟩⟩
end K43
end
section
set_option maxHeartbeats 800000
namespace K43
open PySem PySem.Spec PyProof.Rows L2 L3 MT
structure GN (l:Aac) (gs:List Gt) (os:Aad):Prop where
 no:iB l gs os
 c1:1<=l.length
 c:l.length<=4
 g:gs.length<=7
 w1:∀x∈l,x.2=1
 o:∀x∈os,∃w,x.2=[w]
 o1:1<=os.length
 ol:os.length<=3
 fi:∀x∈l,Ud x
 fo:∀x∈os,eN 0 (.str x.1)
def ES{l:Aac}{gs:List Gt}{os:Aad}(fi:∀x∈l,eN 0 (.str x.1))(fo:∀x∈os,eN 0 (.str x.1)):eN 4 (aM l gs os):=eN.tup fun d hd=>by
 simp only[Qar,Qbb,QbS] at hd;rcases hd with rfl | rfl | rfl
 .exact eN.lst fun d hd=>by
   obtain⟨x,hx,rfl⟩:=QaR.mp hd;exact(eN.tup (n:=0) fun d hd=>by
    simp only[Qar,Qbb,QbS] at hd;rcases hd with rfl | rfl
    .exact fi x hx
    .exact eN.int _).mono (by omega)
 .exact eN.lst fun d hd=>by obtain⟨x,hx,rfl⟩:=QaR.mp hd;exact PU
 .exact eN.lst fun d hd=>by obtain⟨x,hx,rfl⟩:=QaR.mp hd;exact Pz (fo x hx)
def Gg(d:D)(n:Nat):(List.replicate n [d]).flatten=List.replicate n d:=by
 induction n with
 | zero=>rfl
 | succ n ih=>rw [Qa8,Qbr,ih,Qa8];rfl
def Ky(k:Nat)(hk:k<4):∃s,eN 0 (.str s)/\bH (.lst [.str "a", .str "ab", .str "long", .str "x"]) (nI k)= .ok (.str s):=by
 have:k=0\/k=1\/k=2\/k=3:=by omega
 rcases this with rfl | rfl | rfl | rfl
 .exact⟨_,eN.str (by decide+kernel),rfl⟩
 .exact⟨_,eN.str (by decide+kernel),rfl⟩
 .exact⟨_,eN.str (by decide+kernel),rfl⟩
 .exact⟨_,eN.str (by decide+kernel),rfl⟩
def IB(k:Nat)(hk:k<3):∃s,eN 0 (.str s)/\bH (.lst [.str "b", .str "a", .str "outer"]) (nI k)= .ok (.str s):=by
 have:k=0\/k=1\/k=2:=by omega
 rcases this with rfl | rfl | rfl
 .exact⟨_,eN.str (by decide+kernel),rfl⟩
 .exact⟨_,eN.str (by decide+kernel),rfl⟩
 .exact⟨_,eN.str (by decide+kernel),rfl⟩
def VA(w:Nat)(hw:0<w):∃mn:Nat,0<mn/\mn<=w/\uY [nI w,nI 5]= .ok (nI mn):=by
 by_cases h:5<w
 .refine⟨5,by omega,by omega,?_⟩
  show R.ok (D.int (if(5:Int)<w then(5:Int) else w))=_
  rw[QaD (by omega)];rfl
 .refine⟨w,by omega,by omega,?_⟩
  show R.ok (D.int (if(5:Int)<w then(5:Int) else w))=_
  rw[QaB (by omega)];rfl
theorem FC:∀{l:Aac},(∀x∈l,x.2=1)->l7 l=l.length
 | [],_=>rfl
 | x ::l,h=>by
   have ih:=FC (l:=l) fun y hy=>h y (Qai _ hy)
   have hx:=h x Qat;unfold l7 at ih ⊢;rw[Qay,QbK,ih,hx,QaM];omega
def Ry(ns:List Int){S:aN}(hS:ma S):W3 (nY [.d (.lst (ns.map .int)), .d (nI 7)] S) fun v S1=>∃l gs os,v= .d (aM l gs os)/\S1=S/\GN l gs os:=by
 have hz:=Qap;obtain⟨c,hc⟩:=Fx ns 0;obtain⟨ms,hms,em⟩:=xu c 8 (by omega)
 have at':∀i,i<8->∃x,ms[i]? =some x:=fun i hi=>⟨ms[i],Qac (by omega)⟩
 obtain⟨h0,e0⟩:=at' 0 (by omega)
 obtain⟨h1,e1⟩:=at' 1 (by omega)
 obtain⟨h2,gm⟩:=at' 2 (by omega)
 unfold nY;refine g9 hS (vB rfl ?_);simp only[bQ,m7,List.map,List.length,List.replicate,Qav,QaA,Nat.reduceAdd,Nat.reduceSub];unfold ug;refine aT<|bM (by simp)<|bZ (d:= .lst (ms.map nI)) (ax (ds:=[.int c,nI 8]) (au (ax (ds:=[.lst (ns.map .int),nI 0]) rfl hc) rfl) em) ⟨_,rfl,?_⟩
 simp only[List.set];generalize hn:1+h0 % 4=n;have hn4:1<=n/\n<=4:=by omega
 refine aT<|bM (by simp)<|nT (fun j ds S2=>S2=S/\∃l:Aac,l.length=j/\(∀x∈l,Ud x/\x.2=1)/\ds=l.map MT.inD) (kL (ds:=(List.range n).map nI) ?_ ⟨by rw[Qaa,Qaa,Qaj];omega,⟨rfl,[],rfl,by simp,rfl⟩,?_,?_⟩)
 .rw [<-fI];exact cU (n:=n) (av (a:=nI 1) (b:=nI (h0 % 4)) rfl (av (a:=nI h0) (b:=nI 4) (av (a:= .lst (ms.map nI)) (b:=nI 0) rfl rfl (q9 e0)) rfl (tS (by omega))) (by rw[<-hn];exact qw _ _)) (by omega)
 .rintro j v ds S2 hv ⟨rfl,l,hl,hli,rfl⟩;obtain⟨k,hk,rfl⟩:=NT.er hv;have hkn:k<n:=QaL.mp (QaH hk);obtain⟨s,hs,es⟩:=Ky k (by omega)
  refine⟨[some (.d (nI k))],rfl,yN ?_⟩;rw[QaD rfl];refine bZ (d:=MT.inD (s,1)) (cI (ds:=[.str s,nI 1]) (au (av (a:= .lst [.str "a", .str "ab", .str "long", .str "x"]) (b:=nI k) rfl rfl es) rfl) (by simp;omega)) ⟨_,rfl,rfl,l++[(s,1)],by simp [hl],?_,by rw[Qas];rfl⟩
  intro x hx;rcases Qbm.mp hx with q | q
  .exact hli x q
  .rw [QaS.mp q];exact⟨⟨⟨by show 1<=1;omega,by show 1<=3;omega⟩,hs⟩,rfl⟩
 rintro ds S2 ⟨rfl,l,hl,hli,rfl⟩;rw[Qaa,Qaa,Qaj] at hl;refine⟨_,rfl,?_⟩;simp only[List.set];have hw:=FC (l:=l) fun x hx=>(hli x hx).2
 refine aT<|bM (by simp)<|cQ<|ay<|bZ (d:= .lst (ns.map .int)) rfl<|ay<|bZ (d:=nI 1) rfl<|ay<|bZ (d:=nI (h1 % 8)) (av (a:=nI h1) (b:=nI 8) (av (a:= .lst (ms.map nI)) (b:=nI 1) rfl rfl (q9 e1)) (av (a:=nI 7) (b:=nI 1) rfl rfl (qw _ _)) (tS (by omega)))<|ay<|bZ (d:=nI l.length) (ax (ds:=[.lst (l.map MT.inD)]) rfl (by rw[jm,Qaa];rfl))<|cb<|(J2 ns 1 (h1 % 8) l.length (by omega) (by omega) (by omega) hS).mono fun v S3 ⟨gs,ev,eS,hgl,hgs⟩=>⟨_,rfl,?_⟩
 subst ev eS;simp only[List.set];refine aT<|bM (by simp)<|ll (ds:=[]) rfl ⟨_,rfl,?_⟩
 simp only[List.set];generalize RX:1+h2 % 3=n2;have hn3:1<=n2/\n2<=3:=by omega
 refine aT<|gh<|kL (ds:=(List.range n2).map nI) ?_ ?_
 .rw [<-fI];exact cU (n:=n2) (av (a:=nI 1) (b:=nI (h2 % 3)) rfl (av (a:=nI h2) (b:=nI 3) (av (a:= .lst (ms.map nI)) (b:=nI 2) rfl rfl (q9 gm)) rfl (tS (by omega))) (by rw[<-RX];exact qw _ _)) (by omega)
 refine(cn (fun i δ S4=>∃(os:Aad) (a6 a7 a8:Option V3),os.length=i/\(∀x∈os,(∃w,x.2=[w]/\w<l.length+gs.length)/\eN 0 (.str x.1))/\S4=S3++[SO.lst (os.map vk)]/\δ=[some (.d (.lst (ns.map .int))),some (.d (nI 7)),some (.d (.lst (ms.map nI))),some (.d (.lst (l.map MT.inD))),some (.d (.lst (gs.map cO))),some (.loc S3.length),a6,a7,a8])
  ⟨[],none,none,none,rfl,by simp,rfl,rfl⟩ ?_).mono fun o S4 ⟨WK,e4,os,a6,a7,a8,hol,hoo,NR,hδ⟩=>⟨WK,e4,?_⟩
 .rintro i v δ S4 hv ⟨os,a6,a7,a8,hol,hoo,rfl,rfl⟩;have hin:i<n2:=by
   have:=(Qab.mp hv).1;simpa using this
  obtain⟨k,hk,rfl⟩:=NT.er hv;have hkn:k<n2:=QaL.mp (QaH hk);obtain⟨x3,ex3⟩:=at' (3+k) (by omega)
  obtain⟨s,hs,es⟩:=IB k (by omega)
  obtain⟨mn,m1,m2,m3⟩:=VA (l.length+gs.length) (by omega)
  have hxm:x3 % mn<mn:=Qcl _ m1;refine⟨_,rfl,?_⟩;unfold uO;refine aT<|bM (by simp)<|bZ (d:=nI (l.length+gs.length)) (av (a:=nI l.length) (b:=nI gs.length) (ax (ds:=[.lst (l.map MT.inD)]) rfl (by rw[jm,Qaa];rfl)) (ax (ds:=[.lst (gs.map cO)]) rfl (by rw[jm,Qaa];rfl)) (qw _ _)) ⟨_,rfl,?_⟩
  simp only[List.set];refine aT<|bM (by simp)<|bZ (d:=nI (l.length+gs.length - 1 - x3 % mn)) (av (a:=nI (l.length+gs.length - 1)) (b:=nI (x3 % mn)) (av (a:=nI (l.length+gs.length)) (b:=nI 1) rfl rfl (Gw (by omega))) (av (a:=nI x3) (b:=nI mn) (av (a:= .lst (ms.map nI)) (b:=nI (3+k)) rfl (av (a:=nI 3) (b:=nI k) rfl rfl (qw _ _)) (q9 ex3)) (ax (ds:=[nI (l.length+gs.length),nI 5]) rfl m3) (tS m1)) (Gw (by omega))) ⟨_,rfl,?_⟩
  simp only[List.set];refine jd (k:=S3.length) rfl ⟨_,bc _ _⟩<|bZ (d:=vk (s,[l.length+gs.length - 1 - x3 % mn])) (cI (ds:=[.str s, .tup [nI (l.length+gs.length - 1 - x3 % mn)]]) (au (av (a:= .lst [.str "b", .str "a", .str "outer"]) (b:=nI k) rfl rfl es) (au (cI (ds:=[nI (l.length+gs.length - 1 - x3 % mn)]) (au rfl rfl) (by simp;omega)) rfl)) (by simp;omega)) ⟨_,_,rfl,bc _ _,by rw[Qaa];omega,_,rfl,os++[(s,[l.length+gs.length - 1 - x3 % mn])],_,_,_,by simp [hol],?_,?_,rfl⟩
  .intro y hy;rcases Qbm.mp hy with q | q
   .exact hoo y q
   .rw [QaS.mp q];exact⟨⟨_,rfl,by omega⟩,hs⟩
  .rw [dG,Qas];rfl
 rw[Qaa,Qaa,Qaj] at hol;subst hδ NR;refine Cu (k:=S3.length) (ds:=os.map vk) rfl (bc _ _) ?_;simp only[List.set];rw[dG];refine eQ<|bZ (d:=aM l gs os) (cI (ds:=[.lst (l.map MT.inD), .lst (gs.map cO), .lst (os.map vk)]) ?_ (by simp;omega)) ⟨.d (aM l gs os),rfl,by unfold fT;rfl,⟨[SO.lV],rfl⟩,aM l gs os,by unfold res;rfl,l,gs,os,rfl,trivial,?_⟩
 .cases a6 <;> cases a7 <;> cases a8 <;> rfl
 .refine⟨⟨by omega,fun x hx=>by rw[(hli x hx).2];omega,by omega,fun i g hg=>by rw[hw];exact hgs i g hg,by omega,fun x hx=>?_⟩,by omega,by omega,by omega,fun x hx=>(hli x hx).2,fun x hx=>?_,by omega,by omega,fun x hx=>(hli x hx).1,fun x hx=>(hoo x hx).2⟩
  .obtain⟨⟨w,e,nE⟩,_⟩:=hoo x hx;rw[e,hw];exact⟨by simp,fun z hz=>by rw[QaS.mp hz];exact nE⟩
  .obtain⟨⟨w,e,_⟩,_⟩:=hoo x hx;exact⟨w,e⟩
end K43
end
section
set_option maxHeartbeats 4000000
namespace K43
open PySem PySem.Spec PyProof.Rows L2 L3 MT
def lo:Nat->Nat->List Bool
 | 0,_=>[]
 | k+1,p=>p.testBit k ::lo k p
theorem F4:∀c p,lo (c+1) p=lo c (p / 2)++[p.testBit 0]
 | 0,p=>rfl
 | c+1,p=>by
   show p.testBit (c+1) ::lo (c+1) p=(p / 2).testBit c ::lo c (p / 2)++[p.testBit 0];rw[F4 c p,Nat.testBit_succ];rfl
theorem Ca{α:Type}(f g:α->α):∀(l:List α) (p:Nat),(l.flatMap fun b=>[f b,g b])[p]? =(l[p / 2]?).map fun b=>if p.testBit 0 then g b else f b
 | [],p=>by simp
 | b ::l,0=>rfl
 | b ::l,1=>rfl
 | b ::l,p+2=>by
   rw[List.flatMap_cons];show(f b ::g b ::(l.flatMap fun b=>[f b,g b]))[p+2]? =_
   rw[QbE,QbE,Ca f g l p,show(p+2) / 2=p / 2+1 by omega,QbE]
   have:(p+2).testBit 0=p.testBit 0:=by rw[Nat.testBit_zero,Nat.testBit_zero,Nat.add_mod_right]
   rw[this]
theorem BR:∀c p,p<2 ^ c->(dm c)[p]? =some (lo c p)
 | 0,p,h=>by
   have:p=0:=by omega
   subst this;rfl
 | c+1,p,h=>by
   unfold dm;rw[Ca (fun b=>b++[false]) (fun b=>b++[true]),BR c (p / 2) (by rw[Nat.pow_succ] at h;omega),F4]
   show some _=some _;congr 1;cases p.testBit 0 <;> rfl
theorem N9:∀c p k,k<c->(lo c p).getD k false=p.testBit (c - 1 - k)
 | 0,_,_,h=>by omega
 | c+1,p,0,_=>rfl
 | c+1,p,k+1,h=>by
   show(lo c p).getD k false=_;rw[N9 c p k (by omega)]
   congr 1;omega
def ML{c k p:Nat}(hk:k<c)(hp:p<2 ^ c):R4 c k p=p.testBit (c - 1 - k):=by
 unfold R4;rw[Qan (l:=dm c),BR c p hp];exact N9 c p k hk
theorem E4(g:M->D)(b:M):∀(n:Nat) (ws:List M),(iU [] b n ws).map g=ws.map g++List.replicate n (g b)
 | 0,ws=>by simp [iU]
 | n+1,ws=>by
   unfold iU;have e:(fun p=>b p !=([]:List Int).contains ((iU [] b n ws).length:Int))=b:=by
    funext p;show(b p !=false)=b p;cases b p <;> rfl
   rw[e,Qas,E4 g b n ws,QaN,List.replicate_succ'];rfl
def bL(ws:List M)(p:Nat):List D:=ws.map fun f=>bI (f p)
def DJ(ws:List M)(p:Nat):(bL ws p).length=ws.length:=by unfold bL;rw [Qaa]
def Od{ws:List M}{p n:Nat}(h:n<ws.length):bH (.lst (bL ws p)) (nI n)= .ok (bI (g7 ws n p)):=NT.iz (by
 unfold bL;rw[Qad,Qac h];unfold g7;rw[Qan,Qac h];rfl)
def HP(b:Bool):kh (bI b)=true:=by cases b <;> rfl
theorem Fz:∀bs:List Bool,jc (bs.map bI)=true
 | []=>by unfold jc;rfl
 | b ::bs=>by
   rw[Qay];unfold jc;rw[HP,Fz bs];rfl
def Wh(a b:Nat):BV (nI a) (nI b)= .ok (nI (a / 2 ^ b)):=by
 show R.bV (decide ((0:Int)<=((b:Nat):Int))) (.ok (D.int ((a:Int) / 2 ^ ((b:Int)).toNat)))=_;rw[c_ _ (by omega),Qa4]
 congr 2
def VT(a n:Nat):EB (nI (a / 2 ^ n)) (nI 1)= .ok (bI (a.testBit n)):=by
 show R.ok (D.int (Builtin.bitAnd ((a / 2 ^ n:Nat):Int) ((1:Nat):Int)))=_;rw[sv,Nat.and_one_is_mod,Nat.testBit_eq_decide_div_mod_eq];have:a / 2 ^ n % 2=0\/a / 2 ^ n % 2=1:=by omega
 rcases this with q | q <;> rw[q] <;> rfl
def MY{l:Aac}{gs:List Gt}{os:Aad}{p:Nat}(hc:l.length<=6):jw [aM l gs os,nI p]= .ok (.tup ((List.range l.length).map fun k=>bI (p.testBit (l.length - 1 - k)))):=by
 have hz:=Qap;unfold jw xf;refine cV (bG (fO (d:=nI l.length) (ax (ds:=[.lst (l.map MT.inD)]) (au (av (a:=aM l gs os) (b:= .int 0) rfl rfl rfl) rfl) (by rw[jm,Qaa];rfl)) (by simp [dj,nQ])) (cL (ax (ds:=[.lst ((List.range l.length).map fun k=>bI (p.testBit (l.length - 1 - k)))]) (au (cu (bB (ds:=(List.range l.length).map nI) ?_ (by rw[Qaa,Qaj];omega) ?_)) rfl) rfl)))
 .rw [<-fI];exact cU (n:=l.length) rfl (by omega)
 .have:=NT.e_ (t:=aC 0) (c:=dC) (f:=e2 EB (e2 BV (af 1) (e2 qy (e2 qy (af 2) (eC (.int 1))) (af 0))) (eC (.int 1))) (δ:=[.un, .val (nI p), .val (nI l.length)]) (fun _:Nat=>true) nI (fun k=>bI (p.testBit (l.length - 1 - k))) (xs:=List.range l.length) fun k hk=>⟨[.val (nI k), .val (nI p), .val (nI l.length)],rfl,rfl,fun _=>by
   rw[QaL] at hk;exact av (a:=nI (p / 2 ^ (l.length - 1 - k))) (b:=nI 1) (av (a:=nI p) (b:=nI (l.length - 1 - k)) rfl (av (a:=nI (l.length - 1)) (b:=nI k) (av (a:=nI l.length) (b:=nI 1) rfl rfl (Gw (by omega))) rfl (Gw (by omega))) (Wh _ _)) rfl (VT _ _)⟩
  rw[QcQ.mpr (fun _ _=>rfl)] at this
  exact this
def NL{c p:Nat}(hp:p<2 ^ c):((List.range c).map fun k=>bI (p.testBit (c - 1 - k)))=(fU c).map fun f=>bI (f p):=by
 unfold fU;rw[Qax];refine Qa1 fun k hk=>?_
 rw[QaL] at hk;show _=bI (R4 c k p);rw[ML hk hp]
def Jc{kd:Nat}{bs:List Bool}(hk:kd<=4)(hl:bs.length=ar kd):∃mn mx sm nt df:Int,uY [.lst (bs.map bI)]= .ok (.int mn)/\ph [.lst (bs.map bI)]= .ok (.int mx)/\(oG [.lst (bs.map bI)]).bind (fun d=>lZ d (.int 2))= .ok (.int sm)/\(bH (.lst (bs.map bI)) (.int 0)).bind (fun d=>qy (.int 1) d)= .ok (.int nt)/\((oG [.lst (bs.map bI)]).bind fun d=>(RE d (.int 1)).bind fun d=>tG [d])= .ok (.int df)/\(zy (xp ["and","or","xor","not"] [mn,mx,sm,nt]) (Sum.inr (kS kd))).getD (.int df)=bI (gv kd bs):=by
 match kd,bs,hl with
 | 0,[a],_=>cases a <;> exact⟨_,_,_,_,_,rfl,rfl,rfl,rfl,rfl,rfl⟩
 | 1,[a,b],_=>cases a <;> cases b <;> exact⟨_,_,_,_,_,rfl,rfl,rfl,rfl,rfl,rfl⟩
 | 2,[a,b],_=>cases a <;> cases b <;> exact⟨_,_,_,_,_,rfl,rfl,rfl,rfl,rfl,rfl⟩
 | 3,[a,b],_=>cases a <;> cases b <;> exact⟨_,_,_,_,_,rfl,rfl,rfl,rfl,rfl,rfl⟩
 | 4,[a,b,c],_=>cases a <;> cases b <;> cases c <;> exact⟨_,_,_,_,_,rfl,rfl,rfl,rfl,rfl,rfl⟩
def Pk{α β:Type}{xs:List α}{ys:List β}{f:α->D}{g:β->D}{i:Nat}{v:V3}(h:((mm (xs.map f) (ys.map g)).map V3.d)[i]? =some v):∃x y,xs[i]? =some x/\ys[i]? =some y/\v= .d (.tup [f x,g y]):=by
 induction xs generalizing ys i with
 | nil=>simp [mm] at h
 | cons x xs ih=>
   cases ys with
   | nil=>simp [mm] at h
   | cons y ys=>
     cases i with
     | zero=>simp [mm] at h;exact⟨x,y,rfl,rfl,h.symm⟩
     | succ i=>simp only[mm,Qay,List.zip_cons_cons,QbE] at h ⊢;exact ih h
def F9{α β:Type}{xs:List α}{ys:List β}{f:α->D}{g:β->D}(h:xs.length=ys.length):((mm (xs.map f) (ys.map g)).map V3.d).length=xs.length:=by
 unfold mm;simp [h]
def Be{gs:List Gt}{T:List Nat}{w0:List M}{i:Nat}{g:Gt}(h:gs[i]? =some g):rX gs (nZ T) w0 (i+1)=rX gs (nZ T) w0 i++[fun p=>gF g (rX gs (nZ T) w0 i) p !=T.contains i]:=by
 conv=>lhs;unfold rX
 rw[h];simp only[KD]
def G3{l:Aac}{bits:List M}{i:Nat}{x:Str × Nat}{f:M}(h:l[i]? =some x)(h2:bits[i]? =some f):fq l bits [] (i+1)=iU [] f x.2 (fq l bits [] i):=by
 conv=>lhs;unfold fq
 rw[h,h2]
def tE(nt bs T:D)(q:Nat)(a5 a6 a7 a8 a9 a10:Option V3):DE:=[some (.d nt),some (.d bs),some (.d T),some (.d (.tup [])),some (.loc q),a5,a6,a7,a8,a9,a10]
def QG{S X:aN}{q:Nat}{y:SO}(h:S.length<=q):(S++X).set q y=S++X.set (q - S.length) y:=Qa3 _ _ h
def BG{S:aN}{q:Nat}{x:SO}{Y:aN}(h:S[q]? =some x):(S++Y)[q]? =some x:=by
 rw[Qam (Qab.mp h).1];exact h
def Kx{S:aN}{q:Nat}{ds:List D}(h:S[q]? =some (.lst ds)):Dz S (.loc q)=some ds:=by
 show du S q=some ds;unfold du;simp only[h]
def P1{S:aN}{p a:Nat}{ws:List M}{ns:List Nat}{δ:DE}{it:FA}{own:List Str}{kp:List Nat}{Q:V3->aN->Prop}(hn:∀n∈ns,n<ws.length)(hl:ns.length<1000)(hit:W3 (it δ S) fun vs S1=>vs=(ns.map nI).map V3.d/\S1=S)(hkp:pF own kp δ=[none,some (.loc a)])(e:S[a]? =some (.lst (bL ws p)))(h:Q (.d (.lst ((ns.map fun n=>g7 ws n p).map bI))) S) :
 W3 (lI it (kN 0) wb (xT (e2 bH (af 1) (af 0))) own kp δ S) Q:=by
 have hz:=Qap;refine nT (fun j ds S2=>S2=S/\ds=(((ns.map fun n=>g7 ws n p).map bI).take j)) (hit.mono fun vs S1 ⟨e1,gm⟩=>?_)
 subst e1 gm;refine⟨by rw[Qaa,Qaa];omega,⟨rfl,by simp⟩,?_,?_⟩
 .rintro j v ds S2 hv ⟨rfl,rfl⟩;obtain⟨n,hnj,rfl⟩:=NT.er hv;rw[hkp];refine⟨[some (.d (nI n)),some (.loc a)],rfl,yN ?_⟩;rw[QaD rfl];refine Ji (d:=bI (g7 ws n p)) (av (a:= .lst (bL ws p)) (b:=nI n) (Jh rfl (fM e)) rfl (Od (hn n (QaH hnj)))) (HP _) ⟨_,rfl,rfl,?_⟩;rw[QaU,Qad,Qad,hnj];rfl
 .rintro ds S2 ⟨rfl,rfl⟩;rw[Qaa,Qaa,Qbi (by simp)]
  exact h
def Of(a b:Bool):((dO (bI a) (.int (if b then 1 else 0))).bind fun d=>lZ d (.int 2))= .ok (bI (a !=b)):=by
 cases a <;> cases b <;> rfl
section
variable {c p:Nat} {l:Aac} {gs:List Gt} {os:Aad} {T:List Nat} {S:aN}
def FE(b:Bool):tG [.bl b]= .ok (.int (if b then 1 else 0)):=by cases b <;> rfl
def Gu{nt bs:D}{q i:Nat}{g:Gt}{ws:List M}{a5 a6 a9 a10:Option V3}(hg:l0 ws.length g)(hq:S[q]? =some (.lst (bL ws p)))(hl:ws.length<100000) :
 W3 (nM (tE nt bs (el T) q a5 a6 (some (.d (nI i))) (some (.d (cO g))) a9 a10) S) fun o S2=>∃b5 b9 OJ d,o= .nx (tE nt bs (el T) q b5 a6 (some (.d (nI i))) (some (.d (cO g))) b9 OJ)/\S2=(S++[SO.dct d]).set q (.lst (bL (ws++[fun p=>gF g ws p !=T.contains i]) p)):=by
 have hz:=Qap;obtain⟨hk,hgl,hgw⟩:=hg;have har:=y6 g.1;have hbl:(g.2.1.map fun n=>g7 ws n p).length=ar g.1:=by rw[Qaa];exact hgl
 obtain⟨mn,mx,sm,Yy,df,q1,q2,q3,q4,q5,q6⟩:=Jc hk hbl;unfold nM tE;refine aT<|bM (by simp)<|P1 (ns:=g.2.1) hgw (by omega) (kL (ds:=g.2.1.map nI) (pW (av (a:=cO g) (b:= .int 1) rfl rfl rfl)) ⟨rfl,rfl⟩) rfl hq ⟨_,rfl,?_⟩
 simp only[List.set];generalize hB:(g.2.1.map fun n=>g7 ws n p).map bI=B at q1 q2 q3 q4 q5
 refine aT<|bM (by simp)<|Nj (ns:=[mn,mx,sm,Yy]) ?_ rfl (by decide) ⟨_,rfl,?_⟩
 .refine au (ax (ds:=[.lst B]) rfl q1) (au (ax (ds:=[.lst B]) rfl q2) (au ?_ (au ?_ rfl)))
  .cases q:oG [.lst B] with
   | ok d=>rw [q] at q3;exact av (a:=d) (b:= .int 2) (ax (ds:=[.lst B]) rfl q) rfl q3
   | no=>rw [q] at q3;cases q3
   | ex _=>rw [q] at q3;cases q3
  .cases q:bH (.lst B) (.int 0) with
   | ok d=>rw [q] at q4;exact av (a:= .int 1) (b:=d) rfl (av (a:= .lst B) (b:= .int 0) rfl rfl q) q4
   | no=>rw [q] at q4;cases q4
   | ex _=>rw [q] at q4;cases q4
 simp only[List.set];refine aT<|bM (by simp)<|Py (k:=S.length) (x:=kS g.1) (d:= .int df) rfl (bc _ _) (av (a:=cO g) (b:= .int 0) rfl rfl rfl) ?_ ⟨_,rfl,?_⟩
 .cases q:oG [.lst B] with
  | ok d=>
    rw[q] at q5;cases q':RE d (.int 1) with
    | ok d'=>
      rw[R.aS,q',R.aS] at q5;exact ax (ds:=[d']) (au (av (a:=d) (b:= .int 1) (ax (ds:=[.lst B]) rfl q) rfl q') rfl) q5
    | no=>rw [R.aS,q'] at q5;cases q5
    | ex _=>rw [R.aS,q'] at q5;cases q5
  | no=>rw [q] at q5;cases q5
  | ex _=>rw [q] at q5;cases q5
 simp only[List.set];rw[q6];have ht:=Of (gv g.1 (g.2.1.map fun n=>g7 ws n p)) (T.contains i)
 cases qa:dO (bI (gv g.1 (g.2.1.map fun n=>g7 ws n p))) (.int (if T.contains i then 1 else 0)) with
 | ok d=>
   rw[qa,R.aS] at ht;refine jd (k:=q) rfl ⟨_,BG hq⟩<|bZ (d:=bI (gv g.1 (g.2.1.map fun n=>g7 ws n p) !=T.contains i)) (av (a:=d) (b:= .int 2) (av (a:=bI (gv g.1 (g.2.1.map fun n=>g7 ws n p))) (b:= .int (if T.contains i then 1 else 0)) rfl (ax (ds:=[.bl (T.contains i)]) (au (av (a:=nI i) (b:=el T) rfl rfl (SS i T)) rfl) (FE _)) qa) rfl ht) ⟨_,_,rfl,BG hq,by rw[DJ];omega,_,_,_,xp ["and","or","xor","not"] [mn,mx,sm,Yy],rfl,?_⟩
   unfold bL;rw[Qas];rfl
 | no=>rw [qa] at ht;cases ht
 | ex _=>rw [qa] at ht;cases ht
def NP(NO:iB l gs os)(hc:l.length=c)(Vj:c<=6)(hS:ma S){Q:V3->aN->Prop}(h:Q (.d (.lst (bL (Wd c l gs (nZ T) []) p))) S) :
 W3 (mi [.d (aM l gs os), .d (.tup ((fU c).map fun f=>bI (f p))), .d (el T), .d (.tup [])] S) Q:=by
 have hz:=Qap;have hml:(fU c).length=l.length:=by unfold fU;rw [Qaa,Qaj,hc]
 unfold mi;refine g9 hS (vB rfl ?_);simp only[bQ,jo,List.map,List.length,List.replicate,Qav,QaA,Nat.reduceAdd,Nat.reduceSub];unfold rH;refine aT<|bM (by simp)<|ll (ds:=[]) rfl ⟨_,rfl,?_⟩
 simp only[List.set];refine aT<|gh<|kL (ds:=mm ((fU c).map fun f=>bI (f p)) (l.map MT.inD)) rfl ?_
 refine(cn (fun i δ S2=>∃(X:aN) (q:Nat) (a5 a6:Option V3),S2=S++X/\S.length<=q/\S2[q]? =some (.lst (bL (fq l (fU c) [] i) p))/\δ=tE (aM l gs os) (.tup ((fU c).map fun f=>bI (f p))) (el T) q a5 a6 none none none none)
  ⟨[.lst []],S.length,none,none,rfl,Qag _,bc _ _,rfl⟩ ?_).mono fun o S2 ⟨ef,gm,X,q,a5,a6,zr,hq,hSq,hδ⟩=>⟨ef,gm,?_⟩
 .rintro i v δ S2 hv ⟨X,q,a5,a6,rfl,hq,hSq,rfl⟩;have hil:i<(fU c).length:=by
   have:=(Qab.mp hv).1;rw[F9 hml] at this;exact this
  obtain⟨f,x,hf,hx,rfl⟩:=Pk hv;have hxw:=NO.hw x (QaH hx);have hln:(fq l (fU c) [] i).length=l7 (l.take i):=j1 hml i (by omega)
  have HA:l7 (l.take i)<=100*(l.take i).length:=Al fun y hy=>NO.hw y (QbN hy)
  have htl:(l.take i).length<=6:=by rw[QaX];omega
  refine⟨tE (aM l gs os) (.tup ((fU c).map fun f=>bI (f p))) (el T) q (some (.d (bI (f p)))) (some (.d (MT.inD x))) none none none none,rfl,?_⟩
  unfold sQ tE;have hrep:=D8 (f:=gH (aj (af 5) aH)) (g:=e2 bH (af 6) (eC (.int 1))) (δ:=down [some (.d (aM l gs os)),some (.d (.tup ((fU c).map fun f=>bI (f p)))),some (.d (el T)),some (.d (.tup [])),some (.loc q),some (.d (bI (f p))),some (.d (MT.inD x)),none,none,none,none]) (ds:=[bI (f p)]) (n:=x.2) (Fq rfl (by simp;omega)) rfl (by omega) (by simp;omega)
  rw[Gg] at hrep;refine bM (by simp)<|Ua<|w_var (v:= .loc q) rfl<|bZ (d:= .lst (List.replicate x.2 (bI (f p)))) (cu hrep) ⟨bL (fq l (fU c) [] i) p,List.replicate x.2 (bI (f p)),Kx hSq,rfl,by rw[DJ,QaP];omega,?_⟩
  simp only[List.set];refine⟨_,rfl,X++[SO.lst (bL (fq l (fU c) [] i) p++List.replicate x.2 (bI (f p)))],(S++X).length,some (.d (bI (f p))),some (.d (MT.inD x)),QaN _ _ _,by rw[Qau];omega,?_,rfl⟩
  rw[bc];rw[G3 hx hf];unfold bL;rw[E4 (fun g=>bI (g p))]
 rw[F9 hml,hml] at hSq;subst hδ zr;generalize hw0:fq l (fU c) [] l.length=w0 at hSq;have hw0l:w0.length=l7 l:=by rw[<-hw0,j1 hml _ (Qag _),QaV]
 have HA:l7 l<=100*l.length:=Al NO.hw;have hgl:=NO.hg;unfold tE;refine aT<|bM (by simp)<|JL (ds:=bL w0 p) ?_ ?_ ⟨_,rfl,?_⟩
 .refine bB (ds:=cY (bL w0 p)) ?_ ?_ ?_
  .show ib (af 4) _=_;unfold ib;rw[Jh (v:= .loc q) (d:= .lst (bL w0 p)) rfl (fM hSq)];rfl
  .unfold cY;rw [Qaa,List.length_zipIdx,DJ];omega
  .have:=uk (t:=eg 2 (bh (aC 0) (bh (aC 1) ei))) (c:=dC) (f:=e2 lZ (e2 dO (af 1) (aJ tG (aj (e2 OB (af 0) (af 2)) aH))) (eC (.int 2))) (δ:=[.un, .un, .val (.tup [])]) (fun d=>match d with | .tup [_,b]=>b | _=> .cR) (ds:=cY (bL w0 p)) fun d hd=>by
    obtain⟨j,hj⟩:=List.mem_iff_getElem?.mp hd;have hv:((cY (bL w0 p)).map V3.d)[j]? =some (.d d):=by rw[Qad,hj];rfl
    obtain⟨d0,RO,ed⟩:=se hv;cases ed;obtain⟨g,_,rfl⟩:=NT.oa (show(w0.map fun f=>bI (f p))[j]? =some d0 from RO)
    refine⟨[.val (nI j), .val (bI (g p)), .val (.tup [])],rfl,rfl,?_⟩;have ht:=Of (g p) false;cases qa:dO (bI (g p)) (.int (if false then 1 else 0)) with
    | ok d=>
      rw[qa,R.aS] at ht;have e2:(g p !=false)=g p:=by cases g p <;> rfl
      rw[e2] at ht;exact av (a:=d) (b:= .int 2) (av (a:=bI (g p)) (b:= .int (if false then 1 else 0)) rfl (ax (ds:=[.bl false]) (au (av (a:=nI j) (b:= .tup []) rfl rfl (SS j [])) rfl) (FE _)) qa) rfl ht
    | no=>rw [qa] at ht;cases ht
    | ex _=>rw [qa] at ht;cases ht
   refine(show oM _ _ _ _ _=_ from this).trans ?_
   congr 1;unfold cY;rw[Qax];refine List.ext_getElem? fun j=>?_
   rw[Qad,QbM];cases(bL w0 p)[j]? <;> rfl
 .have:bL w0 p=(w0.map fun f=>f p).map bI:=by unfold bL;rw [Qax];rfl
  rw[this];exact Fz _
 simp only[List.set];refine aT<|gh<|kL (ds:=cY (gs.map cO)) rfl ?_
 refine(cn (fun i δ S2=>∃(X:aN) (q:Nat) (a5 a6 a7 a8 a9 a10:Option V3),S2=S++X/\S.length<=q/\S2[q]? =some (.lst (bL (rX gs (nZ T) w0 i) p))/\δ=tE (aM l gs os) (.tup ((fU c).map fun f=>bI (f p))) (el T) q a5 a6 a7 a8 a9 a10)
  ⟨X++[SO.lst (bL w0 p)],(S++X).length,a5,a6,none,none,none,none,QaN _ _ _,by rw[Qau];omega,bc _ _,rfl⟩ ?_).mono fun o S2 ⟨ef,gm,X,q,b5,b6,b7,b8,b9,OJ,zr,hq,hSq,hδ⟩=>⟨ef,gm,?_⟩
 .rintro i v δ S2 hv ⟨X,q,b5,b6,b7,b8,b9,OJ,rfl,hq,hSq,rfl⟩;obtain⟨d,hd,rfl⟩:=se hv;obtain⟨g,hg,rfl⟩:=NT.oa hd;have hil:=(Qab.mp hg).1;have hlen:(rX gs (nZ T) w0 i).length=w0.length+i:=n5 i (by omega)
  refine⟨tE (aM l gs os) (.tup ((fU c).map fun f=>bI (f p))) (el T) q b5 b6 (some (.d (nI i))) (some (.d (cO g))) b9 OJ,rfl,?_⟩
  refine(Gu (by rw[hlen,hw0l];exact NO.g i g hg) hSq (by omega)).mono fun o S4 ⟨c5,c9,c10,dd,eo,NR⟩=>⟨_,eo,(X++[SO.dct dd]).set (q - S.length) (.lst (bL (rX gs (nZ T) w0 (i+1)) p)),q,_,_,_,_,_,_,?_,hq,?_,rfl⟩
  .rw [NR,QaN,QG hq,Be hg]
  .rw [NR,Qao (by have:=(Qab.mp hSq).1;rw [Qau];omega),Be hg]
 have hen:((cY (gs.map cO)).map V3.d).length=gs.length:=by simp [cY]
 rw[hen] at hSq;subst hδ zr;unfold tE;refine eQ<|w_var (v:= .loc q) rfl ⟨.loc q,rfl,?_,⟨_,rfl⟩,_,fM hSq,?_⟩
 .show decide (S.length<=q)=true;exact QaE hq
 .rw [<-hw0] at*;exact h
end
end K43
end
section
set_option maxHeartbeats 400000
namespace K43
open PySem PySem.Spec PyProof.Rows L2 L3 MT
def P_{i j:Nat}(hi:i<1000)(hj:j<1000):Pr (.int i) (.int j)= .ok (.int ((i*2 ^ j:Nat):Int)):=by
 show R.bV (decide ((0:Int)<=j/\(j:Int)<1000/\ -1000<(i:Int)/\(i:Int)<1000)) (.ok (D.int ((i:Int)*2 ^ ((j:Int)).toNat)))=_;rw[c_ _ ⟨by omega,by omega,by omega,by omega⟩,Qa4]
 congr 2
def wy(x:Bool × Bool):D:=if x.1 then .int 0 else if x.2 then .int 1 else .cR
def Mh{bs:List Bool}(h:1<=bs.length/\bs.length<=3):nK [.tup (bs.map bI)]= .ok (wy (zC bs)):=by
 match bs,h with
 | [a],_=>cases a <;> rfl
 | [a,b],_=>cases a <;> cases b <;> rfl
 | [a,b,c],_=>cases a <;> cases b <;> cases c <;> rfl
 | [],h=>simp at h
 | _ ::_ ::_ ::_ ::_,h=>simp at h
section
variable {c p:Nat} {l:Aac} {gs:List Gt} {os:Aad} {T:List Nat} {S:aN}
def outD(W:List M)(p:Nat)(x:Str × List Nat):D:= .tup ((x.2.map fun n=>g7 W n p).map bI)
def jq(W:List M)(os:Aad)(p:Nat):D:= .lst (os.map fun x=>wy (pt W x p))
def J0(NO:iB l gs os)(hc:l.length=c)(Vj:c<=6)(hS:ma S){Q:V3->aN->Prop}(h:Q (.d (.lst (os.map (outD (Wd c l gs (nZ T) []) p)))) S) :
 W3 (mh [.d (aM l gs os), .d (.tup ((fU c).map fun f=>bI (f p))), .d (el T), .d (.tup [])] S) Q:=by
 have hz:=Qap;have hml:(fU c).length=l.length:=by unfold fU;rw [Qaa,Qaj,hc]
 have hWl:(Wd c l gs (nZ T) []).length=l7 l+gs.length:=by
  show(rX gs (nZ T) (fq l (fU c) [] l.length) gs.length).length=_;rw[n5 _ (Qag _),j1 hml _ (Qag _),QaV]
 have hol:=NO.ho;unfold mh;refine g9 hS (vB rfl ?_);simp only[bQ,kZ,List.map,List.length,List.replicate,Qav,QaA,Nat.reduceAdd,Nat.reduceSub];unfold rA;refine aT<|bM (by simp)<|cQ<|ay<|bZ (d:=aM l gs os) rfl<|ay<|bZ (d:= .tup ((fU c).map fun f=>bI (f p))) rfl<|ay<|bZ (d:=el T) rfl<|ay<|bZ (d:= .tup []) rfl<|cb ?_
 refine @NP c p l gs os T S NO hc Vj hS _ ?_;generalize Wd c l gs (nZ T) []=W at hWl h ⊢;refine⟨_,rfl,?_⟩;simp only[List.set];refine eQ<|bZ (d:= .lst (os.map (outD W p))) (cu (bB (ds:=os.map vk) (iy (av (a:=aM l gs os) (b:= .int 2) rfl rfl rfl)) (by rw[Qaa];omega) ?_)) ⟨.d (.lst (os.map (outD W p))),rfl,by unfold fT;rfl,⟨[],by simp⟩,_,by unfold res;rfl,h⟩
 have:=NT.e_ (t:=eg 2 (bh (aC 0) (bh (aC 1) ei))) (c:=dC) (f:=aJ il (aj (eNew (cj (cF (af 1)) (aC 0) dC (e2 bH (af 1) (af 0)) ["wire"] [2])) aH)) (δ:=[.un, .un, .val (.lst (bL W p))]) (fun _:Str × List Nat=>true) vk (outD W p) (xs:=os) fun x hx=>⟨[.val (.str x.1), .val (.tup (x.2.map nI)), .val (.lst (bL W p))],rfl,rfl,fun _=>by
  obtain⟨h1,h2⟩:=NO.o x hx;refine ax (ds:=[.lst ((x.2.map fun n=>g7 W n p).map bI)]) (au (cu (bB (ds:=x.2.map nI) (pW rfl) (by rw[Qaa];omega) ?_)) rfl) rfl
  have:=NT.e_ (t:=aC 0) (c:=dC) (f:=e2 bH (af 1) (af 0)) (δ:=[.un, .val (.lst (bL W p))]) (fun _:Nat=>true) nI (fun n=>bI (g7 W n p)) (xs:=x.2) fun n hn=>⟨[.val (nI n), .val (.lst (bL W p))],rfl,rfl,fun _=>av (a:= .lst (bL W p)) (b:=nI n) rfl rfl (Od (by rw[hWl];exact h2 n hn))⟩
  rw[QcQ.mpr (fun _ _=>rfl)] at this
  rw[Qax];exact this⟩
 rw[QcQ.mpr (fun _ _=>rfl)] at this
 exact this
def rn(NO:iB l gs os)(hc:l.length=c)(Vj:c<=6)(ho:∀x∈os,1<=x.2.length/\x.2.length<=3)(hS:ma S){Q:V3->aN->Prop}(h:Q (.d (.lst ((List.range (2 ^ c)).map (jq (Wd c l gs (nZ T) []) os)))) S) :
 W3 (dF [.d (aM l gs os), .d (el T)] S) Q:=by
 have hz:=Qap;have hpow:2 ^ c<=64:=Qbq (by omega) (by omega:c<=6)
 have hol:=NO.ho;unfold dF;refine g9 hS (vB rfl ?_);simp only[bQ,gO,List.map,List.length,List.replicate,Qav,QaA,Nat.reduceAdd,Nat.reduceSub];unfold my;refine aT<|bM (by simp)<|ll (ds:=[]) rfl ⟨_,rfl,?_⟩
 simp only[List.set];refine aT<|gh<|kL (ds:=(List.range (2 ^ c)).map nI) ?_ ?_
 .rw [<-fI];refine cU (n:=2 ^ c) (av (a:= .int (1:Nat)) (b:= .int c) rfl (ax (ds:=[.lst (l.map MT.inD)]) (au (av (a:=aM l gs os) (b:= .int 0) rfl rfl rfl) rfl) (by rw[jm,Qaa,hc])) ?_) (by omega)
  rw[P_ (by omega) (by omega),Qb2]
 refine(cn (fun i δ S2=>∃a3,S2=S++[SO.lst (((List.range (2 ^ c)).take i).map (jq (Wd c l gs (nZ T) []) os))]/\δ=[some (.d (aM l gs os)),some (.d (el T)),some (.loc S.length),a3])
  ⟨none,by simp,rfl⟩ ?_).mono fun o S2 ⟨ef,gm,a3,zr,hδ⟩=>⟨ef,gm,?_⟩
 .rintro i v δ S2 hv ⟨a3,rfl,rfl⟩;obtain⟨p,hp,rfl⟩:=NT.er hv;have hpc:p<2 ^ c:=QaL.mp (QaH hp);have hil:i<2 ^ c:=by
   have:=(Qab.mp hp).1;simpa using this
  refine⟨[some (.d (aM l gs os)),some (.d (el T)),some (.loc S.length),some (.d (nI p))],rfl,?_⟩;unfold oO;have hcl:ma (S++[SO.lst (((List.range (2 ^ c)).take i).map (jq (Wd c l gs (nZ T) []) os))]):=ma.push hS fun _=>rfl
  have hbits:jw [aM l gs os,nI p]= .ok (.tup ((fU c).map fun f=>bI (f p))):=by rw[MY (by omega),hc,NL hpc]
  refine jd (k:=S.length) rfl ⟨_,bc _ _⟩<|nT (fun j ds S2=>S2=S++[SO.lst (((List.range (2 ^ c)).take i).map (jq (Wd c l gs (nZ T) []) os))]/\ds=(os.take j).map fun x=>wy (pt (Wd c l gs (nZ T) []) x p)) (zO<|cQ<|ay<|bZ (d:=aM l gs os) rfl<|ay<|bZ (d:= .tup ((fU c).map fun f=>bI (f p))) (ax (ds:=[aM l gs os,nI p]) rfl hbits)<|ay<|bZ (d:=el T) rfl<|ay<|bZ (d:= .tup []) (cI rfl (by simp))<|cb ?_)
  refine @J0 c p l gs os T _ NO hc Vj hcl _ ?_;generalize Wd c l gs (nZ T) []=W;refine⟨_,rfl,by rw[Qaa,Qaa];omega,⟨rfl,by simp⟩,?_,?_⟩
  .rintro j u ds S3 hu ⟨rfl,rfl⟩;obtain⟨x,hx,rfl⟩:=NT.er hu;have hxo:=ho x (QaH hx);refine⟨[some (.d (outD W p x))],rfl,yN ?_⟩;rw[QaD rfl];refine bZ (d:=wy (pt W x p)) (ax (ds:=[outD W p x]) rfl ?_) ⟨_,rfl,rfl,?_⟩
   .unfold outD;rw[Mh (by rw[Qaa];exact hxo)]
    unfold pt tell;rw[Qax];rfl
   .rw [QaU,hx,Qas];rfl
  .rintro ds S3 ⟨rfl,rfl⟩;rw[Qaa,Qaa,QaV];refine⟨jq W os p,_,rfl,bc _ _,by rw[Qaa,QaX];omega,_,rfl,_,?_,rfl⟩
   rw[dG,QaU,hp,Qas];rfl
 subst hδ zr;rw[Qaa,Qaa,Qbi (by simp)]
 refine eQ<|w_var (v:= .loc S.length) rfl ⟨.loc S.length,rfl,?_,⟨_,rfl⟩,_,fM (bc _ _),h⟩
 show decide (S.length<=S.length)=true;exact QaE (Qag _)
end
def MW(x:Bool × Bool):Option Bool:=if x.1 then some false else if x.2 then some true else none
def Dm(safe:Bool)(x y:Bool × Bool):Bool:=(MW y !=MW x) && (!safe || (MW y).isSome)
def Sy(x y:Bool × Bool):Cn (wy y) (wy x)= .ok (.bl (MW y !=MW x)):=by
 obtain⟨a,b⟩:=x;obtain⟨c,d⟩:=y;cases a <;> cases b <;> cases c <;> cases d <;> rfl
def Pn(y:Bool × Bool):DY (wy y) .cR= .ok (.bl (MW y).isSome):=by
 obtain⟨c,d⟩:=y;cases c <;> cases d <;> rfl
def Ie(xs:List Bool):((zC xs).1 && (zC xs).2)=false:=by
 unfold zC;split
 .rename_i a;cases a <;> rfl
 .rename_i a b;cases a <;> cases b <;> rfl
 .rename_i a b c;cases a <;> cases b <;> cases c <;> rfl
 .rfl
def IY(safe:Bool):oQ (.str (pz safe)) (.str "right")= .ok (.bl (!safe)):=by cases safe <;> rfl
theorem Bm{α:Type}(f g:α->D):∀xs:List α,mm (xs.map f) (xs.map g)=xs.map fun x=> .tup [f x,g x]
 | []=>rfl
 | x ::xs=>by
   unfold mm;rw[Qay,Qay,List.zip_cons_cons,Qay,Qay];congr 1;exact Bm f g xs
theorem Bz{α:Type}(q:α->Bool)(d:D):∀xs:List α,(xs.findSome? fun x=>if q x then some d else none)=if xs.any q then some d else none
 | []=>rfl
 | x ::xs=>by
   rw[QcP,QbC];cases q x with
   | true=>rfl
   | false=>exact Bz q d xs
section
variable {os:Aad} {W0 W1:List M} {safe:Bool} {N:Nat}
def lE(A B lv:D)(a3 a4 a5:Sl):az:=[.val A, .val B, .val lv,a3,a4,a5]
def Er(hN:N<=64)(ho:os.length<1000):∃d,iG [.lst ((List.range N).map (jq W0 os)), .lst ((List.range N).map (jq W1 os)), .str (pz safe)]= .ok d/\DY d .cR= .ok (.bl ((List.range N).any fun p=>os.any fun x=>Dm safe (pt W0 x p) (pt W1 x p))):=by
 have hz:=Qap;unfold iG tO;generalize hA:D.lst ((List.range N).map (jq W0 os))=A;generalize hB:D.lst ((List.range N).map (jq W1 os))=B;have ixA:∀p,p<N->bH A (nI p)= .ok (jq W0 os p):=fun p hp=>by rw[<-hA];exact NT.iz (by rw[Qad,Qa2 hp];rfl)
 have ixB:∀p,p<N->bH B (nI p)= .ok (jq W1 os p):=fun p hp=>by rw[<-hB];exact NT.iz (by rw[Qad,Qa2 hp];rfl)
 have lenA:dU [A]= .ok (nI N):=by rw[<-hA,jm,Qaa,Qaj];rfl
 obtain⟨o,e,h⟩:=qY (t:=aC 3) (body:=lA) nI (fun p=>if os.any (fun x=>Dm safe (pt W0 x p) (pt W1 x p)) then some (nI p) else none) (fun δ=>∃a3 a4 a5,δ=lE A B (.str (pz safe)) a3 a4 a5) (xs:=List.range N) (δ:=lE A B (.str (pz safe)) .un .un .un) ⟨_,_,_,rfl⟩ (by
  rintro p hp δ ⟨a3,a4,a5,rfl⟩;rw[QaL] at hp;rw[show aC 3 (nI p) (lE A B (.str (pz safe)) a3 a4 a5)= .ok (lE A B (.str (pz safe)) (.val (nI p)) a4 a5) from rfl,R.aS]
  unfold lA;obtain⟨o,e,h⟩:=qY (t:=eg 2 (bh (aC 4) (bh (aC 5) ei))) (body:=lg) (fun x=> .tup [wy (pt W0 x p),wy (pt W1 x p)]) (fun x=>if Dm safe (pt W0 x p) (pt W1 x p) then some (nI p) else none) (fun δ=>∃a4 a5,δ=lE A B (.str (pz safe)) (.val (nI p)) a4 a5) (xs:=os) (δ:=lE A B (.str (pz safe)) (.val (nI p)) a4 a5) ⟨_,_,rfl⟩ (by
   rintro x hx δ ⟨a4,a5,rfl⟩;generalize pt W0 x p=X;generalize pt W1 x p=Y;rw[show eg 2 (bh (aC 4) (bh (aC 5) ei)) (.tup [wy X,wy Y]) (lE A B (.str (pz safe)) (.val (nI p)) a4 a5)= .ok (lE A B (.str (pz safe)) (.val (nI p)) (.val (wy X)) (.val (wy Y))) from rfl,R.aS]
   unfold lg;have hc:Ht (b2 Cn (af 5) (af 4)) (TX (b2 oQ (af 2) (eC (.str "right"))) (b2 DY (af 5) (eC .cR))) (lE A B (.str (pz safe)) (.val (nI p)) (.val (wy X)) (.val (wy Y)))= .ok (Dm safe X Y):=by
    unfold Ht TX Dm;rw[je (a:=wy Y) (b:=wy X) rfl rfl (Sy X Y),R.aS];cases MW Y !=MW X with
    | false=>rfl
    | true=>
      rw[QaD rfl,je (a:= .str (pz safe)) (b:= .str "right") rfl rfl (IY safe),R.aS];cases safe with
      | false=>rfl
      | true=>
        rw[QaB (by decide),je (a:=wy Y) (b:= .cR) rfl rfl (Pn Y)]
        rfl
   cases q:Dm safe X Y with
   | true=>rw [q] at hc;exact⟨_,tH hc (cL rfl),rfl⟩
   | false=>rw [q] at hc;exact⟨_,kB hc rfl,_,rfl,_,_,rfl⟩)
  rw[Bz] at h;refine⟨o,kE (ds:=os.map fun x=> .tup [wy (pt W0 x p),wy (pt W1 x p)]) ?_ e,?_⟩
  .unfold F8;rw[av (a:=A) (b:=nI p) rfl rfl (ixA p hp),R.aS,av (a:=B) (b:=nI p) rfl rfl (ixB p hp),R.aS];show R.ok (mm _ _)=_;rw[Bm]
  .cases q:os.any (fun x=>Dm safe (pt W0 x p) (pt W1 x p)) with
   | true=>rw [q] at h;exact h
   | false=>rw [q] at h;obtain⟨ef,gm,b4,b5,e3⟩:=h;exact⟨ef,gm,_,b4,b5,e3⟩)
 have hit:cH (aJ dU (aj (af 0) aH)) (lE A B (.str (pz safe)) .un .un .un)= .ok ((List.range N).map nI):=by
  rw[<-fI];exact cU (n:=N) (ax (ds:=[A]) rfl lenA) (by omega)
 cases q:(List.range N).findSome? (fun p=>if os.any (fun x=>Dm safe (pt W0 x p) (pt W1 x p)) then some (nI p) else none) with
 | none=>
   rw[q] at h;obtain⟨ef,rfl,b3,b4,b5,rfl⟩:=h;refine⟨.cR,cV (bG (kE hit e) (cL rfl)),?_⟩;have:((List.range N).any fun p=>os.any fun x=>Dm safe (pt W0 x p) (pt W1 x p))=false:=by
    rw[Qbj];intro p hp hq;have:=Qb9.mp q p hp;rw[QaD hq] at this;cases this
   rw[this];rfl
 | some d=>
   rw[q] at h;subst h;obtain⟨p,hp,hd⟩:=List.exists_of_findSome?_eq_some q;have hq:os.any (fun x=>Dm safe (pt W0 x p) (pt W1 x p))=true:=by
    cases z:os.any (fun x=>Dm safe (pt W0 x p) (pt W1 x p)) with
    | true=>rfl
    | false=>rw [z] at hd;cases hd
   rw[hq,QaD rfl] at hd;cases hd;refine⟨nI p,cV (NT.nU (kE hit e)),?_⟩;have:((List.range N).any fun p=>os.any fun x=>Dm safe (pt W0 x p) (pt W1 x p))=true:=List.any_eq_true.mpr ⟨p,hp,hq⟩
   rw[this];rfl
end
def IA:eN 3 nh:=by
 unfold nh;exact(eN.tup (n:=0) fun d hd=>by rw[QaS.mp hd];exact eN.str (by decide+kernel)).mono (by omega)
def LY:oQ nh nh= .ok (.bl true):=NT.eq_self IA (by omega)
def xC{a b:D}{k:Bool}(h:oQ a b= .ok (.bl k)):Cn a b= .ok (.bl (!k)):=by
 unfold oQ at h;unfold Cn;cases q:Mx a b with
 | ok d=>rw [q] at h;cases h;rfl
 | no=>rw [q] at h;cases h
 | ex _=>rw [q] at h;cases h
def KG{safe:Bool}{x:Bool × Bool}(h:(x.1 && x.2)=false):brk safe x x=false:=by
 obtain⟨a,b⟩:=x;cases a <;> cases b <;> cases safe <;> first | rfl | cases h
section
variable {c m:Nat} {ins:Aac} {gs:List Gt} {os:Aad} {safe:Bool}
def L8{p:Nat}:An safe c ins gs os [] p=false:=by
 unfold An;rw[Qbj];intro x _;rw[KG (by unfold pt;exact Ie _)]
 decide
def HS{T:List Nat}(h:∀p,p<2 ^ c->An safe c ins gs os (nZ T) p=false):qx safe c ins gs os T=none:=by
 unfold qx;rw[Qb1.mpr fun p hp=>by rw[h p (QaL.mp hp)];decide]
 rfl
def qT(h:∀s,1<=s->s<=m->∀T∈rZ (rY gs) s,∀p,p<2 ^ c->An safe c ins gs os (nZ T) p=false):bears safe c ins gs os m=nh:=by
 unfold bears;have:((List.range (m+1)).findSome? fun s=>(rZ (rY gs) s).findSome? (qx safe c ins gs os))=none:=by
  rw[Qb9];intro s hs;rw[Qb9];intro T hT;refine HS fun p hp=>?_
  have hs:=QaL.mp hs;cases s with
  | zero=>
    have:T=[]:=List.length_eq_zero_iff.mp (t7 hT).1;subst this;exact L8
  | succ s=>exact h _ (by omega) (by omega) T hT p hp
 rw[this];rfl
def vz{x:Nat}:x∈rY gs↔∃g,gs[x]? =some g/\g.2.2=false:=by
 unfold rY;rw[Qbg,QaL];constructor
 .rintro⟨h1,h2⟩;rw[Qac h1] at h2 ⊢;exact⟨_,rfl,by simpa using h2⟩
 .rintro⟨g,hg,h⟩;refine⟨(Qab.mp hg).1,?_⟩;rw[hg];show(!g.2.2)=true;rw[h];rfl
end
section
variable {c m:Nat} {ins:Aac} {gs:List Gt} {os:Aad} {safe:Bool}
def Ab{x:Nat}:x∈rY (fR m gs)↔∃i k,k<m/\x=m*i+k/\i∈rY gs:=by
 rw[vz];constructor
 .rintro⟨g,hg,hs⟩;have hi:x<m*gs.length:=by rw[<-kf];exact(Qab.mp hg).1
  have hm0:0<m:=by
   cases m with
   | zero=>rw [Nat.zero_mul] at hi;omega
   | succ n=>omega
  have hq:x / m<gs.length:=QcK hi;have hr:=Qcl x hm0;have h2:=sC (m:=m) (k:=x % m) (Qac hq) hr;rw[Nat.div_add_mod,hg] at h2;cases h2;exact⟨x / m,x % m,hr,(Nat.div_add_mod x m).symm,vz.mpr ⟨_,Qac hq,hs⟩⟩
 .rintro⟨i,k,hk,rfl,hu⟩;obtain⟨g,hg,hs⟩:=vz.mp hu;exact⟨_,sC hg hk,hs⟩
structure Pl (c:Nat) (ins:Aac) (gs:List Gt) (os:Aad):Prop where
 no:iB ins gs os
 hc:ins.length=c
 w1:∀x∈ins,x.2=1
 o1:∀x∈os,∃w,x.2=[w]
def Pl.l7(P:Pl c ins gs os):MT.l7 ins=ins.length:=by rw[pf P.w1,Qb2]
def Pl.g(P:Pl c ins gs os)(i:Nat)(g:Gt)(h:gs[i]? =some g):l0 (ins.length+i) g:=by
 have:=P.no.g i g h;rw[P.l7] at this;exact this
def wv(c:Nat)(ins:Aac)(gs:List Gt)(T:List Int)(w p:Nat):Bool:=g7 (Wd c ins gs T []) w p
def LO(P:Pl c ins gs os){x:Str × List Nat}{w p:Nat}{T:List Int}(hx:x∈os)(hw:x.2=[w]) :
 (tell (Wd c (bY m ins) (fR m gs) T []) (x.1,(List.range m).map fun k=>m*x.2.getD 0 0+k)).map (· p)=(List.range m).map fun k=>wv c ins gs (shr m k gs.length T) w p:=by
 unfold tell;rw[hw];show(((List.range m).map fun k=>m*w+k).map (g7 _)).map (· p)=_
 rw[Qax,Qax];refine Qa1 fun k hk=>?_
 have h2:=(P.no.o x hx).2 w (by rw[hw];simp)
 rw[P.l7] at h2;have:=vA (m:=m) (p:=p) (T:=T) (bad:=[]) (bits:=fU c) (by rw[s_,P.hc]) P.w1 P.g (w+1) w (by omega) h2 k (QaL.mp hk)
 rw[tP] at this;exact this
def wZ{k w p:Nat}:wv c ins gs (shr m k gs.length []) w p=wv c ins gs [] w p:=by rw[tP]
def r_{k i w p:Nat}(hk:k<m):wv c ins gs (shr m k gs.length (nZ [m*i+k])) w p=wv c ins gs (nZ [i]) w p:=by
 have e:Wd c ins gs (shr m k gs.length (nZ [m*i+k])) []=Wd c ins gs (nZ [i]) []:=wQ fun j hj=>Jd hk j hj
 unfold wv;rw[e]
def j4{k k' i w p:Nat}(hk:k<m)(Uu:k'<m)(h:k'≠k):wv c ins gs (shr m k' gs.length (nZ [m*i+k])) w p=wv c ins gs [] w p:=by
 have e:Wd c ins gs (shr m k' gs.length (nZ [m*i+k])) []=Wd c ins gs [] []:=wQ fun j hj=>GY hk Uu h j hj
 unfold wv;rw[e]
def Fc(P:Pl c ins gs os){x:Str × List Nat}{w p:Nat}{T:List Int}(hx:x∈os)(hw:x.2=[w]) :
 pt (Wd c (bY m ins) (fR m gs) T []) (x.1,(List.range m).map fun k=>m*x.2.getD 0 0+k) p=zC ((List.range m).map fun k=>wv c ins gs (shr m k gs.length T) w p):=by
 unfold pt;rw[LO P hx hw]
def NZ{x:Str × List Nat}{w p:Nat}{T:List Int}(hw:x.2=[w]):pt (Wd c ins gs T []) x p=(!(wv c ins gs T w p),wv c ins gs T w p):=by
 unfold pt tell;rw[hw];rfl
def Cb(P:Pl c ins gs os){i k p:Nat}(hk:k<3):An safe c (bY 3 ins) (fR 3 gs) (C8 3 os) (nZ [3*i+k]) p=false:=by
 unfold An C8;rw[List.any_map,Qbj];intro x hx;obtain⟨w,hw⟩:=P.o1 x hx;show ¬brk safe (pt _ _ p) (pt _ _ p)=true;rw[Fc P hx hw,Fc P hx hw];show ¬brk safe (zC [wv c ins gs (shr 3 0 gs.length []) w p,wv c ins gs (shr 3 1 gs.length []) w p,wv c ins gs (shr 3 2 gs.length []) w p]) (zC [wv c ins gs (shr 3 0 gs.length (nZ [3*i+k])) w p,wv c ins gs (shr 3 1 gs.length (nZ [3*i+k])) w p,wv c ins gs (shr 3 2 gs.length (nZ [3*i+k])) w p])=true;rw[wZ,wZ,wZ];rcases(by omega:k=0\/k=1\/k=2) with rfl | rfl | rfl
 .rw [r_ hk,j4 hk (by omega) (by omega),j4 hk (by omega) (by omega)]
  cases wv c ins gs [] w p <;> cases wv c ins gs (nZ [i]) w p <;> cases safe <;> decide
 .rw [r_ hk,j4 hk (by omega) (by omega),j4 hk (by omega) (by omega)]
  cases wv c ins gs [] w p <;> cases wv c ins gs (nZ [i]) w p <;> cases safe <;> decide
 .rw [r_ hk,j4 hk (by omega) (by omega),j4 hk (by omega) (by omega)]
  cases wv c ins gs [] w p <;> cases wv c ins gs (nZ [i]) w p <;> cases safe <;> decide
def Mu(P:Pl c ins gs os){x:Str × List Nat}{w i k p:Nat}(hk:k<2)(hx:x∈os)(hw:x.2=[w]) :
 brk safe (pt (Wd c (bY 2 ins) (fR 2 gs) [] []) (x.1,(List.range 2).map fun k=>2*x.2.getD 0 0+k) p) (pt (Wd c (bY 2 ins) (fR 2 gs) (nZ [2*i+k]) []) (x.1,(List.range 2).map fun k=>2*x.2.getD 0 0+k) p)=(!safe && (wv c ins gs [] w p !=wv c ins gs (nZ [i]) w p)):=by
 rw[Fc P hx hw,Fc P hx hw];show brk safe (zC [wv c ins gs (shr 2 0 gs.length []) w p,wv c ins gs (shr 2 1 gs.length []) w p]) (zC [wv c ins gs (shr 2 0 gs.length (nZ [2*i+k])) w p,wv c ins gs (shr 2 1 gs.length (nZ [2*i+k])) w p])=_;rw[wZ,wZ];rcases(by omega:k=0\/k=1) with rfl | rfl
 .rw [r_ hk,j4 hk (by omega) (by omega)]
  cases wv c ins gs [] w p <;> cases wv c ins gs (nZ [i]) w p <;> cases safe <;> rfl
 .rw [r_ hk,j4 hk (by omega) (by omega)]
  cases wv c ins gs [] w p <;> cases wv c ins gs (nZ [i]) w p <;> cases safe <;> rfl
def BM(P:Pl c ins gs os){i k p:Nat}(hk:k<2):An true c (bY 2 ins) (fR 2 gs) (C8 2 os) (nZ [2*i+k]) p=false:=by
 unfold An C8;rw[List.any_map,Qbj];intro x hx;obtain⟨w,hw⟩:=P.o1 x hx;show ¬brk true (pt _ _ p) (pt _ _ p)=true;rw[Mu P hk hx hw];exact Qaz
def CP(P:Pl c ins gs os)(hm:m<=1):bears safe c (bY 3 ins) (fR 3 gs) (C8 3 os) m=nh:=qT fun s h1 h2 T hT p hp=>by
 have hl:=t7 hT;obtain rfl:s=1:=by omega
 obtain⟨x,rfl⟩:=Qcs.mp hl.1;obtain⟨i,k,hk,rfl,_⟩:=Ab.mp (hl.2 x (by simp))
 exact Cb P hk
def GH(P:Pl c ins gs os)(hm:m<=1):bears true c (bY 2 ins) (fR 2 gs) (C8 2 os) m=nh:=qT fun s h1 h2 T hT p hp=>by
 have hl:=t7 hT;obtain rfl:s=1:=by omega
 obtain⟨x,rfl⟩:=Qcs.mp hl.1;obtain⟨i,k,hk,rfl,_⟩:=Ab.mp (hl.2 x (by simp))
 exact BM P hk
def XW(c:Nat)(ins:Aac)(gs:List Gt)(os:Aad):Bool:=(rY gs).any fun i=>(List.range (2 ^ c)).any (An false c ins gs os (nZ [i]))
end
def lj{S:aN}{δ:DE}{i:Nat}{v:V3}{d:D}(hi:δ[i]? =some (some v))(hr:res S v=some d):af i (dN S δ)= .ok d:=by
 unfold af dN;rw[Qad,hi];show(match some (match res S v with | some d=>Sl.val d | none=> .un) with | some (.val d)=>R.ok d | _=> .no)=_
 rw[hr]
def rC{S:aN}{δ:DE}{i:Nat}{v:V3}{d:D}(hi:δ[i]? =some (some v))(hr:res S v=some d):kD (dN S δ) i= .val d:=by
 unfold kD dN;rw[Qad,hi];show(match some (match res S v with | some d=>Sl.val d | none=> .un) with | some (.val d)=>Sl.val d | _=> .un)=_
 rw[hr]
def two(S:aN)(A B:List D):aN:=S++[SO.lst A,SO.lst B]
def nB{S:aN}{A B:List D}:(two S A B)[S.length]? =some (.lst A):=by unfold two;rw [Qae (Qag _),QaQ];rfl
def m4{S:aN}{A B:List D}:(two S A B)[S.length+1]? =some (.lst B):=by unfold two;rw [Qae (by omega),show S.length+1 - S.length=1 by omega];rfl
def AL{S:aN}{A B A':List D}:(two S A B).set S.length (.lst A')=two S A' B:=by unfold two;rw [Qa3 _ _ (Qag _),QaQ];rfl
def Aw{S:aN}{A B B':List D}:(two S A B).set (S.length+1) (.lst B')=two S A B':=by unfold two;rw [Qa3 _ _ (by omega),show S.length+1 - S.length=1 by omega];rfl
def By{S:aN}{A:List D}:(S++[SO.lst A])++[SO.lst []]=two S A []:=by unfold two;rw [QaN];rfl
def AA(a b:Nat):dO (nI a) (nI b)= .ok (nI (a+b)):=by
 show R.ok (D.int ((a:Int)+(b:Int)))= .ok (.int ((a+b:Nat):Int));rw[Int.natCast_add]
def Bi(a m:Nat):D:= .tup ((List.range m).map fun j=>nI (a+j))
def jM{a m:Nat}(hm:m<=10):eY [nI a,nI m]= .ok (Bi a m):=by
 have hz:=Qap;unfold eY tJ;refine cV (cL (ax (ds:=[.lst ((List.range m).map fun j=>nI (a+j))]) (au (cu (bB (ds:=(List.range m).map nI) ?_ (by rw[Qaa,Qaj];omega) ?_)) rfl) rfl))
 .rw [<-fI];exact cU (n:=m) rfl (by omega)
 .exact NT.bJ (t:=aC 0) (c:=dC) (δ:=[.un, .val (nI a)]) nI _ fun k hk=>⟨[.val (nI k), .val (nI a)],rfl,rfl,av (a:=nI a) (b:=nI k) rfl rfl (AA _ _)⟩
def DH(a m:Nat):kh (Bi a m)=true:=by
 have:=pT ((List.range m).map fun j=>a+j)
 rw[Qax] at this;exact this
def BU(s:Nat->Nat->Nat)(g:Gt)(k:Nat):Gt:=(g.1,g.2.1.map (fun w=>s w k),g.2.2)
def oU(s:Nat->Nat->Nat)(m N:Nat):List D:=(List.range N).map fun w=> .tup ((List.range m).map fun j=>nI (s w j))
def OE{s:Nat->Nat->Nat}{m N w:Nat}(h:w<N):bH (.lst (oU s m N)) (nI w)= .ok (.tup ((List.range m).map fun j=>nI (s w j))):=NT.iz (by unfold oU;rw [Qad,Qa2 h];rfl)
def TC{s:Nat->Nat->Nat}{m w k:Nat}(h:k<m):bH (.tup ((List.range m).map fun j=>nI (s w j))) (nI k)= .ok (nI (s w k)):=NT.LG (by rw[Qad,Qa2 h];rfl)
def Nv(g:Gt):kh (cO g)=true:=by
 unfold cO kh;show(kh (.str (kS g.1)) && (kh (.tup (g.2.1.map nI)) && (kh (.bl g.2.2) && jc [])))=true;rw[pT];rfl
section
variable {m:Nat} {ins:Aac} {gs:List Gt} {os:Aad} {S:aN}
def A8(nt:D)(m:Nat)(v:Bool)(tp:Nat)(S:aN)(a6 a7 a8 a9 a10 a11:Option V3):DE:=[some (.d nt),some (.d (nI m)),some (.d (.bl v)),some (.d (nI tp)),some (.loc S.length),some (.loc (S.length+1)),a6,a7,a8,a9,a10,a11]
def MX{s:Nat->Nat->Nat}{n:Nat}{g:Gt}{k tp N:Nat}{v:Bool}{nt:D}{G:List D}{a7 a9 a10 a11:Option V3}(hk:k<m)(hm:m<=10)(hg:l0 n g)(hN:n<=N) :
 dk (aj (e2 bH (af 6) (eC (.int 0))) (aj (aJ il (aj (eNew (cj (cF (e2 bH (af 6) (eC (.int 1)))) (aC 0) dC (e2 bH (e2 bH (af 1) (af 0)) (af 2)) ["wire"] [4,8])) aH)) (aj (e2 bH (af 6) (eC (.int 2))) aH))) (dN (two S (oU s m N) G) (A8 nt m v tp S (some (.d (cO g))) a7 (some (.d (nI k))) a9 a10 a11))= .ok (cO (BU s g k)):=by
 have hz:=Qap;have hal:=y6 g.1;have hgl:=hg.2.1;generalize hE:dN (two S (oU s m N) G) (A8 nt m v tp S (some (.d (cO g))) a7 (some (.d (nI k))) a9 a10 a11)=E;have v4:af 4 E= .ok (.lst (oU s m N)):=by rw[<-hE];exact lj (v:= .loc S.length) rfl (fM nB)
 have v6:af 6 E= .ok (cO g):=by rw[<-hE];exact lj (v:= .d (cO g)) rfl (by unfold res;rfl)
 have hc:pd ["wire"] [4,8] E=[.un, .val (.lst (oU s m N)), .val (nI k)]:=by
  rw[<-hE];show [Sl.un]++[kD _ 4,kD _ 8]=_;rw[rC (v:= .loc S.length) rfl (fM nB),rC (v:= .d (nI k)) rfl (by unfold res;rfl)]
  rfl
 refine cI (ds:=[.str (kS g.1), .tup ((BU s g k).2.1.map nI), .bl g.2.2]) (au (av (a:=cO g) (b:= .int 0) v6 rfl rfl) (au (ax (ds:=[.lst ((BU s g k).2.1.map nI)]) (au (cu (bB (ds:=g.2.1.map nI) (pW (av (a:=cO g) (b:= .int 1) v6 rfl rfl)) (by rw[Qaa];omega) ?_)) rfl) rfl) (au (av (a:=cO g) (b:= .int 2) v6 rfl rfl) rfl))) (by simp;omega)
 rw[hc];show _=R.ok ((g.2.1.map (fun w=>s w k)).map nI)
 rw[Qax];refine NT.bJ nI _ fun w hw=>⟨[.val (nI w), .val (.lst (oU s m N)), .val (nI k)],rfl,rfl,?_⟩
 have:=hg.2.2 w hw;exact av (a:= .tup ((List.range m).map fun j=>nI (s w j))) (b:=nI k) (av (a:= .lst (oU s m N)) (b:=nI w) rfl rfl (OE (by omega))) rfl (TC hk)
def uX{s:Nat->Nat->Nat}{n:Nat}{g:Gt}{tp:Nat}{v:Bool}{nt:D}{G:List Gt}{a7 a8 a9 a10 a11:Option V3}(hm:m<=10)(hg:l0 n g)(NY:G.length<=900){QO:Ou->aN->Prop}
 (h:∀b8,QO (.nx (A8 nt m v tp S (some (.d (cO g))) a7 b8 a9 a10 a11)) (two S (oU s m n) ((G++(List.range m).map (BU s g)).map cO))) :
 W3 (jr (iP (cH (af 1))) (kN 8) qX (A8 nt m v tp S (some (.d (cO g))) a7 a8 a9 a10 a11) (two S (oU s m n) (G.map cO))) QO:=by
 have hz:=Qap;refine gh<|kL (ds:=(List.range m).map nI) ?_ ?_
 .rw [<-fI];exact cU (n:=m) rfl (by omega)
 refine(cn (fun j δ S2=>∃b8,δ=A8 nt m v tp S (some (.d (cO g))) a7 b8 a9 a10 a11/\S2=two S (oU s m n) ((G++(List.range j).map (BU s g)).map cO))
  ⟨a8,rfl,by simp⟩ ?_).mono fun o S2 ⟨ef,gm,b8,hδ,hS⟩=>by rw[gm,hδ,hS,Qaa,Qaa,Qaj];exact h b8
 rintro j x δ S2 hv ⟨b8,rfl,rfl⟩;obtain⟨k,hk,rfl⟩:=NT.er hv;have hj:j<m:=by have:=(Qab.mp hk).1;rwa [Qaj] at this
 rw[Qa2 hj] at hk;cases hk;refine⟨A8 nt m v tp S (some (.d (cO g))) a7 (some (.d (nI j))) a9 a10 a11,rfl,?_⟩;unfold qX;refine jd (k:=S.length+1) rfl ⟨_,m4⟩<|Ji (MX hj hm hg (Qag _)) (Nv _) ⟨_,_,rfl,m4,?_,_,rfl,_,rfl,?_⟩
 .rw [Qaa,Qau,Qaa,Qaj];omega
 .rw [Aw];congr 1;rw[Qbs,Qas,Qas,Qas,Qas,<-QaN];rfl
def D2{s:Nat->Nat->Nat}{n i tp:Nat}{g:Gt}{nt:D}{G:List Gt}{a7 a8 a9 a10 a11:Option V3}(hm:m<=10)(hn:n<1000)(hg:l0 n g)(NY:G.length<=900)(hs:∀j,s n j=tp+G.length+j) :
 W3 (jt (A8 nt m false tp S (some (.d (cO g))) a7 a8 a9 a10 a11) (two S (oU s m n) (G.map cO))) fun o S1=>∃b7 b8 b9,o= .nx (A8 nt m false tp S (some (.d (cO g))) b7 b8 b9 a10 a11)/\S1=two S (oU s m (n+1)) ((G++(List.range m).map (BU s g)).map cO):=by
 have hz:=Qap;unfold jt;refine aT<|bM (by show 7<12;omega)<|Ji (d:=Bi (tp+G.length) m) (ax (ds:=[nI (tp+G.length),nI m]) (au (av (a:=nI tp) (b:=nI G.length) (lj (v:= .d (nI tp)) rfl (by unfold res;rfl)) (ax (ds:=[.lst (G.map cO)]) (au (lj (v:= .loc (S.length+1)) rfl (fM m4)) rfl) (by rw[jm,Qaa];rfl)) (AA _ _)) (au (lj (v:= .d (nI m)) rfl (by unfold res;rfl)) rfl)) (jM hm)) (DH _ _) ⟨_,rfl,?_⟩
 show W3 (bt _ _ (A8 nt m false tp S (some (.d (cO g))) (some (.d (Bi (tp+G.length) m))) a8 a9 a10 a11) _) _;refine aT<|uX hm hg NY fun b8=>⟨_,rfl,?_⟩
 refine pE<|yu (b:=false) rfl ?_
 rw[QaB (by decide)]
 refine jd (k:=S.length) rfl ⟨_,nB⟩<|bZ (d:=Bi (tp+G.length) m) rfl ⟨_,_,rfl,nB,by unfold oU;rw [Qaa,Qaj];omega,_,_,_,rfl,?_⟩
 rw[AL];congr 1;unfold oU Bi;rw[Qbs,Qas];congr 1;show [D.tup _]=[D.tup _];congr 2;refine Qa1 fun j _=>?_
 rw[hs]
def Ep{s:Nat->Nat->Nat}{n i tp:Nat}{g:Gt}{nt:D}{G:List Gt}{a7 a8 a9 a10 a11:Option V3}(hn:n<1000)(hg:l0 n g)(NY:G.length<=900)(hs:∀j,s n j=tp+(G.length+3)+j) :
 W3 (jt (A8 nt 3 true tp S (some (.d (cO g))) a7 a8 a9 a10 a11) (two S (oU s 3 n) (G.map cO))) fun o S1=>∃b7 b8 b9,o= .nx (A8 nt 3 true tp S (some (.d (cO g))) b7 b8 b9 a10 a11)/\S1=two S (oU s 3 (n+1)) ((G++(List.range 3).map (BU s g)++List.replicate 3 ((4,[tp+G.length,tp+G.length+1,tp+G.length+2],g.2.2):Gt)).map cO):=by
 have hz:=Qap;unfold jt;refine aT<|bM (by show 7<12;omega)<|Ji (d:=Bi (tp+G.length) 3) (ax (ds:=[nI (tp+G.length),nI 3]) (au (av (a:=nI tp) (b:=nI G.length) (lj (v:= .d (nI tp)) rfl (by unfold res;rfl)) (ax (ds:=[.lst (G.map cO)]) (au (lj (v:= .loc (S.length+1)) rfl (fM m4)) rfl) (by rw[jm,Qaa];rfl)) (AA _ _)) (au (lj (v:= .d (nI 3)) rfl (by unfold res;rfl)) rfl)) (jM (by omega))) (DH _ _) ⟨_,rfl,?_⟩
 show W3 (bt _ _ (A8 nt 3 true tp S (some (.d (cO g))) (some (.d (Bi (tp+G.length) 3))) a8 a9 a10 a11) _) _;refine aT<|uX (by omega) hg NY fun b8=>⟨_,rfl,?_⟩
 refine pE<|yu (b:=true) rfl ?_
 rw[QaD rfl];have hl3:((G++(List.range 3).map (BU s g)).map cO).length=G.length+3:=by simp
 refine aT<|bM (by show 9<12;omega)<|Ji (d:=Bi (tp+(G.length+3)) 3) (ax (ds:=[nI (tp+(G.length+3)),nI 3]) (au (av (a:=nI tp) (b:=nI (G.length+3)) (lj (v:= .d (nI tp)) rfl (by unfold res;rfl)) (ax (ds:=[.lst ((G++(List.range 3).map (BU s g)).map cO)]) (au (lj (v:= .loc (S.length+1)) rfl (fM m4)) rfl) (by rw[jm,hl3];rfl)) (AA _ _)) (au (lj (v:= .d (nI 3)) rfl (by unfold res;rfl)) rfl)) (jM (by omega))) (DH _ _) ⟨_,rfl,?_⟩
 show W3 (bt _ _ (A8 nt 3 true tp S (some (.d (cO g))) (some (.d (Bi (tp+G.length) 3))) b8 (some (.d (Bi (tp+(G.length+3)) 3))) a10 a11) _) _;refine aT<|Ul (k:=S.length+1) rfl ⟨_,m4⟩<|bZ (d:= .lst ((List.replicate 3 ((4,[tp+G.length,tp+G.length+1,tp+G.length+2],g.2.2):Gt)).map cO)) ?_ ⟨_,_,rfl,m4,by rw[hl3];simp;omega,_,rfl,?_⟩
 .refine cu (bB (ds:=(List.range 3).map fun j=>nI (tp+(G.length+3)+j)) (pW rfl) (by simp;omega) ?_)
  exact NT.bJ (t:=aC 0) (c:=dC) (δ:=[.un, .val (cO g), .val (Bi (tp+G.length) 3)]) (fun j=>nI (tp+(G.length+3)+j)) (fun _=>cO (4,[tp+G.length,tp+G.length+1,tp+G.length+2],g.2.2)) (xs:=List.range 3) fun j _=>⟨[.val (nI (tp+(G.length+3)+j)), .val (cO g), .val (Bi (tp+G.length) 3)],rfl,rfl,cI (ds:=[.str "vote",Bi (tp+G.length) 3, .bl g.2.2]) (au rfl (au rfl (au (av (a:=cO g) (b:= .int 2) rfl rfl rfl) rfl))) (by simp;omega)⟩
 rw[Aw,<-Qas];refine jd (k:=S.length) rfl ⟨_,nB⟩<|bZ (d:=Bi (tp+(G.length+3)) 3) rfl ⟨_,_,rfl,nB,by unfold oU;rw [Qaa,Qaj];omega,_,_,_,rfl,?_⟩
 rw[AL];congr 1;unfold oU Bi;rw[Qbs (n:=n),Qas];congr 1;show [D.tup _]=[D.tup _];congr 2;refine Qa1 fun j _=>?_
 rw[hs]
end
section
variable {c m:Nat} {ins:Aac} {gs:List Gt} {os:Aad} {S:aN}
def xB{s:Nat->Nat->Nat}{v:Bool}{GS:Nat->List Gt}(P:Pl c ins gs os)(hm:m<=10)(WB:∀w j,w<ins.length->s w j=w*m+j)(XE:GS 0=[])
 (step:∀(i:Nat) (g:Gt) (a7 a8 a9:Option V3),gs[i]? =some g->W3 (jt (A8 (aM ins gs os) m v (ins.length*m) S (some (.d (cO g))) a7 a8 a9 none none) (two S (oU s m (ins.length+i)) ((GS i).map cO))) fun o S1=>∃b7 b8 b9,o= .nx (A8 (aM ins gs os) m v (ins.length*m) S (some (.d (cO g))) b7 b8 b9 none none)/\S1=two S (oU s m (ins.length+i+1)) ((GS (i+1)).map cO))
 (hS:ma S) {Q:V3->aN->Prop} (h:Q (.d (aM (bY m ins) (GS gs.length) (os.map fun x=>(x.1,(List.range m).map fun j=>s (x.2.getD 0 0) j)))) S) :
 W3 (fu [.d (aM ins gs os), .d (nI m), .d (.bl v)] S) Q:=by
 have hz:=Qap;have hi:=P.no.hi;have hO:=P.no.ho;unfold fu;refine g9 hS (vB rfl ?_);simp only[bQ,ik,List.map,List.length,List.replicate,Qav,QaA,Nat.reduceAdd,Nat.reduceSub];unfold xI;have hlen:∀{δ:az},af 0 δ= .ok (aM ins gs os)->aJ dU (aj (e2 bH (af 0) (eC (.int 0))) aH) δ= .ok (nI ins.length):=fun hv=>ax (ds:=[.lst (ins.map MT.inD)]) (au (av (a:=aM ins gs os) (b:= .int 0) hv rfl rfl) rfl) (by rw[jm,Qaa];rfl)
 have hmulN:∀a:Nat,a<1000->nG (nI a) (nI m)= .ok (nI (a*m)):=fun a ha=>(NT.Qa (a:=a) (b:=m) ha)
 refine aT<|bM (by simp)<|bZ (d:=nI (ins.length*m)) (av (a:=nI ins.length) (b:=nI m) (hlen rfl) rfl (hmulN _ (by omega))) ⟨_,rfl,?_⟩
 simp only[List.set];refine aT<|bM (by simp)<|ll (ds:=oU s m ins.length) ?_ ⟨_,rfl,?_⟩
 .refine bB (ds:=(List.range ins.length).map nI) ?_ (by rw[Qaa,Qaj];omega) ?_
  .rw [<-fI];exact cU (n:=ins.length) (hlen rfl) (by omega)
  refine NT.bJ (t:=aC 0) (c:=dC) (δ:=[.un, .val (nI m)]) nI _ fun w hw=>⟨[.val (nI w), .val (nI m)],rfl,rfl,?_⟩
  have hw:=QaL.mp hw;refine(ax (ds:=[nI (w*m),nI m]) (au (av (a:=nI w) (b:=nI m) rfl rfl (hmulN _ (by omega))) (au rfl rfl)) (jM hm)).trans ?_
  unfold Bi;congr 2;exact Qa1 fun j _=>by rw[WB w j hw]
 simp only[List.set];refine aT<|bM (by simp)<|ll (ds:=[]) rfl ⟨_,rfl,?_⟩
 rw[By];simp only[List.set];rw[show(S++[SO.lst (oU s m ins.length)]).length=S.length+1 by simp]
 refine aT<|gh<|kL (ds:=gs.map cO) (iy (av (a:=aM ins gs os) (b:= .int 1) rfl rfl rfl)) ?_
 refine(cn (fun i δ S2=>∃a6 a7 a8 a9,δ=A8 (aM ins gs os) m v (ins.length*m) S a6 a7 a8 a9 none none/\S2=two S (oU s m (ins.length+i)) ((GS i).map cO))
  ⟨_,_,_,_,rfl,by rw[XE];rfl⟩ ?_).mono fun o S2 ⟨ef,gm,a6,a7,a8,a9,hδ,zr⟩=>⟨ef,gm,?_⟩
 .rintro i x δ S2 hv ⟨a6,a7,a8,a9,rfl,rfl⟩;obtain⟨g,hg,rfl⟩:=NT.er hv;refine⟨A8 (aM ins gs os) m v (ins.length*m) S (some (.d (cO g))) a7 a8 a9 none none,rfl,?_⟩;exact(step i g a7 a8 a9 hg).mono fun o S3 ⟨b7,b8,b9,e3,Gj⟩=>⟨_,e3,_,_,_,_,rfl,Gj⟩
 rw[Qaa,Qaa] at zr;subst hδ zr;unfold A8;refine aT<|bM (by simp)<|ll (ds:=(bY m ins).map MT.inD) ?_ ⟨_,rfl,?_⟩
 .refine bB (ds:=ins.map MT.inD) (iy (av (a:=aM ins gs os) (b:= .int 0) rfl rfl rfl)) (by rw[Qaa];omega) ?_
  unfold bY;rw[Qax];exact NT.bJ (t:=eg 2 (bh (aC 0) (bh (aC 1) ei))) (c:=dC) (δ:=[.un, .un, .val (nI m)]) MT.inD _ fun x _=>⟨[.val (.str x.1), .val (nI x.2), .val (nI m)],rfl,rfl,cI (ds:=[.str x.1,nI m]) rfl (by simp;omega)⟩
 simp only[List.set];have HC:(two S (oU s m (ins.length+gs.length)) ((GS gs.length).map cO)).length=S.length+2:=by unfold two;simp
 have ea:(two S (oU s m (ins.length+gs.length)) ((GS gs.length).map cO)++[SO.lst ((bY m ins).map MT.inD)])[S.length]? =some (.lst (oU s m (ins.length+gs.length))):=by rw[Qam (by omega)];exact nB
 have eb:(two S (oU s m (ins.length+gs.length)) ((GS gs.length).map cO)++[SO.lst ((bY m ins).map MT.inD)])[S.length+1]? =some (.lst ((GS gs.length).map cO)):=by rw[Qam (by omega)];exact m4
 have ec:(two S (oU s m (ins.length+gs.length)) ((GS gs.length).map cO)++[SO.lst ((bY m ins).map MT.inD)])[S.length+2]? =some (.lst ((bY m ins).map MT.inD)):=by rw[<-HC];exact bc _ _
 have EM:two S (oU s m (ins.length+gs.length)) ((GS gs.length).map cO)++[SO.lst ((bY m ins).map MT.inD)]=S++[SO.lst (oU s m (ins.length+gs.length)),SO.lst ((GS gs.length).map cO),SO.lst ((bY m ins).map MT.inD)]:=by unfold two;rw [QaN];rfl
 have hl3:(two S (oU s m (ins.length+gs.length)) ((GS gs.length).map cO)++[SO.lst ((bY m ins).map MT.inD)]).length=S.length+3:=by rw[Qau,HC];rfl
 rw[HC];generalize hTT:two S (oU s m (ins.length+gs.length)) ((GS gs.length).map cO)++[SO.lst ((bY m ins).map MT.inD)]=TT at ea eb ec EM hl3;refine aT<|bM (by simp)<|JL (ds:=(os.map fun x=>(x.1,(List.range m).map fun j=>s (x.2.getD 0 0) j)).map vk) ?_ ?_ ⟨_,rfl,?_⟩
 .generalize hE:dN TT _=E;have v0:af 0 E= .ok (aM ins gs os):=by rw[<-hE];exact lj (v:= .d (aM ins gs os)) rfl (by unfold res;rfl)
  have hc:pd ["name","wires"] [4] E=[.un, .un, .val (.lst (oU s m (ins.length+gs.length)))]:=by
   rw[<-hE];show [Sl.un,Sl.un]++[kD _ 4]=_;rw[rC (v:= .loc S.length) rfl (fM ea)];rfl
  refine bB (ds:=os.map vk) (iy (av (a:=aM ins gs os) (b:= .int 2) v0 rfl rfl)) (by rw[Qaa];omega) ?_
  rw[hc,Qax];refine NT.bJ (t:=eg 2 (bh (aC 0) (bh (aC 1) ei))) (c:=dC) vk _ fun x hx=>⟨[.val (.str x.1), .val (.tup (x.2.map nI)), .val (.lst (oU s m (ins.length+gs.length)))],rfl,rfl,?_⟩
  obtain⟨w,hw⟩:=P.o1 x hx;have HA:=(P.no.o x hx).2 w (by rw[hw];simp)
  rw[P.l7] at HA;rw[hw];show _=R.ok (vk (x.1,(List.range m).map fun j=>s (x.2.getD 0 0) j))
  rw[hw];refine cI (ds:=[.str x.1, .tup (((List.range m).map fun j=>s w j).map nI)]) (au rfl (au ((av (a:= .lst (oU s m (ins.length+gs.length))) (b:=nI w) rfl (av (a:= .tup [nI w]) (b:= .int 0) rfl rfl rfl) (OE HA)).trans ?_) rfl)) (by simp;omega)
  rw[Qax];rfl
 .generalize os=oT
  induction oT with
  | nil=>rfl
  | cons x xs ih=>
    rw[Qay,Qay];unfold jc;rw[ih,Bool.and_true];unfold vk kh;show(kh (.str x.1) && (kh (.tup _) && jc []))=true;rw[pT];rfl
 simp only[List.set];rw[hl3];refine eQ<|Oy<|ay<|w_var (v:= .loc (S.length+2)) rfl<|ay<|w_var (v:= .loc (S.length+1)) rfl<|ay<|w_var (v:= .loc (S.length+3)) rfl<|cb ⟨by simp;omega,_,rfl,?_,⟨[SO.lst (oU s m (ins.length+gs.length)),SO.lst ((GS gs.length).map cO),SO.lst ((bY m ins).map MT.inD),SO.lst ((os.map fun x=>(x.1,(List.range m).map fun j=>s (x.2.getD 0 0) j)).map vk)],by rw[EM,QaN];rfl⟩,aM (bY m ins) (GS gs.length) (os.map fun x=>(x.1,(List.range m).map fun j=>s (x.2.getD 0 0) j)),?_,h⟩
 .show fT S.length (.tup [.loc (S.length+2), .loc (S.length+1), .loc (S.length+3)])=true;simp [fT,sg]
 .have e1:(TT++[SO.lst ((os.map fun x=>(x.1,(List.range m).map fun j=>s (x.2.getD 0 0) j)).map vk)])[S.length+2]? =some (.lst ((bY m ins).map MT.inD)):=by rw[Qam (by omega)];exact ec
  have gm:(TT++[SO.lst ((os.map fun x=>(x.1,(List.range m).map fun j=>s (x.2.getD 0 0) j)).map vk)])[S.length+1]? =some (.lst ((GS gs.length).map cO)):=by rw[Qam (by omega)];exact eb
  have e3:(TT++[SO.lst ((os.map fun x=>(x.1,(List.range m).map fun j=>s (x.2.getD 0 0) j)).map vk)])[S.length+3]? =some (.lst ((os.map fun x=>(x.1,(List.range m).map fun j=>s (x.2.getD 0 0) j)).map vk)):=by rw[<-hl3];exact bc _ _
  show res _ (.tup [.loc (S.length+2), .loc (S.length+1), .loc (S.length+3)])=_;simp only[res,BH,e1,gm,e3];rfl
def sU(P:Pl c ins gs os)(hm:m<=6)(hg:gs.length<=60)(hS:ma S){Q:V3->aN->Prop}(h:Q (.d (aM (bY m ins) (fR m gs) (C8 m os))) S):W3 (fu [.d (aM ins gs os), .d (nI m), .d (.bl false)] S) Q:=by
 have hi:=P.no.hi;refine xB (s:=fun w j=>m*w+j) (GS:=fun i=>fR m (gs.take i)) P (by omega) (fun w j _=>by rw[Qb3]) rfl (fun i g a7 a8 a9 qA=>?_) hS (by rw[QaV];exact h)
 have hil:=(Qab.mp qA).1;have hcl:(fR m (gs.take i)).length=m*i:=by rw[kf,QaX,Qb0 (by omega)]
 have hmi:=QcS hm (show i<=60 by omega)
 have:=D2 (S:=S) (m:=m) (s:=fun w j=>m*w+j) (n:=ins.length+i) (i:=i) (tp:=ins.length*m) (nt:=aM ins gs os) (a7:=a7) (a8:=a8) (a9:=a9) (a10:=none) (a11:=none) (by omega) (by omega) (P.g i g qA) (by rw[hcl];omega) (fun j=>by rw[hcl,QbH,Qb3 m ins.length])
 refine this.mono fun o S1 ⟨b7,b8,b9,eo,e1⟩=>⟨b7,b8,b9,eo,?_⟩
 rw[e1];congr 2;rw[QaU,qA];show _=fR m (gs.take i++[g]);unfold fR;rw[Qcd,List.flatMap_singleton];rfl
def zX(P:Pl c ins gs os)(hg:gs.length<=60)(hS:ma S){Q:V3->aN->Prop}(h:Q (.d (aM (bY 3 ins) (hX ins.length gs) (JQ ins.length os))) S):W3 (fu [.d (aM ins gs os), .d (nI 3), .d (.bl true)] S) Q:=by
 have hi:=P.no.hi;refine xB (s:=vD ins.length) (GS:=fun i=>hX ins.length (gs.take i)) P (by omega) (fun w j hw=>by unfold vD;rw [QaD hw,Qb3]) rfl (fun i g a7 a8 a9 qA=>?_) hS (by rw[QaV];exact h)
 have hil:=(Qab.mp qA).1;have hcl:(hX ins.length (gs.take i)).length=6*i:=by unfold hX;rw [px,QaX,Qb0 (by omega)]
 have:=Ep (S:=S) (s:=vD ins.length) (n:=ins.length+i) (i:=i) (tp:=ins.length*3) (nt:=aM ins gs os) (G:=hX ins.length (gs.take i)) (a7:=a7) (a8:=a8) (a9:=a9) (a10:=none) (a11:=none) (by omega) (P.g i g qA) (by rw[hcl];omega) (fun j=>by unfold vD;rw [QaB (by omega),hcl];omega)
 refine this.mono fun o S1 ⟨b7,b8,b9,eo,e1⟩=>⟨b7,b8,b9,eo,?_⟩
 rw[e1,hcl];congr 2;rw[QaU,qA];show _=uf ins.length 0 (gs.take i++[g]);rw[wj,QbQ,QaX,Qb0 (by omega),QaN,Qb3 ins.length 3]
 rfl
end
end K43
end
section
set_option maxHeartbeats 4000000
namespace K43
open PySem PySem.Spec PyProof.Rows L2 L3 NT
structure NA (n:Net):Prop where
 fb:1<=n.first/\n.first<=18
 i6:n.i.length<=6
 iw:∀x∈n.i,1<=x.2/\x.2<=3
 g60:n.g.length<=60
 gw:∀(p:Nat) (g:Gt),n.g[p]? =some g->SX (n.first+p) g.w
 o1:1<=n.o.length
 o6:n.o.length<=6
 ow:∀x∈n.o,SX (n.first+n.g.length) x.2
def hV(first:Nat)(gs:List Gt):List Nat:=gs.foldl (fun ds g=>ds++[1+mx (fun z=>ds.getD z 0) g.w]) (List.replicate first 0)
def xJ(first:Nat)(gs:List Gt)(g:Gt):hV first (gs++[g])=hV first gs++[1+mx (fun z=>(hV first gs).getD z 0) g.w]:=by
 unfold hV;rw[List.foldl_append];rfl
def sH{l:List Nat}{x z:Nat}(h:z<l.length):(l++[x]).getD z 0=l.getD z 0:=by
 rw[Qan,Qam h,Qan]
def vF{first:Nat}{gs:List Gt}(hw:∀(p:Nat) (g:Gt),gs[p]? =some g->SX (first+p) g.w):∀i,i<=gs.length->(hV first (gs.take i)).length=first+i/\(∀z,z<first->(hV first (gs.take i)).getD z 0=0)/\
 ∀(p:Nat) (g:Gt),p<i->gs[p]? =some g->(hV first (gs.take i)).getD (first+p) 0=1+mx (fun z=>(hV first (gs.take i)).getD z 0) g.w
 | 0,_=>by
   rw[List.take_zero];refine⟨by simp [hV],fun z hz=>?_,fun p g hp=>by omega⟩
   show(List.replicate first 0).getD z 0=0
   rw[Qan,QaT,QaD hz];rfl
 | i+1,hi=>by
   obtain⟨h1,h2,h3⟩:=vF hw i (by omega)
   have hg:gs[i]? =some gs[i]:=Qac (by omega)
   have ht:gs.take (i+1)=gs.take i++[gs[i]]:=by rw[QaU,hg];rfl
   rw[ht,xJ];refine⟨by rw[Qau,h1];rfl,fun z hz=>by rw[sH (by omega)];exact h2 z hz,fun p g hp Va=>?_⟩
   have hwz:=(hw p g Va).lt;by_cases hpi:p<i
   .rw [sH (by omega),h3 p g hpi Va]
    congr 1;exact BX fun z hz=>by have:=hwz z hz;rw [sH (by omega)]
   .obtain rfl:p=i:=by omega
    rw[hg] at Va;cases Va;rw[Qan,Qae (by omega),h1,QaQ]
    show 1+mx _ _=_;congr 1;exact BX fun z hz=>by have:=hwz z hz;rw [sH (by omega)]
def dep(n:Net)(z:Nat):Nat:=(hV n.first n.g).getD z 0
def KA{n:Net}(h:NA n):(hV n.first n.g).length=n.first+n.g.length/\(∀z,z<n.first->dep n z=0)/\∀(p:Nat) (g:Gt),n.g[p]? =some g->dep n (n.first+p)=1+mx (dep n) g.w:=by
 have:=vF h.gw n.g.length (Qag _);rw[QaV] at this;obtain⟨h1,h2,h3⟩:=this;exact⟨h1,h2,fun p g hg=>h3 p g (Qab.mp hg).1 hg⟩
def deep(n:Net):Nat:=(n.o.map fun x=>mx (dep n) x.2).foldl max 0
def wV{ds w:List Nat}(hw:w≠[])(hl:w.length<1000)(h:∀z∈w,z<ds.length):js [.lst (ds.map nN),wN w]= .ok (nN (mx (fun z=>ds.getD z 0) w)):=by
 have hz:=Qap;unfold js;refine cV ?_;unfold yW;refine cL (ax (ds:=[.lst ((w.map fun z=>ds.getD z 0).map nN)]) (au (cu (bB (ds:=w.map nN) (pW rfl) (by rw[Qaa];omega) ?_)) rfl) ?_)
 .rw [Qax];refine bJ _ _ fun z hz=>⟨[.val (nN z), .val (.lst (ds.map nN))],rfl,rfl,?_⟩
  refine av (a:= .lst (ds.map nN)) (b:= .int z) rfl rfl (iz ?_);have nE:=h z hz;rw[Qad,Qac nE];show some (nN ds[z])=some (nN (ds.getD z 0));rw[Qan,Qac nE];rfl
 .exact Ai (by simpa using hw)
def Ip{δ:az}{own:List Str}{m:Nat}{f:FD}(ho:own.length=1)(hm:m<1000)(hf:f δ= .ok (.int m)):cj (cH f) (aC 0) dC (eC (.int 0)) own [] δ= .ok ((List.replicate m 0).map nN):=by
 have hz:=Qap;refine bB (ds:=ip 0 m) (cU hf (by omega)) (by rw[FW];omega) ?_
 have hc:pd own [] δ=[.un]:=by unfold pd;rw [ho];rfl
 rw[hc];have e:(List.replicate m 0).map nN=(ip 0 m).map fun _=>nN 0:=by
  rw[QcW,List.map_const',FW]
 rw[e];exact uk _ fun d hd=>⟨[.val d],rfl,rfl,rfl⟩
def Hu{n:Net}(N:NA n):gq [n.d]= .ok (.lst ((hV n.first n.g).map nN)):=by
 have hz:=Qap;obtain⟨fb1,fb2⟩:=N.fb;have hi6:=N.i6;have hg60:=N.g60;unfold gq;refine cV ?_;unfold qG;refine bG (Ad (ds:=[]) rfl (by simp [dj,jP])) ?_
 obtain⟨cX,e1,a1,b1,c1,CY⟩:=kT (t:=eg 2 (bh (aC 2) (bh (aC 3) ei))) (body:=ky) (ds:=n.i.map iN)
  (fun i δ=>∃a b c,δ=[.val n.d, .bld ((List.replicate ((n.i.take i).map (·.2)).sum 0).map nN),a,b,c]) (δ:=[.val n.d, .bld [], .un, .un, .un]) ⟨.un, .un, .un,by simp⟩ (by
    rintro i d δ hd ⟨a,b,c,rfl⟩;obtain⟨x,hx,rfl⟩:=oa hd;have hxw:=N.iw x (QaH hx);have hb:=Df (l:=n.i.take i) fun y hy=>N.iw y (QbN hy)
    have hbl:(n.i.take i).length<=6:=by rw[QaX];omega
    have et:n.i.take (i+1)=n.i.take i++[x]:=by rw[QaU,hx];rfl
    refine⟨[.val n.d, .bld ((List.replicate ((n.i.take (i+1)).map (·.2)).sum 0).map nN), .val (.str x.1), .val (.int x.2),c],?_,⟨_,_,_,rfl⟩⟩
    have et2:((n.i.take (i+1)).map (·.2)).sum=((n.i.take i).map (·.2)).sum+x.2:=by rw[et,Qas,List.sum_append];simp
    generalize hL:(List.replicate ((n.i.take i).map (·.2)).sum 0).map nN=L
    rw[show eg 2 (bh (aC 2) (bh (aC 3) ei)) (iN x) [.val n.d, .bld L,a,b,c]= .ok [.val n.d, .bld L, .val (.str x.1), .val (.int x.2),c] from rfl,R.aS]
    unfold ky Nc;rw[Ip (m:=x.2) rfl (by omega) rfl,R.aS]
    rw[show vT [.val n.d, .bld L, .val (.str x.1), .val (.int x.2),c] 1= .ok L from rfl,R.aS]
    subst hL;rw[c_ _ (by rw[Qaa,Qaa,QaP,QaP];omega),<-Qas,List.replicate_append_replicate,<-et2]
    rfl)
 refine bG (kE (ds:=n.i.map iN) rfl e1) ?_;have hfl:((n.i.take (n.i.map iN).length).map (·.2)).sum=n.first:=by rw[Qaa,QaV];rfl
 rw[hfl] at CY;subst CY;obtain⟨ef,gm,a2,La⟩:=kT (t:=aC 4) (body:=ku) (ds:=n.g.map gN)
  (fun i δ=>∃c,δ=[.val n.d, .bld ((hV n.first (n.g.take i)).map nN),a1,b1,c]) (δ:=[.val n.d, .bld ((List.replicate n.first 0).map nN),a1,b1,c1]) ⟨c1,by simp [hV]⟩ (by
    rintro i d δ hd ⟨c,rfl⟩;obtain⟨g,hg,rfl⟩:=oa hd;have hil:=(Qab.mp hg).1;obtain⟨h1,h2,h3⟩:=vF N.gw i (by omega)
    have hw:=N.gw i g hg;have et:n.g.take (i+1)=n.g.take i++[g]:=by rw[QaU,hg];rfl
    refine⟨[.val n.d, .bld ((hV n.first (n.g.take (i+1))).map nN),a1,b1, .val (gN g)],?_,⟨_,rfl⟩⟩
    generalize hL:(hV n.first (n.g.take i)).map nN=L
    rw[show aC 4 (gN g) [.val n.d, .bld L,a1,b1,c]= .ok [.val n.d, .bld L,a1,b1, .val (gN g)] from rfl,R.aS]
    subst hL;unfold ku;rw[vG (d:=nN (1+mx (fun z=>(hV n.first (n.g.take i)).getD z 0) g.w)) (ds:=(hV n.first (n.g.take i)).map nN) ?_ rfl (by rw[Qaa];omega)]
    .rw [et,xJ,Qas];rfl
    .refine av (a:= .int 1) (b:=nN (mx (fun z=>(hV n.first (n.g.take i)).getD z 0) g.w)) rfl ?_ rfl
     refine JM (ax (ds:=[.lst ((hV n.first (n.g.take i)).map nN),wN g.w]) ?_ (wV hw.ne (by have:=hw.le;omega) fun z hz=>by have:=hw.lt z hz;omega)) rfl
     exact au rfl (au (av (a:=gN g) (b:= .int 1) rfl rfl rfl) rfl))
 refine bG (kE (ds:=n.g.map gN) rfl gm) ?_;rw[Qaa,QaV] at La;subst La;rfl
def wc(n:Net):Nat:=(n.g.filter fun g=>decide (g.k=Str.ofString "vote")).length
def D7(n:Net):Nat:=(n.g.filter fun g=>g.s).length
def M9{n:Net}(N:NA n):rF [n.d]= .ok (.tup [.int n.g.length, .int (wc n), .int (D7 n), .int (deep n)]):=by
 have hz:=Qap;have hg60:=N.g60;have XF:=N.o6;unfold rF;refine cV ?_;unfold JE;refine bG (fO (d:= .lst ((n.g.filter fun g=>decide (g.k=Str.ofString "vote")).map gN)) (cu (bB (ds:=n.g.map gN) rfl (by rw[Qaa];omega) ?_)) (by simp [dj,nV])) ?_
 .exact e_ _ _ _ fun g hg=>⟨[.val (gN g)],rfl,je (a:= .str g.k) (b:= .str "vote") rfl rfl rfl,fun _=>rfl⟩
 refine bG (fO (d:= .lst ((n.g.filter fun g=>g.s).map gN)) (cu (bB (ds:=n.g.map gN) rfl (by rw[Qaa];omega) ?_)) (by simp [dj,nV])) ?_
 .exact e_ _ _ _ fun g hg=>⟨[.val (gN g)],rfl,rfl,fun _=>rfl⟩
 refine bG (fO (d:= .lst ((hV n.first n.g).map nN)) (ax (ds:=[n.d]) rfl (Hu N)) (by simp [dj,nV])) ?_
 obtain⟨HK,_,_⟩:=KA N;refine bG (fO (d:=nN (deep n)) (ax (ds:=[.lst ((n.o.map fun x=>mx (dep n) x.2).map nN)]) (au (cu (bB (ds:=n.o.map oN) rfl (by rw[Qaa];omega) ?_)) rfl) (Ai ?_)) (by simp [dj,nV])) ?_
 .rw [Qax];refine bJ _ _ fun x hx=>⟨[.val (.str x.1), .val (wN x.2), .val (.lst ((hV n.first n.g).map nN))],rfl,rfl,?_⟩
  have hw:=N.ow x hx;exact ax (ds:=[.lst ((hV n.first n.g).map nN),wN x.2]) rfl (wV hw.ne (by have:=hw.le;omega) fun z hz=>by have:=hw.lt z hz;omega)
 .have:=N.o1;intro e;have:=Qbk List.length e;rw[Qaa] at this;simp at this;simp [this] at*
 refine cL (cI (au (ax (ds:=[.lst (n.g.map gN)]) (au (av (a:=n.d) (b:= .int 1) rfl rfl rfl) rfl) (by rw[jm,Qaa])) (au (ax (ds:=[.lst ((n.g.filter fun g=>decide (g.k=Str.ofString "vote")).map gN)]) rfl (by rw[jm,Qaa];rfl)) (au (ax (ds:=[.lst ((n.g.filter fun g=>g.s).map gN)]) rfl (by rw[jm,Qaa];rfl)) (au rfl rfl)))) (by simp;omega))
def pO(ins:Aac)(gs:List MT.Gt)(os:Aad):Net:=⟨ins,gs.map fun g=>⟨MT.kS g.1,g.2.1,g.2.2⟩,os⟩
def FR(ins:Aac)(gs:List MT.Gt)(os:Aad):(pO ins gs os).d=MT.aM ins gs os:=by
 unfold Net.d pO MT.aM;rw[Qax];rfl
end K43
end
section
set_option maxHeartbeats 400000
namespace K43
open PySem PySem.Spec PyProof.Rows L2 L3 MT
section
variable {c m:Nat} {ins:Aac} {gs:List Gt} {os:Aad}
abbrev vK:Str:=Str.ofString "vote"
def vts(gs:List Gt):Nat:=(gs.filter fun g=>decide (kS g.1=vK)).length
def srs(gs:List Gt):Nat:=(gs.filter fun g=>g.2.2).length
def dp(ins:Aac)(gs:List Gt)(os:Aad)(z:Nat):Nat:=dep (pO ins gs os) z
def Za(ins:Aac)(gs:List Gt)(os:Aad):Nat:=deep (pO ins gs os)
def U9(N:iB ins gs os)(h1:1<=ins.length)(h6:ins.length<=6)(hw:∀x∈ins,1<=x.2/\x.2<=3)(hg:gs.length<=60)(ho1:1<=os.length)(XF:os.length<=6)(ho:∀x∈os,1<=x.2.length/\x.2.length<=3):NA (pO ins gs os):=by
 have hf:(pO ins gs os).first=l7 ins:=rfl
 have hb:=NT.Df hw;have hgl:(pO ins gs os).g.length=gs.length:=by show(gs.map _).length=_;rw [Qaa]
 refine⟨by rw[hf];unfold l7;omega,h6,hw,by rw[hgl];exact hg,fun p g hp=>?_,ho1,XF,fun x hx=>?_⟩
 .have hp:(gs.map fun g=>(⟨kS g.1,g.2.1,g.2.2⟩:NT.Gt))[p]? =some g:=hp
  rw[Qad] at hp;cases q:gs[p]? with
  | none=>rw [q] at hp;cases hp
  | some g'=>
    rw[q] at hp;cases hp;have:=N.g p g' q;have hal:=y6 g'.1;have ha1:1<=ar g'.1:=by unfold ar;split <;> omega
    have hl:=this.2.1;exact⟨fun e=>by have e:g'.2.1=[]:=e;rw [e] at hl;simp at hl;omega,by show g'.2.1.length<=3;omega,this.2.2⟩
 .have:=ho x hx;exact⟨fun e=>by have e:x.2=[]:=e;rw [e] at this;simp at this,this.2,fun z hz=>by rw[hf,hgl];exact(N.o x hx).2 z hz⟩
end
structure Made (m:Nat) (ins:Aac) (gs:List Gt) (os:Aad) (gZ:Aac) (oW:List Gt) (oT:Aad) (s:Nat->Nat->Nat):Prop where
 no:iB gZ oW oT
 len:gZ.length=ins.length
 o:oT=os.map fun x=>(x.1,(List.range m).map fun j=>s (x.2.getD 0 0) j)
 v:∀bits:List M,bits.length=ins.length->∀w,w<ins.length+gs.length->∀j,j<m->∀p,g7 (lh gZ oW bits [] []) (s w j) p=g7 (lh ins gs bits [] []) w p
 b:m=3->∀z,z<3*ins.length->∀bits:List M,bits.length=ins.length->∃jb,∀w,w<ins.length+gs.length->∀j,j<3->j≠jb->∀p,g7 (lh gZ oW bits [] [(z:Int)]) (s w j) p=g7 (lh ins gs bits [] []) w p
section
variable {c m:Nat} {ins gZ:Aac} {gs oW:List Gt} {os oT:Aad} {s:Nat->Nat->Nat} {S:aN}
def Fy(P:Pl c ins gs os)(hm:m<=6)(hg:gs.length<=60):Made m ins gs os (bY m ins) (fR m gs) (C8 m os) fun w j=>m*w+j:=by
 refine⟨P6 (by omega) P.no P.w1 P.o1 (by omega),gr,rfl,fun bits hb w hw j hj p=>?_,fun h3 z hz bits hb=>⟨z % 3,fun w hw j hj hjb p=>?_⟩⟩
 .have:=vA (m:=m) (p:=p) (T:=[]) (bad:=[]) hb P.w1 P.g (w+1) w (by omega) hw j hj
  rw[tP,tP] at this;exact this
 .subst h3;have:=vA (m:=3) (p:=p) (T:=[]) (bad:=[(z:Int)]) hb P.w1 P.g (w+1) w (by omega) hw j hj
  rw[tP] at this;have e:shr 3 j ins.length [(z:Int)]=[]:=by
   unfold shr;rw[Qb1.mpr fun i _=>?_]
   .rfl
   .rw [Qbf,QaS];intro h;have:=QbW.mp h;omega
  rw[e] at this;exact this
def MP(P:Pl c ins gs os)(hg:gs.length<=60):Made 3 ins gs os (bY 3 ins) (hX ins.length gs) (JQ ins.length os) (vD ins.length):=by
 refine⟨RA P.no P.w1 P.o1 (by omega),gr,rfl,fun bits hb w hw j hj p=>?_,fun _ z hz bits hb=>⟨z % 3,fun w hw j hj hjb p=>?_⟩⟩
 .exact vw (w0:=0) (jb:=3) hb P.w1 P.g (fun i j _ _=>by simp) (fun i j _ _=>by simp) (fun w j _ _=>by simp) (w+1) w (by omega) hw j hj (by omega)
 .refine vw (w0:=z / 3) (jb:=z % 3) hb P.w1 P.g (fun i j _ _=>by simp) (fun i j _ _=>by simp) (fun w j hj tV=>?_) (w+1) w (by omega) hw j hj (by omega)
  refine QbA.mpr fun h=>tV ?_
  rw[Qbf,QaS] at h;have:=QbW.mp h;omega
def L5{v:Bool}(Lx:1<=m)(hm:m<=3){f:Nat->Bool}(h:∀j,j<m->f j=v):zC ((List.range m).map f)=(!v,v):=by
 rcases(by omega:m=1\/m=2\/m=3) with rfl | rfl | rfl
 .show zC [f 0]=_;rw[h 0 (by omega)];rfl
 .show zC [f 0,f 1]=_;rw[h 0 (by omega),h 1 (by omega)];cases v <;> rfl
 .show zC [f 0,f 1,f 2]=_;rw[h 0 (by omega),h 1 (by omega),h 2 (by omega)];cases v <;> rfl
def Qb{v:Bool}{jb:Nat}{f:Nat->Bool}(h:∀j,j<3->j≠jb->f j=v):zC ((List.range 3).map f)=(!v,v):=by
 show(!((f 0 && f 1) || (f 0 && f 2) || (f 1 && f 2)),(f 0 && f 1) || (f 0 && f 2) || (f 1 && f 2))=_
 rw[Sv (jb:=jb) (fun z=>h 0 (by omega) (Qbh z)) (fun z=>h 1 (by omega) (Qbh z)) (fun z=>h 2 (by omega) (Qbh z))]
def Made.pt(M:Made m ins gs os gZ oW oT s)(P:Pl c ins gs os)(Lx:1<=m)(hm:m<=3){x:Str × List Nat}(hx:x∈os)(p:Nat) :
 K43.pt (Wd c gZ oW [] []) (x.1,(List.range m).map fun j=>s (x.2.getD 0 0) j) p=K43.pt (Wd c ins gs [] []) x p:=by
 obtain⟨w,hw⟩:=P.o1 x hx;have h2:=(P.no.o x hx).2 w (by rw[hw];simp)
 rw[P.l7] at h2;rw[NZ hw];unfold K43.pt tell;rw[hw];show zC ((((List.range m).map fun j=>s w j).map (g7 _)).map (· p))=_
 rw[Qax,Qax];exact L5 Lx hm fun j hj=>M.v (fU c) (by rw[s_,P.hc]) w h2 j hj p
end
section
variable {c m:Nat} {ins:Aac} {gs:List Gt} {os:Aad} {safe:Bool} {S:aN}
def I_(P:Pl c ins gs os){T:List Int}{w0 jb p w:Nat}{x:Str × List Nat}(hx:x∈os)(hw:x.2=[w])
 (Vd:∀i j,j<3->j≠jb->T.contains ((6*i+j:Nat):Int)=false)
 (Vh:∀i j,j<3->¬(ins.length+i=w0/\j=jb)->T.contains ((6*i+(3+j):Nat):Int)=false) :
 K43.pt (Wd c (bY 3 ins) (hX ins.length gs) T []) (x.1,(List.range 3).map fun j=>vD ins.length (x.2.getD 0 0) j) p=(!(wv c ins gs [] w p),wv c ins gs [] w p):=by
 have h2:=(P.no.o x hx).2 w (by rw[hw];simp)
 rw[P.l7] at h2;unfold K43.pt tell;rw[hw];show zC ((((List.range 3).map fun j=>vD ins.length w j).map (g7 _)).map (· p))=_
 rw[Qax,Qax];refine Qb (jb:=jb) fun j hj tV=>?_
 exact vw (w0:=w0) (jb:=jb) (bits:=fU c) (by rw[s_,P.hc]) P.w1 P.g Vd Vh (fun w j _ _=>by simp) (w+1) w (by omega) h2 j hj (fun z=>tV z.2)
def Ot(P:Pl c ins gs os){x p:Nat}:An safe c (bY 3 ins) (hX ins.length gs) (JQ ins.length os) (nZ [x]) p=false:=by
 have h0:∀y:Str × List Nat,y∈os->∀w,y.2=[w]->K43.pt (Wd c (bY 3 ins) (hX ins.length gs) [] []) (y.1,(List.range 3).map fun j=>vD ins.length (y.2.getD 0 0) j) p=(!(wv c ins gs [] w p),wv c ins gs [] w p):=fun y hy w hw=>I_ (w0:=0) (jb:=3) P hy hw (fun i j _ _=>by simp) (fun i j _ _=>by simp)
 have h1:∀y:Str × List Nat,y∈os->∀w,y.2=[w]->K43.pt (Wd c (bY 3 ins) (hX ins.length gs) (nZ [x]) []) (y.1,(List.range 3).map fun j=>vD ins.length (y.2.getD 0 0) j) p=(!(wv c ins gs [] w p),wv c ins gs [] w p):=fun y hy w hw=>by
  have hc:∀n:Nat,(nZ [x]).contains (n:Int)=true->n=x:=fun n h=>by
   unfold nZ at h;rw[Qbf,Qay,Qci,QaS] at h;exact QbW.mp h
  by_cases hk:x % 6<3
  .refine I_ (w0:=ins.length+gs.length+x) (jb:=x % 6) P hy hw (fun i j hj tV=>?_) (fun i j hj _=>?_)
   .exact QbA.mpr fun h=>tV (by have:=hc _ h;omega)
   .exact QbA.mpr fun h=>by have:=hc _ h;omega
  .refine I_ (w0:=ins.length+x / 6) (jb:=x % 6 - 3) P hy hw (fun i j hj tV=>?_) (fun i j hj tV=>?_)
   .exact QbA.mpr fun h=>by have:=hc _ h;omega
   .exact QbA.mpr fun h=>tV (by have:=hc _ h;omega)
 unfold An JQ;rw[List.any_map,Qbj];intro y hy;obtain⟨w,hw⟩:=P.o1 y hy;show ¬brk safe (K43.pt _ _ p) (K43.pt _ _ p)=true;rw[h0 y hy w hw,h1 y hy w hw];cases wv c ins gs [] w p <;> cases safe <;> decide
def Kd(P:Pl c ins gs os)(hm:m<=1):bears safe c (bY 3 ins) (hX ins.length gs) (JQ ins.length os) m=nh:=qT fun s h1 h2 T hT p hp=>by
 have hl:=t7 hT;obtain rfl:s=1:=by omega
 obtain⟨x,rfl⟩:=Qcs.mp hl.1;exact Ot P
end
end K43
end
section
set_option maxHeartbeats 800000
namespace K43
open PySem PySem.Spec PyProof.Rows L2 L3 MT
section
variable {c m:Nat} {ins:Aac} {gs:List Gt} {os:Aad} {S:aN}
def C9(a m:Nat):D:= .lst ((List.range m).map fun j=>nI (a+j))
def tR(s:Nat->Nat->Nat)(m N:Nat):List D:=(List.range N).map fun w=> .lst ((List.range m).map fun j=>nI (s w j))
def N6{s:Nat->Nat->Nat}{m N w:Nat}(h:w<N):bH (.lst (tR s m N)) (nI w)= .ok (.lst ((List.range m).map fun j=>nI (s w j))):=NT.iz (by unfold tR;rw [Qad,Qa2 h];rfl)
def Tu{s:Nat->Nat->Nat}{m w k:Nat}(h:k<m):bH (.lst ((List.range m).map fun j=>nI (s w j))) (nI k)= .ok (nI (s w k)):=NT.iz (by rw[Qad,Qa2 h];rfl)
def uE(nt:D)(m v:Nat)(h_:D)(S:aN)(W:Nat)(a5 a8 a9 a10 a11 zq ur:Option V3):DE:=[some (.d nt),some (.d (nI m)),some (.d (nI v)),some (.d h_),some (.loc S.length),a5,some (.d (nI W)),some (.loc (S.length+1)),a8,a9,a10,a11,zq,ur]
def Oh{nt h_:D}{v W:Nat}{a5 a8 a9 a10 a11 zq ur:Option V3}{T:aN}(hm:m<=10){Q:V3->aN->Prop}(h:Q (.d (C9 W m)) T) :
 W3 (lI (iP (cH (af 1))) (kN 0) wb (xP (e2 dO (af 1) (af 0))) ["j"] [6] (uE nt m v h_ S W a5 a8 a9 a10 a11 zq ur) T) Q:=by
 have hz:=Qap;refine nT (fun j ds S2=>S2=T/\ds=(List.range j).map fun j=>nI (W+j)) (kL (ds:=(List.range m).map nI) ?_ ⟨by rw[Qaa,Qaa,Qaj];omega,⟨rfl,rfl⟩,?_,?_⟩)
 .rw [<-fI];exact cU (n:=m) rfl (by omega)
 .rintro j x ds S2 hv ⟨rfl,rfl⟩;obtain⟨k,hk,rfl⟩:=NT.er hv;have hj:j<m:=by have:=(Qab.mp hk).1;rwa [Qaj] at this
  rw[Qa2 hj] at hk;cases hk;refine⟨[some (.d (nI j)),some (.d (nI W))],rfl,yN ?_⟩;rw[QaD rfl];exact bZ (d:=nI (W+j)) (av (a:=nI W) (b:=nI j) rfl rfl (qw _ _)) ⟨_,rfl,rfl,by rw[Qbs,Qas];rfl⟩
 .rintro ds S2 ⟨rfl,rfl⟩;rw[Qaa,Qaa,Qaj];exact h
def Qv{s:Nat->Nat->Nat}{n:Nat}{g:Gt}{k N v W:Nat}{nt h_:D}{G:List D}{a5 a8 a10 a11 ur:Option V3}(hk:k<m)(hg:l0 n g)(hN:n<=N) :
 aJ il (aj (eNew (cj (cF (af 9)) (aC 0) dC (e2 bH (e2 bH (af 1) (af 0)) (af 2)) ["wire"] [4,12])) aH) (dN (two S (tR s m N) G) (uE nt m v h_ S W a5 a8 (some (.d (.tup (g.2.1.map nI)))) a10 a11 (some (.d (nI k))) ur))= .ok (.tup ((BU s g k).2.1.map nI)):=by
 have hz:=Qap;have hal:=y6 g.1;have hgl:=hg.2.1;generalize hE:dN (two S (tR s m N) G) (uE nt m v h_ S W a5 a8 (some (.d (.tup (g.2.1.map nI)))) a10 a11 (some (.d (nI k))) ur)=E;have v9:af 9 E= .ok (.tup (g.2.1.map nI)):=by rw[<-hE];exact lj (v:= .d (.tup (g.2.1.map nI))) rfl (by unfold res;rfl)
 have hc:pd ["wire"] [4,12] E=[.un, .val (.lst (tR s m N)), .val (nI k)]:=by
  rw[<-hE];show [Sl.un]++[kD _ 4,kD _ 12]=_;rw[rC (v:= .loc S.length) rfl (fM nB),rC (v:= .d (nI k)) rfl (by unfold res;rfl)]
  rfl
 refine ax (ds:=[.lst ((BU s g k).2.1.map nI)]) (au (cu (bB (ds:=g.2.1.map nI) (pW v9) (by rw[Qaa];omega) ?_)) rfl) rfl
 rw[hc];show _=R.ok ((g.2.1.map (fun w=>s w k)).map nI)
 rw[Qax];refine NT.bJ nI _ fun w hw=>⟨[.val (nI w), .val (.lst (tR s m N)), .val (nI k)],rfl,rfl,?_⟩
 have:=hg.2.2 w hw;exact av (a:= .lst ((List.range m).map fun j=>nI (s w j))) (b:=nI k) (av (a:= .lst (tR s m N)) (b:=nI w) rfl rfl (N6 (by omega))) rfl (Tu hk)
def Rq{s:Nat->Nat->Nat}{n v W:Nat}{g:Gt}{nt h_:D}{G:List Gt}{a5 a11 zq ur:Option V3}(hm:m<=10)(hg:l0 n g)(NY:G.length<=900){QO:Ou->aN->Prop}
 (h:∀vp vq,QO (.nx (uE nt m v h_ S W a5 (some (.d (.str (kS g.1)))) (some (.d (.tup (g.2.1.map nI)))) (some (.d (.bl g.2.2))) a11 vp vq)) (two S (tR s m n) ((G++(List.range m).map (BU s g)).map cO))) :
 W3 (jr (iP (cH (af 1))) (kN 12) lx (uE nt m v h_ S W a5 (some (.d (.str (kS g.1)))) (some (.d (.tup (g.2.1.map nI)))) (some (.d (.bl g.2.2))) a11 zq ur) (two S (tR s m n) (G.map cO))) QO:=by
 have hz:=Qap;refine gh<|kL (ds:=(List.range m).map nI) ?_ ?_
 .rw [<-fI];exact cU (n:=m) rfl (by omega)
 refine(cn (fun j δ S2=>∃vp vq,δ=uE nt m v h_ S W a5 (some (.d (.str (kS g.1)))) (some (.d (.tup (g.2.1.map nI)))) (some (.d (.bl g.2.2))) a11 vp vq/\S2=two S (tR s m n) ((G++(List.range j).map (BU s g)).map cO))
  ⟨zq,ur,rfl,by simp⟩ ?_).mono fun o S2 ⟨ef,gm,vp,vq,hδ,hS⟩=>by rw[gm,hδ,hS,Qaa,Qaa,Qaj];exact h vp vq
 rintro j x δ S2 hv ⟨vp,vq,rfl,rfl⟩;obtain⟨k,hk,rfl⟩:=NT.er hv;have hj:j<m:=by have:=(Qab.mp hk).1;rwa [Qaj] at this
 rw[Qa2 hj] at hk;cases hk;refine⟨uE nt m v h_ S W a5 (some (.d (.str (kS g.1)))) (some (.d (.tup (g.2.1.map nI)))) (some (.d (.bl g.2.2))) a11 (some (.d (nI j))) vq,rfl,?_⟩;unfold lx;refine aT<|bM (by show 13<14;omega)<|Ji (Qv (n:=n) hj hg (Qag _)) (pT _) ⟨_,rfl,?_⟩
 show W3 (kP _ _ (uE nt m v h_ S W a5 (some (.d (.str (kS g.1)))) (some (.d (.tup (g.2.1.map nI)))) (some (.d (.bl g.2.2))) a11 (some (.d (nI j))) (some (.d (.tup ((BU s g j).2.1.map nI))))) _) _;refine jd (k:=S.length+1) rfl ⟨_,m4⟩<|bZ (d:=cO (BU s g j)) (cI (ds:=[.str (kS g.1), .tup ((BU s g j).2.1.map nI), .bl g.2.2]) ?_ (by simp;omega)) ⟨_,_,rfl,m4,?_,_,rfl,_,_,rfl,?_⟩
 .cases a5 <;> cases a11 <;> rfl
 .rw [Qaa,Qau,Qaa,Qaj];omega
 .rw [Aw];congr 1;rw[Qbs,Qas,Qas,Qas,Qas,<-QaN];rfl
def Qg{n v W V:Nat}{A:List D}{g:Gt}{nt h_:D}{G:List Gt}{a5 zq ur:Option V3}(hm:m<=10)(NY:G.length<=900){QO:Ou->aN->Prop}
 (h:∀vp,QO (.nx (uE nt m v h_ S W a5 (some (.d (.str (kS g.1)))) (some (.d (.tup (g.2.1.map nI)))) (some (.d (.bl g.2.2))) (some (.d (C9 V m))) vp ur)) (two S A ((G++List.replicate m ((4,(List.range m).map (fun j=>V+j),g.2.2):Gt)).map cO))) :
 W3 (jr (iP (cH (af 1))) (kN 12) lK (uE nt m v h_ S W a5 (some (.d (.str (kS g.1)))) (some (.d (.tup (g.2.1.map nI)))) (some (.d (.bl g.2.2))) (some (.d (C9 V m))) zq ur) (two S A (G.map cO))) QO:=by
 have hz:=Qap;refine gh<|kL (ds:=(List.range m).map nI) ?_ ?_
 .rw [<-fI];exact cU (n:=m) rfl (by omega)
 refine(cn (fun j δ S2=>∃vp,δ=uE nt m v h_ S W a5 (some (.d (.str (kS g.1)))) (some (.d (.tup (g.2.1.map nI)))) (some (.d (.bl g.2.2))) (some (.d (C9 V m))) vp ur/\S2=two S A ((G++List.replicate j ((4,(List.range m).map (fun j=>V+j),g.2.2):Gt)).map cO))
  ⟨zq,rfl,by simp⟩ ?_).mono fun o S2 ⟨ef,gm,vp,hδ,hS⟩=>by rw[gm,hδ,hS,Qaa,Qaa,Qaj];exact h vp
 rintro j x δ S2 hv ⟨vp,rfl,rfl⟩;obtain⟨k,hk,rfl⟩:=NT.er hv;have hj:j<m:=by have:=(Qab.mp hk).1;rwa [Qaj] at this
 refine⟨uE nt m v h_ S W a5 (some (.d (.str (kS g.1)))) (some (.d (.tup (g.2.1.map nI)))) (some (.d (.bl g.2.2))) (some (.d (C9 V m))) (some (.d (nI k))) ur,rfl,?_⟩;unfold lK;refine jd (k:=S.length+1) rfl ⟨_,m4⟩<|bZ (d:=cO ((4,(List.range m).map (fun j=>V+j),g.2.2):Gt)) (cI (ds:=[.str (kS 4), .tup (((List.range m).map (fun j=>V+j)).map nI), .bl g.2.2]) (au rfl (au (ax (ds:=[C9 V m]) ?_ ?_) ?_)) (by simp;omega)) ⟨_,_,rfl,m4,?_,_,rfl,_,rfl,?_⟩
 .cases a5 <;> cases ur <;> rfl
 .show R.ok (D.tup _)=_;rw[Qax];rfl
 .cases a5 <;> cases ur <;> rfl
 .rw [Qaa,Qau,QaP];omega
 .rw [Aw];congr 1;rw[List.replicate_succ',<-QaN,Qas (l₁:=G++_)];rfl
end
section
variable {c m:Nat} {ins:Aac} {gs:List Gt} {os:Aad} {S:aN}
def gB(s:Nat->Nat->Nat)(m:Nat)(vb:Bool)(W:Nat)(g:Gt):List Gt:=(List.range m).map (BU s g)++(if vb then List.replicate m ((4,(List.range m).map (fun j=>W+j),g.2.2):Gt) else [])
def SV{s:Nat->Nat->Nat}{n W:Nat}{vb:Bool}{g:Gt}{nt h_:D}{G:List Gt}{a5 a11 zq ur:Option V3}(hm:m<=10)(hn:n<1000)(hg:l0 n g)(NY:G.length<=800)(hs:∀j,j<m->s n j=W+(if vb then m else 0)+j){QO:Ou->aN->Prop}
 (h:∀Ly vp vq,QO (.nx (uE nt m (if vb then 1 else 0) h_ S (W+(if vb then 2*m else m)) a5 (some (.d (.str (kS g.1)))) (some (.d (.tup (g.2.1.map nI)))) (some (.d (.bl g.2.2))) Ly vp vq)) (two S (tR s m (n+1)) ((G++gB s m vb W g).map cO))) :
 W3 (lF (uE nt m (if vb then 1 else 0) h_ S W a5 (some (.d (.str (kS g.1)))) (some (.d (.tup (g.2.1.map nI)))) (some (.d (.bl g.2.2))) a11 zq ur) (two S (tR s m n) (G.map cO))) QO:=by
 have hz:=Qap;have lsn:∀W',(∀j,j<m->s n j=W'+j)->tR s m n++[C9 W' m]=tR s m (n+1):=fun W' hW=>by
  unfold tR C9;rw[Qbs,Qas];congr 1;show [D.lst _]=[D.lst _];congr 2;exact Qa1 fun j hj=>by rw[hW j (QaL.mp hj)]
 unfold lF;refine aT<|bM (by show 11<14;omega)<|Oh hm ⟨_,rfl,?_⟩
 show W3 (bt _ _ (uE nt m (if vb then 1 else 0) h_ S W a5 (some (.d (.str (kS g.1)))) (some (.d (.tup (g.2.1.map nI)))) (some (.d (.bl g.2.2))) (some (.d (C9 W m))) zq ur) _) _
 refine aT<|Rq hm hg (by omega) fun vp vq=>⟨_,rfl,?_⟩
 refine aT<|bM (by show 6<14;omega)<|bZ (d:=nI (W+m)) (av (a:=nI W) (b:=nI m) ?_ ?_ (qw _ _)) ⟨_,rfl,?_⟩
 .cases a5 <;> cases vp <;> cases vq <;> rfl
 .cases a5 <;> cases vp <;> cases vq <;> rfl
 show W3 (bt _ _ (uE nt m (if vb then 1 else 0) h_ S (W+m) a5 (some (.d (.str (kS g.1)))) (some (.d (.tup (g.2.1.map nI)))) (some (.d (.bl g.2.2))) (some (.d (C9 W m))) vp vq) _) _
 cases vb with
 | false=>
   refine aT<|pE<|yu (b:=false) ?_ ?_
   .cases a5 <;> cases vp <;> cases vq <;> rfl
   rw[QaB (by decide)]
   refine iI ⟨_,rfl,?_⟩;refine jd (k:=S.length) rfl ⟨_,nB⟩<|bZ (d:=C9 W m) ?_ ⟨_,_,rfl,nB,by unfold tR;rw [Qaa,Qaj];omega,?_⟩
   .cases a5 <;> cases vp <;> cases vq <;> rfl
   rw[AL,lsn W (fun j hj=>by rw[hs j hj];rfl)]
   have:=h (some (.d (C9 W m))) vp vq;unfold gB at this;rw[QaB (by decide),QaB (by decide),QaB (by decide),Qa7] at this
   exact this
 | true=>
   refine aT<|pE<|yu (b:=true) ?_ ?_
   .cases a5 <;> cases vp <;> cases vq <;> rfl
   rw[QaD rfl];refine aT<|Qg (n:=0) hm (by rw[Qau,Qaa,Qaj];omega) fun Sf=>⟨_,rfl,?_⟩
   refine aT<|bM (by show 11<14;omega)<|Oh hm ⟨_,rfl,?_⟩
   show W3 (cM _ _ (uE nt m (if true then 1 else 0) h_ S (W+m) a5 (some (.d (.str (kS g.1)))) (some (.d (.tup (g.2.1.map nI)))) (some (.d (.bl g.2.2))) (some (.d (C9 (W+m) m))) Sf vq) _) _
   refine bM (by show 6<14;omega)<|bZ (d:=nI (W+m+m)) (av (a:=nI (W+m)) (b:=nI m) ?_ ?_ (qw _ _)) ⟨_,rfl,?_⟩
   .cases a5 <;> cases Sf <;> cases vq <;> rfl
   .cases a5 <;> cases Sf <;> cases vq <;> rfl
   show W3 (kP _ _ (uE nt m (if true then 1 else 0) h_ S (W+m+m) a5 (some (.d (.str (kS g.1)))) (some (.d (.tup (g.2.1.map nI)))) (some (.d (.bl g.2.2))) (some (.d (C9 (W+m) m))) Sf vq) _) _
   refine jd (k:=S.length) rfl ⟨_,nB⟩<|bZ (d:=C9 (W+m) m) ?_ ⟨_,_,rfl,nB,by unfold tR;rw [Qaa,Qaj];omega,?_⟩
   .cases a5 <;> cases Sf <;> cases vq <;> rfl
   rw[AL,lsn (W+m) (fun j hj=>by rw[hs j hj];rfl)]
   have:=h (some (.d (C9 (W+m) m))) Sf vq;unfold gB at this;rw[QaD rfl,QaD rfl,QaD rfl,show W+2*m=W+m+m by omega,<-QaN] at this
   exact this
def uK{s:Nat->Nat->Nat}{vb:Bool}{GS:Nat->List Gt}{WW:Nat->Nat}(P:Pl c ins gs os)(hm:m<=10)(hg:gs.length<=60)(WB:∀w j,w<ins.length->s w j=m*w+j)(XE:GS 0=[])(hW0:WW 0=m*ins.length)
 (NY:∀i,(GS i).length<=800) (xV:∀i g,gs[i]? =some g->GS (i+1)=GS i++gB s m vb (WW i) g/\WW (i+1)=WW i+(if vb then 2*m else m)/\∀j,j<m->s (ins.length+i) j=WW i+(if vb then m else 0)+j)
 (hS:ma S) {Q:V3->aN->Prop} (h:Q (.d (aM (bY m ins) (GS gs.length) (os.map fun x=>(x.1,(List.range m).map fun j=>s (x.2.getD 0 0) j)))) S) :
 W3 (d9 [.d (aM ins gs os), .d (nI m), .d (nI (if vb then 1 else 0))] S) Q:=by
 have hz:=Qap;have hi:=P.no.hi;have hO:=P.no.ho;unfold d9;refine g9 hS (vB rfl ?_);simp only[bQ,c0,List.map,List.length,List.replicate,Qav,QaA,Nat.reduceAdd,Nat.reduceSub];unfold n4;have hmulN:∀a:Nat,nG (nI m) (nI a)= .ok (nI (m*a)):=fun a=>NT.Qa (a:=m) (b:=a) (by omega)
 refine aT<|bM (by simp)<|nT (fun j ds S2=>S2=S/\ds=((bY m ins).take j).map MT.inD) (kL (ds:=ins.map MT.inD) (iy (av (a:=aM ins gs os) (b:= .int 0) rfl rfl rfl)) ⟨by rw[Qaa,Qaa];omega,⟨rfl,rfl⟩,?_,?_⟩)
 .rintro j v ds S2 hv ⟨rfl,rfl⟩;obtain⟨x,hx,rfl⟩:=NT.er hv;refine⟨[some (.d (.str x.1)),some (.d (nI x.2)),some (.d (nI m))],rfl,yN ?_⟩;rw[QaD rfl];refine bZ (d:=MT.inD (x.1,m)) (cI (ds:=[.str x.1,nI m]) rfl (by simp;omega)) ⟨_,rfl,rfl,?_⟩
  have hj:(bY m ins)[j]? =some (x.1,m):=by unfold bY;rw [Qad,hx];rfl
  rw[QaU,hj,Qas];rfl
 rintro ds S2 ⟨rfl,rfl⟩;rw[Qaa,Qaa,Qbi (by unfold bY;rw [Qaa];exact Qag _)]
 refine⟨_,rfl,?_⟩;simp only[List.set];have hil:(bY m ins).length=ins.length:=by unfold bY;rw [Qaa]
 refine aT<|bM (by simp)<|ll (ds:=[]) rfl ⟨_,rfl,?_⟩
 simp only[List.set];refine aT<|gh<|kL (ds:=(List.range ins.length).map nI) ?_ ?_
 .rw [<-fI];exact cU (n:=ins.length) (ax (ds:=[.lst ((bY m ins).map MT.inD)]) rfl (by rw[jm,Qaa,hil] <;> rfl)) (by omega)
 refine(cn (fun i δ S3=>∃a5,δ=[some (.d (aM ins gs os)),some (.d (nI m)),some (.d (nI (if vb then 1 else 0))),some (.d (.lst ((bY m ins).map MT.inD))),some (.loc S2.length),a5,none,none,none,none,none,none,none,none]/\S3=S2++[SO.lst (tR s m i)])
  ⟨_,rfl,rfl⟩ ?_).mono fun o S3 ⟨NS,e3,a5,hδ,Gj⟩=>⟨NS,e3,?_⟩
 .rintro i v δ S3 hv ⟨a5,rfl,rfl⟩;obtain⟨k,hk,rfl⟩:=NT.er hv;have hj:i<ins.length:=by have:=(Qab.mp hk).1;rwa [Qaj] at this
  rw[Qa2 hj] at hk;cases hk;refine⟨_,rfl,?_⟩;unfold pP;refine jd (k:=S2.length) rfl ⟨_,bc _ _⟩<|bZ (d:= .lst ((List.range m).map fun j=>nI (s i j))) (cu (bB (ds:=(List.range m).map nI) ?_ (by rw[Qaa,Qaj];omega) ?_)) ⟨_,_,rfl,bc _ _,by unfold tR;rw [Qaa,Qaj];omega,_,rfl,_,rfl,?_⟩
  .rw [<-fI];exact cU (n:=m) rfl (by omega)
  .refine NT.bJ (t:=aC 0) (c:=dC) (δ:=[.un, .val (nI m), .val (nI i)]) nI _ fun j YA=>⟨[.val (nI j), .val (nI m), .val (nI i)],rfl,rfl,?_⟩
   rw[WB i j hj];exact av (a:=nI (m*i)) (b:=nI j) (av (a:=nI m) (b:=nI i) rfl rfl (hmulN _)) rfl (qw _ _)
  .rw [dG];congr 2;unfold tR;rw[Qbs,Qas];rfl
 rw[Qaa,Qaa,Qaj] at Gj;subst hδ Gj;refine aT<|bM (by simp)<|bZ (d:=nI (m*ins.length)) (av (a:=nI m) (b:=nI ins.length) ?_ (ax (ds:=[.lst ((bY m ins).map MT.inD)]) ?_ (by rw[jm,Qaa,hil] <;> rfl)) (hmulN _)) ⟨_,rfl,?_⟩
 .cases a5 <;> rfl
 .cases a5 <;> rfl
 simp only[List.set];refine aT<|bM (by simp)<|ll (ds:=[]) rfl ⟨_,rfl,?_⟩
 rw[By];simp only[List.set];rw[show(S2++[SO.lst (tR s m ins.length)]).length=S2.length+1 by simp]
 refine aT<|gh<|kL (ds:=gs.map cO) (iy (av (a:=aM ins gs os) (b:= .int 1) ?_ rfl rfl)) ?_
 .cases a5 <;> rfl
 refine(cn (fun i δ S4=>∃a8 a9 a10 a11 zq ur,δ=uE (aM ins gs os) m (if vb then 1 else 0) (.lst ((bY m ins).map MT.inD)) S2 (WW i) a5 a8 a9 a10 a11 zq ur/\S4=two S2 (tR s m (ins.length+i)) ((GS i).map cO))
  ⟨none,none,none,none,none,none,by rw[hW0];rfl,by rw[XE];rfl⟩ ?_).mono fun o S4 ⟨WK,e4,a8,a9,a10,a11,zq,ur,hδ,NR⟩=>⟨WK,e4,?_⟩
 .rintro i x δ S4 hv ⟨a8,a9,a10,a11,zq,ur,rfl,rfl⟩;obtain⟨g,qA,rfl⟩:=NT.er hv;obtain⟨t1,t2,t3⟩:=xV i g qA;have hib:=(Qab.mp qA).1;refine⟨uE (aM ins gs os) m (if vb then 1 else 0) (.lst ((bY m ins).map MT.inD)) S2 (WW i) a5 (some (.d (.str (kS g.1)))) (some (.d (.tup (g.2.1.map nI)))) (some (.d (.bl g.2.2))) a11 zq ur,rfl,?_⟩
  refine SV hm (by omega) (P.g i g qA) (NY i) t3 fun Ly vp vq=>⟨_,rfl,some (.d (.str (kS g.1))),some (.d (.tup (g.2.1.map nI))),some (.d (.bl g.2.2)),Ly,vp,vq,by rw[t2],by rw[t1];rfl⟩
 rw[Qaa,Qaa] at NR hδ;subst hδ NR;unfold uE;refine Cu (k:=S2.length+1) (ds:=(GS gs.length).map cO) rfl m4 ?_;simp only[List.set];have hA:((two S2 (tR s m (ins.length+gs.length)) ((GS gs.length).map cO)).set (S2.length+1) SO.lV)[S2.length]? =some (.lst (tR s m (ins.length+gs.length))):=by rw[Qaq (by omega)];exact nB
 refine Cu (k:=S2.length) (ds:=tR s m (ins.length+gs.length)) rfl hA ?_;simp only[List.set];have hT:((two S2 (tR s m (ins.length+gs.length)) ((GS gs.length).map cO)).set (S2.length+1) SO.lV).set S2.length SO.lV=S2++[SO.lV,SO.lV]:=by
  unfold two;rw[Qa3 _ _ (by omega),show S2.length+1 - S2.length=1 by omega,Qa3 _ _ (by omega),QaQ]
  rfl
 rw[hT];refine eQ<|bZ (d:=aM (bY m ins) (GS gs.length) (os.map fun x=>(x.1,(List.range m).map fun j=>s (x.2.getD 0 0) j))) (cI (ds:=[.lst ((bY m ins).map MT.inD), .lst ((GS gs.length).map cO), .lst ((os.map fun x=>(x.1,(List.range m).map fun j=>s (x.2.getD 0 0) j)).map vk)]) (au ?_ (au ?_ (au (cu (bB (ds:=os.map vk) (iy (av (a:=aM ins gs os) (b:= .int 2) ?_ rfl rfl)) (by rw[Qaa];omega) ?_)) rfl))) (by simp;omega)) ⟨_,rfl,by unfold fT;rfl,⟨_,rfl⟩,_,by unfold res;rfl,h⟩
 .cases a5 <;> cases a8 <;> cases a9 <;> cases a10 <;> cases a11 <;> cases zq <;> cases ur <;> rfl
 .cases a5 <;> cases a8 <;> cases a9 <;> cases a10 <;> cases a11 <;> cases zq <;> cases ur <;> rfl
 .cases a5 <;> cases a8 <;> cases a9 <;> cases a10 <;> cases a11 <;> cases zq <;> cases ur <;> rfl
 .rw [Qax];refine NT.bJ (t:=eg 2 (bh (aC 0) (bh (aC 1) ei))) (c:=dC) (δ:=[.un, .un, .val (.lst (tR s m (ins.length+gs.length)))]) vk _ fun x hx=>⟨[.val (.str x.1), .val (.tup (x.2.map nI)), .val (.lst (tR s m (ins.length+gs.length)))],rfl,rfl,?_⟩
  obtain⟨w,hw⟩:=P.o1 x hx;have h2:=(P.no.o x hx).2 w (by rw[hw];simp)
  rw[P.l7] at h2;refine cI (ds:=[.str x.1, .tup (((List.range m).map fun j=>s (x.2.getD 0 0) j).map nI)]) (au rfl (au (ax (ds:=[.lst (((List.range m).map fun j=>s (x.2.getD 0 0) j).map nI)]) (au ?_ rfl) rfl) rfl)) (by simp;omega)
  refine av (a:= .lst (tR s m (ins.length+gs.length))) (b:=nI w) rfl (av (a:= .tup (x.2.map nI)) (b:= .int 0) rfl rfl (by rw[hw];rfl)) ?_
  rw[N6 (by omega),hw,Qax]
  rfl
end
section
variable {c m:Nat} {ins:Aac} {gs:List Gt} {os:Aad} {S:aN}
def qH(P:Pl c ins gs os)(hm:m<=3)(hg:gs.length<=60)(hS:ma S){Q:V3->aN->Prop}(h:Q (.d (aM (bY m ins) (fR m gs) (C8 m os))) S):W3 (d9 [.d (aM ins gs os), .d (nI m), .d (nI 0)] S) Q:=by
 have hlen:∀i,(fR m (gs.take i)).length<=800:=fun i=>by
  rw[kf];have h1:(gs.take i).length<=60:=by rw[QaX];omega
  have:=QcS hm h1;omega
 refine uK (vb:=false) (s:=fun w j=>m*w+j) (GS:=fun i=>fR m (gs.take i)) (WW:=fun i=>m*ins.length+m*i) P (by omega) hg (fun _ _ _=>rfl) rfl rfl hlen (fun i g qA=>⟨?_,?_,fun j _=>?_⟩) hS (by show Q (.d (aM (bY m ins) (fR m (gs.take gs.length)) (C8 m os))) S;rw [QaV];exact h)
 .show fR m (gs.take (i+1))=fR m (gs.take i)++_;rw[QaU,qA];show fR m (gs.take i++[g])=_;unfold fR gB;rw[Qcd,List.flatMap_singleton,QaB (by decide),Qa7]
  rfl
 .show m*ins.length+m*(i+1)=m*ins.length+m*i+m;rw[QbH,Nat.mul_one];omega
 .show m*(ins.length+i)+j=m*ins.length+m*i+0+j;rw[QbH];omega
def yf(P:Pl c ins gs os)(hg:gs.length<=60)(hS:ma S){Q:V3->aN->Prop}(h:Q (.d (aM (bY 3 ins) (hX ins.length gs) (JQ ins.length os))) S):W3 (d9 [.d (aM ins gs os), .d (nI 3), .d (nI 1)] S) Q:=by
 have hlen:∀i,(hX ins.length (gs.take i)).length<=800:=fun i=>by
  unfold hX;rw[px,QaX];omega
 refine uK (vb:=true) (s:=vD ins.length) (GS:=fun i=>hX ins.length (gs.take i)) (WW:=fun i=>3*ins.length+6*i) P (by omega) hg (fun w j hw=>by unfold vD;rw [QaD hw]) rfl rfl hlen (fun i g qA=>⟨?_,?_,fun j _=>?_⟩) hS (by show Q (.d (aM (bY 3 ins) (hX ins.length (gs.take gs.length)) (JQ ins.length os))) S;rw [QaV];exact h)
 .have hil:=(Qab.mp qA).1;show hX ins.length (gs.take (i+1))=hX ins.length (gs.take i)++_;rw[QaU,qA];show uf ins.length 0 (gs.take i++[g])=_;rw[wj,QbQ,QaX,Qb0 (by omega)]
  rfl
 .show 3*ins.length+6*(i+1)=3*ins.length+6*i+6;omega
 .show vD ins.length (ins.length+i) j=3*ins.length+6*i+3+j;unfold vD;rw[QaB (by omega)]
  omega
def Jw(bs:List Bool):Hz [.lst (bs.map D.bl)]= .ok (.bl (bs.all id)):=by
 show(match bls? (bs.map D.bl) with | some bs=>R.ok (D.bl (bs.all id)) | none=> .no)=_
 rw[Fu]
def xA(ins:Aac)(os:Aad):Bool:=(ins.all fun x=>x.2==1) && os.all fun x=>x.2.length==1
def G0(hi:ins.length<=1000)(ho:os.length<=1000):eX [aM ins gs os, .int 1]= .ok (.bl (xA ins os)):=by
 have hz:=Qap;unfold eX;refine cV ?_;unfold su;have e1:(ins.map fun x:Str × Nat=>D.bl (x.2==1))=(ins.map fun x=>x.2==1).map D.bl:=by rw[Qax];rfl
 have gm:(os.map fun x:Str × List Nat=>D.bl (x.2.length==1))=(os.map fun x=>x.2.length==1).map D.bl:=by rw[Qax];rfl
 refine bG (fO (d:= .bl (ins.all fun x=>x.2==1)) (ax (ds:=[.lst (ins.map fun x=>D.bl (x.2==1))]) (au (cu (bB (ds:=ins.map MT.inD) rfl (by rw[Qaa];omega) ?_)) rfl) (by rw[e1,Jw,List.all_map];rfl)) (by simp [dj,iC])) ?_
 .refine NT.bJ _ _ fun x hx=>⟨[.val (MT.inD x), .val (.int 1)],rfl,rfl,av (a:=nI x.2) (b:= .int 1) (av (a:=MT.inD x) (b:= .int 1) rfl rfl rfl) rfl ?_⟩
  show R.ok (D.bl _)=_;congr 2;show((x.2:Int)==1)=(x.2==1);rw[Qa6,Qba,Qba];omega
 have last:aJ Hz (aj (eNew (cj (cF (e2 bH (af 0) (eC (.int 2)))) (eg 2 (bh (aC 0) (bh (aC 1) ei))) dC (e2 oQ (aJ dU (aj (af 1) aH)) (af 2)) ["name","wires"] [1])) aH) [.val (aM ins gs os), .val (.int 1), .val (.bl (ins.all fun x=>x.2==1))]= .ok (.bl (os.all fun x=>x.2.length==1)):=by
  refine ax (ds:=[.lst (os.map fun x=>D.bl (x.2.length==1))]) (au (cu (bB (ds:=os.map vk) rfl (by rw[Qaa];omega) ?_)) rfl) (by rw[gm,Jw,List.all_map];rfl)
  refine NT.bJ _ _ fun x hx=>⟨[.val (.str x.1), .val (.tup (x.2.map nI)), .val (.int 1)],rfl,rfl,av (a:= .int x.2.length) (b:= .int 1) (ax (ds:=[.tup (x.2.map nI)]) rfl ?_) rfl ?_⟩
  .show R.ok (D.int ((x.2.map nI).length:Int))=_;rw[Qaa]
  .show R.ok (D.bl _)=_;congr 2;show((x.2.length:Int)==1)=(x.2.length==1);rw[Qa6,Qba,Qba];omega
 refine cL ?_;unfold xA;cases h:(ins.all fun x=>x.2==1) with
 | true=>
   rw[h] at last;exact NT.QU rfl last
 | false=>rfl
end
section
variable {c m t:Nat} {ins:Aac} {gs:List Gt} {os:Aad} {S:aN}
def As(P:Pl c ins gs os):xA ins os=true:=by
 unfold xA;rw[Qbn,Qbu,Qbu];exact⟨fun x hx=>by simp [P.w1 x hx],fun x hx=>by obtain⟨w,e⟩:=P.o1 x hx;simp [e]⟩
def KN(hi:ins.length<=1000)(ho:os.length<=1000){Q:Bool->aN->Prop}(h:Q (!xA ins os) S):W3 (Se (bP (xy (sO (aJ eX (aj (af 0) (aj (eC (.int 1)) aH)))))) [some (.d (aM ins gs os)),some (.d (nI t))] S) Q:=by
 refine OI (yu (b:=!xA ins os) ?_ h);show xy (sO (aJ eX (aj (af 0) (aj (eC (.int 1)) aH)))) [.val (aM ins gs os), .val (nI t)]=_;unfold xy sO;rw[ax (ds:=[aM ins gs os, .int 1]) rfl (G0 hi ho)];rfl
def Om(hg:gs.length<=100)(ht:t<=6){Q:Bool->aN->Prop}(h:Q (decide (60<gs.length*t)) S):W3 (Se (bP (b2 RE (e2 nG (aJ dU (aj (e2 bH (af 0) (eC (.int 1))) aH)) (af 1)) (eC f_))) [some (.d (aM ins gs os)),some (.d (nI t))] S) Q:=by
 have hb:gs.length*t<=100*6:=QcS hg ht;refine OI (yu (b:=decide (60<gs.length*t)) (je (a:=nI (gs.length*t)) (b:= .int 60) (av (a:=nI gs.length) (b:=nI t) (ax (ds:=[.lst (gs.map cO)]) (au (av (a:=aM ins gs os) (b:= .int 1) rfl rfl rfl) rfl) (by rw[jm,Qaa] <;> rfl)) rfl (NT.Qa (by omega))) rfl ?_) h)
 show R.ok (D.bl (decide ((60:Int)<((gs.length*t:Nat):Int))))=_;congr 2;rw[Qa6,Qc2,Qc2];omega
def vY(hi:ins.length<=1000)(ho:os.length<=1000)(h:xA ins os=false):bK [.d (aM ins gs os), .d (nI t)] S= .ex 4 S:=by
 refine TK rfl ?_;simp only[bQ,fA,List.map,List.length,List.replicate,Qav,QaA,Nat.reduceAdd,Nat.reduceSub];unfold gz;refine Aj (Su (KN hi ho ?_));rw[h];exact x_raise (mC (ay (bZ rfl (cb ⟨by show 1<=sizeLine;decide,rfl⟩))))
def DC(hi:ins.length<=1000)(ho:os.length<=1000)(hg:gs.length<=100)(h:xA ins os=true)(hl:60<gs.length*6):bK [.d (aM ins gs os), .d (nI 6)] S= .ex 3 S:=by
 refine TK rfl ?_;simp only[bQ,fA,List.map,List.length,List.replicate,Qav,QaA,Nat.reduceAdd,Nat.reduceSub];unfold gz;refine Pm (pE (KN hi ho ?_));rw[h];refine iI ⟨_,rfl,Su (Om hg (by omega) ?_)⟩
 rw[QaE hl];exact x_raise (mC (ay (bZ rfl (cb ⟨by show 1<=sizeLine;decide,rfl⟩))))
def Ao(hi:ins.length<=1000)(ho:os.length<=1000)(hg:gs.length<=100)(ht:t<=6)(h:xA ins os=true)(hl:gs.length*t<=60){Q:V3->aN->Prop}(q:Q (.d .cR) S):W3 (bK [.d (aM ins gs os), .d (nI t)] S) Q:=by
 refine Vw rfl ?_;simp only[bQ,fA,List.map,List.length,List.replicate,Qav,QaA,Nat.reduceAdd,Nat.reduceSub];unfold gz;refine aT (pE (KN hi ho ?_));rw[h];refine iI ⟨_,rfl,pE (Om hg ht ?_)⟩;rw[QaY (by omega)]
 exact iI ⟨⟨_,rfl⟩,q⟩
def LZ{cc:Nat}(h:bK [.d (aM ins gs os), .d (nI 2)] S= .ex cc S):dy [.d (aM ins gs os)] S= .ex cc S:=by
 refine TK rfl ?_;simp only[bQ,lQ,List.map,List.length,List.replicate,Qav,QaA,Nat.reduceAdd,Nat.reduceSub];unfold nH;exact Aj (Ag (x_call (mC (ay (bZ (d:=aM ins gs os) rfl (ay (bZ (d:=nI 2) rfl (cb h))))))))
def Np(P:Pl c ins gs os)(hg:gs.length*2<=60)(hS:ma S){Q:V3->aN->Prop}(q:Q (.d (aM (bY 2 ins) (fR 2 gs) (C8 2 os))) S):W3 (dy [.d (aM ins gs os)] S) Q:=by
 have hi:=P.no.hi;have ho:=P.no.ho;have hg60:gs.length<=60:=by omega
 refine vB rfl ?_;simp only[bQ,lQ,List.map,List.length,List.replicate,Qav,QaA,Nat.reduceAdd,Nat.reduceSub];unfold nH;refine aT (Dc (cQ (mC (ay (bZ (d:=aM ins gs os) rfl (ay (bZ (d:=nI 2) rfl (cb (Ao (t:=2) (by omega) (by omega) (by omega) (by omega) (As P) hg ⟨_,rfl,?_⟩)))))))))
 exact Iy (eQ (cQ (ay (bZ (d:=aM ins gs os) rfl (ay (bZ (d:=nI 2) rfl (ay (bZ (d:= .bl false) rfl (cb (sU (m:=2) P (by omega) hg60 hS ⟨_,rfl,q⟩))))))))))
def KJ{cc:Nat}(h:bK [.d (aM ins gs os), .d (nI 3)] S= .ex cc S):c6 [.d (aM ins gs os)] S= .ex cc S:=by
 refine TK rfl ?_;simp only[bQ,j6,List.map,List.length,List.replicate,Qav,QaA,Nat.reduceAdd,Nat.reduceSub];unfold mf;exact Aj (Ag (x_call (mC (ay (bZ (d:=aM ins gs os) rfl (ay (bZ (d:=nI 3) rfl (cb h))))))))
def Ke(P:Pl c ins gs os)(hg:gs.length*3<=60)(hS:ma S){Q:V3->aN->Prop}(q:Q (.d (aM (bY 3 ins) (fR 3 gs) (C8 3 os))) S):W3 (c6 [.d (aM ins gs os)] S) Q:=by
 have hi:=P.no.hi;have ho:=P.no.ho;have hg60:gs.length<=60:=by omega
 refine vB rfl ?_;simp only[bQ,j6,List.map,List.length,List.replicate,Qav,QaA,Nat.reduceAdd,Nat.reduceSub];unfold mf;refine aT (Dc (cQ (mC (ay (bZ (d:=aM ins gs os) rfl (ay (bZ (d:=nI 3) rfl (cb (Ao (t:=3) (by omega) (by omega) (by omega) (by omega) (As P) hg ⟨_,rfl,?_⟩)))))))))
 exact Iy (eQ (cQ (ay (bZ (d:=aM ins gs os) rfl (ay (bZ (d:=nI 3) rfl (ay (bZ (d:= .bl false) rfl (cb (sU (m:=3) P (by omega) hg60 hS ⟨_,rfl,q⟩))))))))))
def Fj{cc:Nat}(h:bK [.d (aM ins gs os), .d (nI 6)] S= .ex cc S):cK [.d (aM ins gs os)] S= .ex cc S:=by
 refine TK rfl ?_;simp only[bQ,iH,List.map,List.length,List.replicate,Qav,QaA,Nat.reduceAdd,Nat.reduceSub];unfold kQ;exact Aj (Ag (x_call (mC (ay (bZ (d:=aM ins gs os) rfl (ay (bZ (d:=nI 6) rfl (cb h))))))))
def Nq(P:Pl c ins gs os)(hg:gs.length*6<=60)(hS:ma S){Q:V3->aN->Prop}(q:Q (.d (aM (bY 3 ins) (hX ins.length gs) (JQ ins.length os))) S):W3 (cK [.d (aM ins gs os)] S) Q:=by
 have hi:=P.no.hi;have ho:=P.no.ho;have hg60:gs.length<=60:=by omega
 refine vB rfl ?_;simp only[bQ,iH,List.map,List.length,List.replicate,Qav,QaA,Nat.reduceAdd,Nat.reduceSub];unfold kQ;refine aT (Dc (cQ (mC (ay (bZ (d:=aM ins gs os) rfl (ay (bZ (d:=nI 6) rfl (cb (Ao (t:=6) (by omega) (by omega) (by omega) (by omega) (As P) hg ⟨_,rfl,?_⟩)))))))))
 exact Iy (eQ (cQ (ay (bZ (d:=aM ins gs os) rfl (ay (bZ (d:=nI 3) rfl (ay (bZ (d:= .bl true) rfl (cb (zX P hg60 hS ⟨_,rfl,q⟩))))))))))
abbrev Q2:GT:=[("in_threes",c6),("in_pairs",dy),("with_votes",cK)]
def uh{S:aN}{c:Nat}:(S++[SO.exc c])[S.length]? =some (.exc c):=by rw[Qae (Qag _),QaQ];rfl
def yM{g:List V3->aN->R3 V3}{nt:D}{cc:Nat}{b1 b2:Bool}(hx:Q2.lookup x=some g)(hg:g [.d nt] S= .ex cc S)(hc:(cc=4/\b1=true/\b2=false)\/(cc=3/\b1=false/\b2=true))(hS:ma S){Q:V3->aN->Prop}(q:Q (.d (.lst [.bl true, .bl b1, .bl b2])) S) :
 W3 (ij [.fn x, .d nt] S) Q:=by
 refine g9 hS (vB rfl ?_);simp only[bQ,jV,List.map,List.length,List.replicate,Qav,QaA,Nat.reduceAdd,Nat.reduceSub];unfold mr;refine aT (bM (by simp) (bZ (d:= .cR) rfl ⟨_,rfl,?_⟩))
 simp only[List.set];have hb:uW (k6 0 Q2 (wC (aI (xP (af 1)) c8))) [some (.fn x),some (.d nt),some (.d .cR),none] S= .ex cc S:=Ag (MM rfl hx (mC (ay (bZ (d:=nt) rfl (cb hg)))));rcases hc with⟨rfl,rfl,rfl⟩ | ⟨rfl,rfl,rfl⟩
 .refine aT (Kn hb rfl ?_);show W3 (cM 2 (eA 3) [none,none,none,some (.loc S.length)] (S++[.exc 4])) _;refine bM (by simp) (w_var (v:= .loc S.length) rfl ⟨_,rfl,_,rfl,?_⟩)
  simp only[List.set];refine eQ (Oe (ay (yI (w_var (v:= .loc S.length) rfl ⟨S.length,4,true,rfl,uh,rfl,ay (yI (w_var (v:= .loc S.length) rfl ⟨S.length,4,true,rfl,uh,rfl,ay (yI (w_var (v:= .loc S.length) rfl ⟨S.length,4,false,rfl,uh,rfl,cb ⟨by show 3<=sizeLine;decide,?_⟩⟩))⟩))⟩))))
  exact⟨.d (.lst [.bl true, .bl true, .bl false]),rfl,by unfold fT;rfl,⟨_,rfl⟩,_,by unfold res;rfl,q⟩
 .refine aT (Kn hb rfl ?_);show W3 (cM 2 (eA 3) [none,none,none,some (.loc S.length)] (S++[.exc 3])) _;refine bM (by simp) (w_var (v:= .loc S.length) rfl ⟨_,rfl,_,rfl,?_⟩)
  simp only[List.set];refine eQ (Oe (ay (yI (w_var (v:= .loc S.length) rfl ⟨S.length,3,true,rfl,uh,rfl,ay (yI (w_var (v:= .loc S.length) rfl ⟨S.length,3,false,rfl,uh,rfl,ay (yI (w_var (v:= .loc S.length) rfl ⟨S.length,3,true,rfl,uh,rfl,cb ⟨by show 3<=sizeLine;decide,?_⟩⟩))⟩))⟩))))
  exact⟨.d (.lst [.bl true, .bl false, .bl true]),rfl,by unfold fT;rfl,⟨_,rfl⟩,_,by unfold res;rfl,q⟩
end
end K43
end
section
namespace K43
open PySem PySem.Spec PyProof.Rows L2 L3 NT
section
variable {S:aN}
def Tz{ds:List Nat}{z:Nat}(nE:z<ds.length):bH (.lst (ds.map nN)) (nN z)= .ok (nN (ds.getD z 0)):=iz (by
 rw[Qad,Qac nE];show some (nN ds[z])=some (nN (ds.getD z 0));rw[Qan,Qac nE];rfl)
def Tv{δ:az}{ds w:List Nat}{fw:FD}{own:List Str}{kp:List Nat}(hw:w≠[])(hl:w.length<1000)(h:∀z∈w,z<ds.length)(hf:fw δ= .ok (wN w))(hc:pd own kp δ=[.un, .val (.lst (ds.map nN))]) :
 aJ ph (aj (eNew (cj (cF fw) (aC 0) dC (e2 bH (af 1) (af 0)) own kp)) aH) δ= .ok (nN (mx (fun z=>ds.getD z 0) w)):=by
 have hz:=Qap;refine ax (ds:=[.lst ((w.map fun z=>ds.getD z 0).map nN)]) (au (cu (bB (ds:=w.map nN) (pW hf) (by rw[Qaa];omega) ?_)) rfl) (Ai (by simpa using hw))
 rw[hc,Qax];exact bJ _ _ fun z hz=>⟨[.val (nN z), .val (.lst (ds.map nN))],rfl,rfl,av (a:= .lst (ds.map nN)) (b:=nN z) rfl rfl (Tz (h z hz))⟩
def zE(nt:D)(S:aN)(a2 a3 a4 a5 a6:Option V3):DE:=[some (.d nt),some (.loc S.length),a2,a3,a4,a5,a6]
def Qw(ns:List Nat):oG [.lst (ns.map nN)]= .ok (nN ns.sum):=by
 have e:ns.map nN=(ns.map fun n:Nat=>(n:Int)).map D.int:=by rw[Qax];rfl
 rw[e];show(match ints? ((ns.map fun n:Nat=>(n:Int)).map D.int) with | some ns=>R.ok (D.int ns.sum) | none=> .no)=_
 rw[L2.ints_map];show R.ok (D.int (ns.map fun n:Nat=>(n:Int)).sum)=_
 have:(ns.map fun n:Nat=>(n:Int)).sum=(ns.sum:Int):=by
  induction ns with
  | nil=>rfl
  | cons a l ih=>rw [Qay,QbK,QbK,ih (by rw[Qax];rfl)];omega
 rw[this];rfl
def Ny{n:Net}(N:NA n)(hS:ma S){Q:V3->aN->Prop}(h:Q (.d (.tup [.int n.g.length, .int (wc n), .int (D7 n), .int (deep n)])) S):W3 (g8 [.d n.d] S) Q:=by
 have hz:=Qap;obtain⟨fb1,fb2⟩:=N.fb;have hi6:=N.i6;have hg60:=N.g60;have XF:=N.o6;unfold g8;refine g9 hS (vB rfl ?_);simp only[bQ,eU,List.map,List.length,List.replicate,Qav,QaA,Nat.reduceAdd,Nat.reduceSub];unfold qZ;refine aT<|bM (by simp)<|ll (ds:=(List.replicate n.first 0).map nN) ?_ ⟨_,rfl,?_⟩
 .have:=D8 (f:=gH (aj (eC (.int 0)) aH)) (g:=aJ oG (aj (eNew (cj (cF (e2 bH (af 0) (eC (.int 0)))) (aC 0) dC (e2 bH (af 0) (eC (.int 1))) ["one"] [])) aH)) (δ:=down [some (.d n.d),none,none,none,none,none,none]) (ds:=[nN 0]) (n:=n.first) rfl (ax (ds:=[.lst ((n.i.map (·.2)).map nN)]) (au (cu (bB (ds:=n.i.map iN) (iy (av (a:=n.d) (b:= .int 0) rfl rfl rfl)) (by rw[Qaa];omega) ?_)) rfl) (Qw _)) (by omega) (by simp;omega)
  .rw [this,QcW];congr 1;have:∀k,(List.replicate k [nN 0]).flatten=List.replicate k (nN 0):=fun k=>by
    induction k with
    | zero=>rfl
    | succ k ih=>rw [Qa8,Qbr,ih,Qa8];rfl
   exact this _
  .rw [Qax];exact bJ (t:=aC 0) (c:=dC) (δ:=[.un]) _ _ fun x _=>⟨[.val (iN x)],rfl,rfl,rfl⟩
 simp only[List.set];refine aT<|gh<|kL (ds:=n.g.map gN) (iy (av (a:=n.d) (b:= .int 1) rfl rfl rfl)) ?_
 refine(cn (fun i δ S3=>∃a2 a3 a4,δ=zE n.d S a2 a3 a4 none none/\S3=S++[SO.lst ((hV n.first (n.g.take i)).map nN)])
  ⟨none,none,none,rfl,by simp [hV]⟩ ?_).mono fun o S3 ⟨NS,e3,a2,a3,a4,hδ,Gj⟩=>⟨NS,e3,?_⟩
 .rintro i x δ S3 hv ⟨a2,a3,a4,rfl,rfl⟩;obtain⟨g,hg,rfl⟩:=er hv;have hil:=(Qab.mp hg).1;obtain⟨h1,h2,h3⟩:=vF N.gw i (by omega)
  have hw:=N.gw i g hg;have et:n.g.take (i+1)=n.g.take i++[g]:=by rw[QaU,hg];rfl
  refine⟨zE n.d S (some (.d (.str g.k))) (some (.d (wN g.w))) (some (.d (.bl g.s))) none none,rfl,?_⟩;unfold r9;refine jd (k:=S.length) rfl ⟨_,bc _ _⟩<|Ji (d:=nN (1+mx (fun z=>(hV n.first (n.g.take i)).getD z 0) g.w)) (av (a:= .int 1) (b:=nN (mx (fun z=>(hV n.first (n.g.take i)).getD z 0) g.w)) rfl (Tv hw.ne (by have:=hw.le;omega) (fun z hz=>by have:=hw.lt z hz;omega) (lj (v:= .d (wN g.w)) rfl (by unfold res;rfl)) ?_) rfl) rfl ⟨_,_,rfl,bc _ _,by rw[Qaa];omega,_,rfl,_,_,_,rfl,?_⟩
  .show [Sl.un]++[kD _ 1]=_;rw[rC (v:= .loc S.length) rfl (fM (bc _ _))];rfl
  .rw [dG,et,xJ,Qas];rfl
 rw[Qaa,Qaa,QaV] at Gj;subst hδ Gj;obtain⟨HK,_,_⟩:=KA N;refine aT<|bM (by show 5<7;omega)<|Ji (d:=nN (deep n)) (ax (ds:=[.lst ((n.o.map fun x=>mx (dep n) x.2).map nN)]) (au (cu (bB (ds:=n.o.map oN) (iy (av (a:=n.d) (b:= .int 2) (lj (v:= .d n.d) rfl (by unfold res;rfl)) rfl rfl)) (by rw[Qaa];omega) ?_)) rfl) (Ai ?_)) rfl ⟨_,rfl,?_⟩
 .rw [show pd ["name","some"] [1] (dN (S++[SO.lst ((hV n.first n.g).map nN)]) (zE n.d S a2 a3 a4 none none))=[.un, .un, .val (.lst ((hV n.first n.g).map nN))] from by
   show [Sl.un,Sl.un]++[kD _ 1]=_;rw[rC (v:= .loc S.length) rfl (fM (bc _ _))];rfl,Qax]
  refine bJ _ _ fun x hx=>⟨[.val (.str x.1), .val (wN x.2), .val (.lst ((hV n.first n.g).map nN))],rfl,rfl,?_⟩
  have hw:=N.ow x hx;exact Tv hw.ne (by have:=hw.le;omega) (fun z hz=>by have:=hw.lt z hz;omega) rfl rfl
 .have:=N.o1;intro e;have:=Qbk List.length e;rw[Qaa] at this;simp at this;simp [this] at*
 show W3 (bt _ _ (zE n.d S a2 a3 a4 (some (.d (nN (deep n)))) none) _) _;refine aT<|bM (by show 6<7;omega)<|bZ (d:= .int (wc n)) (ax (ds:=[.lst ((n.g.filter fun g=>decide (g.k=Str.ofString "vote")).map gN)]) (au (cu (bB (ds:=n.g.map gN) (iy (av (a:=n.d) (b:= .int 1) ?_ rfl rfl)) (by rw[Qaa];omega) ?_)) rfl) (by rw[jm,Qaa] <;> rfl)) ⟨_,rfl,?_⟩
 .cases a2 <;> cases a3 <;> cases a4 <;> rfl
 .exact e_ (t:=aC 0) (δ:=[.un]) _ _ _ fun g hg=>⟨[.val (gN g)],rfl,je (a:= .str g.k) (b:= .str "vote") rfl rfl rfl,fun _=>rfl⟩
 show W3 (fS _ (zE n.d S a2 a3 a4 (some (.d (nN (deep n)))) (some (.d (.int (wc n))))) _) _;refine eQ<|bZ (d:= .tup [.int n.g.length, .int (wc n), .int (D7 n), .int (deep n)]) (cI (au (ax (ds:=[.lst (n.g.map gN)]) (au (av (a:=n.d) (b:= .int 1) ?_ rfl rfl) rfl) (by rw[jm,Qaa])) (au ?_ (au (ax (ds:=[.lst ((n.g.filter fun g=>g.s).map gN)]) (au (cu (bB (ds:=n.g.map gN) (iy (av (a:=n.d) (b:= .int 1) ?_ rfl rfl)) (by rw[Qaa];omega) ?_)) rfl) (by rw[jm,Qaa] <;> rfl)) (au ?_ rfl)))) (by simp;omega)) ⟨_,rfl,by unfold fT;rfl,⟨_,rfl⟩,_,by unfold L3.res;rfl,h⟩
 .cases a2 <;> cases a3 <;> cases a4 <;> rfl
 .cases a2 <;> cases a3 <;> cases a4 <;> rfl
 .cases a2 <;> cases a3 <;> cases a4 <;> rfl
 .exact e_ (t:=aC 0) (δ:=[.un]) _ _ _ fun g hg=>⟨[.val (gN g)],rfl,rfl,fun _=>rfl⟩
 .cases a2 <;> cases a3 <;> cases a4 <;> rfl
end
end K43
namespace K43
open PySem PySem.Spec PyProof.Rows L2 L3 MT
section
variable {ins:Aac} {gs:List Gt} {os:Aad} {S:aN}
def B4(N:NA (pO ins gs os))(hS:ma S):∃d,rF [aM ins gs os]= .ok d/\Cn d d= .ok (.bl false)/\∀{Q:V3->aN->Prop},Q (.d d) S->W3 (g8 [.d (aM ins gs os)] S) Q:=by
 refine⟨_,by rw[<-FR];exact M9 N,?_,fun q=>by rw[<-FR];exact Ny N hS q⟩
 exact NT.ne_self (n:=1) (eN.tup fun d hd=>by
  simp only[Qar,Qbb,QbS] at hd;rcases hd with rfl | rfl | rfl | rfl <;> exact eN.int _) (by omega)
end
def Kr{f g:FB}{δ:DE}{S:aN}{QB:Bool->aN->Prop}(h:W3 (f δ S) fun b S1=>b=false/\W3 (g δ S1) QB):W3 (UW f g δ S) QB:=W3.bind (h.mono fun b S1 ⟨e,h⟩=>by subst e;exact h)
def NN{safe:Bool}{x y:Bool × Bool}(h:x.2=!x.1)(hy:(y.1 && y.2)=false):Dm safe x y=brk safe x y:=by
 obtain⟨a,b⟩:=x;obtain⟨e,f⟩:=y;cases a <;> cases b <;> cases e <;> cases f <;> cases safe <;> simp_all [Dm,brk,MW]
section
variable {c:Nat} {safe:Bool} {ins:Aac} {gs:List Gt} {os:Aad} {S:aN}
def Jg{nt:D}(NO:iB ins gs os)(hc:ins.length=c)(Wx:c<=4)(ho:∀x∈os,1<=x.2.length/\x.2.length<=3)(hg:gs.length<=100)(snd:∀x∈os,∀p,(pt (Wd c ins gs [] []) x p).2=!(pt (Wd c ins gs [] []) x p).1)
 (nb:∀x∈rY gs,∀p,p<2 ^ c->An safe c ins gs os (nZ [x]) p=false) (hb:bears safe c ins gs os 1=nh) (hS:ma S) {Q:V3->aN->Prop} (q:Q (.d (.bl true)) S) :
 W3 (kG [.d nt, .d (aM ins gs os), .d (.lst ((List.range (2 ^ c)).map (jq (Wd c ins gs (nZ []) []) os))), .d (.str (pz safe))] S) Q:=by
 have hz:=Qap;have h16:2 ^ c<=16:=Qbq (n:=2) (by omega) Wx
 have hO:=NO.ho;unfold kG;refine g9 hS (vB rfl ?_);simp only[bQ,l4,List.map,List.length,List.replicate,Qav,QaA,Nat.reduceAdd,Nat.reduceSub];unfold pM;generalize jY:D.lst ((List.range (2 ^ c)).map (jq (Wd c ins gs (nZ []) []) os))=pl;refine aT<|gh<|kL (ds:=(List.range gs.length).map nI) ?_ ?_
 .rw [<-fI];exact cU (n:=gs.length) (ax (ds:=[.lst (gs.map cO)]) (au (av (a:=aM ins gs os) (b:= .int 1) rfl rfl rfl) rfl) (by rw[jm,Qaa] <;> rfl)) (by omega)
 refine(cn (fun i δ S2=>∃a4,δ=[some (.d nt),some (.d (aM ins gs os)),some (.d pl),some (.d (.str (pz safe))),a4]/\S2=S) ⟨none,rfl,rfl⟩ ?_).mono fun o S2 ⟨ef,gm,a4,hδ,zr⟩=>⟨ef,gm,?_⟩
 .rintro i v δ S2 hv ⟨a4,rfl,rfl⟩;obtain⟨k,hk,rfl⟩:=NT.er hv;have hi:i<gs.length:=by have:=(Qab.mp hk).1;rwa [Qaj] at this
  rw[Qa2 hi] at hk;cases hk;have qA:gs[i]? =some gs[i]:=Qac hi;generalize gs[i]=g at qA;refine⟨[some (.d nt),some (.d (aM ins gs os)),some (.d pl),some (.d (.str (pz safe))),some (.d (nI i))],rfl,?_⟩;unfold qM;have hsure:xy (sO (e2 bH (e2 bH (e2 bH (af 1) (eC (.int 1))) (af 4)) (eC (.int 2)))) (down [some (.d nt),some (.d (aM ins gs os)),some (.d pl),some (.d (.str (pz safe))),some (.d (nI i))])= .ok (!g.2.2):=by
   unfold xy sO;rw[av (a:=cO g) (b:= .int 2) (av (a:= .lst (gs.map cO)) (b:=nI i) (av (a:=aM ins gs os) (b:= .int 1) rfl rfl rfl) rfl (NT.iz (by rw[Qad,qA];rfl))) rfl (show bH (cO g) (.int 2)= .ok (.bl g.2.2) from rfl)]
   rfl
  refine pE<|O_<|yu (b:=!g.2.2) hsure ?_
  cases hs:g.2.2 with
  | true=>exact .inl ⟨rfl,by rw[QaB (by decide)];exact iI ⟨_,rfl,_,rfl,rfl⟩⟩
  | false=>
    refine .inr ⟨rfl,?_⟩;obtain⟨d,HK,hd2⟩:=Er (safe:=safe) (W0:=Wd c ins gs (nZ []) []) (W1:=Wd c ins gs (nZ [i]) []) (os:=os) (N:=2 ^ c) (by omega) (by omega)
    have hany:((List.range (2 ^ c)).any fun p=>os.any fun x=>Dm safe (pt (Wd c ins gs (nZ []) []) x p) (pt (Wd c ins gs (nZ [i]) []) x p))=false:=by
     rw[Qbj];intro p hp;have hp:=QaL.mp hp;have:=nb i (vz.mpr ⟨g,qA,hs⟩) p hp;unfold An at this;rw[Qbj] at this;rw[Bool.not_eq_true,Qbj];intro x hx;have h1:=this x hx;rw[show nZ []=([]:List Int) from rfl,NN (snd x hx p) (by unfold pt;exact Ie _)]
     exact h1
    rw[hany] at hd2;rw[jY] at HK;refine Hk<|zI<|ay<|bZ (d:=pl) rfl<|ay<|cQ<|ay<|bZ (d:=aM ins gs os) rfl<|ay<|bZ (d:=el [i]) (cI (ds:=[nI i]) rfl (by simp;omega))<|cb<|rn (T:=[i]) NO hc (by omega) ho hS<|ay<|bZ (d:= .str (pz safe)) rfl<|cb ⟨[pl, .lst ((List.range (2 ^ c)).map (jq (Wd c ins gs (nZ [i]) []) os)), .str (pz safe)],d,rfl,HK,?_⟩
    refine bZ (d:= .cR) rfl ⟨d, .cR,false,rfl,rfl,hd2,?_⟩;rw[QaB (by decide)]
    exact iI ⟨_,rfl,_,rfl,rfl⟩
 subst hδ zr;refine eQ<|UZ<|cQ<|ay<|bZ (d:=aM ins gs os) ?_<|ay<|bZ (d:=nI 1) rfl<|ay<|bZ (d:= .str (pz safe)) ?_<|cb<|Ib (m:=1) NO hc (by omega) ho hg (by omega) hS<|bZ (d:=nh) rfl ⟨_,_, .bl true,rfl,rfl,by rw[hb];exact LY,_,rfl,by unfold fT;rfl,⟨[],by simp⟩,_,by unfold res;rfl,q⟩
 .cases a4 <;> rfl
 .cases a4 <;> rfl
end
def RD(x:Bool × Bool):eN 0 (wy x):=by
 unfold wy;split
 .exact eN.int _
 split
 .exact eN.int _
 .exact eN.cR
def BQ{n:Nat}{ds:List D}(h:eN n (.lst ds))(hn:n<=64):oQ (.lst ds) (.lst ds)= .ok (.bl true):=by unfold oQ;rw [h.Y9 hn];rfl
def BF(bs:List Bool):oQ (.lst (bs.map .bl)) (.lst (bs.map .bl))= .ok (.bl true):=BQ (n:=1) (eN.lst fun d hd=>by obtain⟨x,_,rfl⟩:=QaR.mp hd;exact eN.bl x) (by omega)
section
variable {c m:Nat} {safe:Bool} {ins gZ:Aac} {gs oW:List Gt} {os oT:Aad} {s:Nat->Nat->Nat} {S:aN}
def Kv(W:List M)(os:Aad)(N:Nat):oQ (.lst ((List.range N).map (jq W os))) (.lst ((List.range N).map (jq W os)))= .ok (.bl true):=BQ (n:=2) (eN.lst fun d hd=>by
 obtain⟨p,_,rfl⟩:=QaR.mp hd;exact eN.lst fun d hd=>by
  obtain⟨x,_,rfl⟩:=QaR.mp hd;exact RD _) (by omega)
def Made.col(M:Made m ins gs os gZ oW oT s)(P:Pl c ins gs os)(Lx:1<=m)(hm:m<=3)(p:Nat):jq (Wd c gZ oW [] []) oT p=jq (Wd c ins gs [] []) os p:=by
 unfold jq;rw[M.o,Qax];congr 1;exact Qa1 fun x hx=>by
  show wy (K43.pt (Wd c gZ oW [] []) (x.1,(List.range m).map fun j=>s (x.2.getD 0 0) j) p)=_
  rw[M.pt P Lx hm hx p]
def Made.snd(M:Made m ins gs os gZ oW oT s)(P:Pl c ins gs os)(Lx:1<=m)(hm:m<=3):∀x∈oT,∀p,(K43.pt (Wd c gZ oW [] []) x p).2=!(K43.pt (Wd c gZ oW [] []) x p).1:=by
 intro x hx p;rw[M.o] at hx;obtain⟨y,hy,rfl⟩:=QaR.mp hx;obtain⟨w,hw⟩:=P.o1 y hy;rw[M.pt P Lx hm hy p,NZ hw];show wv c ins gs [] w p=!!(wv c ins gs [] w p);rw[Bool.not_not]
def Ub:oQ (.lst [.bl true, .bl true, .bl false]) (.lst [.bl true, .bl true, .bl false])= .ok (.bl true):=BF [true,true,false]
def Qp:Cn (.lst [.bl true, .bl false, .bl true]) (.lst [.bl true, .bl false, .bl true])= .ok (.bl false):=xC (BF [true,false,true])
def wA{x:Str}{g:List V3->aN->R3 V3}(hx:Q2.lookup x=some g)(hw:∀{Q:V3->aN->Prop},Q (.d (aM gZ oW oT)) S->W3 (g [.d (aM ins gs os)] S) Q)
 (hr:g [.d (aM gZ oW oT)] S= .ex 4 S) (M:Made m ins gs os gZ oW oT s) (P:Pl c ins gs os) (Lx:1<=m) (hm:m<=3) (Wx:c<=4) (hg:oW.length<=60) (ft:eN 4 (aM gZ oW oT)) (N2:NA (pO gZ oW oT))
 (nb:∀x∈rY oW,∀p,p<2 ^ c->An safe c gZ oW oT (nZ [x]) p=false) (hb:bears safe c gZ oW oT 1=nh) (hS:ma S) {Q:V3->aN->Prop} (q:Q (.d (.bl true)) S) :
 W3 (d3 [.d (aM ins gs os), .d (.lst ((List.range (2 ^ c)).map (jq (Wd c ins gs (nZ []) []) os))), .fn x, .d (aM gZ oW oT), .d (.str (pz safe))] S) Q:=by
 have hz:=Qap;have hlen:gZ.length=c:=by rw[M.len,P.hc]
 have ho:∀x∈oT,1<=x.2.length/\x.2.length<=3:=fun x hx=>by
  rw[M.o] at hx;obtain⟨y,hy,rfl⟩:=QaR.mp hx;show 1<=((List.range m).map _).length/\((List.range m).map _).length<=3;rw[Qaa,Qaj];omega
 have hcol:(List.range (2 ^ c)).map (jq (Wd c gZ oW (nZ []) []) oT)=(List.range (2 ^ c)).map (jq (Wd c ins gs (nZ []) []) os):=Qa1 fun p _=>M.col P Lx hm p
 obtain⟨d,HK,hd2,W8⟩:=B4 N2 hS;unfold d3;refine g9 hS (vB rfl ?_);simp only[bQ,l8,List.map,List.length,List.replicate,Qav,QaA,Nat.reduceAdd,Nat.reduceSub];unfold pH;rw[<-hcol];generalize jY:D.lst ((List.range (2 ^ c)).map (jq (Wd c gZ oW (nZ []) []) oT))=pl;refine aT<|pE<|Kr<|Hk<|Mn rfl hx<|mC<|ay<|bZ (d:=aM ins gs os) rfl<|cb<|hw<|bZ (d:=aM gZ oW oT) rfl ⟨_,_,false,rfl,rfl,xC (NT.eq_self ft (by omega)),rfl,?_⟩
 refine Kr<|Hk<|cQ<|ay<|bZ (d:=aM gZ oW oT) rfl<|ay<|bZ (d:=el []) (cI rfl (by simp))<|cb<|rn (T:=[]) M.no hlen (by omega) ho hS<|bZ (d:=pl) rfl ⟨_,pl,false,rfl,rfl,?_,rfl,?_⟩
 .rw [<-jY];exact xC (Kv _ _ _)
 refine Hk<|bZ (d:=d) (ax (ds:=[aM gZ oW oT]) rfl HK)<|cQ<|ay<|bZ (d:=aM gZ oW oT) rfl<|cb<|W8 ⟨d,d,false,rfl,rfl,hd2,?_⟩
 rw[QaB (by decide)]
 refine iI ⟨_,rfl,?_⟩;refine aT<|pE<|w_not<|FN<|cQ<|ay<|bZ (d:=aM ins gs os) rfl<|ay<|bZ (d:=aM gZ oW oT) rfl<|ay<|bZ (d:=pl) rfl<|ay<|bZ (d:= .str (pz safe)) rfl<|cb ?_
 rw[<-jY];refine Jg M.no hlen Wx ho (by omega) (M.snd P Lx hm) nb hb hS ⟨_,true,rfl,rfl,?_⟩
 rw[QaB (by decide)]
 refine iI ⟨_,rfl,?_⟩;refine eQ<|UZ<|cQ<|ay<|w_var (v:= .fn x) rfl<|ay<|bZ (d:=aM gZ oW oT) rfl<|cb<|yM hx hr (.inl ⟨rfl,rfl,rfl⟩) hS<|bZ (d:= .lst [.bl true, .bl true, .bl false]) rfl ⟨_,_, .bl true,rfl,rfl,Ub,_,rfl,by unfold fT;rfl,⟨[],by simp⟩,_,by unfold res;rfl,q⟩
end
end K43
end
section
set_option maxHeartbeats 1600000
namespace K43
open PySem PySem.Spec PyProof.Rows L2 L3 MT
section
variable {m:Nat} {l:Aac} {gs:List Gt} {os:Aad} {S:aN}
def GN.pl(N:GN l gs os):Pl l.length l gs os:=⟨N.no,rfl,N.w1,N.o⟩
def GN.ow(N:GN l gs os):∀x∈os,1<=x.2.length/\x.2.length<=3:=fun x hx=>by
 obtain⟨w,e⟩:=N.o x hx;rw[e];show 1<=1/\1<=3;omega
def GN.U9(N:GN l gs os):NA (pO l gs os):=by
 have h1:=N.c1;have h2:=N.c;have h3:=N.g;have h4:=N.o1;have h5:=N.ol;exact K43.U9 N.no h1 (by omega) (fun x hx=>by rw[N.w1 x hx];omega) (by omega) h4 (by omega) N.ow
def GN.Ae(N:GN l gs os)(hm:m≠1)(oT:Aad):xA (bY m l) oT=false:=by
 unfold xA;rw[Bool.and_eq_false_iff];left;have h1:=N.c1;unfold bY;cases l with
 | nil=>simp at h1
 | cons x l=>
   rw[Qay,List.all_cons];show(m==1 && _)=false;rw[Qbt.mpr hm];rfl
def GN.JU(N:GN l gs os){oW:List Gt}{oT:Aad}{s:Nat->Nat->Nat}(M:Made m l gs os (bY m l) oW oT s)(h1:1<=m)(h3:m<=3)(hg:oW.length<=60):NA (pO (bY m l) oW oT)/\eN 4 (aM (bY m l) oW oT)/\(bY m l).length<=1000/\oT.length<=1000:=by
 have a1:=N.c1;have a2:=N.c;have a3:=N.g;have a4:=N.o1;have a5:=N.ol;have hl:(bY m l).length=l.length:=gr;have hol:oT.length=os.length:=by rw[M.o,Qaa]
 refine⟨K43.U9 M.no (by omega) (by omega) (fun x hx=>?_) hg (by omega) (by omega) (fun x hx=>?_),ES (fun x hx=>?_) (fun x hx=>?_),by omega,by omega⟩
 .unfold bY at hx;obtain⟨y,hy,rfl⟩:=QaR.mp hx;exact⟨h1,h3⟩
 .rw [M.o] at hx;obtain⟨y,hy,rfl⟩:=QaR.mp hx;show 1<=((List.range m).map _).length/\((List.range m).map _).length<=3;rw[Qaa,Qaj];exact⟨h1,h3⟩
 .unfold bY at hx;obtain⟨y,hy,rfl⟩:=QaR.mp hx;exact(N.fi y hy).2
 .rw [M.o] at hx;obtain⟨y,hy,rfl⟩:=QaR.mp hx;exact N.fo y hy
def OW(N:GN l gs os)(hS:ma S){Q:V3->aN->Prop}(q:Q (.d (.bl true)) S) :
 W3 (d3 [.d (aM l gs os), .d (.lst ((List.range (2 ^ l.length)).map (jq (Wd l.length l gs (nZ []) []) os))), .fn "in_threes", .d (aM (bY 3 l) (fR 3 gs) (C8 3 os)), .d (.str "right")] S) Q:=by
 have a3:=N.g;have a2:=N.c;have hgl:(fR 3 gs).length=3*gs.length:=kf;have M:=Fy (m:=3) N.pl (by omega) (by omega)
 obtain⟨h1,h2,h3,h4⟩:=N.JU M (by omega) (by omega) (by omega)
 refine wA (safe:=false) (g:=c6) rfl (fun q=>Ke N.pl (by omega) hS q) (KJ (vY h3 h4 (N.Ae (by omega) _))) M N.pl (by omega) (by omega) a2 (by omega) h2 h1 (fun x hx p _=>?_) (CP N.pl (by omega)) hS q
 obtain⟨i,k,hk,rfl,_⟩:=Ab.mp hx;exact Cb N.pl hk
def Pq(N:GN l gs os)(hS:ma S){Q:V3->aN->Prop}(q:Q (.d (.bl true)) S) :
 W3 (d3 [.d (aM l gs os), .d (.lst ((List.range (2 ^ l.length)).map (jq (Wd l.length l gs (nZ []) []) os))), .fn "in_pairs", .d (aM (bY 2 l) (fR 2 gs) (C8 2 os)), .d (.str "safe")] S) Q:=by
 have a3:=N.g;have a2:=N.c;have hgl:(fR 2 gs).length=2*gs.length:=kf;have M:=Fy (m:=2) N.pl (by omega) (by omega)
 obtain⟨h1,h2,h3,h4⟩:=N.JU M (by omega) (by omega) (by omega)
 refine wA (safe:=true) (g:=dy) rfl (fun q=>Np N.pl (by omega) hS q) (LZ (vY h3 h4 (N.Ae (by omega) _))) M N.pl (by omega) (by omega) a2 (by omega) h2 h1 (fun x hx p _=>?_) (GH N.pl (by omega)) hS q
 obtain⟨i,k,hk,rfl,_⟩:=Ab.mp hx;exact BM N.pl hk
def RB(N:GN l gs os)(hS:ma S){Q:V3->aN->Prop}(q:Q (.d (.bl true)) S) :
 W3 (d3 [.d (aM l gs os), .d (.lst ((List.range (2 ^ l.length)).map (jq (Wd l.length l gs (nZ []) []) os))), .fn "with_votes", .d (aM (bY 3 l) (hX l.length gs) (JQ l.length os)), .d (.str "right")] S) Q:=by
 have a3:=N.g;have a2:=N.c;have hgl:(hX l.length gs).length=6*gs.length:=px _ _ _;have M:=MP N.pl (by omega)
 obtain⟨h1,h2,h3,h4⟩:=N.JU M (by omega) (by omega) (by omega)
 exact wA (safe:=false) (g:=cK) rfl (fun q=>Nq N.pl (by omega) hS q) (Fj (vY h3 h4 (N.Ae (by omega) _))) M N.pl (by omega) (by omega) a2 (by omega) h2 h1 (fun x hx p _=>Ot N.pl) (Kd N.pl (by omega)) hS q
end
def Nb{gs:List Gt}{l:Aac}{os:Aad}{δ:az}(hg:gs.length<=7)(h1:δ[1]? =some (.val (aM l gs os))) :
 e2 dO (e2 bH (af 1) (eC (.int 1))) (eNew (Ei (gH (aj (dk (aj (eC (.str "not")) (aj (dk (aj (eC (.int 0)) aH)) (aj (eC (.bl false)) aH)))) aH)) (e2 qy (eC (.int 11)) (aJ dU (aj (e2 bH (af 1) (eC (.int 1))) aH))))) δ= .ok (.lst ((gs++List.replicate (11 - gs.length) (0,[0],false)).map cO)):=by
 have hz:=Qap;have hv:af 1 δ= .ok (aM l gs os):=by unfold af;rw [h1]
 have hgx:e2 bH (af 1) (eC (.int 1)) δ= .ok (.lst (gs.map cO)):=av (a:=aM l gs os) (b:= .int 1) hv rfl rfl;have hlen:aJ dU (aj (e2 bH (af 1) (eC (.int 1))) aH) δ= .ok (nI gs.length):=ax (ds:=[.lst (gs.map cO)]) (au hgx rfl) (by rw[jm,Qaa] <;> rfl)
 have hrep:=D8 (f:=gH (aj (dk (aj (eC (.str "not")) (aj (dk (aj (eC (.int 0)) aH)) (aj (eC (.bl false)) aH)))) aH)) (g:=e2 qy (eC (.int 11)) (aJ dU (aj (e2 bH (af 1) (eC (.int 1))) aH))) (δ:=δ) (ds:=[cO (0,[0],false)]) (n:=11 - gs.length) ?_ ?_ (by omega) (by simp;omega)
 .refine av (a:= .lst (gs.map cO)) (b:= .lst (List.replicate (11 - gs.length) (cO (0,[0],false)))) hgx (cu (by rw[hrep,Gg])) ?_
  rw[LK (by rw[Qaa,QaP];omega),Qas,QcW]
 .rfl
 .refine av (a:=nI 11) (b:=nI gs.length) rfl hlen ?_;show R.ok (D.int ((11:Int) - (gs.length:Int)))=R.ok (D.int ((11 - gs.length:Nat):Int));rw[Int.ofNat_sub (by omega)];rfl
def Jo(ns:List Int)(hn:ns.length<=63):ER [.lst (ns.map D.int)]= .ok (.bl true):=by
 have hz:=Qap;obtain⟨v0,S0,e0,l,gs,os,ev,eS,N⟩:=Ry ns (S:=[]) (fun o ho=>by cases ho)
 subst ev eS;have hcl:ma ([]:aN):=fun o ho=>by cases ho
 have hcc:=N.c;have hgg:=N.g;have hoo:=N.ol;obtain⟨d,HK,hd2,W8⟩:=B4 N.U9 hcl;have key:W3 (qk w_ yB [.d (.lst (ns.map .int))] []) fun v S1=>v= .d (.bl true)/\S1=[]:=by
  refine g9 hcl (vB rfl ?_);simp only[bQ,w_,List.map,List.length,List.replicate,Qav,QaA,Nat.reduceAdd,Nat.reduceSub];unfold yB;refine aT<|bM (by simp)<|cQ<|ay<|bZ (d:= .lst (ns.map .int)) rfl<|ay<|bZ (d:=nI 7) rfl<|cb ⟨_,_,e0,_,rfl,?_⟩
  simp only[List.set];refine aT<|bM (by simp)<|cQ<|ay<|bZ (d:=aM l gs os) rfl<|ay<|bZ (d:=el []) (cI rfl (by simp))<|cb ?_
  refine @rn l.length l gs os [] [] N.no rfl (by omega) N.ow hcl _ ?_
  refine⟨_,rfl,?_⟩;simp only[List.set];refine aT<|pE<|Hk<|bZ (d:=d) (ax (ds:=[aM l gs os]) rfl HK)<|cQ<|ay<|bZ (d:=aM l gs os) rfl<|cb<|W8 ⟨d,d,false,rfl,rfl,hd2,?_⟩
  rw[QaB (by decide)]
  refine iI ⟨_,rfl,?_⟩;generalize jY:D.lst ((List.range (2 ^ l.length)).map (jq (Wd l.length l gs (nZ []) []) os))=pl;refine aT<|pE<|w_not<|FN<|cQ<|ay<|bZ (d:=aM l gs os) rfl<|ay<|bZ (d:=pl) rfl<|ay<|M_<|ay<|cQ<|ay<|bZ (d:=aM l gs os) rfl<|ay<|bZ (d:=nI 3) rfl<|ay<|bZ (d:=nI 0) rfl<|cb<|qH (m:=3) N.pl (by omega) (by omega) hcl<|ay<|bZ (d:= .str "right") rfl<|cb ?_
  rw[<-jY];refine OW N hcl ⟨_,true,rfl,rfl,?_⟩;rw[QaB (by decide)]
  refine iI ⟨_,rfl,?_⟩;rw[jY];refine aT<|pE<|w_not<|FN<|cQ<|ay<|bZ (d:=aM l gs os) rfl<|ay<|bZ (d:=pl) rfl<|ay<|M_<|ay<|cQ<|ay<|bZ (d:=aM l gs os) rfl<|ay<|bZ (d:=nI 2) rfl<|ay<|bZ (d:=nI 0) rfl<|cb<|qH (m:=2) N.pl (by omega) (by omega) hcl<|ay<|bZ (d:= .str "safe") rfl<|cb ?_
  rw[<-jY];refine Pq N hcl ⟨_,true,rfl,rfl,?_⟩;rw[QaB (by decide)]
  refine iI ⟨_,rfl,?_⟩;rw[jY];refine aT<|pE<|w_not<|FN<|cQ<|ay<|bZ (d:=aM l gs os) rfl<|ay<|bZ (d:=pl) rfl<|ay<|M_<|ay<|cQ<|ay<|bZ (d:=aM l gs os) rfl<|ay<|bZ (d:=nI 3) rfl<|ay<|bZ (d:=nI 1) rfl<|cb<|yf N.pl (by omega) hcl<|ay<|bZ (d:= .str "right") rfl<|cb ?_
  rw[<-jY];refine RB N hcl ⟨_,true,rfl,rfl,?_⟩;rw[QaB (by decide)]
  refine iI ⟨_,rfl,?_⟩;rw[jY];generalize OK:gs++List.replicate (11 - gs.length) (0,[0],false)=mg;have hml:mg.length=11:=by rw[<-OK,Qau,QaP];omega
  refine aT<|bM (by simp)<|bZ (d:= .lst (mg.map cO)) (by rw[<-OK];exact Nb N.g rfl) ⟨_,rfl,?_⟩
  simp only[List.set];refine aT<|pE<|Hk<|cQ<|ay<|M_<|ay<|bZ (d:=aM l mg os) (cI (ds:=[.lst (l.map MT.inD), .lst (mg.map cO), .lst (os.map vk)]) (au (av (a:=aM l gs os) (b:= .int 0) rfl rfl rfl) (au rfl (au (av (a:=aM l gs os) (b:= .int 2) rfl rfl rfl) rfl))) (by simp;omega))<|cb<|yM (g:=cK) (cc:=3) rfl (Fj (DC (by omega) (by omega) (by omega) (As N.pl) (by omega))) (.inr ⟨rfl,rfl,rfl⟩) hcl<|bZ (d:= .lst [.bl true, .bl false, .bl true]) rfl ⟨_,_,false,rfl,rfl,Qp,?_⟩
  rw[QaB (by decide)]
  refine iI ⟨_,rfl,?_⟩;refine eQ<|UZ<|bZ (d:=aM l gs os) rfl<|cQ<|ay<|bZ (d:= .lst (ns.map .int)) rfl<|ay<|bZ (d:=nI 7) rfl<|cb ⟨_,_,e0,aM l gs os,aM l gs os, .bl true,rfl,rfl,NT.eq_self (ES (fun x hx=>(N.fi x hx).2) N.fo) (by omega), .d (.bl true),rfl,by unfold fT;rfl,⟨[],rfl⟩, .bl true,by unfold res;rfl,rfl,trivial⟩
 obtain⟨v,S1,e,rfl,rfl⟩:=key;unfold ER US;simp only[Qay,Qci];rw[e];rfl
end K43
end
open PySem PySem.W PyProof.Rows
set_option maxRecDepth 100000 in
set_option maxHeartbeats 0 in
theorem PySem.Challenge.cw_bearfaults_k43_whole_made_in_copies_holds : PySem.Challenge.rw_bearfaults_k43_whole_made_in_copies.Holds := by
 w_on;o_law;k_head;(case hw=>w_witness2)
 k_fill
 refine L2.TU (l:=PySem.Challenge.rw_bearfaults_k43_whole_made_in_copies) (n:=63) (k:=11) (x:="script") (g:=K43.ER) rfl (by decide) rfl ⟨rfl,by decide,by decide⟩ (fun w h Y=>PySem.W.kIn_of Y) ?F K43.Jo
 case F=>
  intro w mg fa h KX G OK
  have oB:L2.Def (L2.eh KX) mg "has_widths" K43.iQ:=by
   dsimp only[L2.eh];refine' L2.bW KX G ?a ?l ?c ?k;case a|l|c|k=>k_is
  have mQ:L2.Def (L2.eh KX) mg "check_makes" K43.gy:=by
   dsimp only[L2.eh];refine' L2.bW KX G ?a ?l ?c ?k;case a|l|c|k=>k_is
  have ot:L2.Def (L2.eh KX) mg "next_wires" K43.iM:=by
   dsimp only[L2.eh];refine' L2.bW KX G ?a ?l ?c ?k;case a|l|c|k=>k_is
  have xU:L2.Def (L2.eh KX) mg "copied" K43.pB:=by
   dsimp only[L2.eh];refine' L2.bW KX G ?a ?l ?c ?k;case a|l|c|k=>k_is
  have qd:L2.Def (L2.eh KX) mg "in_threes" K43.km:=by
   dsimp only[L2.eh];refine' L2.bW KX G ?a ?l ?c ?k;case a|l|c|k=>k_is
  have rM:L2.Def (L2.eh KX) mg "in_pairs" K43.lP:=by
   dsimp only[L2.eh];refine' L2.bW KX G ?a ?l ?c ?k;case a|l|c|k=>k_is
  have om:L2.Def (L2.eh KX) mg "with_votes" K43.ix:=by
   dsimp only[L2.eh];refine' L2.bW KX G ?a ?l ?c ?k;case a|l|c|k=>k_is
  have uq:L2.Def (L2.eh KX) mg "deepest" K43.nv:=by
   dsimp only[L2.eh];refine' L2.bW KX G ?a ?l ?c ?k;case a|l|c|k=>k_is
  have mP:L2.Def (L2.eh KX) mg "wire_depths" K43.gC:=by
   dsimp only[L2.eh];refine' L2.bW KX G ?a ?l ?c ?k;case a|l|c|k=>k_is
  have EF:L2.Def (L2.eh KX) mg "size" K43.vX:=by
   dsimp only[L2.eh];refine' L2.bW KX G ?a ?l ?c ?k;case a|l|c|k=>k_is
  have uI:L2.Def (L2.eh KX) mg "vote_of" K43.mY:=by
   dsimp only[L2.eh];refine' L2.bW KX G ?a ?l ?c ?k;case a|l|c|k=>k_is
  have pZ:L2.Def (L2.eh KX) mg "gate_mask" K43.j3:=by
   dsimp only[L2.eh];refine' L2.bW KX G ?a ?l ?c ?k;case a|l|c|k=>k_is
  have kA:L2.Def (L2.eh KX) mg "in_wire_masks" K43.fm:=by
   dsimp only[L2.eh];refine' L2.bW KX G ?a ?l ?c ?k;case a|l|c|k=>k_is
  have rW:L2.Def (L2.eh KX) mg "masks_at" K43.lC:=by
   dsimp only[L2.eh];refine' L2.bW KX G ?a ?l ?c ?k;case a|l|c|k=>k_is
  have oA:L2.Def (L2.eh KX) mg "wire_masks" K43.iE:=by
   dsimp only[L2.eh];refine' L2.bW KX G ?a ?l ?c ?k;case a|l|c|k=>k_is
  have qg:L2.Def (L2.eh KX) mg "out_masks" K43.j_:=by
   dsimp only[L2.eh];refine' L2.bW KX G ?a ?l ?c ?k;case a|l|c|k=>k_is
  have uF:L2.Def (L2.eh KX) mg "reading" K43.ni:=by
   dsimp only[L2.eh];refine' L2.bW KX G ?a ?l ?c ?k;case a|l|c|k=>k_is
  have xS:L2.Def (L2.eh KX) mg "bit_at" K43.pV:=by
   dsimp only[L2.eh];refine' L2.bW KX G ?a ?l ?c ?k;case a|l|c|k=>k_is
  have oy:L2.Def (L2.eh KX) mg "all_inputs" K43.iF:=by
   dsimp only[L2.eh];refine' L2.bW KX G ?a ?l ?c ?k;case a|l|c|k=>k_is
  have uD:L2.Def (L2.eh KX) mg "mask_of" K43.nq:=by
   dsimp only[L2.eh];refine' L2.bW KX G ?a ?l ?c ?k;case a|l|c|k=>k_is
  have uu:L2.Def (L2.eh KX) mg "in_mask" K43.mV:=by
   dsimp only[L2.eh];refine' L2.bW KX G ?a ?l ?c ?k;case a|l|c|k=>k_is
  have uw:L2.Def (L2.eh KX) mg "choices" K43.nj:=by
   dsimp only[L2.eh];refine' L2.bW KX G ?a ?l ?c ?k;case a|l|c|k=>k_is
  have A1:L2.Def (L2.eh KX) mg "bears" K43.sM:=by
   dsimp only[L2.eh];refine' L2.bW KX G ?a ?l ?c ?k;case a|l|c|k=>k_is
  have mM:L2.Def (L2.eh KX) mg "_law_cell_at" K43.gA:=by
   dsimp only[L2.eh];refine' L2.bW KX G ?a ?l ?c ?k;case a|l|c|k=>k_is
  have mK:L2.Def (L2.eh KX) mg "_law_numbers" K43.gu:=by
   dsimp only[L2.eh];refine' L2.bW KX G ?a ?l ?c ?k;case a|l|c|k=>k_is
  have rL:L2.Def (L2.eh KX) mg "_law_kind" K43.lG:=by
   dsimp only[L2.eh];refine' L2.bW KX G ?a ?l ?c ?k;case a|l|c|k=>k_is
  have p7:L2.Def (L2.eh KX) mg "_law_gates" K43.ki:=by
   dsimp only[L2.eh];refine' L2.bW KX G ?a ?l ?c ?k;case a|l|c|k=>k_is
  have rR:L2.Def (L2.eh KX) mg "_law_told" K43.lO:=by
   dsimp only[L2.eh];refine' L2.bW KX G ?a ?l ?c ?k;case a|l|c|k=>k_is
  have rK:L2.Def (L2.eh KX) mg "_law_read" K43.lJ:=by
   dsimp only[L2.eh];refine' L2.bW KX G ?a ?l ?c ?k;case a|l|c|k=>k_is
  have rP:L2.Def (L2.eh KX) mg "_law_outs" K43.lL:=by
   dsimp only[L2.eh];refine' L2.bW KX G ?a ?l ?c ?k;case a|l|c|k=>k_is
  have rQ:L2.Def (L2.eh KX) mg "_law_bits" K43.lN:=by
   dsimp only[L2.eh];refine' L2.bW KX G ?a ?l ?c ?k;case a|l|c|k=>k_is
  have mS:L2.Def (L2.eh KX) mg "_law_columns" K43.gI:=by
   dsimp only[L2.eh];refine' L2.bW KX G ?a ?l ?c ?k;case a|l|c|k=>k_is
  have oE:L2.Def (L2.eh KX) mg "_law_breaks" K43.iR:=by
   dsimp only[L2.eh];refine' L2.bW KX G ?a ?l ?c ?k;case a|l|c|k=>k_is
  have uC:L2.Def (L2.eh KX) mg "_law_net" K43.nu:=by
   dsimp only[L2.eh];refine' L2.bW KX G ?a ?l ?c ?k;case a|l|c|k=>k_is
  have oh:L2.Def (L2.eh KX) mg "_law_copies" K43.iu:=by
   dsimp only[L2.eh];refine' L2.bW KX G ?a ?l ?c ?k;case a|l|c|k=>k_is
  have rN:L2.Def (L2.eh KX) mg "_law_size" K43.lq:=by
   dsimp only[L2.eh];refine' L2.bW KX G ?a ?l ?c ?k;case a|l|c|k=>k_is
  have qc:L2.Def (L2.eh KX) mg "_law_borne" K43.j7:=by
   dsimp only[L2.eh];refine' L2.bW KX G ?a ?l ?c ?k;case a|l|c|k=>k_is
  have mT:L2.Def (L2.eh KX) mg "_law_refused" K43.gG:=by
   dsimp only[L2.eh];refine' L2.bW KX G ?a ?l ?c ?k;case a|l|c|k=>k_is
  have qe:L2.Def (L2.eh KX) mg "_law_right" K43.j0:=by
   dsimp only[L2.eh];refine' L2.bW KX G ?a ?l ?c ?k;case a|l|c|k=>k_is
  have D_law:L2.Def (L2.eh KX) mg "law" K43.Fb:=by
   dsimp only[L2.eh];refine' L2.bW KX G ?a ?l ?c ?k;case a|l|c|k=>k_is
  have AW:L2.Glob (L2.eh KX) mg "MOST_GATES" K43.f_:=by
   dsimp only[L2.eh];refine' L2.Ju KX G ?a
   (case a=>k_is)
  obtain⟨cl,CF⟩:∃cl,K43.Cf (L2.eh KX) mg cl:=by
   dsimp only[L2.eh];refine' K43.SA KX G ?Xu ?Xw ?RO ?Xy ?W6 ?WM ?WE ?EJ ?lS ?AV ?pY ?Xb ?WC ?HK ?Xj ?Xx ?W9 ?Xm ?xW ?xQ ?uH ?W_ ?XB ?Xa ?Xc ?WR ?Xz ?WO ?Xe ?WH ?WG ?Xl ?Xr ?XA ?Xf ?Wz ?Xg ?WY ?Vc ?Vf ?v0 ?v1 ?v2 ?fj ?gW ?jE ?og ?A2 ?f7 ?jI ?qf ?fg ?gY ?mL ?jH ?jD ?jF ?eu ?jK ?mR ?mO ?mU ?gK ?jZ ?jz ?jy ?jA ?eI ?gc ?jB ?jJ ?jG ?eB ?jC ?i9 ?iY ?iZ ?dS ?fQ ?i5 ?i_ ?i3 ?dX ?fP
   (case Xu=>k_is)
   (case Xw=>k_is)
   (case RO=>k_is)
   (case Xy=>k_is)
   (case W6=>k_is)
   (case WM=>k_is)
   (case WE=>k_is)
   (case EJ=>k_is)
   (case lS=>k_is)
   (case AV=>k_is)
   (case pY=>k_is)
   (case Xb=>k_is)
   (case WC=>k_is)
   (case HK=>k_is)
   (case Xj=>k_is)
   (case Xx=>k_is)
   (case W9=>k_is)
   (case Xm=>k_is)
   (case xW=>k_is)
   (case xQ=>k_is)
   (case uH=>k_is)
   (case W_=>k_is)
   (case XB=>k_is)
   (case Xa=>k_is)
   (case Xc=>kernel_rfl)
   (case WR=>k_is)
   (case Xz=>k_is)
   (case WO=>k_is)
   (case Xe=>k_is)
   (case WH=>k_is)
   (case WG=>kernel_rfl)
   (case Xl=>kernel_rfl)
   (case Xr=>k_is)
   (case XA=>k_is)
   (case Xf=>k_is)
   (case Wz=>k_is)
   (case Xg=>k_is)
   (case WY=>kernel_rfl)
   (case Vc=>k_is)
   (case Vf=>k_is)
   (case v0=>k_is)
   (case v1=>k_is)
   (case v2=>k_is)
   (case fj=>kernel_rfl)
   (case gW=>kernel_rfl)
   (case jE=>first | kit_is | kernel_rfl)
   (case og=>first | kit_is | kernel_rfl)
   (case A2=>first | kit_is | kernel_rfl)
   (case f7=>first | kit_is | kernel_rfl)
   (case jI=>first | kit_is | kernel_rfl)
   (case qf=>first | kit_is | kernel_rfl)
   (case fg=>first | kit_is | kernel_rfl)
   (case gY=>first | kit_is | kernel_rfl)
   (case mL=>first | kit_is | kernel_rfl)
   (case jH=>k_is)
   (case jD=>k_is)
   (case jF=>k_is)
   (case eu=>k_is)
   (case jK=>k_is)
   (case mR=>k_is)
   (case mO=>k_is)
   (case mU=>k_is)
   (case gK=>k_is)
   (case jZ=>k_is)
   (case jz=>k_is)
   (case jy=>k_is)
   (case jA=>k_is)
   (case eI=>k_is)
   (case gc=>k_is)
   (case jB=>k_is)
   (case jJ=>k_is)
   (case jG=>k_is)
   (case eB=>k_is)
   (case jC=>k_is)
   (case i9=>k_is)
   (case iY=>k_is)
   (case iZ=>k_is)
   (case dS=>k_is)
   (case fQ=>k_is)
   (case i5=>k_is)
   (case i_=>k_is)
   (case i3=>k_is)
   (case dX=>k_is)
   (case fP=>k_is)
  have eM:=CF.eM
  have gP:=CF.gP
  have eK:=CF.eK
  have eL:=CF.eL
  have d7:=CF.d7
  have d6:=CF.d6
  have T:K43.Tp (L2.eh KX) mg cl:=by
   dsimp only[L2.eh];refine' ⟨PySem.W.mg_none_of KX G ?z_all,PySem.W.mg_none_of KX G ?z_len,PySem.W.mg_none_of KX G ?z_range,PySem.W.mg_none_of KX G ?z_tuple,PySem.W.mg_none_of KX G ?z_max,PySem.W.mg_none_of KX G ?z_enumerate,PySem.W.mg_none_of KX G ?z_reversed,PySem.W.mg_none_of KX G ?z_zip,PySem.W.mg_none_of KX G ?z_abs,PySem.W.mg_none_of KX G ?z_min,PySem.W.mg_none_of KX G ?z_int,PySem.W.mg_none_of KX G ?z_sum,PySem.W.mg_none_of KX G ?z_isinstance,PySem.W.mg_none_of KX G ?z_ValueError,AW,CF.C_Bench,CF.N_Bench_net,CF.N_Bench_many_inputs,CF.N_Bench_full,CF.N_Bench_in_masks,CF.M_Bench,CF.C_Trial,CF.N_Trial_bench,CF.N_Trial_plain,CF.N_Trial_unsure,CF.M_Trial,CF.M_FaultError,CF.M_Full,CF.M_NotPlain,CF.X_Full,CF.X_NotPlain,CF.E_NotPlain_FaultError,CF.E_Full_FaultError,CF.I_NotPlain_Full,CF.I_Full_Full,CF.O_Full,CF.I_NotPlain_NotPlain,CF.I_Full_NotPlain,CF.O_NotPlain,CF.I_NotPlain_ValueError,CF.I_Full_ValueError,CF.O_ValueError,CF.V_in_pairs,CF.V_in_threes,CF.V_with_votes⟩
   (case z_all=>k_is);(case z_len=>k_is);(case z_range=>k_is);(case z_tuple=>k_is);(case z_max=>k_is);(case z_enumerate=>k_is);(case z_reversed=>k_is);(case z_zip=>k_is);(case z_abs=>k_is);(case z_min=>k_is);(case z_int=>k_is);(case z_sum=>k_is);(case z_isinstance=>k_is);(case z_ValueError=>k_is)
  obtain⟨fl,fd,Fl,hl⟩:=D_law
  have e0:=OK.symm.trans hl
  cases e0
  refine' ⟨fd,?b,fun base kb nb=>K43.Qf T oB mQ ot xU qd rM om uq mP EF uI pZ kA rW oA qg uF xS oy uD uu uw eM gP eK eL d7 d6 A1 mM mK rL p7 rR rK rP rQ mS oE uC oh rN qc mT qe Fl⟩
  obtain⟨_,_,_,_,_,_,_,_,_,e,_,_⟩:=Fl.ex
  subst e
  exact fun s u=> .of_eq rfl
