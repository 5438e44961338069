import PyProof.Rows.All
import Wide.All
import OpenK.AllK
import Wide.FinOn
import Lean
import PyProof.EqAt
import PyProof.EqKinds
import PyProof.TupleCall
import PyProof.Rows.StrJoin2
import PyProof.TupleOfGen
import PyProof.ListRange
import PyProof.Draws
import PyProof.Rows.StrClose3
import KE.KSortedM
import PyProof.Rows.SortWalk
import PyProof.WalkInts
import PyProof.Rows.Range3
import PyProof.ZipIter
import PyProof.ConsumeWalk
import PyProof.Rows.SeqMore
import KE.KRevIter
import KE.KRevSl
import KE.KUnpack
import KE.KDictSum
import KE.KTupSum
import KE.KSortTup
import PySem.Challenge.RW_bearfaults_k44_whole_keeping_joined
noncomputable section
abbrev Qdg:=PySem.Shared
abbrev Qdf:=PySem.W.Frag
abbrev Qdc{α:Sort _}{a:α}{b:Prop}:a=a\/b:=Or.inl rfl
abbrev Qaa:=@List.length_map
abbrev Qab:=@List.getElem?_eq_getElem
abbrev Qac:=@List.getElem?_map
abbrev Qad:=@List.mem_cons_of_mem
abbrev Qae:=@List.getElem?_eq_some_iff
abbrev Qaf:=@PySem.wpAny_bind
abbrev Qag:=@List.getD_eq_getElem?_getD
abbrev Qah:=@PySem.Heap.get?_push_of_some
abbrev Qai:=@List.length_append
abbrev Qaj:=@List.getElem?_append_right
abbrev Qak:=@Nat.le_refl
abbrev Qal:=@of_decide_eq_true
abbrev Qam:=@List.map_append
abbrev Qan:=@List.mem_cons_self
abbrev Qao:=@List.length_cons
abbrev Qap:=@List.mem_of_getElem?
abbrev Qaq:=@List.length_range
abbrev Qar:=@List.map_map
abbrev Qas:=@PySem.sizeLine_eq
abbrev Qat:=@decide_eq_true
abbrev Qau:=@List.getElem?_set_self
abbrev Qav:=@List.getElem?_set_ne
abbrev Qaw:=@decide_eq_false
abbrev Qax:=@List.getElem?_append_left
abbrev Qay:=@List.size_toArray
abbrev Qaz:=@List.map_cons
abbrev QaA:=@PySem.boot_len
abbrev QaB:=@List.length_take
abbrev QaC:=@List.mem_map
abbrev QaD:=@PySem.Heap.lt_size
abbrev QaE:=@List.mem_cons
abbrev QaF:=@List.lookup_cons
abbrev QaG:=@PySem.wpAny_pure
abbrev QaH:=@if_neg
abbrev QaI:=@List.take_add_one
abbrev QaJ:=@Bool.false_ne_true
abbrev QaK:=@if_pos
abbrev QaL:=@List.append_assoc
abbrev QaM:=@List.mem_range
abbrev QaN:=@PySem.Heap.get?_push_size
abbrev QaO:=@List.cons_append
abbrev QaP:=@Nat.lt_of_lt_of_le
abbrev QaQ:=@List.take_of_length_le
abbrev QaR:=@Nat.ne_of_lt
abbrev QaS:=@List.map_congr_left
abbrev QaT:=@Nat.le_trans
abbrev QaU:=@List.mem_append
abbrev QaV:=@List.append_nil
abbrev QaW:=@Option.some.inj
abbrev QaX:=@PyProof.Rows.callWith_type1
abbrev QaY:=@List.take_length
abbrev QaZ:=@beq_eq_false_iff_ne
abbrev Qa0:=@List.mem_zipIdx_iff_getElem?
abbrev Qa1:=@PyProof.Rows.boot_tuple
abbrev Qa2:=@List.nil_append
abbrev Qa3:=@List.length_range'
abbrev Qa4:=@List.length_zipIdx
abbrev Qa5:=@List.getElem?_replicate
abbrev Qa6:=@List.length_set
abbrev Qa7:=@List.getElem_mem
abbrev Qa8:=@List.mem_singleton
abbrev Qa9:=@List.mem_append_right
abbrev Qba:=@List.length_replicate
abbrev Qbb:=@List.mem_filter
abbrev Qbc:=@Bool.and_eq_true_iff
abbrev Qbd:=@List.getElem?_zipIdx
abbrev Qbe:=@Nat.sub_self
abbrev Qbf:=@List.find?_cons
abbrev Qbg:=@Int.toNat_natCast
abbrev Qbh:=@congrArg
abbrev Qbi:=@Bool.eq_iff_iff
abbrev Qbj:=@beq_iff_eq
abbrev Qbk:=@PySem.Heap.size_push
abbrev Qbl:=@PySem.wpAny_field
abbrev Qbm:=@List.length_drop
abbrev Qbn:=@Bool.and_eq_true
abbrev Qbo:=@List.replicate_succ
abbrev Qbp:=@List.getElem_range
abbrev Qbq:=@List.all_eq_true
abbrev Qbr:=@List.mem_of_mem_take
abbrev Qbs:=@List.filter_cons
abbrev Qbt:=@List.any_cons
abbrev Qbu:=@List.sum_cons
abbrev Qbv:=@PySem.mem_of_lookup
abbrev Qbw:=@List.length_nil
abbrev Qbx:=@List.set_append_right
abbrev Qby:=@List.length_filter_le
abbrev Qbz:=@List.getElem?_take
abbrev QbA:=@Bool.or_false
abbrev QbB:=@Nat.pow_le_pow_right
abbrev QbC:=@PySem.wpAny_callSpecial?_slot
abbrev QbD:=@PySem.wpAny_newObj_type
abbrev QbE:=@Nat.zero_le
abbrev QbF:=@List.drop_eq_getElem_cons
abbrev QbG:=@List.getElem?_take_of_lt
abbrev QbH:=@List.getElem?_of_mem
abbrev QbI:=@List.mem_range'
abbrev QbJ:=@List.flatten_cons
abbrev QbK:=@Nat.lt_irrefl
abbrev QbL:=@List.length_flatMap
abbrev QbM:=@Ne.symm
abbrev QbN:=@if_true
abbrev QbO:=@PySem.wpAny_call_entry
abbrev QbP:=@beq_self_eq_true
abbrev QbQ:=@PySem.wpAny_seqItems
abbrev QbR:=@PySem.wpAny_Call_Name_kw
abbrev QbS:=@PySem.wpAny_setField_rec
abbrev QbT:=@List.filter_append
abbrev QbU:=@PySem.F.slot_tuple_iterator_next
abbrev QbV:=@PySem.AutoSeq1.wpAny_loadPart'
abbrev QbW:=@Array.length_toList
abbrev QbX:=@List.flatMap_append
abbrev QbY:=@PyProof.Rows.slot_tuple_getitem
abbrev QbZ:=@PySem.F.plainAttrs_list
abbrev Qb0:=@PySem.wpAny_getItem_str_slice
abbrev Qb1:=@PySem.wpAny_mono
abbrev Qb2:=@PySem.Calls.spliced_cons
abbrev Qb3:=@PySem.tupleKind_room_in1
abbrev Qb4:=@List.contains_cons
abbrev Qb5:=@PySem.wpAny_truthy_bool
abbrev Qb6:=@List.take_sublist
abbrev Qb7:=@List.length_singleton
abbrev Qb8:=@PyProof.Rows.boot_min
abbrev Qb9:=@PyProof.Rows.boot_int
abbrev Qca:=@List.mem_flatMap
abbrev Qcb:=@Nat.mod_lt
abbrev Qcc:=@PySem.wpAny_holding
abbrev Qcd:=@List.cons.inj
abbrev Qce:=@Nat.le_succ
abbrev Qcf:=@List.getElem_of_mem
abbrev Qcg:=@List.length_reverse
abbrev Qch:=@List.mem_map_of_mem
abbrev Qci:=@List.getElem?_range
abbrev Qcj:=@PySem.wpAny_passesOwn
abbrev Qck:=@List.nodup_cons
abbrev Qcl:=@Nat.min_eq_left
abbrev Qcm:=@Nat.ne_of_gt
abbrev Qcn:=@List.map_nil
abbrev Qco:=@List.zip_cons_cons
abbrev Qcp:=@PySem.F.args_tuple_add_2
abbrev Qcq:=@Bool.false_eq_true
abbrev Qcr:=@PySem.wpAny_pyIter_tuple
abbrev Qcs:=@List.range'_eq_map_range
abbrev Qct:=@PySem.F.entry_tuple_add
abbrev Qcu:=@Nat.add_sub_cancel_left
abbrev Qcv:=@PySem.Calls.spliced_nil
abbrev Qcw:=@Option.isSome_map
abbrev Qcx:=@PySem.wpAny_pyIter_enum
abbrev Qcy:=@List.ext_getElem?
abbrev Qcz:=@PySem.F.slot_tuple_add
abbrev QcA:=@List.drop_length
abbrev QcB:=@List.getElem_map
abbrev QcC:=@PySem.F.slot_dict_get
abbrev QcD:=@PyProof.Rows.boot_sum
abbrev QcE:=@List.mem_append_left
abbrev QcF:=@PySem.call_meets
abbrev QcG:=@PySem.F.args_list_extend_2
abbrev QcH:=@PySem.post_val_or_str
abbrev QcI:=@Nat.zero_add
abbrev QcJ:=@PySem.wpAny_updateSeq_pair
abbrev QcK:=@PySem.F.slot_zip_next
abbrev QcL:=@Nat.eq_of_testBit_eq
abbrev QcM:=@Nat.add_zero
abbrev QcN:=@List.eq_nil_of_length_eq_zero
abbrev QcO:=@List.filterMap_cons
abbrev QcP:=@PySem.W.plainGet_of
abbrev QcQ:=@PySem.F.entry_list_extend
abbrev QcR:=@PySem.Heap.get?_update_ne
abbrev QcS:=@List.findSome?_cons
abbrev QcU:=@PySem.W.callWith_K
abbrev QcV:=@PySem.F.slot_list_extend
abbrev QcX:=@Option.toList_some
abbrev QcY:=@List.find?_eq_none
abbrev Qc0:=@Int.fdiv_eq_ediv_of_nonneg
abbrev Qc2:=@List.findSome?_eq_none_iff
abbrev Qc3:=@List.any_eq_false
abbrev Qc4:=@PySem.wpAny_pyIter_list
abbrev Qc5:=@Nat.lt_succ_of_lt
abbrev Qc6:=@List.getElem?_zip_eq_some
abbrev Qc8:=@PySem.F.slot_list_append
abbrev Qc9:=@PySem.F.type_list_append
abbrev Qda:=@PySem.F.slot_list_extend
abbrev Qdb:=@PySem.F.type_list_extend
set_option bootstrap.genMatcherCode false
set_option compiler.extract_closed false
section
open PySem
abbrev Aaa:=List$ Addr×Obj
abbrev Aab:=Value->Qdg->Prop
abbrev Aac:=List$ Str×Nat
abbrev Aad:=List$ Str×List Nat
abbrev Aae:=List$ List Nat
abbrev Aaf:=Str->Option Value
abbrev Aag:=Nat->Addr
end
namespace PySem.W.Fast
def tw11678661323653359014:=0
def tw14461037755144498601:=0
def tw6010468559324595972:=0
def tw10314933550878935759:=0
def tw16058329722121920760:=0
def tw14567782751276091126:=0
def tw17965180100047816155:=0
def tw4843752611754340358:=0
def tw16181564148795047891:=0
def tw18233359250537532405:=0
def tw14341296644220765968:=0
def tw10932095038908494203:=0
def tw2584603865426958676:=0
def tw15083976549296823973:=0
def tw14814398411843597963:=0
def tw4316937996514319744:=0
def tw12706229248687658828:=0
def tw15247067673664260108:=0
def tw16845502568196178065:=0
def tw7292166333620823682:=0
def tw3143061386537484078:=0
def tw17950072100899892085:=0
def tw13015015715216193306:=0
def tw6082927069927601654:=0
def tw8465983613878300517:=0
def tw6854956153771231583:=0
def tw9665165827983476222:=0
def tw12315472476964091311:=0
def tw7981387772659738505:=0
def tw6372048705759421645:=0
def tw17496094128894516936:=0
def tw5595018577483659604:=0
def tw13859488386377275896:=0
def tw471694580892270432:=0
def tw16074140888443598827:=0
def tw1698089273606763168:=0
def tw9954826884942428373:=0
def tw2729404525737959823:=0
def tw3883480048154400616:=0
def tw1060769911117105273:=0
def tw15977192851335657197:=0
def tw16081936492951688858:=0
def tw15135664789213648219:=0
def tw9491149197861033699:=0
def tw87893519096520233:=0
def tw2233112928271511371:=0
def tw6926554496484351094:=0
def tw14127053068291564395:=0
def tw15030617168532817286:=0
def tw7477488634659921686:=0
def tw15873888986235283603:=0
def tw4273231377363915734:=0
def tw9086631843017615288:=0
def tw18255693879641423426:=0
def tw2469103551105660163:=0
def tw11974800706311137698:=0
def tw10989566000777094316:=0
def tw14252406809651981323:=0
def tw17300171447096379007:=0
def tw1545353244957781211:=0
def tw7244468211311475927:=0
def tw12696784784263816976:=0
def tw12023501896312086169:=0
def tw4757016784067633382:=0
def tw16903314162963826851:=0
def tw17314275662287395009:=0
def tw8259421868376493883:=0
def tw4297139412999246477:=0
def tw10433587737171830656:=0
def tw5278349365073602469:=0
def tw265140022106233663:=0
def tw8587244158292268583:=0
def tw1553681511410099029:=0
def tw8739991922783278650:=0
def tw7325559682958568086:=0
def tw4168027163356549836:=0
def tw16346168033014697320:=0
def tw1116674644941970662:=0
def tw15837636106519095521:=0
def tw1052164365317823252:=0
def tw14565749180136186034:=0
def tw6924697975421498810:=0
def tw16788122739028150247:=0
def tw16317052367864634733:=0
def tw2471907228631570878:=0
def tw7731426726723894538:=0
def tw3712510304881655452:=0
def tw10373936939307721153:=0
def tw3791829155471950229:=0
def tw9879998074378635636:=0
def tw573163047524672365:=0
def tw7072536654725640954:=0
def tw8818284806014653175:=0
def tw16816195901045062361:=0
def tw16297550821986370836:=0
def tw2565155083867839468:=0
def tw10930806532280785142:=0
def tw4077631920556900378:=0
def tw11559041036754230781:=0
def tw10225612962652867456:=0
end PySem.W.Fast
set_option Elab.async false
set_option linter.all false
set_option maxRecDepth 100000
set_option maxHeartbeats 4000000
section
namespace L2
open PySem PySem.Spec PyProof.Rows
abbrev Key:=Sum Int Str
noncomputable def zQ:Key->Value->Bool
 | .inl k,v=>Value.isInt k v
 | .inr x,v=>Value.isStrOf x v
noncomputable def Xx(w:World):Key->Int
 | .inl k=>hashInt k
 | .inr x=>hashStr w x
theorem dQ:∀{k:Key} {v:Value},zQ k v=true->(∃i t,k=Sum.inl i/\v=Value.int i t)\/(∃x t,k=Sum.inr x/\v=Value.str x t)
 | .inl i,v,h=>by
   obtain⟨t,e⟩:=Value.isInt_shape (k:=i) (v:=v) h;exact .inl ⟨i,t,rfl,e⟩
 | .inr x,v,h=>by
   obtain⟨t,e⟩:=Value.isStrOf_shape (x:=x) (v:=v) h;exact .inr ⟨x,t,rfl,e⟩
def Ih(i:Int)(t:Tok):zQ (.inl i) (.int i t)=true:=by simp [zQ,Value.isInt]
def HK(x:Str)(t:Tok):zQ (.inr x) (.str x t)=true:=by simp [zQ,Value.isStrOf]
def QM(a b:Int):decide ((Sum.inl a:Key)=Sum.inl b)=(a==b):=by
 by_cases e:a=b
 .subst e;simp
 .have h:¬(Sum.inl a:Key)=Sum.inl b:=λq=>e (Sum.inl.inj q)
  rw[Qaw h];exact(QaZ.mpr e).symm
def Sz(a b:Str):decide ((Sum.inr a:Key)=Sum.inr b)=decide (a=b):=by
 by_cases e:a=b
 .subst e;simp
 .have h:¬(Sum.inr a:Key)=Sum.inr b:=λq=>e (Sum.inr.inj q)
  rw[Qaw h,Qaw e]
def R6(a:Int)(b:Str):decide ((Sum.inl a:Key)=Sum.inr b)=false:=Qaw$ λq=>nomatch q
def Sg(a:Str)(b:Int):decide ((Sum.inr a:Key)=Sum.inl b)=false:=Qaw$ λq=>nomatch q
def dF(prog:Program)(w:World):PySem.KeyKind prog w Key where
 is:=zQ
 hash:=Xx w
 inj:=λv a b ha hb=>by
  rcases dQ ha with⟨i,t,rfl,rfl⟩ | ⟨x,t,rfl,rfl⟩
  .rcases dQ hb with⟨j,u,rfl,e⟩ | ⟨y,u,rfl,e⟩
   .injection e with e1 _;rw [e1]
   .exact nomatch e
  .rcases dQ hb with⟨j,u,rfl,e⟩ | ⟨y,u,rfl,e⟩
   .exact nomatch e
   .injection e with e1 _;rw [e1]
 byValue:=λk v h=>by
  rcases dQ h with⟨i,t,rfl,rfl⟩ | ⟨x,t,rfl,rfl⟩ <;> rfl
 pyHash:=λhv h=>by
  rcases dQ hv with⟨i,t,rfl,rfl⟩ | ⟨x,t,rfl,rfl⟩
  .exact wpAny_pyHash_int h
  .exact wpAny_pyHash_str h
 eqBool:=λhu hv h=>by
  rcases dQ hu with⟨i,t,rfl,rfl⟩ | ⟨x,t,rfl,rfl⟩
  .rcases dQ hv with⟨j,u,rfl,rfl⟩ | ⟨y,u,rfl,rfl⟩
   .rw [QM] at h;exact wpAny_eqBool_int h
   .rw [R6] at h;exact SeqAt.EqAt.int_str i t y u _ _ _ _ h
  .rcases dQ hv with⟨j,u,rfl,rfl⟩ | ⟨y,u,rfl,rfl⟩
   .rw [Sg] at h;exact SeqAt.EqAt.str_int x t j u _ _ _ _ h
   .rw [Sz] at h;exact wpAny_eqBool_str h
 «strs»:=λk x t v h=>by
  rcases dQ h with⟨i,u,rfl,e⟩ | ⟨y,u,rfl,e⟩
  .exact nomatch e
  .injection e with e1 _
   subst e1;cases v <;> rfl
def Dm(prog:Program)(w:World)(i:Int)(t:Tok):(dF prog w).is (.inl i) (.int i t)=true:=Ih i t
def Df(prog:Program)(w:World)(x:Str)(t:Tok):(dF prog w).is (.inr x) (.str x t)=true:=HK x t
inductive V where
 | cY | bl (b:Bool) | int (i:Int) | str (x:Str) | byt (b:Array UInt8) | flt (b:UInt64) | ref (a:Addr) | ty (n:String)
 deriving DecidableEq
def RelV:V->Value->Prop
 | .cY,u=>u=Value.none
 | .bl b,u=>u=Value.bool b
 | .int i,u=>∃t,u=Value.int i t
 | .str x,u=>∃t,u=Value.str x t
 | .byt b,u=>∃t,u=Value.bytes b t
 | .flt b,u=>∃t,u=Value.float b t
 | .ref a,u=>u=Value.ref a
 | .ty n,u=>u=Value.type n
abbrev Vals:List V->List Value->Prop:=Paired RelV
def Vals.length{xs:List V}{us:List Value}(r:Vals xs us):xs.length=us.length:=Paired.length r
theorem Vals.get:∀{xs:List V} {us:List Value} {i:Nat} {x:V},Vals xs us->xs[i]? =some x->∃u,us[i]? =some u/\RelV x u
 | _,_,_,_, .nil,e=>by simp at e
 | _,_,0,_, .cons r _,e=>by simp at e;subst e;exact⟨_,rfl,r⟩
 | _,_,i+1,x, .cons _ t,e=>by
   obtain⟨u,h1,h2⟩:=Vals.get (i:=i) (x:=x) t (by simpa using e)
   exact⟨u,by simpa using h1,h2⟩
theorem Vals.set{x:V}{u:Value}(r:RelV x u):∀{xs:List V} {us:List Value} (i:Nat),Vals xs us->Vals (xs.set i x) (us.set i u)
 | _,_,_, .nil=> .nil
 | _,_,0, .cons _ t=> .cons r t
 | _,_,i+1, .cons q t=> .cons q$ Vals.set r i t
theorem Vals.append:∀{xs ys:List V} {us ws:List Value},Vals xs us->Vals ys ws->Vals (xs++ys) (us++ws)
 | _,_,_,_, .nil,s=>s
 | _,_,_,_, .cons r t,s=> .cons r$ Vals.append t s
theorem Vals.take:∀{xs:List V} {us:List Value} (n:Nat),Vals xs us->Vals (xs.take n) (us.take n)
 | _,_,0,_=> .nil
 | _,_,_+1, .nil=> .nil
 | _,_,n+1, .cons r t=> .cons r$ Vals.take n t
theorem Vals.drop:∀{xs:List V} {us:List Value} (n:Nat),Vals xs us->Vals (xs.drop n) (us.drop n)
 | _,_,0,r=>r
 | _,_,_+1, .nil=> .nil
 | _,_,n+1, .cons _ t=>Vals.drop n t
def oA:Option V->Option Value->Prop
 | some v,some u=>RelV v u
 | none,none=>True
 | _,_=>False
def KV{κ:Type}:List (κ × V)->List (κ × Value)->Prop:=Paired λ(p:κ × V) (q:κ × Value)=>p.1=q.1/\RelV p.2 q.2
noncomputable def kV:Key->V
 | .inl i=> .int i
 | .inr x=> .str x
inductive HO where
 | lst (xs:List V)
 | tup (xs:List V)
 | dK (kvs:List (Key × V)) | dT (kvs:List (List Key × V))
 | set (S:Int->Bool) (n:Nat)
 | ins (C dx:Addr) (fs:List (Str × V))
 | own (x:Addr)
 | xd (fs:List (Str × V))
 | met (f x:Addr)
 | rng (lo hi:Int)
 | fm (o:Obj) (u:HO)
 | tbl (ps:Array Value)
 | ext (φ:Heap->Prop)
abbrev Hp:=Addr->Option HO
noncomputable def upd(H:Hp)(a:Addr)(o:HO):Hp:=λb=>if b=a then some o else H b
def bh{a:Addr}{o:HO}:upd H a o a=some o:=by unfold upd;rw [QaK rfl]
def bA{H:Hp}{a b:Addr}{o:HO}(h:b≠a):upd H a o b=H b:=by unfold upd;rw [QaH h]
def UN{H:Hp}{a b:Addr}{o u:HO}(h:H a=some o)(h':H b=some u)(d:o≠u):a≠b:=by
 intro e;subst e;rw [h] at h';exact d$ QaW h'
def cG{H:Hp}{a b:Addr}{o:HO}(h:H a=some o)(h':H b=none):a≠b:=by
 intro e;subst e;rw [h] at h';cases h'
section
variable (P:Program)(w:World)
def e8(H:Hp)(h:Heap)(a:Addr):HO->Prop
 | .lst xs=>xs.length<=sizeLine/\∃(its:List Value) (n:Nat),Vals xs its/\h.get? a=some {cls:= .type "list",data:= .seq its.toArray n}
 | .tup xs=>xs.length<=sizeLine/\∃its:List Value,Vals xs its/\IsTup h a its.toArray
 | .dK kvs=>kvs.length<=sizeLine/\(a==sysModules)=false/\∃vs,KV kvs vs/\h.DictOf (dF P w) a vs
 | .dT kvs=>kvs.length<=sizeLine/\(a==sysModules)=false/\∃xs:List (List Key × Addr × Value),
    Paired (λ(p:List Key × V) (q:List Key × Addr × Value)=>p.1=q.1/\H q.2.1=some (.tup$ p.1.map kV)/\RelV p.2 q.2.2) kvs xs/\
    ∃o es ep,h.get? a=some o/\o.ExactDict/\o.data= .dict es ep/\es.toList=xs.map (entryOfKey$ tupleKind$ dF P w)/\(xs.map (·.1)).Nodup
 | .set S n=>h.SetOf (intKind P w) a S n
 | .ins C dx fs=>H dx=some (.own a)/\fs.length<=1000/\dx≠a/\h.get? a=some (PySem.W.instObj C dx)/\
    ∃mA,h.Ns1 dx mA/\(∀f,oA (fs.lookup f)$ mA f)/\PySem.Within mA (fs.map (·.1))
 | .own _=>∃o,h.get? a=some o
 | .xd fs=>∃mA,h.Ns1 a mA/\∀f,oA (fs.lookup f)$ mA f
 | .rng lo hi=>∃t u v,h.get? a=some {cls:= .type "range",data:= .fields #[.int lo t, .int hi u, .int 1 v]}
 | .fm o u=>h.get? a=some o/\e8 H h a u
 | .tbl ps=>h.get? a=some {cls:= .none,data:= .fields ps}
 | .met f x=>h.get? a=some (PySem.W.methodObj (.ref f)$ .ref x)
 | .ext φ=>φ h/\(∃o,h.get? a=some o)/\∀h1 h2:Heap,φ h1->(∀o,h1.get? a=some o->h2.get? a=some o)->φ h2
def ql(H:Hp)(h:Heap):Prop:=∀a o,H a=some o->e8 P w H h a o
end
section
variable {P:Program}{w:World}{H H':Hp}{h h':Heap}{a:Addr}{o:HO}
def e8.lt(x:e8 P w H h a o):a<h.objs.size:=by
 cases o with
 | lst xs=>obtain⟨_,_,_,_,e⟩:=x;exact QaD e
 | tup xs=>obtain⟨_,_,_,p⟩:=x;exact p.lt
 | dK kvs=>obtain⟨_,_,_,_,o,_,_,e,_⟩:=x;exact QaD e
 | dT kvs=>obtain⟨_,_,_,_,o,_,_,e,_⟩:=x;exact QaD e
 | set S n=>obtain⟨o,_,_,_,e,_⟩:=x;exact QaD e
 | ins C dx fs=>obtain⟨_,_,_,e,_⟩:=x;exact QaD e
 | own y=>obtain⟨_,e⟩:=x;exact QaD e
 | xd fs=>obtain⟨_,⟨_,_,_,e,_⟩,_⟩:=x;exact QaD e
 | rng lo hi=>obtain⟨_,_,_,e⟩:=x;exact QaD e
 | fm ob u=>obtain⟨e,_⟩:=x;exact QaD e
 | tbl ps=>exact QaD$ show h.get? a=some _ from x
 | met f y=>exact QaD$ show h.get? a=some _ from x
 | ext φ=>obtain⟨_,⟨_,e⟩,_⟩:=x;exact QaD e
theorem Paired.QU{α β:Type}{F G:α->β->Prop}:∀{V2:List α} {Wf:List β},Paired F V2 Wf->(∀a b,F a b->G a b)->Paired G V2 Wf
 | _,_, .nil,_=> .nil
 | _,_, .cons r t,f=> .cons (f _ _ r)$ Paired.QU t f
def e8.Aw(x:e8 P w H h a o)(k:∀b u,(b=a\/H b=some (.own a))->h.get? b=some u->h'.get? b=some u)
 (ho:∀b,H b=some (.own a)->H' b=some (.own a)) (ht:∀b xs,H b=some (.tup xs)->H' b=some (.tup xs)):e8 P w H' h' a o:=by
 induction o with
 | lst xs=>obtain⟨z,its,n,r,e⟩:=x;exact⟨z,its,n,r,k _ _ (.inl rfl) e⟩
 | tup xs=>obtain⟨z,its,r,ob,e,c⟩:=x;exact⟨z,its,r,ob,k _ _ (.inl rfl) e,c⟩
 | dK kvs=>obtain⟨z,y,vs,r,ob,es,ep,e,c⟩:=x;exact⟨z,y,vs,r,ob,es,ep,k _ _ (.inl rfl) e,c⟩
 | dT kvs=>
   obtain⟨z,y,xs,r,ob,es,ep,e,c⟩:=x;exact⟨z,y,xs,Paired.QU r λp q z=>⟨z.1,ht _ _ z.2.1,z.2.2⟩,ob,es,ep,k _ _ (.inl rfl) e,c⟩
 | set S n=>obtain⟨ob,es,ep,t,e,c⟩:=x;exact⟨ob,es,ep,t,k _ _ (.inl rfl) e,c⟩
 | ins C dx fs=>
   obtain⟨d,z,ne,e,mA,⟨od,es,ep,e2,c⟩,r⟩:=x;exact⟨ho _ d,z,ne,k _ _ (.inl rfl) e,mA,⟨od,es,ep,k _ _ (.inr d) e2,c⟩,r⟩
 | own y=>obtain⟨ob,e⟩:=x;exact⟨ob,k _ _ (.inl rfl) e⟩
 | xd fs=>obtain⟨mA,⟨od,es,ep,e,c⟩,r⟩:=x;exact⟨mA,⟨od,es,ep,k _ _ (.inl rfl) e,c⟩,r⟩
 | rng lo hi=>obtain⟨t,u,v,e⟩:=x;exact⟨t,u,v,k _ _ (.inl rfl) e⟩
 | fm ob u ih=>obtain⟨e,q⟩:=x;exact⟨k _ _ (.inl rfl) e,ih q⟩
 | tbl ps=>
   have e:h.get? a=some {cls:= .none,data:= .fields ps}:=x;show h'.get? a=some {cls:= .none,data:= .fields ps};exact k a _ (.inl rfl) e
 | met f y=>
   have e:h.get? a=some (PySem.W.methodObj (.ref f)$ .ref y):=x;show h'.get? a=some (PySem.W.methodObj (.ref f)$ .ref y);exact k a _ (.inl rfl) e
 | ext φ=>obtain⟨p,⟨o,e⟩,st⟩:=x;exact⟨st _ _ p λo q=>k _ _ (.inl rfl) q,⟨o,k _ _ (.inl rfl) e⟩,st⟩
def ql.lt(x:ql P w H h)(e:H a=some o):a<h.objs.size:=(x a o e).lt
def ql.fresh(x:ql P w H h)(e:h.objs.size<=a):H a=none:=by
 cases q:H a with
 | none=>rfl
 | some u=>exact absurd (QaP (x.lt q) e)$ QbK _
def ql.kept(x:ql P w H h)(k:∀b u,h.get? b=some u->h'.get? b=some u):ql P w H h':=λa o e=>
 (x a o e).Aw (λb u _ q=>k b u q) (λ_ q=>q) λ_ _ q=>q
def ql.laid(x:ql P w H h)(k:∀b u,h.get? b=some u->h'.get? b=some u)(hp:h.objs.size<=a)(new:e8 P w (upd H a o) h' a o):ql P w (upd H a o) h':=λb u e=>by
 have hn:=x.fresh hp;by_cases hb:b=a
 .subst hb;rw [bh] at e;cases e;exact new
 .rw [bA hb] at e;exact(x b u e).Aw (λc v _ q=>k c v q) (λc q=>by rw[bA$ cG q hn];exact q) λc xs q=>by rw[bA$ cG q hn];exact q
end
def Rd(H:Hp)(a:Addr)(u:HO):Prop:=H a=some u\/∃o,H a=some (.fm o u)
def Rd.of{H:Hp}{a:Addr}{u:HO}(h:H a=some u):Rd H a u:= .inl h
def Rd.ok{a:Addr}{u:HO}(r:Rd H a u)(x:ql P w H h):e8 P w H h a u:=by
 rcases r with r | ⟨o,r⟩
 .exact x a u r
 .obtain⟨_,q⟩:=x a _ r;exact q
def VE:Option HO->Prop
 | some (.lst _)=>True
 | some (.dK _)=>True
 | some (.dT _)=>True
 | some (.set _ _)=>True
 | some (.ins _ _ _)=>True
 | some (.ext _)=>True
 | _=>False
section
variable {P:Program}{w:World}{H:Hp}{h h':Heap}{x e:Addr}{o':HO}
def ql.write(ok:ql P w H h)(mu:VE (H x))(he:e=x\/H e=some (.own x))(k:∀b u,b≠e->h.get? b=some u->h'.get? b=some u)(MO:∃u,h'.get? e=some u)
 (new:e8 P w (upd H x o') h' x o'):ql P w (upd H x o') h':=λb u q=>by
 have nown:∀c y,H c=some (.own y)->c≠x:=λc y r z=>by subst z;rw [r] at mu;exact mu
 have ntup:∀c xs,H c=some (.tup xs)->c≠x:=λc xs r z=>by subst z;rw [r] at mu;exact mu
 by_cases hb:b=x
 .subst hb;rw [bh] at q;cases q;exact new
 .rw [bA hb] at q;by_cases hbe:b=e
  .have q':H b=some (.own x):=by
    rcases he with z | z
    .exact absurd (hbe.trans z) hb
    .rw [hbe];exact z
   rw[q] at q';cases q';obtain⟨v,hv⟩:=MO;exact⟨v,by rw[hbe];exact hv⟩
  .refine(ok b u q).Aw (λc v hc r=>k c v ?_ r) (λc r=>by rw[bA$ nown c b r];exact r) λc xs r=>by rw[bA$ ntup c xs r];exact r
   rcases hc with rfl | hc
   .exact hbe
   .rintro rfl;rcases he with z | z
    .exact nown c b hc z
    .rw [hc] at z;cases z;exact hb rfl
end
structure Un (fs ex:List Addr) (H H':Hp) (h h':Heap):Prop where
 keep:∀b o,h.get? b=some o->H b=none->b ∉ fs->b ∉ ex->h'.get? b=some o
 slot:∀b o,h.get? b=some o->H b=none->b∈fs->b ∉ ex->∃sl,h'.get? b=some {o with slots:=sl}
 free:∀b o,h.get? b=some o->H b=none->b ∉ ex->H' b=none
 there:∀b o,h.get? b=some o->b ∉ ex->∃o',h'.get? b=some o'
 tups:∀b xs,H b=some (.tup xs)->H' b=some (.tup xs)
 frzs:∀b o u,H b=some (.fm o u)->H' b=some (.fm o u)
 tbls:∀b ps,H b=some (.tbl ps)->∃more,H' b=some (.tbl (ps++more))
section
variable {fs ex:List Addr}{H H1:Hp}{h h1 h':Heap}{a x e:Addr}{o:HO}
def Un.any(u:Un fs ex H H1 h h1){b:Addr}{ob:Obj}(q:h.get? b=some ob)(n:H b=none)(hx:b ∉ ex):∃sl,h1.get? b=some {ob with slots:=sl}:=by
 by_cases hb:b∈fs
 .exact u.slot b ob q n hb hx
 .exact⟨ob.slots,u.keep b ob q n hb hx⟩
def Un.kept(k:∀b u,h.get? b=some u->h'.get? b=some u):Un fs ex H H h h':=
 ⟨λb ob q _ _ _=>k b ob q,λb ob q _ _ _=>⟨ob.slots,k b ob q⟩,λ_ _ _ n _=>n,λb ob q _=>⟨ob,k b ob q⟩,λ_ _ q=>q,λ_ _ _ q=>q,λ_ ps q=>⟨#[],by rw[q];simp⟩⟩
def Un.refl:Un fs ex H H h h:=Un.kept λ_ _ q=>q
def Un.laid(k:∀b u,h.get? b=some u->h'.get? b=some u)(hp:h.objs.size<=a)(hn:H a=none):Un fs ex H (upd H a o) h h' where
 keep:=λb u q _ _ _=>k b u q
 slot:=λb u q _ _ _=>⟨u.slots,k b u q⟩
 free:=λb u q n _=>by rw[bA$ QaR$ QaP (QaD q) hp];exact n
 there:=λb u q _=>⟨u,k b u q⟩
 tups:=λb xs q=>by rw[bA$ cG q hn];exact q
 frzs:=λb u xs q=>by rw[bA$ cG q hn];exact q
 tbls:=λb ps q=>⟨#[],by rw[bA$ cG q hn,q];simp⟩
def Un.write(mu:VE (H x))(he:e=x\/H e=some (.own x))(k:∀b u,b≠e->h.get? b=some u->h'.get? b=some u)(MO:∃u,h'.get? e=some u):Un fs ex H (upd H x o) h h':=by
 have hx:∀b,H b=none->b≠x:=λb n z=>by subst z;rw [n] at mu;exact mu
 have hb:∀b,H b=none->b≠e:=λb n z=>by
  subst z;rcases he with r | r
  .exact hx b n r
  .rw [n] at r;cases r
 have hm:∀b u,H b=some u->¬VE (some u)->b≠x:=λb u q nm z=>by subst z;rw [q] at mu;exact nm mu
 refine⟨λb u q n _ _=>k b u (hb b n) q,λb u q n _ _=>⟨u.slots,k b u (hb b n) q⟩,λb u q n _=>by rw[bA$ hx b n];exact n,λb u q _=>?_,
  λb xs q=>by rw[bA$ hm b _ q λz=>z];exact q,λb u xs q=>by rw[bA$ hm b _ q λz=>z];exact q,λb ps q=>⟨#[],by rw[bA (hm b _ q λz=>z),q];simp⟩⟩
 by_cases hbe:b=e
 .subst hbe;exact MO
 .exact⟨u,k b u hbe q⟩
end
noncomputable def Wx(h:Heap)(H:Hp):List Addr:=(List.range h.objs.size).filter λa=>(H a).isSome
def BQ(h:Heap)(H:Hp):Heap:=PySem.W.hideAll h$ Wx h H
def H_(h:Heap)(H:Hp):(BQ h H).objs.size=h.objs.size:=PySem.W.hideAll_size _ _
def Mh{h:Heap}{H:Hp}{b:Addr}{o:Obj}(e:h.get? b=some o)(n:H b=none):(BQ h H).get? b=some o:=
 PySem.W.hideAll_get _ e λhm=>by
  have q:(H b).isSome=true:=(Qbb.mp hm).2;rw[n] at q;simp at q
def Oq{h:Heap}{H:Hp}{b:Addr}{o:Obj}(e:(BQ h H).get? b=some o):h.get? b=some o/\H b=none:=by
 have e':h.get? b=some o:=PySem.W.of_hideAll (Wx h H) e;refine⟨e',?_⟩;cases q:H b with
 | none=>rfl
 | some x=>
   have hm:b∈Wx h H:=Qbb.mpr ⟨QaM.mpr$ QaD e',by simp [q]⟩
   have z:(BQ h H).get? b=none:=PySem.W.hideAll_none (Wx h H) hm;rw[z] at e;cases e
noncomputable def OD(g h:Heap)(L:Addr):Aaa:=(List.range h.objs.size).filterMap λa=>if a=L\/(g.get? a).isSome=true then none else(h.get? a).map λo=>(a,o)
def rest(g h:Heap)(L d:Addr):Aaa:=(OD g h L).filter λp=>decide$ p.1≠d
structure Mod (K:Qdf) (mg:Aaf) (base:Heap):Prop where
 kin:K.In base
 glob:base.Ns mainGlobals mg
 blt:∃mb,base.Ns builtinsNs mb/\∀x:Str,x≠"__name__"->mb x=bootBuiltins x
 nolimit:base.NoLimit
structure Cx where
 prog:Program
 w:World
 K:Qdf
 mg:Aaf
 base:Heap
 A:Around
 N:List Str
 s₀:Qdg
 H₀:Hp
 env:Env
 outer:List Env
 stack:List Env
 ex:List Addr
 fn:Str->Bool
 calm:Bool
 pn:Aaa
 xe:Aab
noncomputable def Jt(l:List Env):List Addr:=l.filterMap (·.frame)
abbrev Cx.fs(X:Cx):List Addr:=Jt X.outer
def Jr(sc:Scope)(x:Str):Prop:=sc.names.lookup x=some .local\/sc.names.lookup x=some .cell\/sc.names.lookup x=some .free
def Loc(sc:Scope)(x:Str):Prop:=sc.names.lookup x=some .local\/sc.names.lookup x=some .cell
def Look(env:Env)(h:Heap)(m:Aaf)(x:Str)(u:Value):Prop:=
 (env.kindOf x=some .local/\m x=some u)\/((env.kindOf x=some .cell\/env.kindOf x=some .free)/\∃c,env.cells.lookup x=some c/\h.IsCell c (some u))
structure Cx.Ok (X:Cx):Prop where
 mod:Mod X.K X.mg X.base
 kind:X.env.scope.kind= .function
 glob:X.env.globals=mainGlobals
 blt:X.env.builtins=builtinsNs
 above:X.s₀.heap.objs.size<=X.env.locals
 inj:∀x y c,X.env.cells.lookup x=some c->X.env.cells.lookup y=some c->x=y
 has:∀x,(X.env.kindOf x=some .cell\/X.env.kindOf x=some .free)->∃c,X.env.cells.lookup x=some c
 cab:∀x c,X.fn x=true->X.env.cells.lookup x=some c->X.s₀.heap.objs.size<=c
 hd:X.calm=true->X.A.handled=none
 frames:X.A.frames=some X.stack
 stk:X.stack=X.outer\/(X.stack=X.env ::X.outer/\X.env.frame=some X.env.locals)
 exf:∀b∈X.ex,b≠X.env.locals/\∀x c,X.env.cells.lookup x=some c->c≠b
 bs:∀b o,X.base.get? b=some o->X.s₀.heap.get? b=some o/\X.H₀ b=none
 bsz:X.base.objs.size<=X.s₀.heap.objs.size
 noex:∀b o,X.base.get? b=some o->b ∉ X.ex
 exfs:∀b∈X.ex,b ∉ X.fs
 vM:X.s₀.heap.FunFrames X.base X.outer
 frf:∀b∈X.fs,X.H₀ b=none
structure Inv (X:Cx) (pins:Aaa) (σ:List (Option V)) (H:Hp) (s:Qdg):Prop where
 ok:X.Ok
 os:s.os=X.s₀.os
 bare:AllBare s.gens
 base:Un X.fs X.ex X.H₀ H X.s₀.heap s.heap
 loc:∃m,s.heap.Ns X.env.locals m/\∀(i:Nat) (x:Str) (v:V),X.N[i]? =some x->σ[i]? =some (some v)->Jr X.env.scope x->∃u,RelV v u/\Look X.env s.heap m x u
 cell:∀x c,X.env.cells.lookup x=some c->∃v,s.heap.IsCell c v
 free:H X.env.locals=none
 freeC:∀x c,X.env.cells.lookup x=some c->H c=none
 pin:∀p∈X.pn++pins,s.heap.get? p.1=some p.2/\H p.1=none/\p.1≠X.env.locals/\p.1 ∉ X.fs/\∀v,p.2.data≠ .cell v
 hok:ql X.prog X.w H s.heap
 len:σ.length=X.N.length
section
variable {X:Cx}{pins:Aaa}{σ:List (Option V)}{H H':Hp}{s:Qdg}{h':Heap}
def Cx.Ok.XQ(ok:X.Ok){b:Addr}{o:Obj}(e:X.base.get? b=some o):b ∉ X.fs:=λhb=>by
 have:=(ok.vM.mem hb).1;rw[e] at this;cases this
def Inv.bs(I:Inv X pins σ H s):∀b o,X.base.get? b=some o->s.heap.get? b=some o/\H b=none:=λb o e=>
 ⟨I.base.keep b o (I.ok.bs b o e).1 (I.ok.bs b o e).2 (I.ok.XQ e)$ I.ok.noex b o e,I.base.free b o (I.ok.bs b o e).1 (I.ok.bs b o e).2$ I.ok.noex b o e⟩
def Inv.bk(I:Inv X pins σ H s):∀b o,X.base.get? b=some o->s.heap.get? b=some o:=λb o e=>(I.bs b o e).1
def Inv.mod(I:Inv X pins σ H s):Mod X.K X.mg X.base:=I.ok.mod
def Inv.GO(I:Inv X pins σ H s):X.K.In s.heap:=I.ok.mod.kin.keeps I.bk
def Inv.lt(I:Inv X pins σ H s):X.env.locals<s.heap.objs.size:=let⟨_,hn,_⟩:=I.loc;hn.lt
def Inv.sz(I:Inv X pins σ H s):X.s₀.heap.objs.size<=s.heap.objs.size:=QaT I.ok.above$ Nat.le_of_lt I.lt
def Inv.WX(I:Inv X pins σ H s){a:Addr}(h:s.heap.objs.size<=a):a ∉ X.fs:=λhb=>by
 obtain⟨_,o,ho,_⟩:=I.ok.vM.mem hb;exact absurd (QaP (QaD ho)$ QaT I.sz h)$ QbK _
def Inv.Qz(I:Inv X pins σ H s):∀x c,X.env.cells.lookup x=some c->c≠X.env.locals:=λx c e z=>by
 obtain⟨v,o,ho,hd⟩:=I.cell x c e;obtain⟨m,⟨o',es,ep,Td,Wk,_⟩,_⟩:=I.loc;rw[z,Td] at ho;cases ho;rw [Wk] at hd;cases hd
def Inv.vM(I:Inv X pins σ H s):s.heap.FunFrames X.base X.outer:=by
 have all:∀(l:List Env),(∀b∈Jt l,b∈X.fs)->X.s₀.heap.FunFrames X.base l->s.heap.FunFrames X.base l:=by
  intro l
  induction l with
  | nil=>intro _ _;trivial
  | cons env r ih=>
    intro hs hl;obtain⟨hk,⟨L,o,hf,hn,ho,hd⟩,hr⟩:=hl;have hL:L∈X.fs:=hs L (by unfold Jt;rw [QcO,hf];exact Qan)
    obtain⟨sl,e⟩:=I.base.slot L o ho (I.ok.frf L hL) hL λz=>I.ok.exfs L z hL
    exact⟨hk,⟨L,_,hf,hn,e,hd⟩,ih (λb hb=>hs b$ by unfold Jt;rw [QcO,hf];exact Qad _ hb) hr⟩
 exact all X.outer (λ_ hb=>hb) I.ok.vM
def Inv.stack(I:Inv X pins σ H s):s.heap.FunFrames X.base X.stack:=by
 rcases I.ok.stk with e | ⟨e,hf⟩
 .rw [e];exact I.vM
 .rw [e];obtain⟨m,hn,_⟩:=I.loc;refine .cons (by rw[I.ok.kind];decide) hf hn ?_ I.vM
  exact Heap.get?_none_of_le$ QaT I.ok.bsz I.ok.above
def Inv.Fe(I:Inv X pins σ H s):∀b∈Jt X.stack,b∈X.env.locals ::X.fs:=λb hb=>by
 rcases I.ok.stk with e | ⟨e,hf⟩
 .rw [e] at hb;exact Qad _ hb
 .rw [e] at hb;unfold Jt at hb;rw[QcO,hf] at hb;exact hb
def Inv.GH(I:Inv X pins σ H s):∀b∈Jt X.stack,H b=none:=λb hb=>by
 rcases QaE.mp (I.Fe b hb) with e | hb
 .rw [e];exact I.free
 .obtain⟨_,o,ho,_⟩:=I.ok.vM.mem hb;exact I.base.free b o ho (I.ok.frf b hb) λz=>I.ok.exfs b z hb
def Inv.step{g':Array GenState}{t':Nat}{d':Drawn}{ch:List Addr}(I:Inv X pins σ H s)
 (MW:∀b∈ch,(b∈X.ex\/X.s₀.heap.objs.size<=b)/\b≠X.env.locals/\(∀x c,X.env.cells.lookup x=some c->c≠b)/\∀p∈X.pn++pins,p.1≠b)
 (keep:∀b o,b≠X.env.locals->b ∉ X.fs->b ∉ ch->s.heap.get? b=some o->H b=none->h'.get? b=some o)
 (slot:∀b o,b≠X.env.locals->b∈X.fs->b ∉ ch->s.heap.get? b=some o->H b=none->∃sl,h'.get? b=some {o with slots:=sl}) (free:∀b o,b ∉ ch->s.heap.get? b=some o->H b=none->H' b=none)
 (there:∀b o,b ∉ ch->s.heap.get? b=some o->∃o',h'.get? b=some o')
 (tups:∀b xs,H b=some (.tup xs)->H' b=some (.tup xs)) (frzs:∀b o u,H b=some (.fm o u)->H' b=some (.fm o u)) (tbls:∀b ps,H b=some (.tbl ps)->∃more,H' b=some (.tbl$ ps++more))
 (ns:∀m,s.heap.Ns X.env.locals m->h'.Ns X.env.locals m) (hok:ql X.prog X.w H' h') (hg:AllBare g') :
 Inv X pins σ H' {s with heap:=h',gens:=g',drawn:=d',toks:=t'}:=by
 have neL:∀b o,X.s₀.heap.get? b=some o->b≠X.env.locals:=λb o e=>QaR$ QaP (QaD e) I.ok.above
 have neC:∀b o,X.s₀.heap.get? b=some o->b ∉ X.ex->b ∉ ch:=λb o e hx hb=>by
  rcases(MW b hb).1 with z | z
  .exact hx z
  .exact absurd (QaP (QaD e) z) (QbK _)
 have cellK:∀x c,X.env.cells.lookup x=some c->∀v,s.heap.IsCell c v->h'.IsCell c v:=λx c e v ⟨o,ho,hd⟩=>by
  have nch:c ∉ ch:=λz=>(MW c z).2.2.1 x c e rfl
  by_cases hc:c∈X.fs
  .obtain⟨sl,q⟩:=slot c o (I.Qz x c e) hc nch ho$ I.freeC x c e;exact⟨_,q,hd⟩
  .exact⟨o,keep c o (I.Qz x c e) hc nch ho$ I.freeC x c e,hd⟩
 refine⟨I.ok,I.os,hg,⟨λb o e n hb hx=>?_,λb o e n hb hx=>?_,λb o e n hx=>?_,λb o e hx=>?_,λb xs e=>tups b xs$ I.base.tups b xs e,λb o xs e=>frzs b o xs$ I.base.frzs b o xs e,λb ps e=>?_⟩,?_,λx c e=>?_,?_,λx c e=>?_,λp hp=>?_,hok,I.len⟩
 .exact keep b o (neL b o e) hb (neC b o e hx) (I.base.keep b o e n hb hx) (I.base.free b o e n hx)
 .obtain⟨sl,e1⟩:=I.base.slot b o e n hb hx;obtain⟨sl',e2⟩:=slot b _ (neL b o e) hb (neC b o e hx) e1$ I.base.free b o e n hx;exact⟨sl',e2⟩
 .obtain⟨o',e1⟩:=I.base.there b o e hx;exact free b o' (neC b o e hx) e1$ I.base.free b o e n hx
 .obtain⟨o',e1⟩:=I.base.there b o e hx;exact there b o' (neC b o e hx) e1
 .obtain⟨m1,e1⟩:=I.base.tbls b ps e;obtain⟨m2,e2⟩:=tbls b _ e1;exact⟨m1++m2,by rw[e2,Array.append_assoc]⟩
 .obtain⟨m,hn,hl⟩:=I.loc;refine⟨m,ns m hn,λi x v e1 e2 e3=>?_⟩
  obtain⟨u,r,l⟩:=hl i x v e1 e2 e3;refine⟨u,r,?_⟩;rcases l with l | ⟨k,c,e,z⟩
  .exact .inl l
  .exact .inr ⟨k,c,e,cellK x c e _ z⟩
 .obtain⟨v,z⟩:=I.cell x c e;exact⟨v,cellK x c e v z⟩
 .obtain⟨m,⟨o,_,_,ho,_⟩,_⟩:=I.loc;exact free _ o (λz=>(MW _ z).2.1 rfl) ho I.free
 .obtain⟨v,o,ho,hd⟩:=I.cell x c e;exact free c o (λz=>(MW c z).2.2.1 x c e rfl) ho$ I.freeC x c e
 .obtain⟨e,n,ne,nf,d⟩:=I.pin p hp;have nch:p.1 ∉ ch:=λz=>(MW p.1 z).2.2.2 p hp rfl
  exact⟨keep p.1 p.2 ne nf nch e n,free p.1 p.2 nch e n,ne,nf,d⟩
def Inv.un{t':Nat}(I:Inv X pins σ H s)(u:Un X.fs [] H H' s.heap h')(hok:ql X.prog X.w H' h'):Inv X pins σ H' {s with heap:=h',toks:=t'}:=by
 obtain⟨m,⟨o,es,ep,ho,r⟩,_⟩:=id I.loc;obtain⟨sl,hL⟩:=u.any ho I.free (by simp)
 exact I.step (g':=s.gens) (d':=s.drawn) (ch:=[]) (λ_ z=>nomatch z) (λb o _ hb _ e n=>u.keep b o e n hb$ by simp) (λb o _ hb _ e n=>u.slot b o e n hb$ by simp) (λb o _ e n=>u.free b o e n$ by simp) (λb o _ e=>u.there b o e$ by simp) u.tups u.frzs u.tbls (λm' hm=>by
  obtain⟨o',Yj,Yn,Td,r'⟩:=hm;rw[ho] at Td;cases Td;exact⟨_,Yj,Yn,hL,r'⟩) hok I.bare
def Inv.call{g':Array GenState}{t':Nat}{d':Drawn}{ch:List Addr}(I:Inv X pins σ H s)(u:Un (Jt X.stack) ch H H' s.heap h')(hok:ql X.prog X.w H' h')(hg:AllBare g')
 (MW:∀b∈ch,(b∈X.ex\/X.s₀.heap.objs.size<=b)/\b≠X.env.locals/\(∀x c,X.env.cells.lookup x=some c->c≠b)/\∀p∈X.pn++pins,p.1≠b) :
 Inv X pins σ H' {s with heap:=h',gens:=g',drawn:=d',toks:=t'}:=by
 obtain⟨m,⟨o,es,ep,ho,r⟩,_⟩:=id I.loc;obtain⟨sl,hL⟩:=u.any ho I.free λz=>(MW _ z).2.1 rfl
 exact I.step (ch:=ch) MW (λb o hL hb hc e n=>u.keep b o e n (λz=>(QaE.mp$ I.Fe b z).elim hL hb) hc) (λb o _ _ hc e n=>u.any e n hc) (λb o hc e n=>u.free b o e n hc) (λb o hc e=>u.there b o e hc) u.tups u.frzs u.tbls (λm' hm=>by
  obtain⟨o',Yj,Yn,Td,r'⟩:=hm;rw[ho] at Td;cases Td;exact⟨_,Yj,Yn,hL,r'⟩) hok hg
def Inv.turned{t':Nat}{it:Addr}(I:Inv X pins σ H s)(k:∀b o,b≠it->s.heap.get? b=some o->h'.get? b=some o)(hn:H it=none)(hL:it≠X.env.locals)
 (h1:it∈X.ex\/X.s₀.heap.objs.size<=it) (h2:∀x c,X.env.cells.lookup x=some c->c≠it) (h3:∀p∈X.pn++pins,p.1≠it):Inv X pins σ H {s with heap:=h',toks:=t'}:=by
 have nit:∀b u,H b=some u->b≠it:=λb u e z=>by rw[z,hn] at e;cases e
 refine I.step (g':=s.gens) (d':=s.drawn) (ch:=[it]) (λb hb=>?_) (λb o _ _ hc e _=>k b o (λz=>hc$ by simp [z]) e) (λb o _ _ hc e _=>⟨o.slots,k b o (λz=>hc$ by simp [z]) e⟩) (λ_ _ _ _ n=>n)
  (λb o hc e=>⟨o,k b o (λz=>hc$ by simp [z]) e⟩) (λ_ _ e=>e) (λ_ _ _ e=>e) (λb ps e=>⟨#[],by rw[e];simp⟩) (λm hm=>?_) (λb u e=>?_) I.bare
 .have e:b=it:=by simpa using hb
  subst e;exact⟨h1,hL,h2,h3⟩
 .obtain⟨o,es,ep,ho,r⟩:=hm;exact⟨o,es,ep,k _ o (QbM hL) ho,r⟩
 .refine(I.hok b u e).Aw (λc v hc q=>k c v ?_ q) (λ_ q=>q) λ_ _ q=>q
  rcases hc with z | z
  .rw [z];exact nit b u e
  .exact nit c _ z
def Inv.tok(I:Inv X pins σ H s)(t:Nat):Inv X pins σ H {s with toks:=t}:=I.un (h':=s.heap) (t':=t) Un.refl I.hok
def Inv.kept{t':Nat}(I:Inv X pins σ H s)(k:∀b u,s.heap.get? b=some u->h'.get? b=some u):Inv X pins σ H {s with heap:=h',toks:=t'}:=I.un (Un.kept k)$ I.hok.kept k
def Inv.laid{a:Addr}{o:HO}{t':Nat}(I:Inv X pins σ H s)(k:∀b u,s.heap.get? b=some u->h'.get? b=some u)(hp:s.heap.objs.size<=a)(new:e8 X.prog X.w (upd H a o) h' a o) :
 Inv X pins σ (upd H a o) {s with heap:=h',toks:=t'}:=I.un (Un.laid k hp$ I.hok.fresh hp)$ I.hok.laid k hp new
def Inv.write{x e:Addr}{o:HO}{t':Nat}(I:Inv X pins σ H s)(mu:VE (H x))(he:e=x\/H e=some (.own x))(k:∀b u,b≠e->s.heap.get? b=some u->h'.get? b=some u)(MO:∃u,h'.get? e=some u)
 (new:e8 X.prog X.w (upd H x o) h' x o):Inv X pins σ (upd H x o) {s with heap:=h',toks:=t'}:=I.un (Un.write mu he k MO)$ I.hok.write mu he k MO new
def Inv.G8{Qp:Aaa}(I:Inv X pins σ H s)(h:∀p∈Qp,s.heap.get? p.1=some p.2/\H p.1=none/\p.1≠X.env.locals/\p.1 ∉ X.fs/\∀v,p.2.data≠ .cell v):Inv X Qp σ H s:=
 ⟨I.ok,I.os,I.bare,I.base,I.loc,I.cell,I.free,I.freeC,λp hp=>(QaU.mp hp).elim (λz=>I.pin p$ QcE _ z)$ h p,I.hok,I.len⟩
def CH{N:List Str}(hN:N.Nodup){i j:Nat}(a:N[i]? =some x)(b:N[j]? =some x):i=j:=by
 obtain⟨h1,e1⟩:=Qae.mp a;obtain⟨h2,e2⟩:=Qae.mp b;exact(List.getElem_inj hN).mp (e1.trans e2.symm)
def Ab{M:Model}{A:Around}{E:Aab}{i:Nat}{x:Str}{v:V}{u:Value}{Q:Unit->Qdg->Prop}(I:Inv X pins σ H s)(hN:X.N.Nodup)(hi:X.N[i]? =some x)(hx:Loc X.env.scope x)(r:RelV v u)
 (h:∀s',Inv X pins (σ.set i$ some v) H s'->(∃a,Heap.SameBut a s.heap s'.heap/\(a=X.env.locals\/X.env.cells.lookup x=some a))->Q () s') (hf:X.fn x=true\/X.env.scope.names.lookup x=some .local:=by first | exact .inl rfl | exact .inr rfl | assumption):wpAny M A (storeName X.env x u) Q E s:=by
 obtain⟨m,hn,hl⟩:=id I.loc;have hcls:(X.env.scope.kind== .class || (X.env.scope.kind== .module && X.env.locals !=X.env.globals))=false:=by rw[I.ok.kind];rfl
 have hiσ:i<σ.length:=by rw[I.len];exact(Qae.mp hi).1
 have Qz:=I.Qz;have tracked:∀{a:Addr} {h':Heap},(∃o,s.heap.get? a=some o/\H a=none)->Heap.SameBut a s.heap h'->ql X.prog X.w H h':=fun {a h'} ha hs b ob e=>by
  obtain⟨_,_,hfree⟩:=ha;refine(I.hok b ob e).Aw (λc w' hc q=>(hs.2 c ?_).trans q) (λ_ q=>q) λ_ _ q=>q
  rintro rfl;rcases hc with rfl | hc
  .rw [hfree] at e;cases e
  .rw [hfree] at hc;cases hc
 rcases hx with hk | hk
 .refine wpAny_storeName_local hk hn (λh' Tb hs=>?_) hcls
  obtain⟨oL,_,_,hoL,_⟩:=id hn;refine h _ ⟨I.ok,I.os,I.bare,⟨λb o e n hb hx=>?_,λb o e n hb hx=>?_,I.base.free,λb o e hx=>?_,I.base.tups,I.base.frzs,I.base.tbls⟩,⟨_,Tb,λj y v' e1 e2 e3=>?_⟩,λy c e=>?_,I.free,I.freeC,λp hp=>?_,tracked ⟨oL,hoL,I.free⟩ hs,by simpa using I.len⟩ ⟨_,hs, .inl rfl⟩
  .exact(hs.2 b$ QaR$ QaP (QaD e) I.ok.above).trans (I.base.keep b o e n hb hx)
  .obtain⟨sl,e1⟩:=I.base.slot b o e n hb hx;exact⟨sl,(hs.2 b$ QaR$ QaP (QaD e) I.ok.above).trans e1⟩
  .obtain⟨o',e1⟩:=I.base.there b o e hx;exact⟨o',(hs.2 b$ QaR$ QaP (QaD e) I.ok.above).trans e1⟩
  .by_cases hj:j=i
   .subst hj;rw[hi] at e1;cases e1;rw[Qau hiσ] at e2;cases e2;exact⟨u,r, .inl ⟨hk,by simp⟩⟩
   .rw [Qav$ QbM hj] at e2;obtain⟨u',r',q⟩:=hl j y v' e1 e2 e3;refine⟨u',r',?_⟩;rcases q with⟨k,e⟩ | ⟨k,c,e,z⟩
    .refine .inl ⟨k,?_⟩;have:y≠x:=λe=>hj (CH hN e1$ e▸hi)
     simp [this,e]
    .exact .inr ⟨k,c,e,z.sameBut hs$ Qz y c e⟩
  .obtain⟨w',z⟩:=I.cell y c e;exact⟨w',z.sameBut hs$ Qz y c e⟩
  .obtain⟨e,n,ne,nf,d⟩:=I.pin p hp;exact⟨(hs.2 p.1 ne).trans e,n,ne,nf,d⟩
 .have hfn:X.fn x=true:=by
   rcases hf with z | z
   .exact z
   .rw [z] at hk;cases hk
  obtain⟨c,hc⟩:=I.ok.has x$ .inl hk;obtain⟨w',z⟩:=I.cell x c hc;refine wpAny_storeName_cell I.ok.kind hk hc z$ λh' Jx hs=>?_
  obtain⟨oc,hoc,hocd⟩:=id z;refine h {s with heap:=h'} ⟨I.ok,I.os,I.bare,⟨λb o e n hb hx=>?_,λb o e n hb hx=>?_,I.base.free,λb o e hx=>?_,I.base.tups,I.base.frzs,I.base.tbls⟩,⟨m,hn.sameBut hs$ QbM$ Qz x c hc,λj y v' e1 e2 e3=>?_⟩,λy c' e=>?_,I.free,I.freeC,λp hp=>?_,tracked ⟨oc,hoc,I.freeC x c hc⟩ hs,by simpa using I.len⟩ ⟨c,hs, .inr hc⟩
  .exact(hs.2 b$ QaR$ QaP (QaD e)$ I.ok.cab x c hfn hc).trans (I.base.keep b o e n hb hx)
  .obtain⟨sl,e1⟩:=I.base.slot b o e n hb hx;exact⟨sl,(hs.2 b$ QaR$ QaP (QaD e)$ I.ok.cab x c hfn hc).trans e1⟩
  .obtain⟨o',e1⟩:=I.base.there b o e hx;exact⟨o',(hs.2 b$ QaR$ QaP (QaD e)$ I.ok.cab x c hfn hc).trans e1⟩
  .by_cases hj:j=i
   .subst hj;rw[hi] at e1;cases e1;rw[Qau hiσ] at e2;cases e2;exact⟨u,r, .inr ⟨.inl hk,c,hc,Jx⟩⟩
   .rw [Qav$ QbM hj] at e2;obtain⟨u',r',q⟩:=hl j y v' e1 e2 e3;refine⟨u',r',?_⟩;rcases q with q | ⟨k,c',e,z'⟩
    .exact .inl q
    .refine .inr ⟨k,c',e,z'.sameBut hs ?_⟩;rintro rfl;exact hj$ CH hN e1$ I.ok.inj _ _ _ e hc▸hi
  .by_cases hcc:c'=c
   .subst hcc;exact⟨_,Jx⟩
   .obtain⟨w2,z2⟩:=I.cell y c' e;exact⟨w2,z2.sameBut hs hcc⟩
  .obtain⟨e,n,ne,nf,d⟩:=I.pin p hp;refine⟨(hs.2 p.1 ?_).trans e,n,ne,nf,d⟩;intro q;rw[q,hoc] at e;have q':oc=p.2:=QaW e;exact d w' (by rw[<-q'];exact hocd)
def DC{M:Model}{A:Around}{E:Aab}{i:Nat}{x:Str}{v:V}{u:Value}{Q:Unit->Qdg->Prop}(I:Inv X pins σ H s)(hN:X.N.Nodup)(hi:X.N[i]? =some x)(hx:Loc X.env.scope x)(r:RelV v u)
 (h:∀s',Inv X pins (σ.set i$ some v) H s'->Q () s') (hf:X.fn x=true\/X.env.scope.names.lookup x=some .local:=by first | exact .inl rfl | exact .inr rfl | assumption):wpAny M A (storeName X.env x u) Q E s:=
 Ab I hN hi hx r (λs' I' _=>h s' I') hf
def Inv.UW{s':Qdg}{ch:List Addr}(I:Inv X pins σ H s)(ho:s'.os=s.os)(u:Un (Jt X.stack) ch H H' s.heap s'.heap)(hok:ql X.prog X.w H' s'.heap)(hg:AllBare s'.gens)
 (MW:∀b∈ch,(b∈X.ex\/X.s₀.heap.objs.size<=b)/\b≠X.env.locals/\(∀x c,X.env.cells.lookup x=some c->c≠b)/\∀p∈X.pn++pins,p.1≠b):Inv X pins σ H' s':=by
 obtain⟨h',g',d',t',o'⟩:=s';have e:o'=s.os:=ho;subst e;exact I.call (g':=g') (t':=t') (d':=d') u hok hg MW
end
abbrev XK:=Value->Option Addr->Hp->Prop
abbrev St:=List$ Option V
abbrev VK:=V->Hp->Prop
abbrev TE:=St->Hp->VK->Prop
abbrev TT:=St->Hp->(Bool->Hp->Prop)->Prop
abbrev TA:=St->Hp->(List V->Hp->Prop)->Prop
structure Ends where
 nx:St->Hp->Prop
 rt:VK
 bk:St->Hp->Prop:=fun _ _=>False
 ct:St->Hp->Prop:=fun _ _=>False
abbrev TS:=Ends->St->Hp->Prop
def EP(X:Cx)(pins:Aaa)(σ:St)(Q:VK)(u:Value)(s':Qdg):Prop:=∃v H',Inv X pins σ H' s'/\RelV v u/\Q v H'
def TP(X:Cx)(pins:Aaa)(σ:St)(Q:Bool->Hp->Prop)(b:Bool)(s':Qdg):Prop:=∃H',Inv X pins σ H' s'/\Q b H'
def AP(X:Cx)(pins:Aaa)(σ:St)(Q:List V->Hp->Prop)(us:List Value)(s':Qdg):Prop:=∃vs H',Inv X pins σ H' s'/\Vals vs us/\Q vs H'
def SP(X:Cx)(pins:Aaa)(D:Ends)(f:Flow)(s':Qdg):Prop:=
 match f with
 | .next=>∃dN H',Inv X pins dN H' s'/\D.nx dN H'
 | .brk=>∃dN H',Inv X pins dN H' s'/\D.bk dN H'
 | .cont=>∃dN H',Inv X pins dN H' s'/\D.ct dN H'
 | .ret u=>∃v dN H',Inv X pins dN H' s'/\RelV v u/\D.rt v H'
def PE(X:Cx)(e:Expr)(t:TE):Prop:=
 ∀(pins:Aaa) (s:Qdg) (σ:St) (H:Hp) (Q:VK),Inv X pins σ H s->t σ H Q->wpAny (model X.prog X.w) X.A (eval e X.env) (EP X pins σ Q) X.xe s
def PT(X:Cx)(e:Expr)(t:TT):Prop:=
 ∀(pins:Aaa) (s:Qdg) (σ:St) (H:Hp) (Q:Bool->Hp->Prop),Inv X pins σ H s->t σ H Q->wpAny (model X.prog X.w) X.A (isTrue e X.env$ eval e X.env) (TP X pins σ Q) X.xe s
def PW(X:Cx)(e:Expr)(t:TT):Prop:=
 ∀(whole:Sem Value) (pins:Aaa) (s:Qdg) (σ:St) (H:Hp) (Q:Bool->Hp->Prop),Inv X pins σ H s->t σ H Q->wpAny (model X.prog X.w) X.A (isTrue e X.env whole) (TP X pins σ Q) X.xe s
def PW.pt{X:Cx}{t:TT}(h:PW X e t):PT X e t:=h _
def PA(X:Cx)(es:List Expr)(t:TA):Prop:=
 ∀(pos:Pos) (pins:Aaa) (s:Qdg) (σ:St) (H:Hp) (Q:List V->Hp->Prop),Inv X pins σ H s->t σ H Q->wpAny (model X.prog X.w) X.A (spliced$ backTo pos$ starEach es X.env) (AP X pins σ Q) X.xe s
def PS(X:Cx)(st:Stmt)(t:TS):Prop:=
 ∀(pins:Aaa) (s:Qdg) (σ:St) (H:Hp) (D:Ends),Inv X pins σ H s->t D σ H->wpAny (model X.prog X.w) X.A (exec st X.env) (SP X pins D) X.xe s
def Cb(X:Cx)(st:List Stmt)(t:TS):Prop:=
 ∀(pins:Aaa) (s:Qdg) (σ:St) (H:Hp) (D:Ends),Inv X pins σ H s->t D σ H->wpAny (model X.prog X.w) X.A (execs st X.env) (SP X pins D) X.xe s
def d9{α:Type}{t:Sem α}{Q Q':α->Qdg->Prop}{M:Model}{E:Aab}{s:Qdg}(h:wpAny M A t Q E s)(hQ:∀a s,Q a s->Q' a s):wpAny M A t Q' E s:=Qb1 h hQ λ_ _ x=>x
section
variable {X:Cx}
def X8(i:Nat):TE:=λσ H Q=>∃v,σ[i]? =some (some v)/\Q v H
def tC(v:V):TE:=λ_ H Q=>Q v H
def q8{i:Nat}{pos:Pos}(hN:X.N[i]? =some x)(hv:Jr X.env.scope x)(hd:(x==("__debug__":Str))=false:=by decide)(tT:(x==("__classdict__":Str))=false:=by decide):PE X (.Name x pos) (X8 i):=by
 intro pins s σ H Q I h;obtain⟨v,e,h⟩:=h;obtain⟨m,hn,hl⟩:=I.loc;obtain⟨u,r,l⟩:=hl i x v hN e hv;have fin:EP X pins σ Q u s:=⟨v,H,I,r,h⟩;rcases l with⟨hk,hm⟩ | ⟨hk,c,hc,hcell⟩
 .exact wpAny_Name (wpAny_loadName_local I.ok.kind hk hn hm fin) hd
 .rcases hk with hk | hk
  .exact wpAny_Name (wpAny_loadName_cell I.ok.kind hk hc hcell fin) hd
  .exact wpAny_Name (wpAny_loadName_free I.ok.kind hk hc hcell fin tT) hd
def Rk{i j pos}:PE X (.Constant (.int i) j pos) (tC$ .int i):=λ_ _ _ H _ I h=>wpAny_Constant_int ⟨.int i,H,I.tok _,⟨_,rfl⟩,h⟩
def VN{b j pos}:PE X (.Constant (.bool b) j pos) (tC$ .bl b):=λ_ _ _ H _ I h=>Constant_bool ⟨.bl b,H,I,rfl,h⟩
def Q5{x j pos}:PE X (.Constant (.str x) j pos) (tC$ .str x):=λ_ _ _ H _ I h=>Calls.Constant_str ⟨.str x,H,I.tok _,⟨_,rfl⟩,h⟩
def Gl(X:Cx)(x:Str):Prop:=X.env.kindOf x=some .globalImplicit
def BP{E:Aab}{pins:Aaa}{s:Qdg}{σ:St}{H:Hp}{x:Str}{u:Value}{pos:Pos}{Q:Aab}(I:Inv X pins σ H s)(hg:Gl X x)(hm:X.mg x=some u)(h:Q u s)
 (hd:(x==("__debug__":Str))=false:=by decide):wpAny (model X.prog X.w) X.A (eval (.Name x pos) X.env) Q E s:=
 Calls.Name_function_global I.ok.kind hg (Calls.loadGlobal_global (by rw[I.ok.glob];exact I.mod.glob.keeps I.bk) hm h) hd
def jK{E:Aab}{pins:Aaa}{s:Qdg}{σ:St}{H:Hp}{x:Str}{u:Value}{pos:Pos}{Q:Aab}(I:Inv X pins σ H s)(hg:Gl X x)(hm:X.mg x=none)(hv:bootBuiltins x=some u)(h:Q u s)
 (hn:x≠"__name__":=by decide) (hd:(x==("__debug__":Str))=false:=by decide):wpAny (model X.prog X.w) X.A (eval (.Name x pos) X.env) Q E s:=by
 obtain⟨mb,h1,h2⟩:=I.mod.blt;exact Calls.Name_function_global I.ok.kind hg (Calls.loadGlobal_builtin (by rw[I.ok.glob];exact I.mod.glob.keeps I.bk) hm (by rw[I.ok.blt];exact h1.keeps I.bk) ((h2 x hn).trans hv) h) hd
def O9{v:V}{u:Value}{pos:Pos}(hg:Gl X x)(hm:X.mg x=some u)(r:RelV v u)(hd:(x==("__debug__":Str))=false:=by decide):PE X (.Name x pos) (tC v):=
 λ_ _ _ H _ I h=>BP I hg hm ⟨v,H,I,r,h⟩ hd
def Wt(ta tb:TE)(k:Int->Int->Hp->Prop):St->Hp->Prop:=λσ H=>ta σ H λx H1=>tb σ H1 λy H2=>∃i j,x= .int i/\y= .int j/\k i j H2
def Z5(ta tb:TE):TE:=λσ H Q=>Wt ta tb (λi j H2=>Q (.int$ i+j) H2) σ H
def aaU(ta tb:TE):TE:=λσ H Q=>Wt ta tb (λi j H2=>Q (.int$ i - j) H2) σ H
def aaf(ta tb:TE):TE:=λσ H Q=>Wt ta tb (λi j H2=>(-(2 ^ 64)<i/\i<2 ^ 64)/\Q (.int$ i*j) H2) σ H
variable {a b:Expr}{ta tb:TE}{pos:Pos}
def PC(X:Cx)(op:CmpOp)(a b:Expr)(t:TE):Prop:=
 ∀(pins:Aaa) (s:Qdg) (σ:St) (H:Hp) (Q:VK),Inv X pins σ H s->t σ H Q->
  wpAny (model X.prog X.w) X.A (eval a X.env) (λv s₁=>wpAny (model X.prog X.w) X.A (eval b X.env) (λu Ee=>wpAny (model X.prog X.w) X.A (compareOp op v u) (EP X pins σ Q) X.xe Ee) X.xe s₁) X.xe s
def Hs(p:Int->Int->Bool)(ta tb:TE):TE:=λσ H Q=>Wt ta tb (λi j H2=>Q (.bl$ p i j) H2) σ H
abbrev tLt:TE->TE->TE:=Hs fun i j=>decide$ i<j
abbrev tLe:TE->TE->TE:=Hs fun i j=>decide$ i<=j
abbrev tGt:TE->TE->TE:=Hs fun i j=>decide$ j<i
abbrev tGe:TE->TE->TE:=Hs fun i j=>decide$ j<=i
abbrev aaY:TE->TE->TE:=Hs fun i j=>decide$ i=j
abbrev aa0:TE->TE->TE:=Hs fun i j=>!decide (i=j)
def aad(ta:TE):TE:=λσ H Q=>ta σ H λx H1=>Q (.bl$ decide$ x= .cY) H1
def Y2(ta:TE):TE:=λσ H Q=>ta σ H λx H1=>Q (.bl$ !decide (x= .cY)) H1
def tB(t:TE):TT:=λσ H Q=>t σ H λx H1=>∃c,x= .bl c/\Q c H1
variable {tA WM:TT}{rest:List Expr}
def X9(t u:TT):TT:=λσ H Q=>t σ H λc H1=>if c=true then u σ H1 Q else Q false H1
def tOr(t u:TT):TT:=λσ H Q=>t σ H λc H1=>if c=true then Q true H1 else u σ H1 Q
def XR(t:TT):TT:=λσ H Q=>t σ H λc H1=>Q (!c) H1
def Gy(ha:PT X a tA):PW X (.BoolOp .And [a] pos) tA:=by
 intro wh pins s σ H Q I h;refine isTrue_and$ d9 (ha pins s σ H Q I h) λc s1 e=>?_
 cases c with
 | true=>exact isTrue_and_nil e
 | false=>exact e
def Qy(ha:PT X a tA):PW X (.BoolOp .Or [a] pos) tA:=by
 intro wh pins s σ H Q I h;refine isTrue_or$ d9 (ha pins s σ H Q I h) λc s1 e=>?_
 cases c with
 | false=>exact isTrue_or_nil e
 | true=>exact e
def J7(ha:PT X a tA)(hb:PW X (.BoolOp .And (b ::rest) pos) WM):PW X (.BoolOp .And (a ::b ::rest) pos) (X9 tA WM):=by
 intro wh pins s σ H Q I h;refine isTrue_and$ d9 (ha pins s σ H _ I h) λc s1 ⟨H1,I1,q1⟩=>?_
 cases c with
 | true=>exact hb wh pins s1 σ H1 Q I1 q1
 | false=>exact⟨H1,I1,q1⟩
def U6(ha:PT X a tA)(hb:PW X (.BoolOp .Or (b ::rest) pos) WM):PW X (.BoolOp .Or (a ::b ::rest) pos) (tOr tA WM):=by
 intro wh pins s σ H Q I h;refine isTrue_or$ d9 (ha pins s σ H _ I h) λc s1 ⟨H1,I1,q1⟩=>?_
 cases c with
 | true=>exact⟨H1,I1,q1⟩
 | false=>exact hb wh pins s1 σ H1 Q I1 q1
def Rq(ha:PT X a tA):PT X (.UnaryOp .Not a pos) (XR tA):=by
 intro pins s σ H Q I h;exact isTrue_not$ ha pins s σ H (λc H1=>Q (!c) H1) I h
def TX(ta tb:TE):TE:=λσ H Q=>ta σ H λx H1=>∃c,x= .bl c/\if c=true then tb σ H1 Q else Q (.bl false) H1
def XH(ta tb:TE):TE:=λσ H Q=>ta σ H λx H1=>∃c,x= .bl c/\if c=true then Q (.bl true) H1 else tb σ H1 Q
def Y3(ta:TE):TE:=λσ H Q=>ta σ H λx H1=>∃c,x= .bl c/\Q (.bl$ !c) H1
def RU{op}{t:TE}(h:PE X a t):PE X (.BoolOp op [a] pos) t:=λpins s σ H Q I hw=>BoolOp_one$ h pins s σ H Q I hw
def RL(ha:PE X a ta)(hb:PE X (.BoolOp .And (b ::rest) pos) tb):PE X (.BoolOp .And (a ::b ::rest) pos) (TX ta tb):=by
 intro pins s σ H Q I h;refine BoolOp_and$ d9 (ha pins s σ H _ I h) λv s1 ⟨x,H1,I1,r1,q1⟩=>?_
 obtain⟨c,rfl,q1⟩:=q1;cases r1;refine Qb5 ?_;cases c with
 | true=>exact hb pins s1 σ H1 Q I1 q1
 | false=>exact⟨.bl false,H1,I1,rfl,q1⟩
def Uz(ha:PE X a ta)(hb:PE X (.BoolOp .Or (b ::rest) pos) tb):PE X (.BoolOp .Or (a ::b ::rest) pos) (XH ta tb):=by
 intro pins s σ H Q I h;refine BoolOp_or$ d9 (ha pins s σ H _ I h) λv s1 ⟨x,H1,I1,r1,q1⟩=>?_
 obtain⟨c,rfl,q1⟩:=q1;cases r1;refine Qb5 ?_;cases c with
 | false=>exact hb pins s1 σ H1 Q I1 q1
 | true=>exact⟨.bl true,H1,I1,rfl,q1⟩
def tIf(t:TT)(ta tb:TE):TE:=λσ H Q=>t σ H λc H1=>if c=true then ta σ H1 Q else tb σ H1 Q
def Kr(hc:PT X c tA)(ha:PE X a ta)(hb:PE X b tb):PE X (.IfExp c a b pos) (tIf tA ta tb):=by
 intro pins s σ H Q I h;refine wpAny_IfExp$ d9 (hc pins s σ H _ I h) λd s1 ⟨H1,I1,q1⟩=>?_
 cases d with
 | true=>exact ha pins s1 σ H1 Q I1 q1
 | false=>exact hb pins s1 σ H1 Q I1 q1
end
def qT(K:Qdf)(H:Hp)(a:Addr)(xs:List V):Prop:=
 Rd H a (.lst xs)\/
  ∃(o:Obj) (its:Array Value) (n:Nat),K.lookup a=some o/\o.cls= .type "list"/\o.dict=none/\o.data= .seq its n/\its.size<=sizeLine/\Vals xs its.toList
def u9(K:Qdf)(H:Hp)(a:Addr)(xs:List V):Prop:=
 Rd H a (.tup xs)\/
  ∃(o:Obj) (its:Array Value) (n:Nat),K.lookup a=some o/\o.cls= .type "tuple"/\o.data= .seq its n/\its.size<=sizeLine/\Vals xs its.toList
noncomputable def Xv:Value->Option V
 | .none=>some .cY
 | .bool b=>some$ .bl b
 | .int i _=>some$ .int i
 | .str x _=>some$ .str x
 | .bytes b _=>some$ .byt b
 | .float b _=>some$ .flt b
 | .ref a=>some$ .ref a
 | .type n=>some$ .ty n
 | _=>none
def RelV.abs{x:V}{u:Value}(r:RelV x u):Xv u=some x:=by
 cases x with
 | cY=>cases r;rfl
 | bl _=>cases r;rfl
 | int _=>obtain⟨t,rfl⟩:=r;rfl
 | str _=>obtain⟨t,rfl⟩:=r;rfl
 | byt _=>obtain⟨t,rfl⟩:=r;rfl
 | flt _=>obtain⟨t,rfl⟩:=r;rfl
 | ref _=>cases r;rfl
 | ty _=>cases r;rfl
def RelV.inj{x y:V}{u:Value}(r:RelV x u)(q:RelV y u):x=y:=QaW$ r.abs.symm.trans q.abs
theorem Vals.inj:∀{xs ys:List V} {us:List Value},Vals xs us->Vals ys us->xs=ys
 | _,_,_, .nil, .nil=>rfl
 | _,_,_, .cons r t, .cons r' t'=>by rw[r.inj r',Vals.inj t t']
section
variable {X:Cx}{pins:Aaa}{σ:St}{H:Hp}{s:Qdg}{a:Addr}{xs ys:List V}
def qT.of{K:Qdf}(h:H a=some (.lst xs)):qT K H a xs:= .inl$ .inl h
def Inv.list(I:Inv X pins σ H s)(h:qT X.K H a xs):∃its:List Value,Vals xs its/\PlainL s.heap a its.toArray/\xs.length<=sizeLine:=by
 rcases h with h | ⟨o,its,n,hk,hc,hd,hs,hz,r⟩
 .obtain⟨z,its,n,r,e⟩:=h.ok I.hok;exact⟨its,r,⟨_,n,e,rfl,rfl,rfl⟩,z⟩
 .refine⟨its.toList,r,⟨o,n,I.GO a o hk,hc,hd,by simpa using hs⟩,?_⟩
  have e:=r.length;simp only[QbW] at e;omega
def Inv.tuple(I:Inv X pins σ H s)(h:u9 X.K H a xs):∃its:List Value,Vals xs its/\IsTup s.heap a its.toArray/\xs.length<=sizeLine:=by
 rcases h with h | ⟨o,its,n,hk,hc,hs,hz,r⟩
 .obtain⟨z,its,r,p⟩:=h.ok I.hok;exact⟨its,r,p,z⟩
 .refine⟨its.toList,r,⟨o,I.GO a o hk,hc,n,by simpa using hs⟩,?_⟩
  have e:=r.length;simp only[QbW] at e;omega
def Inv.sC(I:Inv X pins σ H s)(h:qT X.K H a xs)(h':qT X.K H a ys):xs=ys:=by
 obtain⟨its,r,⟨o,n,e,_,_,d⟩,_⟩:=I.list h;obtain⟨its',r',⟨o',n',e',_,_,d'⟩,_⟩:=I.list h';rw[e] at e';cases e';rw[d] at d';injection d' with d1 _
 have:its=its':=by simpa using Qbh Array.toList d1
 subst this;exact r.inj r'
def Inv.uw(I:Inv X pins σ H s)(h:u9 X.K H a xs)(h':u9 X.K H a ys):xs=ys:=by
 obtain⟨its,r,⟨o,e,_,n,d⟩,_⟩:=I.tuple h;obtain⟨its',r',⟨o',e',_,n',d'⟩,_⟩:=I.tuple h';rw[e] at e';cases e';rw[d] at d';injection d' with d1 _
 have:its=its':=by simpa using Qbh Array.toList d1
 subst this;exact r.inj r'
end
noncomputable abbrev Cx.yQ(X:Cx)(E:Aab):Cx:={X with xe:=E}
abbrev Cx.KA(X:Cx):Cx:=X.yQ fun _ _=>False
def Cx.Ok.yQ{X:Cx}(ok:X.Ok)(E:Aab):(X.yQ E).Ok:=
 ⟨ok.mod,ok.kind,ok.glob,ok.blt,ok.above,ok.inj,ok.has,ok.cab,ok.hd,ok.frames,ok.stk,ok.exf,ok.bs,ok.bsz,ok.noex,ok.exfs,ok.vM,ok.frf⟩
def Cx.Ok.pq{X:Cx}{E:Aab}(ok:(X.yQ E).Ok):X.Ok:=
 ⟨ok.mod,ok.kind,ok.glob,ok.blt,ok.above,ok.inj,ok.has,ok.cab,ok.hd,ok.frames,ok.stk,ok.exf,ok.bs,ok.bsz,ok.noex,ok.exfs,ok.vM,ok.frf⟩
section
variable {X:Cx}{pins:Aaa}{σ:St}{H:Hp}{s:Qdg}{E:Aab}
def Inv.yQ(I:Inv X pins σ H s)(E:Aab):Inv (X.yQ E) pins σ H s:=⟨I.ok.yQ E,I.os,I.bare,I.base,I.loc,I.cell,I.free,I.freeC,I.pin,I.hok,I.len⟩
def Inv.pq(I:Inv (X.yQ E) pins σ H s):Inv X pins σ H s:=⟨I.ok.pq,I.os,I.bare,I.base,I.loc,I.cell,I.free,I.freeC,I.pin,I.hok,I.len⟩
def SP.pq{D:Ends}{f:Flow}{s':Qdg}(h:SP (X.yQ E) pins D f s'):SP X pins D f s':=by
 cases f with
 | next=>obtain⟨dN,H',I,q⟩:=h;exact⟨dN,H',I.pq,q⟩
 | brk=>obtain⟨dN,H',I,q⟩:=h;exact⟨dN,H',I.pq,q⟩
 | cont=>obtain⟨dN,H',I,q⟩:=h;exact⟨dN,H',I.pq,q⟩
 | ret u=>obtain⟨v,dN,H',I,r,q⟩:=h;exact⟨v,dN,H',I.pq,r,q⟩
def Cb.KA{st:List Stmt}{t:TS}(h:Cb X.KA st t):Cb X st t:=λpins s σ H D I hw=>
 Qb1 (h pins s σ H D (I.yQ _) hw) (λ_ _ q=>q.pq) λ_ _ z=>False.elim z
end
section
variable {X:Cx}{st:Stmt}{rest:List Stmt}{t u:TS}{e:Expr}{te:TE}{pos:Pos}
def VH:TS:=λD σ H=>D.nx σ H
def T7(t u:TS):TS:=λD σ H=>t {D with nx:=u D} σ H
def Hh:Cb X [] VH:=λ_ _ σ H _ I h=>wpAny_execs_nil ⟨σ,H,I,h⟩
def D5(h1:PS X st t)(h2:Cb X rest u):Cb X (st ::rest) (T7 t u):=by
 intro pins s σ H D I h;refine wpAny_execs_cons$ d9 (h1 pins s σ H {D with nx:=u D} I h) λf s1 q=>?_
 cases f with
 | next=>
   obtain⟨dN,H',I',q⟩:=q;exact h2 pins s1 dN H' D I' q
 | ret v=>exact q
 | brk=>exact q
 | cont=>exact q
def F6(h1:PS X st t):Cb X [st] t:=by
 intro pins s σ H D I h;refine wpAny_execs_cons$ d9 (h1 pins s σ H D I h) λf s1 q=>?_
 cases f with
 | next=>exact wpAny_execs_nil q
 | ret v=>exact q
 | brk=>exact q
 | cont=>exact q
def Xw:TS:=λD σ H=>D.bk σ H
def Zo:TS:=λD σ H=>D.ct σ H
def Inv.quiet{pins:Aaa}{s:Qdg}(I:Inv X pins σ H s):interactive X.env=false:=by simp [interactive,I.ok.kind]
def VI(te:TE):TS:=λD σ H=>te σ H λ_ H1=>D.nx σ H1
def tK(he:PE X e te)(hs:swapsWith e none pos.line X.env=pure false:=by rfl):PS X (.Expr e pos) (VI te):=by
 intro pins s σ H D I h;exact wpAny_Expr_any (d9 (he pins s σ H _ I h) λv s1 ⟨x,H1,I1,r1,q1⟩=>⟨σ,H1,I1,q1⟩) I.quiet hs
def WW(te:TE):TS:=λD σ H=>te σ H D.rt
def Mg(he:PE X e te):PS X (.Return (some e) pos) (WW te):=by
 intro pins s σ H D I h;exact wpAny_Return_some$ d9 (he pins s σ H _ I h) λv s1 ⟨x,H1,I1,r1,q1⟩=>⟨x,σ,H1,I1,r1,q1⟩
def YX:TS:=λD _ H=>D.rt .cY H
def XT(c:TT)(t u:TS):TS:=λD σ H=>c σ H λb H1=>if b=true then t D σ H1 else u D σ H1
def Qk{tc:TT}(hc:PT X c tc)(ha:Cb X a t)(hb:Cb X b u):PS X (.If c a b pos) (XT tc t u):=by
 intro pins s σ H D I h;refine wpAny_If$ d9 (hc pins s σ H _ I h) λd s1 ⟨H1,I1,q1⟩=>?_
 cases d with
 | true=>exact ha pins s1 σ H1 D I1 q1
 | false=>exact hb pins s1 σ H1 D I1 q1
def W2:TS:=λ_ _ _=>False
end
abbrev TG:=V->St->Hp->(St->Hp->Prop)->Prop
abbrev JY:=List V->St->Hp->(St->Hp->Prop)->Prop
def PG(X:Cx)(target:Expr)(t:TG):Prop:=
 ∀(pins:Aaa) (s:Qdg) (σ:St) (H:Hp) (v:V) (u:Value) (Q:St->Hp->Prop),Inv X pins σ H s->RelV v u->t v σ H Q->
  wpAny (model X.prog X.w) X.A (assign target X.env u) (λ_ s'=>∃dN H',Inv X pins dN H' s'/\Q dN H') X.xe s
def OV(X:Cx)(ts:List Expr)(t:JY):Prop:=
 ∀(pins:Aaa) (s:Qdg) (σ:St) (H:Hp) (vs:List V) (us:List Value) (Q:St->Hp->Prop),Inv X pins σ H s->Vals vs us->t vs σ H Q->
  wpAny (model X.prog X.w) X.A (assignInOrder ((assignEach ts X.env).map (·.2)) us) (λ_ s'=>∃dN H',Inv X pins dN H' s'/\Q dN H') X.xe s
abbrev Nx:=V->V->V->Hp->(Hp->Prop)->Prop
def UM(X:Cx)(t:Nx):Prop:=
 ∀(pins:Aaa) (s:Qdg) (σ:St) (H:Hp) (o i v:V) (ov iv u:Value) (Q:Hp->Prop),Inv X pins σ H s->RelV o ov->RelV i iv->RelV v u->t o i v H Q->
  wpAny (model X.prog X.w) X.A (setItem ov iv u) (λ_ s'=>∃H',Inv X pins σ H' s'/\Q H') X.xe s
abbrev Wv:=V->V->Hp->VK->Prop
def PIp(X:Cx)(op:Operator)(t:Wv):Prop:=
 ∀(pins:Aaa) (s:Qdg) (σ:St) (H:Hp) (x y:V) (v u:Value) (Q:VK),Inv X pins σ H s->RelV x v->RelV y u->t x y H Q->
  wpAny (model X.prog X.w) X.A (inplaceOp op v u) (EP X pins σ Q) X.xe s
section
variable {X:Cx}{pos:Pos}
def xD(i:Nat):TG:=λv σ H Q=>Q (σ.set i$ some v) H
def GA{i:Nat}(hN:X.N.Nodup)(hi:X.N[i]? =some x)(hx:Loc X.env.scope x)(hf:X.fn x=true\/X.env.scope.names.lookup x=some .local:=by first | exact .inl rfl | exact .inr rfl | assumption):PG X (.Name x pos) (xD i):=by
 intro pins s σ H v u Q I r h;exact wpAny_assign_Name$ DC I hN hi hx r (λs' I'=>⟨_,H,I',h⟩) hf
def WZ:JY:=λvs σ H Q=>vs=[]/\Q σ H
def UQ(t:TG)(u:JY):JY:=λvs σ H Q=>∃v r,vs=v ::r/\t v σ H λdN H'=>u r dN H' Q
def G1:OV X [] WZ:=by
 intro pins s σ H vs us Q I r h;obtain⟨e,h⟩:=h;subst e;cases r;exact assignInOrder_nil ⟨σ,H,I,h⟩
def D6{e:Expr}{es:List Expr}{t:TG}{u:JY}(h1:PG X e t)(h2:OV X es u)
 (hs:(assignEach (e ::es) X.env).map (·.2)=assign e X.env ::(assignEach es X.env).map (·.2):=by rfl):OV X (e ::es) (UQ t u):=by
 intro pins s σ H vs us Q I r h;obtain⟨v,vr,e1,h⟩:=h;subst e1;cases r with
 | cons r rr=>
   rw[hs];refine assignInOrder_cons$ d9 (h1 pins s σ H _ _ _ I r h) λ_ s1 ⟨We,H1,I1,q1⟩=>?_
   exact h2 pins s1 We H1 _ _ Q I1 rr q1
def Xq(K:Qdf)(n:Nat)(t:JY):TG:=λv σ H Q=>∃a xs,v= .ref a/\u9 K H a xs/\xs.length=n/\t xs σ H Q
def Lv{es:List Expr}{k:Nat}{t:JY}{n:Nat}(hc:X.calm=true)(h:OV X es t)
 (hn:(assignEach es X.env).length=n:=by rfl) (Jl:(assignEach es X.env).findIdx? (·.1)=none:=by rfl):PG X (.Tuple es k pos) (Xq X.K n t):=by
 intro pins s σ H v u Q I r hw;obtain⟨a,xs,e1,hq,hl,hw⟩:=hw;subst e1;cases r;obtain⟨its,rv,ht,hz⟩:=I.tuple hq;refine assign_Tuple_tuple (I.ok.hd hc) ht (by simp [hn,<-hl,rv.length]) Jl λh' hx=>?_
 have I1:Inv X pins σ H {s with heap:=h'}:=I.kept (t':=s.toks) λb o e=>hx b o (QaR$ QaD e) e
 exact h pins _ σ H xs _ Q I1 (by simpa using rv) hw
def Vx(to ti:TE)(t:Nx):TG:=λv σ H Q=>to σ H λo H1=>ti σ H1 λi H2=>t o i v H2 λH3=>Q σ H3
def Kt{o i:Expr}{to ti:TE}{t:Nx}(ho:PE X o to)(hi:PE X i ti)(hs:UM X t)
 (ha:∀v,assign (.Subscript o i pos) X.env v=(do
   let ov <-holding [v] (eval o X.env)
   let iv <-holding [v,ov] (eval i X.env)
   standAt pos
   holding [v,ov,iv] (setItem ov iv v)
   release [v,ov,iv] []):=by intro _;rfl):PG X (.Subscript o i pos) (Vx to ti t):=by
 intro pins s σ H v u Q I r h;rw[ha];refine Qaf$ Qcc$ d9 (ho pins s σ H _ I h) λov s1 ⟨x,H1,I1,r1,q1⟩=>?_
 refine Qaf$ Qcc$ d9 (hi pins s1 σ H1 _ I1 q1) λiv s2 ⟨y,H2,I2,r2,q2⟩=>?_
 refine Qaf$ wpAny_standAt$ Qaf$ Qcc$ d9 (hs pins s2 σ H2 x y v ov iv u _ I2 r1 r2 r q2) λ_ s3 ⟨H3,I3,q3⟩=>?_
 exact wpAny_release ⟨σ,H3,I3,q3⟩
def Ir(te:TE)(g:TG):TS:=λD σ H=>te σ H λx H1=>g x σ H1 D.nx
def Lh{tg e:Expr}{te:TE}{g:TG}(he:PE X e te)(hg:PG X tg g)(hs:swapsWithSole [tg] e pos.line X.env=pure false:=by rfl)(hw:swappedStores [tg] e X.env=pure none:=by rfl)
 (h1:(assignEach [tg] X.env).map (·.2)=[assign tg X.env]:=by rfl):PS X (.Assign [tg] e pos) (Ir te g):=by
 intro pins s σ H D I h;refine wpAny_Assign_stores (d9 (he pins s σ H _ I h) λv s1 ⟨x,H1,I1,r1,q1⟩=>?_) hs hw
 rw[h1];exact d9 (hg pins s1 σ H1 x v _ I1 r1 q1) λ_ s2 q=>q
def FI{i:Nat}{te:TE}(hN:X.N.Nodup)(hi:X.N[i]? =some x)(hx:Loc X.env.scope x)(he:PE X e te)(hs:swapsWith e (some$ .Name x pos') pos.line X.env=pure false:=by rfl)(hf:X.fn x=true\/X.env.scope.names.lookup x=some .local:=by first | exact .inl rfl | exact .inr rfl | assumption) :
 PS X (.Assign [.Name x pos'] e pos) (Ir te$ xD i):=by
 intro pins s σ H D I h;refine wpAny_Assign_Name (d9 (he pins s σ H _ I h) λv s1 ⟨y,H1,I1,r1,q1⟩=>?_) hs
 exact DC I1 hN hi hx r1 (λs2 I2=>⟨_,H1,I2,q1⟩) hf
def Z4(i j:Nat)(ta:TA):TS:=λD σ H=>ta σ H λvs H1=>∃v w,vs=[v,w]/\D.nx ((σ.set i$ some v).set j$ some w) H1
def Z_(i:Nat)(te:TE)(ti:Wv):TS:=λD σ H=>∃x,σ[i]? =some (some x)/\te σ H λy H1=>ti x y H1 λz H2=>D.nx (σ.set i$ some z) H2
def Zt(to ti te:TE)(Yh:V->V->Hp->VK->Prop)(tip:Wv)(YS:Nx):TS:=λD σ H=>to σ H λo H1=>ti σ H1 λi H2=>Yh o i H2 λx H3=>te σ H3 λy H4=>tip x y H4 λz H5=>YS o i z H5 λH6=>D.nx σ H6
def aaJ(X:Cx)(t:V->V->Hp->VK->Prop):Prop:=
 ∀(pins:Aaa) (s:Qdg) (σ:St) (H:Hp) (o i:V) (ov iv:Value) (Q:VK),Inv X pins σ H s->RelV o ov->RelV i iv->t o i H Q->
  wpAny (model X.prog X.w) X.A (getItem ov iv) (EP X pins σ Q) X.xe s
def ipI(f:Int->Int->Int):Wv:=λx y H Q=>∃i j,x= .int i/\y= .int j/\Q (.int$ f i j) H
end
section
def Xh(c:TT)(tb:TS):TS:=λD σ H=>∃W:Nat->St->Hp->Prop,(∃m,W m σ H)/\∀m σ H,W m σ H->
 c σ H λb H1=>if b=true then ∃N:St->Hp->Prop,(∀dN H',N dN H'->∃m',m'<m/\W m' dN H')/\tb {D with nx:=N,ct:=N,bk:=D.nx} σ H1 else D.nx σ H1
end
structure It where
 go:Nat->Hp->Prop
 yld:Nat->Hp->V->Hp->Prop
 stop:Nat->Hp->Prop
def vT(X:Cx)(pins:Aaa)(H:Hp)(b:Addr):Prop:=
 H b=none/\b≠X.env.locals/\b ∉ X.fs/\(b∈X.ex\/X.s₀.heap.objs.size<=b)/\(∀x c,X.env.cells.lookup x=some c->c≠b)/\∀p∈X.pn++pins,p.1≠b
def Inv.A1{X:Cx}{pins:Aaa}{H H':Hp}{s:Qdg}{b:Addr}(I:Inv X pins σ H s)(hb:s.heap.objs.size<=b)(hn:H' b=none):vT X pins H' b:=by
 refine⟨hn,Qcm$ QaP I.lt hb,I.WX hb, .inr$ QaT I.sz hb,λx c e z=>?_,λp hp z=>?_⟩
 .obtain⟨v,q⟩:=I.cell x c e;exact absurd (QaP q.lt$ by rw[z];exact hb)$ QbK _
 .exact absurd (QaP (QaD (I.pin p hp).1)$ by rw[z];exact hb) (QbK _)
structure Turn (P:Program) (w:World) (K:Qdf) (tg:Expr) (J:It) (fp:List Addr) (it:Addr) (tn:Nat->Heap->Prop):Prop where
 mem:it∈fp
 obj:∀i h,tn i h->∀b∈fp,∃o,h.get? b=some o/\∀v,o.data≠ .cell v
 keep:∀i h h',tn i h->(∀b∈fp,∀o,h.get? b=some o->h'.get? b=some o)->tn i h'
 item:∀(X:Cx),X.prog=P->X.w=w->X.K=K->X.calm=true->∀(i:Nat) (pins:Aaa) (s:Qdg) (σ:St) (H:Hp) (E:Aab),Inv X pins σ H s->(∀b∈fp,vT X pins H b)->tn i s.heap->J.go i H->
  wpAny (model P w) X.A (pyNext (.ref it)) (fun r s1=>∃u,r=some u/\
   wpAny (model P w) X.A (letOwnedTupleGo tg (.ref it) u) (fun _ s2=>∃x H',Inv X pins σ H' s2/\RelV x u/\J.yld i H x H'/\tn (i+1) s2.heap/\∀b∈fp,H' b=none) E s1) E s
 done:∀(X:Cx),X.prog=P->X.w=w->X.K=K->X.calm=true->∀(i:Nat) (pins:Aaa) (s:Qdg) (σ:St) (H:Hp) (E:Aab),Inv X pins σ H s->(∀b∈fp,vT X pins H b)->tn i s.heap->J.stop i H->
  wpAny (model P w) X.A (pyNext (.ref it)) (fun r s1=>r=none/\Inv X pins σ H s1) E s
 self:∀(A:Around) (i:Nat) (s:Qdg) (Q:Aab) (E:Aab),tn i s.heap->Q (.ref it) s->wpAny (model P w) A (pyIter (.ref it)) Q E s
abbrev TI:=St->Hp->(It->Hp->Prop)->Prop
def Za(X:Cx)(pins:Aaa)(σ:St)(tg:Expr)(R:It->Hp->Prop)(WI:Value)(s2:Qdg):Prop:=
 ∃(it:Addr) (fp:List Addr) (tn:Nat->Heap->Prop) (J:It) (H':Hp),WI= .ref it/\Inv X pins σ H' s2/\Turn X.prog X.w X.K tg J fp it tn/\tn 0 s2.heap/\(∀b∈fp,vT X pins H' b)/\R J H'
def PI(X:Cx)(tg iter:Expr)(wi:TI):Prop:=
 ∀(pins:Aaa) (s:Qdg) (σ:St) (H:Hp) (R:It->Hp->Prop),Inv X pins σ H s->wi σ H R->
  wpAny (model X.prog X.w) X.A (eval iter X.env) (λv s1=>wpAny (model X.prog X.w) X.A (pyIter v) (Za X pins σ tg R) X.xe s1) X.xe s
def Gk{M:Model}{A:Around}{E:Aab}{s:Qdg}{tg:Expr}{it:Addr}{u:Value}{o:Obj}{n:String}{vs:Array Value}{Q:Unit->Qdg->Prop}(ho:s.heap.get? it=some o)(hc:o.cls= .type n)(hd:o.data= .fields vs)
 (hn:["enumerate","zip","dict_itemiterator","dict_reverseitemiterator","odict_iterator","itertools.zip_longest","itertools.pairwise"].contains n=false) (hQ:Q () s):wpAny M A (letOwnedTupleGo tg (.ref it) u) Q E s:=by
 unfold letOwnedTupleGo;cases tg <;> first
  | exact QaG hQ
  | (cases u <;> first
      | exact QaG hQ
      | (refine Qaf (wpAny_load ho ?_)
         rw[hc,hd];show wpAny M A (if(["enumerate","zip","dict_itemiterator","dict_reverseitemiterator","odict_iterator","itertools.zip_longest","itertools.pairwise"].contains n && vs[0]? ==some (rawInt _))=true then _ else _) Q E s
         rw[QaH$ by intro h;rw [hn,Bool.false_and] at h;cases h]
         exact QaG hQ))
noncomputable def Zq(K:Qdf)(a:Addr):It:=
 ⟨λi H=>∃xs x,qT K H a xs/\xs[i]? =some x,λi H x H'=>H'=H/\∀xs,qT K H a xs->xs[i]? =some x,λi H=>∃xs,qT K H a xs/\xs.length<=i⟩
noncomputable def Y4(K:Qdf)(a:Addr):It:=
 ⟨λi H=>∃xs x,u9 K H a xs/\xs[i]? =some x,λi H x H'=>H'=H/\∀xs,u9 K H a xs->xs[i]? =some x,λi H=>∃xs,u9 K H a xs/\xs.length<=i⟩
noncomputable def UD(lo:Int)(n:Nat):It:=⟨λi _=>i<n,λi H x H'=>H'=H/\x= .int (lo+i),λi _=>n<=i⟩
def qj{K:Qdf}(a it:Addr):Turn P w K tg (Zq K a) [it] it (λi h=>h.IsListIter it a i) where
 mem:=by simp
 obj:=λi h st b hb=>by
  have e:b=it:=by simpa using hb
  subst e;obtain⟨o,e,c,d⟩:=st;exact⟨o,e,λv z=>by rw[d] at z;cases z⟩
 keep:=λi h h' st k=>st.at λo e=>k it (by simp) o e
 item:=by
  intro X hP hw hK hc i pins s σ H E I hf st hg;subst hP hw hK;obtain⟨xs,x,hq,hx⟩:=hg;obtain⟨its,rv,p,hz⟩:=I.list hq;obtain⟨u,hu,ru⟩:=rv.get hx;obtain⟨f0,f1,f2,f3,f4,f5⟩:=hf it (by simp)
  refine wpAny_pyNext_list_item st p.isList (x:=u) (by simpa using hu) λh' Ej sb=>?_
  have I1:Inv X pins σ H {s with heap:=h'}:=I.turned (t':=s.toks) (λb o hb e=>(sb.2 b hb).trans e) f0 f1 f3 f4 f5
  obtain⟨o,e,c,d⟩:=id Ej;exact⟨u,rfl,Gk (s:={s with heap:=h'}) e c d (by decide) ⟨x,H,I1,ru,⟨rfl,λys hy=>by rw[I.sC hy hq];exact hx⟩,Ej,λb hb=>(hf b hb).1⟩⟩
 done:=by
  intro X hP hw hK hc i pins s σ H E I hf st hg;subst hP hw hK;obtain⟨xs,hq,hx⟩:=hg;obtain⟨its,rv,p,hz⟩:=I.list hq;obtain⟨f0,f1,f2,f3,f4,f5⟩:=hf it (by simp)
  have hl:=rv.length;exact wpAny_pyNext_list_end (I.ok.hd hc) st p.isList (by simp;omega) λh' eb=>⟨rfl,I.turned (t':=s.toks) (λb o hb e=>eb b o hb e) f0 f1 f3 f4 f5⟩
 self:=λ_ _ _ _ _ st h=>wpAny_pyIter_listiter st h
def FH{K:Qdf}(a it:Addr):Turn P w K tg (Y4 K a) [it] it (λi h=>h.IsTupleIter it a i) where
 mem:=by simp
 obj:=λi h st b hb=>by
  have e:b=it:=by simpa using hb
  subst e;obtain⟨o,e,c,d⟩:=st;exact⟨o,e,λv z=>by rw[d] at z;cases z⟩
 keep:=λi h h' st k=>st.at λo e=>k it (by simp) o e
 item:=by
  intro X hP hw hK hc i pins s σ H E I hf st hg;subst hP hw hK;obtain⟨xs,x,hq,hx⟩:=hg;obtain⟨its,rv,p,hz⟩:=I.tuple hq;obtain⟨u,hu,ru⟩:=rv.get hx;obtain⟨f0,f1,f2,f3,f4,f5⟩:=hf it (by simp)
  refine wpAny_pyNext_tuple_item st (show s.heap.IsTuple a its.toArray from p) (x:=u) (by simpa using hu) λh' Ej sb=>?_
  have I1:Inv X pins σ H {s with heap:=h'}:=I.turned (t':=s.toks) (λb o hb e=>(sb.2 b hb).trans e) f0 f1 f3 f4 f5
  obtain⟨o,e,c,d⟩:=id Ej;exact⟨u,rfl,Gk (s:={s with heap:=h'}) e c d (by decide) ⟨x,H,I1,ru,⟨rfl,λys hy=>by rw[I.uw hy hq];exact hx⟩,Ej,λb hb=>(hf b hb).1⟩⟩
 done:=by
  intro X hP hw hK hc i pins s σ H E I hf st hg;subst hP hw hK;obtain⟨xs,hq,hx⟩:=hg;obtain⟨its,rv,p,hz⟩:=I.tuple hq;obtain⟨f0,f1,f2,f3,f4,f5⟩:=hf it (by simp)
  have hl:=rv.length;exact wpAny_pyNext_tuple_end (I.ok.hd hc) st (show s.heap.IsTuple a its.toArray from p) (by simp;omega) λh' eb=>⟨rfl,I.turned (t':=s.toks) (λb o hb e=>eb b o hb e) f0 f1 f3 f4 f5⟩
 self:=λ_ _ _ _ _ st h=>wpAny_pyIter_tupleiter st h
def FR{K:Qdf}(it:Addr)(lo:Int)(n:Nat):Turn P w K tg (UD lo n) [it] it (λi h=>IsRangeIter h it (lo+(i:Nat)*1) ((n:Int) - (i:Nat)) 1) where
 mem:=by simp
 obj:=λi h st b hb=>by
  have e:b=it:=by simpa using hb
  subst e;exact⟨_,st,λv z=>by
   have z':Data.fields _=Data.cell v:=z;cases z'⟩
 keep:=λi h h' st k=>k it (by simp) _ st
 item:=by
  intro X hP hw hK hc i pins s σ H E I hf st hg;subst hP hw hK;obtain⟨f0,f1,f2,f3,f4,f5⟩:=hf it (by simp)
  have W:=Walks.range (prog:=X.prog) (w:=X.w) (I.ok.hd hc) it lo 1 n;refine W.item i s _ _ hg st λv h' tk hv Ej kk=>?_
  obtain⟨t,rfl⟩:=hv;have I1:Inv X pins σ H {s with heap:=h',toks:=tk}:=I.turned (λb o hb e=>kk b o (by simpa using hb) e) f0 f1 f3 f4 f5
  refine⟨_,rfl,Gk (s:={s with heap:=h',toks:=tk}) (n:="range_iterator") Ej rfl rfl (by decide) ⟨.int$ lo+i,H,I1,⟨t,?_⟩,⟨rfl,rfl⟩,Ej,λb hb=>(hf b hb).1⟩⟩
  rw[Int.mul_one]
 done:=by
  intro X hP hw hK hc i pins s σ H E I hf st hg;subst hP hw hK;obtain⟨f0,f1,f2,f3,f4,f5⟩:=hf it (by simp)
  exact wpAny_pyNext_range_end (I.ok.hd hc) st (by have:n<=i:=hg;omega) λh' eb=>⟨rfl,I.turned (t':=s.toks) (λb o hb e=>eb b o hb e) f0 f1 f3 f4 f5⟩
 self:=λ_ _ _ _ _ st h=>wpAny_pyIter_rangeiter st h
section
variable {X:Cx}{tg:Expr}
def Ze(K:Qdf)(tl:TE):TI:=λσ H R=>tl σ H λx H1=>∃a,x= .ref a/\(∃xs,qT K H1 a xs)/\R (Zq K a) H1
def XW(K:Qdf)(tl:TE):TI:=λσ H R=>tl σ H λx H1=>∃a,x= .ref a/\(∃xs,u9 K H1 a xs)/\R (Y4 K a) H1
def DH{pins:Aaa}{σ:St}{H:Hp}{s:Qdg}{R:It->Hp->Prop}{E:Aab}{lo hi:Int}{t u v:Tok}{tk:Nat}(I:Inv X pins σ H s)(h1: -(2 ^ 62)<=lo)(h2:lo<2 ^ 62)(h3: -(2 ^ 62)<=hi)(h4:hi<2 ^ 62)
 (q:R (UD lo (hi - lo).toNat) H):wpAny (model X.prog X.w) X.A (pyIter$ .ref s.heap.objs.size) (Za X pins σ tg R) E {s with heap:=s.heap.push {cls:= .type "range",data:= .fields #[.int lo t, .int hi u, .int 1 v]},toks:=tk}:=by
 refine wpAny_pyIter_range (IsRange.new ..) (small_one h1 h2 h3 h4) ?_;have I1:Inv X pins σ H {s with heap:=s.heap.push {cls:= .type "range",data:= .fields #[.int lo t, .int hi u, .int 1 v]},toks:=tk}:=I.kept λb o e=>Qah _ e
 refine⟨(s.heap.push {cls:= .type "range",data:= .fields #[.int lo t, .int hi u, .int 1 v]}).objs.size,[(s.heap.push {cls:= .type "range",data:= .fields #[.int lo t, .int hi u, .int 1 v]}).objs.size],_,_,H,rfl,
  I1.kept (t':=tk) λb o e=>Qah _ e,FR _ lo (hi - lo).toNat,?_,λb hb=>?_,q⟩
 .have e1:lo+((0:Nat):Int)*1=lo:=by simp
  have e2:(((hi - lo).toNat:Nat):Int) - ((0:Nat):Int)=Builtin.Range.rangeSize lo hi 1:=by rw[rangeSize_one];split <;> omega
  show IsRangeIter _ _ (lo+((0:Nat):Int)*1) ((((hi - lo).toNat:Nat):Int) - ((0:Nat):Int)) 1;rw[e1,e2];exact QaN _ rfl
 .have e:b=(s.heap.push {cls:= .type "range",data:= .fields #[.int lo t, .int hi u, .int 1 v]}).objs.size:=by simpa using hb
  subst e;exact I1.A1 (Qak _)$ I1.hok.fresh$ Qak _
def Dx(ta:TA):TI:=λσ H R=>ta σ H λvs H1=>∃j:Int,vs=[.int j]/\ -(2 ^ 62)<=j/\j<2 ^ 62/\R (UD 0 j.toNat) H1
def Uc(ta:TA):TI:=λσ H R=>ta σ H λvs H1=>∃i j:Int,vs=[.int i, .int j]/\(-(2 ^ 62)<=i/\i<2 ^ 62/\ -(2 ^ 62)<=j/\j<2 ^ 62)/\R (UD i (j - i).toNat) H1
def zP{ta:TA}{p pos:Pos}(hg:Gl X "range")(hm:X.mg "range"=none)(ha:PA X [a] ta)(hs:starEach [a] X.env=[(false,eval a X.env)]:=by rfl):PI X tg (.Call (.Name "range" p) [a] [] pos) (Dx ta):=by
 intro pins s σ H R I h;refine Call_$ jK I hg hm boot_range$ QaX (d9 (ha pos pins s σ H _ I h) λus s1 ⟨vs,H1,I1,r1,q1⟩=>?_) hs rfl
 obtain⟨j,e,q1,q2,q⟩:=q1;subst e;cases r1 with
 | cons r rr=>
   cases rr;obtain⟨t,rfl⟩:=r;exact call_range_1 (DH I1 (by omega) (by omega) q1 q2$ by simpa using q)
def HZ{ta:TA}{p pos:Pos}(hg:Gl X "range")(hm:X.mg "range"=none)(ha:PA X [a,b] ta)(hs:starEach [a,b] X.env=[(false,eval a X.env),(false,eval b X.env)]:=by rfl)(hs2:starEach [b] X.env=[(false,eval b X.env)]:=by rfl) :
 PI X tg (.Call (.Name "range" p) [a,b] [] pos) (Uc ta):=by
 intro pins s σ H R I h;refine Call_ (jK I hg hm boot_range$ QaX (d9 (ha pos pins s σ H _ I h) λus s1 ⟨vs,H1,I1,r1,q1⟩=>?_) (by rw[hs,hs2]) (by rw[hs2];rfl))
 obtain⟨i,j,e,⟨q1,q2,q3,q4⟩,q⟩:=q1;subst e;cases r1 with
 | cons r rr=>
   cases rr with
   | cons r' rr=>
     cases rr;obtain⟨t,rfl⟩:=r;obtain⟨t',rfl⟩:=r';exact call_range_2$ DH I1 q1 q2 q3 q4 q
def XN(wi:TI)(g:TG)(tb:TS):TS:=λD σ H=>wi σ H λJ H1=>∃W:Nat->Nat->St->Hp->Prop,(∃m,W 0 m σ H1)/\∀i m σ H,W i m σ H->
 (J.stop i H/\D.nx σ H)\/(J.go i H/\∃N:St->Hp->Prop,(∀dN H',N dN H'->∃m',m'<m/\W (i+1) m' dN H')/\∀x H',J.yld i H x H'->g x σ H' λB0 H2=>tb {D with nx:=N,ct:=N,bk:=D.nx} B0 H2)
noncomputable def qZ(fp:List Addr)(h:Heap):Aaa:=fp.filterMap λb=>(h.get? b).map λo=>(b,o)
def nq{fp:List Addr}{h:Heap}{b:Addr}{o:Obj}(hb:b∈fp)(e:h.get? b=some o):(b,o)∈qZ fp h:=List.mem_filterMap.mpr ⟨b,hb,by rw[e];rfl⟩
def I0{fp:List Addr}{h:Heap}{p:Addr × Obj}(hp:p∈qZ fp h):p.1∈fp/\h.get? p.1=some p.2:=by
 obtain⟨b,hb,e⟩:=List.mem_filterMap.mp hp;cases q:h.get? b with
 | none=>rw [q] at e;cases e
 | some o=>
   rw[q] at e;have e':(b,o)=p:=QaW e;subst e';exact⟨hb,q⟩
def Inv.pinned{pins:Aaa}{s:Qdg}{fp:List Addr}(I:Inv X pins σ H s)(hf:∀b∈fp,vT X pins H b)(ho:∀b∈fp,∃o,s.heap.get? b=some o/\∀v,o.data≠ .cell v):Inv X (pins++qZ fp s.heap) σ H s:=
 I.G8 λp hp=>(QaU.mp hp).elim (λz=>I.pin p$ Qa9 _ z) λz=>by
  obtain⟨hb,e⟩:=I0 z;obtain⟨f0,f1,f2,_⟩:=hf p.1 hb;obtain⟨o,e',d⟩:=ho p.1 hb;rw[e] at e';cases e';exact⟨e,f0,f1,f2,d⟩
def Inv.sL{pins pl:Aaa}{s:Qdg}(I:Inv X (pins++pl) σ H s):Inv X pins σ H s:=I.G8 λp hp=>I.pin p$ Qa9 _$ QcE _ hp
def L4{iter:Expr}{body:List Stmt}{wi:TI}{g:TG}{tb:TS}{pos:Pos}(hp:PassesOwn (model X.prog X.w) X.A X.env X.xe)(hc:X.calm=true)(hi:PI X tg iter wi)(hg:PG X tg g)(hb:Cb X body tb)
 (hs:∀x,foldedSetIterable iter X.env x=pure x:=by intro _;rfl):PS X (.For tg iter body [] pos) (XN wi g tb):=by
 intro pins s σ H D I h;refine wpAny_For (d9 (hi pins s σ H _ I h) λv s1 h1=>d9 h1 λWI s2 h2=>?_) hs
 obtain⟨it,fp,tn,J,H2,e,I2,T,MQ,f2,W,⟨m0,w0⟩,turn⟩:=h2;subst e;have stat:∀{H':Hp},(∀b∈fp,H' b=none)->∀b∈fp,vT X pins H' b:=λhn b hb=>⟨hn b hb,(f2 b hb).2⟩
 refine codeAny_forLoop_any (λn s'=>∃i dN H',Inv X pins dN H' s'/\tn i s'.heap/\(∀b∈fp,H' b=none)/\W i n dN H') ?_ m0 ⟨0,σ,H2,I2,MQ,λb hb=>(f2 b hb).1,w0⟩
 rintro n s3 ⟨i,Ph,H3,I3,Pj,V8,w3⟩;rcases turn i n Ph H3 w3 with⟨stop,qn⟩ | ⟨go,N,hN,step⟩
 .refine Qcj hp (d9 (T.done X rfl rfl rfl hc i pins s3 Ph H3 X.xe I3 (stat V8) Pj stop) λr s4 ⟨hr,I4⟩=>?_)
  subst hr;exact wpAny_execs_nil ⟨Ph,H3,I4,qn⟩
 .refine Qcj hp (d9 (T.item X rfl rfl rfl hc i pins s3 Ph H3 X.xe I3 (stat V8) Pj go) λr s4 ⟨u,hr,h4⟩=>?_)
  subst hr;refine Qcj hp$ d9 h4 λ_ s5 ⟨x,H5,I5,r5,y5,Tf,YA⟩=>?_
  have I5':=I5.pinned (stat YA)$ T.obj _ _ Tf;refine Qcj hp$ d9 (hg _ s5 Ph H5 x u _ I5' r5$ step x H5 y5) λ_ s6 ⟨V0,H6,I6,q6⟩=>?_
  refine Qcj hp$ d9 (hb _ s6 V0 H6 _ I6 q6) λf s7 q7=>?_
  have again:∀{Eb:St} {H7:Hp},Inv X (pins++qZ fp s5.heap) Eb H7 s7->N Eb H7->∃m,m<n/\∃i dN H',Inv X pins dN H' s7/\tn i s7.heap/\(∀b∈fp,H' b=none)/\W i m dN H':=fun {Eb H7} I7 n7=>by
   obtain⟨m',hm,w7⟩:=hN Eb H7 n7;refine⟨m',hm,i+1,Eb,H7,I7.sL,T.keep _ _ _ Tf λb hb o e=>(I7.pin (b,o)$ Qa9 _$ Qa9 _$ nq hb e).1,λb hb=>?_,w7⟩
   obtain⟨o,e,d⟩:=T.obj _ _ Tf b hb;exact(I7.pin (b,o)$ Qa9 _$ Qa9 _$ nq hb e).2.1
  cases f with
  | next=>obtain⟨Eb,H7,I7,n7⟩:=q7;exact again I7 n7
  | cont=>obtain⟨Eb,H7,I7,n7⟩:=q7;exact again I7 n7
  | brk=>obtain⟨Eb,H7,I7,q7⟩:=q7;exact⟨Eb,H7,I7.sL,q7⟩
  | ret v=>obtain⟨x7,Eb,H7,I7,r7,q7⟩:=q7;exact⟨x7,Eb,H7,I7.sL,r7,q7⟩
end
abbrev R2:=V->V->Hp->VK->Prop
def oC(X:Cx)(f:Value->Value->Sem Value)(r:R2):Prop:=
 ∀(pins:Aaa) (s:Qdg) (σ:St) (H:Hp) (x y:V) (v u:Value) (Q:VK),Inv X pins σ H s->RelV x v->RelV y u->r x y H Q->
  wpAny (model X.prog X.w) X.A (f v u) (EP X pins σ Q) X.xe s
def UnR(X:Cx)(f:Value->Sem Value)(r:V->Hp->VK->Prop):Prop:=
 ∀(pins:Aaa) (s:Qdg) (σ:St) (H:Hp) (x:V) (v:Value) (Q:VK),Inv X pins σ H s->RelV x v->r x H Q->
  wpAny (model X.prog X.w) X.A (f v) (EP X pins σ Q) X.xe s
def oq(X:Cx)(f:Value)(r:List V->Hp->VK->Prop):Prop:=
 ∀(pins:Aaa) (s:Qdg) (σ:St) (H:Hp) (xs:List V) (us:List Value) (Q:VK),Inv X pins σ H s->Vals xs us->r xs H Q->
  wpAny (model X.prog X.w) X.A (call f us) (EP X pins σ Q) X.xe s
def X0(X:Cx)(r:V->Hp->(Bool->Hp->Prop)->Prop):Prop:=
 ∀(pins:Aaa) (s:Qdg) (σ:St) (H:Hp) (x:V) (v:Value) (Q:Bool->Hp->Prop),Inv X pins σ H s->RelV x v->r x H Q->
  wpAny (model X.prog X.w) X.A (truthy v) (TP X pins σ Q) X.xe s
def Tw(r:R2)(ta tb:TE):TE:=λσ H Q=>ta σ H λx H1=>tb σ H1 λy H2=>r x y H2 Q
def tUn(r:V->Hp->VK->Prop)(ta:TE):TE:=λσ H Q=>ta σ H λx H1=>r x H1 Q
def rI(C:Int->Int->Prop)(g:Int->Int->V):R2:=λx y H Q=>∃i j,x= .int i/\y= .int j/\C i j/\Q (g i j) H
def Ju(g:Int->Int->V):R2:=λx y H Q=>∃i j,x= .int i/\y= .int j/\Q (g i j) H
def rU(g:Int->V):V->Hp->VK->Prop:=λx H Q=>∃i,x= .int i/\Q (g i) H
section
variable {X:Cx}{a b:Expr}{ta tb:TE}{pos:Pos}
def Rj(ha:PE X a ta)(hb:PE X b tb){pins:Aaa}{s:Qdg}{σ:St}{H:Hp}{R:V->V->Hp->Prop}(I:Inv X pins σ H s)
 (h:ta σ H λx H1=>tb σ H1 λy H2=>R x y H2) {Q:Aab} {f:Value->Value->Sem Value}
 (hf:∀v u s2 x y H2,Inv X pins σ H2 s2->RelV x v->RelV y u->R x y H2->wpAny (model X.prog X.w) X.A (f v u) Q X.xe s2) :
 wpAny (model X.prog X.w) X.A (eval a X.env) (λv s₁=>wpAny (model X.prog X.w) X.A (eval b X.env) (λu Ee=>wpAny (model X.prog X.w) X.A (f v u) Q X.xe Ee) X.xe s₁) X.xe s:=by
 refine d9 (ha pins s σ H _ I h) λv s1 ⟨x,H1,I1,r1,q1⟩=>?_
 refine d9 (hb pins s1 σ H1 _ I1 q1) λu s2 ⟨y,H2,I2,r2,q2⟩=>?_
 exact hf v u s2 x y H2 I2 r1 r2 q2
def L6{op:Operator}{r:R2}(ho:oC X (binaryOp op) r)(ha:PE X a ta)(hb:PE X b tb):PE X (.BinOp a op b pos) (Tw r ta tb):=by
 intro pins s σ H Q I h;exact wpAny_BinOp$ Rj ha hb I h λv u s2 x y H2 I2 rx ry q=>ho pins s2 σ H2 x y v u Q I2 rx ry q
def Tv{f:Value->Value->Sem Value}{C:Int->Int->Prop}{g:Int->Int->Int}
 (rule:∀(i j:Int) (t u:Tok) (s:Qdg) (Q:Aab) (E:Aab),C i j->Q (.int (g i j) s.toks) {s with toks:=s.toks+1}->wpAny (model X.prog X.w) X.A (f (.int i t)$ .int j u) Q E s) :
 oC X f (rI C λi j=> .int$ g i j):=by
 intro pins s σ H x y v u Q I rx ry h;obtain⟨i,j,rfl,rfl,hc,q⟩:=h;obtain⟨t,rfl⟩:=rx;obtain⟨t',rfl⟩:=ry;exact rule i j t t' s _ _ hc ⟨.int$ g i j,H,I.tok _,⟨_,rfl⟩,q⟩
def JA{f:Value->Value->Sem Value}{g:Int->Int->Int}
 (rule:∀(i j:Int) (t u:Tok) (s:Qdg) (Q:Aab) (E:Aab),Q (.int (g i j) s.toks) {s with toks:=s.toks+1}->wpAny (model X.prog X.w) X.A (f (.int i t)$ .int j u) Q E s) :
 oC X f (Ju λi j=> .int$ g i j):=by
 intro pins s σ H x y v u Q I rx ry h;obtain⟨i,j,rfl,rfl,q⟩:=h;obtain⟨t,rfl⟩:=rx;obtain⟨t',rfl⟩:=ry;exact rule i j t t' s _ _ ⟨.int$ g i j,H,I.tok _,⟨_,rfl⟩,q⟩
def Sf{f:Value->Value->Sem Value}{g:Int->Int->Bool}
 (rule:∀(i j:Int) (t u:Tok) (s:Qdg) (Q:Aab) (E:Aab),Q (.bool$ g i j) s->wpAny (model X.prog X.w) X.A (f (.int i t)$ .int j u) Q E s) :
 oC X f (Ju λi j=> .bl$ g i j):=by
 intro pins s σ H x y v u Q I rx ry h;obtain⟨i,j,rfl,rfl,q⟩:=h;obtain⟨t,rfl⟩:=rx;obtain⟨t',rfl⟩:=ry;exact rule i j t t' s _ _ ⟨.bl$ g i j,H,I,rfl,q⟩
def Xj(i j:Int):Prop:=0<j/\j<1073741824
def Zw(i j:Int):Prop:=j≠0/\j.natAbs<1073741824
def Uy(i j:Int):Prop:=0<=j/\j<=1000000/\i.natAbs<2 ^ 64
def SR(i j:Int):Prop:=(-(2 ^ 64)<i/\i<2 ^ 64)\/(-(2 ^ 64)<j/\j<2 ^ 64)
def SR.ok{i j:Int}(h:SR i j):IntMulOk i j:=by
 rcases h with⟨h1,h2⟩ | ⟨h1,h2⟩
 .exact .of_left (intBits_le_64 h1 h2)
 .exact .of_right (intBits_le_64 h1 h2)
def Fb(k:Nat):(0:Int)<=2 ^ k:=by
 rw[two_pow_cast];exact Int.natCast_nonneg _
def Qw:oC X (binaryOp .Add) (Ju λi j=> .int$ i+j):=JA λ_ _ _ _ _ _ _ q=>add_int q
def Q4:oC X (binaryOp .Sub) (Ju λi j=> .int$ i - j):=JA λ_ _ _ _ _ _ _ q=>sub_int q
def Rg:oC X (binaryOp .Mult) (rI SR λi j=> .int$ i*j):=Tv λ_ _ _ _ _ _ _ hc q=>mul_int q hc.ok
def Pa:oC X (binaryOp .FloorDiv) (rI Xj λi j=> .int$ i / j):=Tv λi j _ _ _ _ _ hc q=>by
 have h1:(0:Int)<j:=hc.1;have h2:j<1073741824:=hc.2;exact floordiv_int (by omega) (by rw[Qc0 i$ by omega];exact q) (.inl$ PyProof.noPylong_small$ by omega)
def RZ:oC X (binaryOp .Mod) (rI (λ_ j=>0<j) λi j=> .int$ i % j):=Tv λi j _ _ _ _ _ hc q=>by
 have h1:(0:Int)<j:=hc;exact mod_int' (by omega) (by rw[Int.fmod_eq_emod_of_nonneg i$ by omega];exact q)
def Q7:oC X (binaryOp .Pow) (rI Uy λi j=> .int$ i ^ j.toNat):=Tv λ_ _ _ _ _ _ _ hc q=>pow_int_small hc.1 hc.2.1 hc.2.2 q
def Rh:oC X (binaryOp .LShift) (rI Uy λi j=> .int$ i*2 ^ j.toNat):=Tv λ_ _ _ _ _ _ _ hc q=>lshift_int_small hc.1 hc.2.1 hc.2.2 q
def Ro:oC X (binaryOp .RShift) (rI (λ_ j=>0<=j) λi j=> .int$ i / 2 ^ j.toNat):=Tv λi j _ _ _ _ _ hc q=>
 rshift_int hc (by rw[Qc0 i$ Fb _];exact q)
def SX:oC X (binaryOp .BitAnd) (Ju λi j=> .int$ Builtin.bitAnd i j):=JA λ_ _ _ _ _ _ _ q=>and_int q
def TY:oC X (binaryOp .BitOr) (Ju λi j=> .int$ Builtin.bitOr i j):=JA λ_ _ _ _ _ _ _ q=>or_int q
def RY:oC X (binaryOp .BitXor) (Ju λi j=> .int$ Builtin.bitXor i j):=JA λ_ _ _ _ _ _ _ q=>xor_int q
end
noncomputable def Uk:V->V->Bool
 | .cY, .cY=>true | .cY, .int _=>true | .int _, .cY=>true | .cY, .bl _=>true | .bl _, .cY=>true | .cY, .str _=>true | .str _, .cY=>true
 | .int _, .int _=>true | .bl _, .bl _=>true | .str _, .str _=>true | .byt _, .byt _=>true
 | .int _, .str _=>true | .str _, .int _=>true | .bl _, .str _=>true | .str _, .bl _=>true
 | _,_=>false
def Z8:R2:=λx y H Q=>Uk x y=true/\Q (.bl$ decide$ x=y) H
def rNe:R2:=λx y H Q=>Uk x y=true/\Q (.bl$ !decide (x=y)) H
def Gh{i j:Int}:decide (V.int i=V.int j)=(i==j):=by
 rw[Qbi];simp
def LA{i j:Bool}:decide (V.bl i=V.bl j)=(i==j):=by
 rw[Qbi];simp
def Gf:decide (V.str i=V.str j)=(i==j):=by
 rw[Qbi];simp
def GN{i j:Array UInt8}:decide (V.byt i=V.byt j)=(i.toList==j.toList):=by
 rw[Qbi];cases i;cases j;simp
section
variable {X:Cx}{a b c:Expr}{ta tb tc:TE}{pos:Pos}
def cy{pins:Aaa}{s:Qdg}{Q:VK}{k k':Bool}(I:Inv X pins σ H s)(q:Q (.bl k) H)(e:k=k'):EP X pins σ Q (.bool k') s:=by
 subst e;exact⟨.bl k,H,I,rfl,q⟩
def Mj:oC X (compareOp .Eq) Z8:=by
 intro pins s σ H x y v u Q I rx ry h;obtain⟨hs,q⟩:=h;cases x with
 | cY=>
   cases rx;cases y with
   | cY=>cases ry;exact PySem.EqNone.eq_none_none (cy I q$ by simp)
   | bl j=>cases ry;exact PySem.EqNone.eq_none_bool (cy I q$ by simp)
   | int j=>obtain⟨t',rfl⟩:=ry;exact PySem.EqNone.eq_none_int (cy I q$ by simp)
   | str j=>obtain⟨t',rfl⟩:=ry;exact PySem.EqNone.eq_none_str (cy I q$ by simp)
   | _=>exact absurd (show false=true from hs) QaJ
 | bl i=>
   cases rx;cases y with
   | cY=>cases ry;exact PySem.EqNone.eq_bool_none (cy I q$ by simp)
   | bl j=>cases ry;exact eq_bool$ cy I q LA
   | str j=>obtain⟨t',rfl⟩:=ry;exact PySem.EqMixed.eq_bool_str (cy I q$ by simp)
   | _=>exact absurd (show false=true from hs) QaJ
 | int i=>
   obtain⟨t,rfl⟩:=rx;cases y with
   | cY=>cases ry;exact PySem.EqNone.eq_int_none (cy I q$ by simp)
   | int j=>obtain⟨t',rfl⟩:=ry;exact eq_int$ cy I q Gh
   | str j=>obtain⟨t',rfl⟩:=ry;exact PySem.EqMixed.eq_int_str (cy I q$ by simp)
   | _=>exact absurd (show false=true from hs) QaJ
 | str i=>
   obtain⟨t,rfl⟩:=rx;cases y with
   | cY=>cases ry;exact PySem.EqNone.eq_str_none (cy I q$ by simp)
   | bl j=>cases ry;exact PySem.EqMixed.eq_str_bool (cy I q$ by simp)
   | int j=>obtain⟨t',rfl⟩:=ry;exact PySem.EqMixed.eq_str_int (cy I q$ by simp)
   | str j=>obtain⟨t',rfl⟩:=ry;exact eq_str$ cy I q Gf
   | _=>exact absurd (show false=true from hs) QaJ
 | byt i=>
   obtain⟨t,rfl⟩:=rx;cases y with
   | byt j=>obtain⟨t',rfl⟩:=ry;exact PySem.W.eq_bytes$ cy I q GN
   | _=>exact absurd (show false=true from hs) QaJ
 | _=>cases y <;> exact absurd (show false=true from hs) QaJ
def LX:oC X (compareOp .NotEq) rNe:=by
 intro pins s σ H x y v u Q I rx ry h;obtain⟨hs,q⟩:=h;cases x with
 | cY=>
   cases rx;cases y with
   | cY=>cases ry;exact PySem.EqNone.ne_none_none (cy I q$ by simp)
   | bl j=>cases ry;exact PySem.EqNone.ne_none_bool (cy I q$ by simp)
   | int j=>obtain⟨t',rfl⟩:=ry;exact PySem.EqNone.ne_none_int (cy I q$ by simp)
   | str j=>obtain⟨t',rfl⟩:=ry;exact PySem.EqNone.ne_none_str (cy I q$ by simp)
   | _=>exact absurd (show false=true from hs) QaJ
 | bl i=>
   cases rx;cases y with
   | cY=>cases ry;exact PySem.EqNone.ne_bool_none (cy I q$ by simp)
   | bl j=>cases ry;exact ne_bool$ cy I q$ Qbh not LA
   | str j=>obtain⟨t',rfl⟩:=ry;exact PySem.EqMixed.ne_bool_str (cy I q$ by simp)
   | _=>exact absurd (show false=true from hs) QaJ
 | int i=>
   obtain⟨t,rfl⟩:=rx;cases y with
   | cY=>cases ry;exact PySem.EqNone.ne_int_none (cy I q$ by simp)
   | int j=>obtain⟨t',rfl⟩:=ry;exact ne_int$ cy I q$ Qbh not Gh
   | str j=>obtain⟨t',rfl⟩:=ry;exact PySem.EqMixed.ne_int_str (cy I q$ by simp)
   | _=>exact absurd (show false=true from hs) QaJ
 | str i=>
   obtain⟨t,rfl⟩:=rx;cases y with
   | cY=>cases ry;exact PySem.EqNone.ne_str_none (cy I q$ by simp)
   | bl j=>cases ry;exact PySem.EqMixed.ne_str_bool (cy I q$ by simp)
   | int j=>obtain⟨t',rfl⟩:=ry;exact PySem.EqMixed.ne_str_int (cy I q$ by simp)
   | str j=>obtain⟨t',rfl⟩:=ry;exact ne_str$ cy I q$ Qbh not Gf
   | _=>exact absurd (show false=true from hs) QaJ
 | byt i=>
   obtain⟨t,rfl⟩:=rx;cases y with
   | byt j=>obtain⟨t',rfl⟩:=ry;exact PySem.W.ne_bytes$ cy I q$ Qbh not GN
   | _=>exact absurd (show false=true from hs) QaJ
 | _=>cases y <;> exact absurd (show false=true from hs) QaJ
def VA:oC X (compareOp .Lt) (Ju λi j=> .bl$ decide$ i<j):=Sf λ_ _ _ _ _ _ _ q=>lt_int q
def Um:oC X (compareOp .Gt) (Ju λi j=> .bl$ decide$ j<i):=Sf λ_ _ _ _ _ _ _ q=>gt_int q
def VO:oC X (compareOp .GtE) (Ju λi j=> .bl$ decide$ j<=i):=Sf λ_ _ _ _ _ _ _ q=>ge_int q
def H0:oC X (compareOp .In) (λx y H Q=>∃i j,x= .str i/\y= .str j/\Q (.bl$ !(Builtin.Str.occurrences j i 0 j.length 1).isEmpty) H):=by
 intro pins s σ H x y v u Q I rx ry h;obtain⟨i,j,rfl,rfl,q⟩:=h;obtain⟨t,rfl⟩:=rx;obtain⟨t',rfl⟩:=ry;exact in_str$ cy I q rfl
def By:oC X (compareOp .NotIn) (λx y H Q=>∃i j,x= .str i/\y= .str j/\Q (.bl$ !(!(Builtin.Str.occurrences j i 0 j.length 1).isEmpty)) H):=by
 intro pins s σ H x y v u Q I rx ry h;obtain⟨i,j,rfl,rfl,q⟩:=h;obtain⟨t,rfl⟩:=rx;obtain⟨t',rfl⟩:=ry;exact notIn_str$ cy I q rfl
noncomputable def isObj:HO->Bool
 | .lst _=>true
 | .ins _ _ _=>true
 | _=>false
def xS(b:Expr){op:CmpOp}(h:op≠ .In:=by decide)(h2:op≠ .NotIn:=by decide):behindInMarks op b=false:=by
 have e1:(op==CmpOp.In)=false:=by cases op <;> first | rfl | exact absurd rfl h
 have e2:(op==CmpOp.NotIn)=false:=by cases op <;> first | rfl | exact absurd rfl h2
 cases b <;> simp [behindInMarks,e1,e2]
def N5{op:CmpOp}{r:R2}(ho:oC X (compareOp op) r)(ha:PE X a ta)(hb:PE X b tb)(hm:behindInMarks op b=false):PE X (.Compare a [op] [b] pos) (Tw r ta tb):=by
 intro pins s σ H Q I h;exact wpAny_Compare1 (Rj ha hb I h λv u s2 x y H2 I2 rx ry q=>ho pins s2 σ H2 x y v u Q I2 rx ry q) hm
def Ub(t:TE):TT:=λσ H Q=>t σ H λx H'=>∃k,x= .bl k/\Q k H'
def Gx{op:CmpOp}{r:R2}(ho:oC X (compareOp op) r)(ha:PE X a ta)(hb:PE X b tb)(hm:behindInMarks op b=false):PT X (.Compare a [op] [b] pos) (Ub$ Tw r ta tb):=by
 intro pins s σ H Q I h;refine wpAny_isTrue_Compare1 (d9 (ha pins s σ H _ I h) λv s1 ⟨x,H1,I1,r1,q1⟩=>d9 (hb pins s1 σ H1 _ I1 q1) λu s2 ⟨y,H2,I2,r2,q2⟩=>
  d9 (ho pins s2 σ H2 x y v u _ I2 r1 r2 q2) λc s3 ⟨z,H3,I3,r3,k,e,q3⟩=>?_) hm
 subst e;cases r3;exact Qb5 ⟨H3,I3,q3⟩
def XG(r r':R2)(ta tb tc:TE):TE:=λσ H Q=>ta σ H λx H1=>tb σ H1 λy H2=>r x y H2 λz H3=>∃k,z= .bl k/\
 (if k=true then tc σ H3 λw' H4=>r' y w' H4 Q else Q (.bl false) H3)
def Pf(K:Qdf)(x:V)(H:Hp)(k:Bool):Prop:=
 match x with
 | .cY=>k=false
 | .bl b=>k=b
 | .int i=>k=(i !=0)
 | .str y=>y.length<=sizeLine/\k=((y.length:Int) !=0)
 | .byt y=>y.size<=sizeLine/\k=((y.size:Int) !=0)
 | .ref p=>(∃xs,qT K H p xs/\k=!xs.isEmpty)\/(∃xs,u9 K H p xs/\k=!xs.isEmpty)\/∃kvs,H p=some (.dK kvs)/\k=!kvs.isEmpty
 | _=>False
def EY{κ:Type}{kvs:List (κ × V)}{vs:List (κ × Value)}(r:KV kvs vs):(!vs.isEmpty)=!kvs.isEmpty:=by
 cases r <;> rfl
def wk{xs:List V}{its:List Value}(r:Vals xs its):(!its.toArray.isEmpty)=!xs.isEmpty:=by
 cases r <;> simp
def ur:(sizeLine:Nat)<2 ^ 63:=by rw[Qas];decide
def Si:X0 X (λx H Q=>∃k,Pf X.K x H k/\Q k H):=by
 intro pins s σ H x v Q I rx h;obtain⟨k,e,q⟩:=h;have hl:=ur;have hs:sizeLine=16777216:=Qas;cases x with
 | cY=>
   cases rx;have e':k=false:=e;subst e';exact truthy_none ⟨H,I,q⟩
 | bl b=>
   cases rx;have e':k=b:=e;subst e';exact Qb5 ⟨H,I,q⟩
 | int i=>
   obtain⟨t,rfl⟩:=rx;have e':k=(i !=0):=e;subst e';exact PySem.P.truthy_int ⟨H,I,q⟩
 | str y=>
   obtain⟨t,rfl⟩:=rx;obtain⟨hy,e'⟩:y.length<=sizeLine/\k=((y.length:Int) !=0):=e;subst e';exact PySem.P.truthy_str (by omega) ⟨H,I.tok _,q⟩
 | byt y=>
   obtain⟨t,rfl⟩:=rx;obtain⟨hy,e'⟩:y.size<=sizeLine/\k=((y.size:Int) !=0):=e;subst e';exact PySem.W.truthy_bytes (by omega) ⟨H,I.tok _,q⟩
 | ref p=>
   cases rx;have e':(∃xs,qT X.K H p xs/\k=!xs.isEmpty)\/(∃xs,u9 X.K H p xs/\k=!xs.isEmpty)\/∃kvs,H p=some (.dK kvs)/\k=!kvs.isEmpty:=e;rcases e' with⟨xs,hx,e'⟩ | ⟨xs,hx,e'⟩ | ⟨kvs,hx,e'⟩
   .subst e';obtain⟨its,r,pl,hz⟩:=I.list hx;have hlen:=r.length;exact wpAny_truthy_list pl.isList (by simp only[Qay];omega) ⟨H,I.tok _,by rw[wk r];exact q⟩
   .subst e';obtain⟨its,r,pl,hz⟩:=I.tuple hx;have hlen:=r.length;exact truthy_tuple pl (by simp only[Qay];omega) ⟨H,I.tok _,by rw[wk r];exact q⟩
   .subst e';obtain⟨hz,hS,vs,r,m⟩:kvs.length<=sizeLine/\(p==sysModules)=false/\∃vs,KV kvs vs/\s.heap.DictOf (dF X.prog X.w) p vs:=I.hok p _ hx;have hlen:kvs.length=vs.length:=Paired.length r;exact wpAny_truthy_dict hS m (by omega) ⟨H,I.tok _,by rw[EY r];exact q⟩
 | _=>exact(show False from e).elim
def Dw(ha:PE X a ta)(he:∀whole,isTrue a X.env whole=(do let v <-whole;standAt a.pos;holding [v] (truthy v))) :
 PT X a (λσ H Q=>ta σ H λx H'=>∃k,Pf X.K x H' k/\Q k H'):=by
 intro pins s σ H Q I h;exact isTrue_plain (d9 (ha pins s σ H _ I h) λv s1 ⟨x,H1,I1,r1,q1⟩=>Si pins s1 σ H1 x v Q I1 r1 q1) (he _)
def Fh:oC X (binaryOp .Add) (λx y H Q=>∃i j,x= .str i/\y= .str j/\i.length+j.length<=sizeLine/\Q (.str$ i++j) H):=by
 intro pins s σ H x y v u Q I rx ry h;obtain⟨i,j,rfl,rfl,hz,q⟩:=h;obtain⟨t,rfl⟩:=rx;obtain⟨t',rfl⟩:=ry;exact add_str (λt' tk=>⟨.str$ i++j,H,I.tok _,⟨_,rfl⟩,q⟩) hz
def VJ(b:Expr):Prop:=∀o i,subscripted b false o i=operate [o,i] (getItem o i)
def vals1{x:V}{us:List Value}(r:Vals [x] us):∃u,us=[u]/\RelV x u:=by
 cases r with
 | cons r1 r2=>cases r2;exact⟨_,rfl,r1⟩
def vals2{x y:V}{us:List Value}(r:Vals [x,y] us):∃u w',us=[u,w']/\RelV x u/\RelV y w':=by
 cases r with
 | cons r1 r2=>
   cases r2 with
   | cons r3 r4=>cases r4;exact⟨_,_,rfl,r1,r3⟩
def J8:oq X (.builtin "abs") (λxs H Q=>∃i,xs=[.int i]/\Q (.int$ if i<0 then -i else i) H):=by
 intro pins s σ H xs us Q I r h;obtain⟨i,rfl,q⟩:=h;obtain⟨u,rfl,t,rfl⟩:=vals1 r;exact call_abs_int λu tk=>⟨.int$ if i<0 then -i else i,H,I.tok _,⟨_,rfl⟩,q⟩
def HJ(hc:X.calm=true):oq X (.builtin "max") (λxs H Q=>∃i j,xs=[.int i, .int j]/\Q (.int$ if j > i then j else i) H):=by
 intro pins s σ H xs us Q I r h;obtain⟨i,j,rfl,q⟩:=h;obtain⟨u,w',rfl,⟨t,rfl⟩,⟨t',rfl⟩⟩:=vals2 r;refine max_two_ints (I.ok.hd hc) λh' tk k=>⟨_,H,I.kept k,?_,q⟩
 by_cases hj:j > i
 .rw [QaK hj,QaK hj];exact⟨_,rfl⟩
 .rw [QaH hj,QaH hj];exact⟨_,rfl⟩
def Ht(hc:X.calm=true):oq X (.builtin "min") (λxs H Q=>∃i j,xs=[.int i, .int j]/\Q (.int$ if j<i then j else i) H):=by
 intro pins s σ H xs us Q I r h;obtain⟨i,j,rfl,q⟩:=h;obtain⟨u,w',rfl,⟨t,rfl⟩,⟨t',rfl⟩⟩:=vals2 r;refine min_two_ints (I.ok.hd hc) λh' tk k=>⟨_,H,I.kept k,?_,q⟩
 by_cases hj:j<i
 .rw [QaK hj,QaK hj];exact⟨_,rfl⟩
 .rw [QaH hj,QaH hj];exact⟨_,rfl⟩
def Jd:oq X (.type "int") (λxs H Q=>(∃i,xs=[.int i]/\Q (.int i) H)\/∃k,xs=[.bl k]/\Q (.int$ if k then 1 else 0) H):=by
 intro pins s σ H xs us Q I r h;rcases h with⟨i,rfl,q⟩ | ⟨k,rfl,q⟩
 .obtain⟨u,rfl,t,rfl⟩:=vals1 r;exact call_int_int ⟨.int i,H,I,⟨_,rfl⟩,q⟩
 .obtain⟨u,rfl,r1⟩:=vals1 r;cases r1;exact call_int_bool ⟨.int$ if k then 1 else 0,H,I.tok _,⟨_,rfl⟩,q⟩
def WV(K:Qdf)(x:V)(H:Hp)(n:Nat):Prop:=
 match x with
 | .str y=>y.length<=sizeLine/\n=y.length
 | .byt y=>y.size<=sizeLine/\n=y.size
 | .ref p=>(∃xs,qT K H p xs/\n=xs.length)\/∃xs,u9 K H p xs/\n=xs.length
 | _=>False
def LO:oq X (.builtin "len") (λxs H Q=>∃x n,xs=[x]/\WV X.K x H n/\Q (.int n) H):=by
 intro pins s σ H xs us Q I r h;obtain⟨x,n,rfl,e,q⟩:=h;obtain⟨u,rfl,rx⟩:=vals1 r;have hl:=ur;have hs:sizeLine=16777216:=Qas;cases x with
 | str y=>
   obtain⟨t,rfl⟩:=rx;obtain⟨hy,e'⟩:y.length<=sizeLine/\n=y.length:=e;subst e';exact len_str (by omega) ⟨.int _,H,I.tok _,⟨_,rfl⟩,q⟩
 | byt y=>
   obtain⟨t,rfl⟩:=rx;obtain⟨hy,e'⟩:y.size<=sizeLine/\n=y.size:=e;subst e';exact PySem.W.len_bytes (by omega) ⟨.int _,H,I.tok _,⟨_,rfl⟩,q⟩
 | ref p=>
   cases rx;have e':(∃xs,qT X.K H p xs/\n=xs.length)\/∃xs,u9 X.K H p xs/\n=xs.length:=e;rcases e' with⟨xs,hx,e'⟩ | ⟨xs,hx,e'⟩
   .subst e';obtain⟨its,r',pl,hz⟩:=I.list hx;have hlen:=r'.length;exact Calls.call_len_list pl.isList (by simp only[Qay];omega) ⟨.int xs.length,H,I.tok _,⟨_,by simp only[Qay];rw [hlen]⟩,q⟩
   .subst e';obtain⟨its,r',pl,hz⟩:=I.tuple hx;have hlen:=r'.length;exact len_tuple pl (by simp only[Qay];omega) ⟨.int xs.length,H,I.tok _,⟨_,by simp only[Qay];rw [hlen]⟩,q⟩
 | _=>exact(show False from e).elim
end
structure Er (h:Heap) (x dx C:Addr) (mA:Aaf):Prop where
 obj:h.get? x=some (PySem.W.instObj C dx)
 ns:h.Ns1 dx mA
 ne:dx≠x
def Hy{h:Heap}{dx:Addr}{mA:Aaf}(n:h.Ns1 dx mA):∃od,h.get? dx=some od/\∀name,PySem.W.lookIn name od=some (mA name):=by
 obtain⟨o,es,ep,ho,hd,hk,_,hm⟩:=n;refine⟨o,ho,λname=>?_⟩
 have e:=hm name;unfold nsFind findBy at e;rw[<-Array.find?_toList] at e;unfold PySem.W.lookIn;rw[hd];dsimp only;split
 .rename_i y q;rw[q] at e;exact Qbh some e
 .rename_i q;rw[q] at e;have a:es.toList.any (·.refKey)=false:=by
   rw[Qc3];intro y hy;obtain⟨z,t,hkey⟩:=hk y$ Array.mem_toList_iff.mp hy;simp [DictEntry.refKey,hkey]
  have a':¬es.toList.any (·.refKey)=true:=by rw[a];exact QaJ
  rw[QaH a'];exact Qbh some e
def Er.look{x dx C:Addr}{mA:Aaf}(I:Er h x dx C mA):∃od,PySem.W.InstAt h x (PySem.W.instObj C dx) C (some od)/\∀name,PySem.W.lookIn name od=some (mA name):=
 let⟨od,ho,hl⟩:=Hy I.ns
 ⟨od,⟨I.obj,rfl,rfl,ho⟩,hl⟩
section
variable {prog:Program}{w:World}{A:Around}{E:Aab}{s:Qdg}{K:Qdf}{x dx C f:Addr}{mA:Aaf}{name:Str}{v:Value}
def get_map{expr:Bool}{Q:Aab}(X:K.In s.heap)(I:Er s.heap x dx C mA)(hg:PySem.W.plainGet K C name=true)(hh:PySem.W.hasDictIn K C=true)
 (ha:PySem.W.findIn K (.ref C) name=some none) (hv:mA name=some v) (hv':PySem.W.handedIn v=true) (h:Q v {s with toks:=s.toks+1}) :
 wpAny (model prog w) A (getAttr (.ref x) name expr) Q E s:=by
 obtain⟨od,J,hl⟩:=I.look;exact PySem.W.get_value X J (QcP hg).1 (PySem.W.findObj_own hh ha rfl$ by rw[hl,hv]) hv' h
def Me{pl:Sem Bool}{Q:Value × List Value->Qdg->Prop}(X:K.In s.heap)(I:Er s.heap x dx C mA)(hg:PySem.W.plainGet K C name=true)
 (hf:PySem.W.findIn K (.ref C) name=some (some$ .ref f)) (ht:PySem.W.isFn K (.ref f)=true) (hv:mA name=none) (h:Q (.ref f,[.ref x]) s) :
 wpAny (model prog w) A (getMethod (.ref x) name pl) Q E s:=by
 obtain⟨od,J,hl⟩:=I.look;exact PySem.W.method_fn X J (QcP hg).1 (QcP hg).2 hf (Qbj.mp ht) (by show(PySem.W.lookIn name od).map (·.isSome)=some false;rw [hl,hv];rfl) h
def Nd{ns:List Str}{Q:Unit->Qdg->Prop}(X:K.In s.heap)(I:Er s.heap x dx C mA)
 (hs:PySem.W.findIn K (.ref C) "__setattr__"=some (some$ .builtin "object.__setattr__")) (hp:PySem.W.plainOver K C=true) (ht:PySem.W.takerIn K C name=some none) (hh:PySem.W.hasDictIn K C=true)
 (hw:PySem.Within mA ns) (hsz:ns.length<=sizeLine)
 (h:∀h',Er h' x dx C (λy=>if y=name then some v else mA y)->Heap.SameBut dx s.heap h'->Q () {s with heap:=h',toks:=s.toks+2}) :
 wpAny (model prog w) A (setAttr (.ref x) name v) Q E s:=by
 obtain⟨od,J,hl⟩:=I.look;refine PySem.W.set_plain X J hs$ PySem.W.osa_open (s:={s with toks:=s.toks+1}) (r:=none) X J hp ht λb=>?_
 obtain⟨cd,hc,Wk⟩:=PySem.W.any_some hh;have hx:s.heap.get? x=some ⟨.ref C,some dx, .plain,#[]⟩:=I.obj;refine Qaf$ QaG$ Qaf$ Qaf$ wpAny_loadPart hx$ Qaf$ PySem.W.Looks.here (s:={s with toks:=s.toks+1}) (PySem.W.looks_clsIn X hc) ?_
 rw[Wk];refine QaG (a:=some dx)$ Qaf$ QaG$ Qaf ?_;refine wpAny_nsSet1 (s:={s with toks:=s.toks+1}) I.ns λh' S9 hs2=>?_
 obtain⟨oD,esD,epD,hoD,hdD,hcD⟩:=S9.count$ PySem.Within.cons name v hw;refine Qaf (wpAny_lookBehind hoD (by rw[hdD];exact pastItsLine_dict$ QaT hcD$ by rw[Qao];omega) ?_)
 exact QaG$ h _ ⟨(hs2.2 _$ QbM I.ne).trans I.obj,S9,I.ne⟩ hs2
def K9{R:Result->Qdg->Prop}{vs:List Value}{kw:List (Str × Value)}(X:K.In s.heap)(hm:PySem.W.makesIn K C=true)
 (hi:PySem.W.findIn K (.ref C) "__init__"=some (some$ .ref f)) (hf:PySem.W.typeIn K (.ref f)=some (.type "function"))
 (h:codeAny (model prog w) (A.under$ .builtin "type.__call__" ⟨.ref C ::vs,kw⟩) (.call (.ref f) ⟨.ref (s.heap.objs.size+1) ::vs,kw⟩) (PySem.W.InitBack (s.heap.objs.size+1) R)
   {s with heap:=(s.heap.push PySem.W.emptyDict).push$ PySem.W.instObj C s.heap.objs.size}) :
 codeAny (model prog w) A (.call (.ref C) ⟨vs,kw⟩) R s:=by
 obtain⟨hh,g,d,t,os⟩:=s;exact PySem.W.make_core (PySem.W.makes_of X hm) (PySem.W.looks_findIn X hi) (λself=>PySem.W.bind_fn X self hf) (.inl rfl) h
end
noncomputable def ml(f:Str)(v:V):List (Str × V)->List (Str × V)
 | []=>[(f,v)]
 | (g,x) ::r=>if g=f then(g,v) ::r else(g,x) ::ml f v r
theorem uY(f g:Str)(v:V):∀fs:List (Str × V),(ml f v fs).lookup g=if g=f then some v else fs.lookup g
 | []=>by
   show List.lookup g [(f,v)]=_;by_cases h:g=f
   .have hb:(g==f)=true:=Qbj.mpr h;simp only[List.lookup,hb,QaK h]
   .have hb:(g==f)=false:=QaZ.mpr h;simp only[List.lookup,hb,QaH h]
 | (k,x) ::r=>by
   have ih:=uY f g v r;rw[show ml f v ((k,x) ::r)=(if k=f then(k,v) ::r else(k,x) ::ml f v r) from rfl]
   by_cases hk:k=f
   .rw [QaK hk];by_cases h:g=k
    .have hb:(g==k)=true:=Qbj.mpr h;simp only[List.lookup,hb,QaK$ h.trans hk]
    .have hb:(g==k)=false:=QaZ.mpr h;simp only[List.lookup,hb,QaH (λe:g=f=>h$ e.trans hk.symm)]
   .rw [QaH hk];by_cases h:g=k
    .have hb:(g==k)=true:=Qbj.mpr h;simp only[List.lookup,hb,QaH (λe:g=f=>hk$ h.symm.trans e)]
    .have hb:(g==k)=false:=QaZ.mpr h;simp only[List.lookup,hb];exact ih
theorem uh(f:Str)(v:V):∀fs:List (Str × V),f∈(ml f v fs).map (·.1)/\∀g,g∈fs.map (·.1)->g∈(ml f v fs).map (·.1)
 | []=>⟨by simp [ml],λg h=>by simp at h⟩
 | (k,x) ::r=>by
   obtain⟨i1,i2⟩:=uh f v r;rw[show ml f v ((k,x) ::r)=(if k=f then(k,v) ::r else(k,x) ::ml f v r) from rfl]
   by_cases hk:k=f
   .rw [QaK hk];subst hk;exact⟨by simp,λg h=>by simpa using h⟩
   .rw [QaH hk];refine⟨?_,λg h=>?_⟩
    .rw [Qaz];exact Qad _ i1
    .rw [Qaz] at h ⊢;rcases QaE.mp h with e | e
     .exact QaE.mpr (.inl e)
     .exact Qad _ (i2 g e)
theorem vw(f:Str)(v:V):∀fs:List (Str × V),(ml f v fs).length<=fs.length+1
 | []=>by simp [ml]
 | (k,x) ::r=>by
   have ih:=vw f v r;rw[show ml f v ((k,x) ::r)=(if k=f then(k,v) ::r else(k,x) ::ml f v r) from rfl]
   by_cases hk:k=f
   .rw [QaK hk,Qao,Qao];omega
   .rw [QaH hk,Qao,Qao];omega
def oA.some_of{v:V}{o:Option Value}(r:oA (some v) o):∃u,o=some u/\RelV v u:=by
 cases o with
 | none=>exact(show False from r).elim
 | some u=>exact⟨u,rfl,r⟩
def oA.none_of{o:Option Value}(r:oA none o):o=none:=by
 cases o with
 | none=>rfl
 | some u=>exact(show False from r).elim
def Hz{v:V}{u:Value}(r:RelV v u):PySem.W.handedIn u=true:=by
 cases v with
 | cY=>cases(show u=Value.none from r);rfl
 | bl b=>cases(show u=Value.bool b from r);rfl
 | int i=>obtain⟨t,e⟩:=(show ∃t,u=Value.int i t from r);cases e;rfl
 | str x=>obtain⟨t,e⟩:=(show ∃t,u=Value.str x t from r);cases e;rfl
 | byt b=>obtain⟨t,e⟩:=(show ∃t,u=Value.bytes b t from r);cases e;rfl
 | flt b=>obtain⟨t,e⟩:=(show ∃t,u=Value.float b t from r);cases e;rfl
 | ref a=>cases(show u=Value.ref a from r);rfl
 | ty n=>cases(show u=Value.type n from r);rfl
section
variable {P:Program}{w:World}{H:Hp}{h:Heap}{a C dx:Addr}{fs:List (Str × V)}
def Ao(hok:ql P w H h)(e:H a=some (.ins C dx fs)):∃mA,Er h a dx C mA/\(∀f,oA (fs.lookup f)$ mA f)/\PySem.Within mA (fs.map (·.1))/\fs.length<=1000/\H dx=some (.own a):=by
 obtain⟨d,z,ne,ob,mA,n,r,q⟩:=(show e8 P w H h a (.ins C dx fs) from hok a _ e)
 exact⟨mA,⟨ob,n,ne⟩,r,q,z,d⟩
end
structure Ef (K:Qdf) (C:Addr):Prop where
 pg:PySem.W.plainGet K C Str.empty=true
 hd:PySem.W.hasDictIn K C=true
 po:PySem.W.plainOver K C=true
 sa:PySem.W.findIn K (.ref C) "__setattr__"=some (some (.builtin "object.__setattr__"))
def Ef.get{K:Qdf}{C:Addr}(c:Ef K C)(f:Str):PySem.W.plainGet K C f=true:=c.pg
def fJ(K:Qdf)(C:Addr)(f:Str):Prop:=PySem.W.findIn K (.ref C) f=some none
def fJ.Vj{K:Qdf}{C:Addr}(n:fJ K C f):PySem.W.takerIn K C f=some none:=by
 unfold PySem.W.takerIn;rw[show PySem.W.findIn K (.ref C) f=some none from n]
 rfl
structure Z9 (K:Qdf) (C:Addr) (f:Str) (v:V) (u:Value):Prop where
 at_:PySem.W.findIn K (.ref C) f=some (some u)
 rel:RelV v u
 get:PySem.W.specialIn K u "__get__"=some none
 cp:PySem.W.copiedNames.contains f=false
structure Meth (K:Qdf) (C:Addr) (m:Str) (f:Addr):Prop where
 at_:PySem.W.findIn K (.ref C) m=some (some (.ref f))
 fn:PySem.W.isFn K (.ref f)=true
 kp:PySem.W.keepIn K (.ref f)=true
section
variable {X:Cx}{pins:Aaa}{σ:St}{H:Hp}{s:Qdg}{a C dx:Addr}{fs:List (Str × V)}{f:Str}{v:V}{A:Around}{E:Aab}
def E8{b:Bool}{Q:Aab}(I:Inv X pins σ H s)(e:H a=some (.ins C dx fs))(c:Ef X.K C)(n:fJ X.K C f)(l:fs.lookup f=some v)
 (h:∀u s',Inv X pins σ H s'->RelV v u->Q u s'):wpAny (model X.prog X.w) A (getAttr (.ref a) f b) Q E s:=by
 obtain⟨mA,O,r,_,_,_⟩:=Ao I.hok e;obtain⟨u,hu,ru⟩:=oA.some_of (v:=v) (o:=mA f) (by rw[<-l];exact r f)
 exact get_map I.GO O (c.get f) c.hd n hu (Hz ru)$ h u _ (I.tok _) ru
def Fs{m:Str}{g:Addr}{pl:Sem Bool}{Q:Value × List Value->Qdg->Prop}(I:Inv X pins σ H s)(e:H a=some (.ins C dx fs))(c:Ef X.K C)(k:Meth X.K C m g)(l:fs.lookup m=none)
 (h:Q (.ref g,[.ref a]) s):wpAny (model X.prog X.w) A (getMethod (.ref a) m pl) Q E s:=by
 obtain⟨mA,O,r,_,_,_⟩:=Ao I.hok e;have hn:mA m=none:=oA.none_of (by rw[<-l];exact r m)
 exact Me I.GO O (c.get m) k.at_ k.fn hn h
def Ez{y:V}{u:Value}{Q:Unit->Qdg->Prop}(I:Inv X pins σ H s)(e:H a=some (.ins C dx fs))(c:Ef X.K C)(n:fJ X.K C f)(hl:fs.length<1000)(ry:RelV y u)
 (h:∀s',Inv X pins σ (upd H a$ .ins C dx$ ml f y fs) s'->Q () s'):wpAny (model X.prog X.w) A (setAttr (.ref a) f u) Q E s:=by
 obtain⟨mA,O,r,wi,_,ho⟩:=Ao I.hok e;have hz:(fs.map (·.1)).length<=sizeLine:=by rw[Qaa,Qas];omega
 refine Nd I.GO O c.sa c.po n.Vj c.hd wi hz λh' O' sb=>h _ ?_
 have hd:∃o,h'.get? dx=some o:=let⟨o,_,_,e',_⟩:=O'.ns;⟨o,e'⟩
 refine I.write (x:=a) (e:=dx) (by rw[e];exact True.intro) (.inr ho) (λb q hb z=>(sb.2 b hb).trans z) hd ?_
 refine⟨by rw[bA O.ne];exact ho,?_,O.ne,O'.obj,_,O'.ns,λg=>?_,λg hg=>?_⟩
 .have:=vw f y fs;omega
 .show oA ((ml f y fs).lookup g) (if g=f then some u else mA g)
  rw[uY];by_cases q:g=f
  .rw [QaK q,QaK q];exact ry
  .rw [QaH q,QaH q];exact r g
 .by_cases q:g=f
  .rw [q];exact(uh f y fs).1
  .refine(uh f y fs).2 g (wi g λz=>hg ?_)
   show(if g=f then some u else mA g)=none
   rw[QaH q];exact z
def Inv.made(I:Inv X pins σ H s):Inv X pins σ (upd (upd H s.heap.objs.size$ .own$ s.heap.objs.size+1) (s.heap.objs.size+1)$ .ins C s.heap.objs.size [])
 {s with heap:=(s.heap.push PySem.W.emptyDict).push$ PySem.W.instObj C s.heap.objs.size}:=by
 have e1:(s.heap.push PySem.W.emptyDict).get? s.heap.objs.size=some PySem.W.emptyDict:=QaN s.heap rfl;have e2:((s.heap.push PySem.W.emptyDict).push$ PySem.W.instObj C s.heap.objs.size).get? (s.heap.objs.size+1)=some (PySem.W.instObj C s.heap.objs.size):=by
  have:=QaN (s.heap.push PySem.W.emptyDict) (o:=PySem.W.instObj C s.heap.objs.size) rfl
  rwa [Qbk] at this
 have e3:(s.heap.push PySem.W.emptyDict).Ns s.heap.objs.size (λ_=>none):=⟨PySem.W.emptyDict,#[],_,e1,rfl,(λe he=>absurd he$ by simp),λ_=>rfl⟩
 have I1:=I.laid (a:=s.heap.objs.size) (o:= .own$ s.heap.objs.size+1) (h':=s.heap.push PySem.W.emptyDict) (t':=s.toks) (λb u q=>Qah _ q) (Qak _) ⟨_,e1⟩
 refine I1.laid (a:=s.heap.objs.size+1) (o:= .ins C s.heap.objs.size []) (t':=s.toks) (λb u q=>Qah _ q) (Nat.le_of_eq$ Qbk _ _) ?_
 have ne:s.heap.objs.size≠s.heap.objs.size+1:=QaR$ Nat.lt_succ_self _;refine⟨by rw[bA ne,bh],QbE _,ne,e2,λ_=>none,(Heap.Ns1.of_empty e3).at λo q=>Qah _ q,λ_=>True.intro,λy hy=>absurd rfl hy⟩
def O4{prog:Program}{w:World}{env:Env}{e:Expr}{f:Str}{pos:Pos}{s:Qdg}{Q:Aab}(hb:attributeBase e f env (eval e env)=eval e env)
 (h:wpAny (model prog w) A (eval e env) (λo s₁=>wpAny (model prog w) A (getAttr o f true) Q E s₁) E s):wpAny (model prog w) A (eval (.Attribute e f pos) env) Q E s:=
 Attribute_any_ h (by rw[arm_eval_Attribute,hb])
end
def XC(K:Qdf)(ta:TE)(f:Str):TE:=λσ H Q=>ta σ H λx H1=>∃a C dx fs v,x= .ref a/\H1 a=some (.ins C dx fs)/\Ef K C/\fJ K C f/\fs.lookup f=some v/\Q v H1
def aaw(K:Qdf)(ta:TE)(f:Str):TE:=λσ H Q=>ta σ H λx H1=>∃a C dx fs v u,x= .ref a/\H1 a=some (.ins C dx fs)/\Ef K C/\Z9 K C f v u/\fs.lookup f=none/\Q v H1
def Xl(K:Qdf)(ta tv:TE)(f:Str):TS:=λD σ H=>tv σ H λy H1=>ta σ H1 λx H2=>∃a C dx fs,x= .ref a/\H2 a=some (.ins C dx fs)/\Ef K C/\fJ K C f/\fs.length<1000/\
 D.nx σ (upd H2 a$ .ins C dx$ ml f y fs)
def aaP(X:Cx)(op:Operator)(rd:V->V->Hp->VK->Prop):Prop:=
 ∀(pins:Aaa) (s:Qdg) (σ:St) (H:Hp) (x y:V) (u v:Value) (Q:VK),Inv X pins σ H s->RelV x u->RelV y v->rd x y H Q->wpAny (model X.prog X.w) X.A (inplaceOp op u v) (EP X pins σ Q) X.xe s
def Wu(K:Qdf)(ta tv:TE)(rd:V->V->Hp->VK->Prop)(f:Str):TS:=λD σ H=>ta σ H λx H1=>∃a C dx fs v,x= .ref a/\H1 a=some (.ins C dx fs)/\Ef K C/\fJ K C f/\fs.lookup f=some v/\
 tv σ H1 λy H2=>rd v y H2 λz H3=>∃dx' TK,H3 a=some (.ins C dx' TK)/\TK.length<1000/\D.nx σ (upd H3 a$ .ins C dx'$ ml f z TK)
section
variable {X:Cx}{o e value:Expr}{f:Str}{pos pos':Pos}{ta tv:TE}
def QL(he:PE X e ta)(hb:attributeBase e f X.env (eval e X.env)=eval e X.env):PE X (.Attribute e f pos) (XC X.K ta f):=by
 intro pins s σ H Q I h;refine O4 hb$ d9 (he pins s σ H _ I h) λu s1 ⟨x,H1,I1,rx,a,C,dx,fs,v,ex,ea,c,n,l,q⟩=>?_
 subst ex;obtain rfl:u=Value.ref a:=rx;exact E8 I1 ea c n l λu' s2 I2 ru=>⟨v,H1,I2,ru,q⟩
def Rf(ha:PE X o ta)(hv:PE X value tv)(hs:swapsWith value (some$ .Attribute o f pos') pos.line X.env=pure false):PS X (.Assign [.Attribute o f pos'] value pos) (Xl X.K ta tv f):=by
 intro pins s σ H D I h;refine plainObj_wpAny_Assign_Attribute (d9 (hv pins s σ H _ I h) λu s1 ⟨y,H1,I1,ry,q⟩=>d9 (ha pins s1 σ H1 _ I1 q) λov s2 ⟨x,H2,I2,rx,a,C,dx,fs,ex,ea,c,n,l,q2⟩=>?_) hs
 subst ex;obtain rfl:ov=Value.ref a:=rx;exact Ez I2 ea c n l ry λs3 I3=>⟨σ,_,I3,q2⟩
def Z1:V->V->Hp->VK->Prop:=λx y H Q=>∃i j,x= .int i/\y= .int j/\Q (.int$ i+j) H
def aaM:V->V->Hp->VK->Prop:=λx y H Q=>∃i j,x= .int i/\y= .int j/\Q (.int$ i - j) H
end
section
variable {H:Hp}
inductive wo (K:Qdf) (H:Hp):V->Value->Prop where
 | cY:wo K H .cY (.type "NoneType")
 | bl (x:Bool):wo K H (.bl x) (.type "bool")
 | int (i:Int):wo K H (.int i) (.type "int")
 | str (x:Str):wo K H (.str x) (.type "str")
 | flt (x:UInt64):wo K H (.flt x) (.type "float")
 | lst {a:Addr} {xs:List V} (e:H a=some (.lst xs)):wo K H (.ref a) (.type "list")
 | fm {a:Addr} {o:Obj} {xs:List V} (e:H a=some (.fm o (.lst xs))):wo K H (.ref a) (.type "list")
 | tup {a:Addr} {xs:List V} (e:H a=some (.tup xs)):wo K H (.ref a) (.type "tuple")
 | dK {a:Addr} {kvs:List (Key × V)} (e:H a=some (.dK kvs)):wo K H (.ref a) (.type "dict")
 | dT {a:Addr} {kvs:List (List Key × V)} (e:H a=some (.dT kvs)):wo K H (.ref a) (.type "dict")
 | ins {a C dx:Addr} {fs:List (Str × V)} (e:H a=some (.ins C dx fs)) (cl:Ef K C) (ha:PySem.W.findIn K (.ref C) "__class__"=some (some (.builtin "object.__class__")))
    (hn:PySem.W.specialIn K (.builtin "object.__class__") "__get__"=some (some (.builtin "getset_descriptor.__get__"))) (htk:PySem.W.takesIn K (.builtin "object.__class__")=some true)
    (hm:PySem.W.mroIn K C (.type "object")=some true):wo K H (.ref a) (.ref C)
end
structure eU (k:Nat) (A:Around):Prop where
 hd:A.handled=none
 dp:A.depth+3*k+5<recursionLimit
 un:A.units+16*k+200<cLine
def eU.mono{j k:Nat}(r:eU k A)(h:j<=k):eU j A:=⟨r.hd,by have:=r.dp;omega,by have:=r.un;omega⟩
def eU.deeper{k:Nat}{A:Around}(r:eU (k+1) A)(env:Env):eU k (A.deeper env):=
 ⟨r.hd,by have:=r.dp;show A.depth+1+3*k+5<_;omega,by have:=r.un;show A.units+3+16*k+200<_;omega⟩
def FU{A:Around}{C:Addr}{us:List Value}{kw:List (Str × Value)}:(A.under$ .builtin "type.__call__" ⟨.ref C ::us,kw⟩).depth=A.depth+1:=by
 first | rfl | simp [Around.under,Code.weight,Code.isCreation,Code.isGuard,Code.isCaller,Code.frames,Code.isFrame,guardIds]
def EJ{A:Around}{C:Addr}{us:List Value}{kw:List (Str × Value)}:(A.under$ .builtin "type.__call__" ⟨.ref C ::us,kw⟩).units=A.units+1:=by
 first | rfl | simp [Around.under,Code.cUnits,Code.frames,Code.isFrame]
def eU.make{k:Nat}{A:Around}(r:eU (k+1) A)(C:Addr)(us:List Value)(kw:List (Str × Value)):eU k (A.under$ .builtin "type.__call__" ⟨.ref C ::us,kw⟩):=
 ⟨r.hd,by have:=r.dp;rw [FU];omega,by have:=r.un;rw [EJ];omega⟩
def eU.depth{k:Nat}{A:Around}(r:eU k A):A.depth<recursionLimit:=by have:=r.dp;omega
def eU.units{k:Nat}{A:Around}(r:eU k A):A.units+64<cLine:=by have:=r.un;omega
def XM:TA:=λ_ H Q=>Q [] H
def Vv(ta:TE)(tr:TA):TA:=λσ H Q=>ta σ H λx H1=>tr σ H1 λxs H2=>Q (x ::xs) H2
section
variable {X:Cx}{e:Expr}{es:List Expr}{te:TE}{t:TA}{pos:Pos}
def f9:PA X [] XM:=λ_ _ _ _ H Q I h=>Qcv ⟨[],H,I, .nil,h⟩
def dq(ha:PE X e te)(hr:PA X es t)(hs:starEach (e ::es) X.env=(false,eval e X.env) ::starEach es X.env:=by rfl):PA X (e ::es) (Vv te t):=by
 intro pos pins s σ H Q I h;rw[hs];show wpAny _ _ (spliced ((false,eval e X.env) ::backTo pos (starEach es X.env))) _ _ s;refine Qb2$ d9 (ha pins s σ H _ I h) λu s1 ⟨x,H1,I1,r1,q1⟩=>?_
 exact d9 (hr pos pins s1 σ H1 _ I1 q1) λus s2 ⟨xs,H2,I2,r2,q2⟩=>⟨x ::xs,H2,I2, .cons r1 r2,q2⟩
def Xo(t:TA):TE:=λσ H Q=>t σ H λxs H1=>xs.length<=sizeLine/\∀p,H1 p=none->Q (.ref p) (upd H1 p$ .tup xs)
def Xc(t:TA):TE:=λσ H Q=>t σ H λxs H1=>xs.length<=sizeLine/\∀p,H1 p=none->Q (.ref p) (upd H1 p$ .lst xs)
def J_{x1}(h:PA X es t):PE X (.Tuple es x1 pos) (Xo t):=by
 intro pins s σ H Q I hq;refine wpAny_Tuple_spliced (d9 (h pos pins s σ H _ I hq) λus s1 ⟨xs,H1,I1,r,z,q⟩=>⟨by rw[<-r.length];exact z,?_⟩)
 have hf:H1 s1.heap.objs.size=none:=I1.hok.fresh$ Qak _;refine⟨.ref s1.heap.objs.size,upd H1 s1.heap.objs.size$ .tup xs,I1.laid (t':=s1.toks) (λb u e=>Qah _ e) (Qak _) ?_,rfl,q _ hf⟩
 exact⟨z,us,r,⟨_,QaN _ rfl,rfl,_,rfl⟩⟩
def La(h:PA X es t):PE X (.List es pos) (Xc t):=by
 intro pins s σ H Q I hq;refine wpAny_List_spliced (d9 (h pos pins s σ H _ I hq) λus s1 ⟨xs,H1,I1,r,z,q⟩=>⟨by rw[<-r.length];exact z,?_⟩)
 have hf:H1 s1.heap.objs.size=none:=I1.hok.fresh$ Qak _;refine⟨.ref s1.heap.objs.size,upd H1 s1.heap.objs.size$ .lst xs,I1.laid (t':=s1.toks) (λb u e=>Qah _ e) (Qak _) ?_,rfl,q _ hf⟩
 exact⟨z,us,0,r,QaN _ rfl⟩
end
abbrev Sp:=List V->Hp->VK->XK->Prop
abbrev K8:=List Env->Hp->Qdg->XK->Value->Qdg->Prop
structure Fm (P:Program) (w:World) (K:Qdf) (mg:Aaf) (base:Heap) (A:Around) (outer:List Env) (s:Qdg) (H:Hp):Prop where
 frames:A.frames=some outer
 mod:Mod K mg base
 bs:∀b o,base.get? b=some o->s.heap.get? b=some o/\H b=none
 bsz:base.objs.size<=s.heap.objs.size
 vM:s.heap.FunFrames base outer
 frf:∀b∈Jt outer,H b=none
 hok:ql P w H s.heap
 bare:AllBare s.gens
def CE(outer:List Env)(P:Program)(w:World)(H:Hp)(s:Qdg)(Q:VK)(u:Value)(s':Qdg):Prop:=
 ∃v H',s'.os=s.os/\AllBare s'.gens/\Un (Jt outer) [] H H' s.heap s'.heap/\ql P w H' s'.heap/\RelV v u/\Q v H'
def CR(CX:K8)(outer:List Env)(P:Program)(w:World)(H:Hp)(s:Qdg)(Q:VK)(E:XK)(r:Result)(s':Qdg):Prop:=
 match r with
 | .ok (.ret u)=>CE outer P w H s Q u s'
 | .ok _=>False
 | .error e=>CX outer H s E e s'
structure jW (P:Program) (w:World) (K:Qdf) (mg:Aaf) (base:Heap) (CX:K8) (k:Nat) (f:Addr) (fd:FuncData) (ps:List Str) (sp:Sp):Prop where
 len:∀vs H Q E,sp vs H Q E->vs.length=ps.length
 run:∀(A:Around) (outer:List Env) (s:Qdg) (H:Hp) (args:Args) (us:List Value) (vs:List V) (Q:VK) (E:XK),eU k A->Fm P w K mg base A outer s H->BindsTo s fd args (ps.zip us)->Vals vs us->sp vs H Q E->
  codeAny (model P w) A (.call (.ref f) args) (CR CX outer P w H s Q E) s
def jW.imp{P:Program}{w:World}{K:Qdf}{mg:Aaf}{base:Heap}{CX:K8}{k:Nat}{f:Addr}{fd:FuncData}{ps:List Str}{sp ZN:Sp}(F:jW P w K mg base CX k f fd ps sp)
 (h:∀vs H Q E,ZN vs H Q E->sp vs H Q E):jW P w K mg base CX k f fd ps ZN:=
 ⟨λvs H Q E q=>F.len vs H Q E$ h _ _ _ _ q,λA outer s H args us vs Q E hr he hb hv hs=>F.run A outer s H args us vs Q E hr he hb hv$ h _ _ _ _ hs⟩
def Fm.make{K:Qdf}{mg:Aaf}{outer:List Env}{s:Qdg}(e:Fm P w K mg base A outer s H)(C:Addr)(us:List Value)(kw:List (Str × Value)) :
 Fm P w K mg base (A.under$ .builtin "type.__call__" ⟨.ref C ::us,kw⟩) outer s H:=⟨by first | exact e.frames | (simpa [Around.under,Code.envs,Code.isFrame,pushEnvs] using e.frames),e.mod,e.bs,e.bsz,e.vM,e.frf,e.hok,e.bare⟩
section
variable {X:Cx}{pins:Aaa}{σ:St}{H:Hp}{s s':Qdg}
def Inv.Vk(I:Inv X pins σ H s):Fm X.prog X.w X.K X.mg X.base X.A X.stack s H:=
 ⟨I.ok.frames,I.ok.mod,I.bs,QaT I.ok.bsz I.sz,I.stack,I.GH,I.hok,I.bare⟩
def Inv.after{Q:VK}{u:Value}(I:Inv X pins σ H s)(h:CE X.stack X.prog X.w H s Q u s'):EP X pins σ Q u s':=by
 obtain⟨v,H',os,bare,un,hok,r,q⟩:=h;obtain⟨hh,g,d,t,os'⟩:=s';obtain rfl:os'=s.os:=os;exact⟨v,H',I.call (h':=hh) (g':=g) (d':=d) (t':=t) (ch:=[]) un hok bare (λb z=>absurd z$ by simp),r,q⟩
end
def US(sp:Sp)(B5:List V)(E:XK)(t:TA):TE:=λσ H Q=>t σ H λvs H1=>sp (vs++B5) H1 Q E
def Vp(C:Addr)(m:Str)(sp:Sp)(B5:List V)(E:XK)(ta:TE)(t:TA):TE:=λσ H Q=>ta σ H λx H1=>∃a dx fs,x= .ref a/\H1 a=some (.ins C dx fs)/\fs.lookup m=none/\
 t σ H1 λvs H2=>sp (x ::(vs++B5)) H2 Q E
def T8(C:Addr)(sp:Sp)(B5:List V)(E:XK)(t:TA):TE:=λσ H Q=>t σ H λvs H1=>∀x dx,H1 x=none->H1 dx=none->dx≠x->
 sp (.ref x ::(vs++B5)) (upd (upd H1 dx$ .own x) x$ .ins C dx []) (λv H2=>v= .cY/\Q (.ref x) H2) E
def Binds(K:Qdf)(fd:FuncData)(ps:List Str)(ds:List Value):Prop:=
 ∀(s:Qdg) (us:List Value),K.In s.heap->(us++ds).length=ps.length->BindsTo s fd ⟨us,[]⟩ (ps.zip$ us++ds)
def Binds.all{K:Qdf}{fd:FuncData}{ps:List Str}(h:∀us:List Value,us.length=ps.length->bindArgs fd ⟨us,[]⟩=pure (ps.zip us)):Binds K fd ps []:=λs us _ hl=>by
 rw[QaV] at hl ⊢;exact .of_eq$ h us hl
def Passes(CX:K8)(X:Cx)(E:XK):Prop:=∀(pins:Aaa) (σ:St) (H:Hp) (s:Qdg) (e:Value) (s':Qdg),Inv X pins σ H s->CX X.stack H s E e s'->X.xe e s'
section
variable {X:Cx}{CX:K8}{k:Nat}{f C:Addr}{fd:FuncData}{ps:List Str}{sp:Sp}{B5:List V}{ds:List Value}{E:XK}{x m:Str}{p pos apos:Pos}{e o:Expr}{es:List Expr}{ta:TE}{t:TA}
def Ml{pins:Aaa}{σ:St}{H:Hp}{s:Qdg}{Q:VK}{us:List Value}{vs:List V}(F:jW X.prog X.w X.K X.mg X.base CX k f fd ps sp)(hr:eU k X.A)(hb:Binds X.K fd ps ds)(hd:Vals B5 ds)(hx:Passes CX X E)
 (I:Inv X pins σ H s) (r:Vals vs us) (h:sp (vs++B5) H Q E):wpAny (model X.prog X.w) X.A (call (.ref f) us) (EP X pins σ Q) X.xe s:=by
 have r2:Vals (vs++B5) (us++ds):=r.append hd;have hl:(us++ds).length=ps.length:=by rw[<-r2.length];exact F.len _ _ _ _ h
 refine wpAny_call$ codeAny_mono (F.run X.A X.stack s H ⟨us,[]⟩ (us++ds) (vs++B5) Q E hr I.Vk (hb s us I.GO hl) r2 h) λr s' hq=>?_
 cases r with
 | error e=>exact hx pins σ H s e s' I hq
 | ok fl=>
   cases fl with
   | ret u=>exact I.after hq
   | next=>exact False.elim hq
   | brk=>exact False.elim hq
   | cont=>exact False.elim hq
def BH(F:jW X.prog X.w X.K X.mg X.base CX k f fd ps sp)(hr:eU k X.A)(hg:Gl X x)(hm:X.mg x=some (.ref f))(hk:PySem.W.keepIn X.K (.ref f)=true)(hb:Binds X.K fd ps ds)(hd:Vals B5 ds)(hx:Passes CX X E)
 (ha:PA X (e ::es) t) (uQ:(x==("__debug__":Str))=false:=by decide) (he:starEach (e ::es) X.env=(false,eval e X.env) ::starEach es X.env:=by rfl) (j_:(backTo pos$ starEach es X.env).any (·.1)=false:=by rfl) :
 PE X (.Call (.Name x p) (e ::es) [] pos) (US sp B5 E t):=by
 intro pins s σ H Q I h;refine QbR$ BP I hg hm ?_ uQ;refine QcU (h₀:=X.base) I.ok.mod.kin hk (d9 (ha pos pins s σ H _ I h) λus s1 ⟨vs,H1,I1,r,q⟩=>⟨I1.GO,?_⟩) he j_
 exact Ml F hr hb hd hx I1 r q
def Nl{pl:Sem Bool}(he:PE X o ta)(c:Ef X.K C)(hm:Meth X.K C m f)(F:jW X.prog X.w X.K X.mg X.base CX k f fd ps sp)(hr:eU k X.A)(hb:Binds X.K fd ps ds)(hd:Vals B5 ds)(hx:Passes CX X E)(ha:PA X (e ::es) t)
 (Jl:starEach (e ::es) X.env=(false,eval e X.env) ::starEach es X.env:=by rfl) (j_:(backTo pos$ starEach es X.env).any (·.1)=false:=by rfl)
 (ht:eval (.Call (.Attribute o m apos) (e ::es) [] pos) X.env=(do
   let ov <-eval o X.env
   standAt apos.atName
   let(f,first) <-holding [ov] (getMethod ov m pl)
   callWith pos f first (backTo pos$ starEach (e ::es) X.env) (backToKw pos$ keywordEach [] X.env)):=by rfl) :
 PE X (.Call (.Attribute o m apos) (e ::es) [] pos) (Vp C m sp B5 E ta t):=by
 intro pins s σ H Q I h;refine PySem.W.methodCall_KW (pl:=pl) (d9 (he pins s σ H _ I h) λu s1 ⟨x,H1,I1,rx,a,dx,fs,ex,ea,l,q⟩=>?_) ht
 subst ex;obtain rfl:u=Value.ref a:=rx;refine Fs I1 ea c hm l ?_;refine QcU (first:=[.ref a]) (h₀:=X.base) I.ok.mod.kin hm.kp (d9 (ha pos pins s1 σ H1 _ I1 q) λus s2 ⟨vs,H2,I2,r,q2⟩=>⟨I2.GO,?_⟩) Jl j_
 exact Ml (us:= .ref a ::us) (vs:= .ref a ::vs) F hr hb hd hx I2 (.cons rfl r) q2
structure Mk (K:Qdf) (C f:Addr):Prop where
 makes:PySem.W.makesIn K C=true
 init:PySem.W.findIn K (.ref C) "__init__"=some (some (.ref f))
 fn:PySem.W.isFn K (.ref f)=true
 kp:PySem.W.keepIn K (.ref C)=true
def LW{pins:Aaa}{σ:St}{H:Hp}{s:Qdg}{Q:VK}{us:List Value}{vs:List V}(M:Mk X.K C f)(F:jW X.prog X.w X.K X.mg X.base CX k f fd ps sp)(hr:eU (k+1) X.A)(hb:Binds X.K fd ps ds)(hd:Vals B5 ds)
 (hx:Passes CX X E) (I:Inv X pins σ H s) (r:Vals vs us)
 (h:∀x dx,H x=none->H dx=none->dx≠x->sp (.ref x ::(vs++B5)) (upd (upd H dx$ .own x) x$ .ins C dx []) (λv H2=>v= .cY/\Q (.ref x) H2) E) :
 wpAny (model X.prog X.w) X.A (call (.ref C) us) (EP X pins σ Q) X.xe s:=by
 have hq:=h (s.heap.objs.size+1) s.heap.objs.size (I.hok.fresh$ Qce _) (I.hok.fresh$ Qak _)$ QaR$ Nat.lt_succ_self _;have I2:=Inv.made (C:=C) I;have r2:Vals (V.ref (s.heap.objs.size+1) ::(vs++B5)) (Value.ref (s.heap.objs.size+1) ::(us++ds)):= .cons rfl$ r.append hd;have hl:(Value.ref (s.heap.objs.size+1) ::us++ds).length=ps.length:=by
  have e:=r2.length;rw[F.len _ _ _ _ hq] at e;exact e.symm
 refine wpAny_call (K9 (f:=f) I.GO M.makes M.init (Qbj.mp M.fn) (codeAny_mono (F.run _ X.stack _ _ ⟨Value.ref (s.heap.objs.size+1) ::us,[]⟩ (Value.ref (s.heap.objs.size+1) ::(us++ds)) _ _ E (hr.make C us [])
  (I2.Vk.make C us []) (hb _ (Value.ref (s.heap.objs.size+1) ::us) I2.GO hl) r2 hq) λr s' V_=>?_))
 cases r with
 | error e=>exact hx pins σ _ _ e s' I2 V_
 | ok fl=>
   cases fl with
   | ret u=>
     obtain⟨v,H',I3,rv,ev,q3⟩:=I2.after V_;subst ev;exact⟨rv,⟨V.ref$ s.heap.objs.size+1,H',I3,rfl,q3⟩⟩
   | next=>exact False.elim V_
   | brk=>exact False.elim V_
   | cont=>exact False.elim V_
def OG(M:Mk X.K C f)(F:jW X.prog X.w X.K X.mg X.base CX k f fd ps sp)(hr:eU (k+1) X.A)(hg:Gl X x)(hm:X.mg x=some (.ref C))(hb:Binds X.K fd ps ds)(hd:Vals B5 ds)(hx:Passes CX X E)
 (ha:PA X (e ::es) t) (uQ:(x==("__debug__":Str))=false:=by decide) (he:starEach (e ::es) X.env=(false,eval e X.env) ::starEach es X.env:=by rfl) (j_:(backTo pos$ starEach es X.env).any (·.1)=false:=by rfl) :
 PE X (.Call (.Name x p) (e ::es) [] pos) (T8 C sp B5 E t):=by
 intro pins s σ H Q I h;refine QbR$ BP I hg hm ?_ uQ;refine QcU (h₀:=X.base) I.ok.mod.kin M.kp (d9 (ha pos pins s σ H _ I h) λus s1 ⟨vs,H1,I1,r,q⟩=>⟨I1.GO,?_⟩) he j_
 exact LW M F hr hb hd hx I1 r q
end
def PK(X:Cx)(ZU:List Keyword)(t:TA):Prop:=
 ∀(pos:Pos) (pins:Aaa) (s:Qdg) (σ:St) (H:Hp) (Q:List V->Hp->Prop),Inv X pins σ H s->t σ H Q->wpAny (model X.prog X.w) X.A (evalAll$ (backToKw pos$ keywordEach ZU X.env).map (·.2)) (AP X pins σ Q) X.xe s
section
variable {fd:FuncData}{ps ks:List Str}{sp:Sp}{E:XK}{t tk:TA}
structure X3 (K:Qdf) (fd:FuncData) (ps ks:List Str) (g:List Value->List Value->List Value) (gV:List V->List V->List V):Prop where
 to:∀(s:Qdg) (us ws:List Value),K.In s.heap->(g us ws).length=ps.length->BindsTo s fd ⟨us,ks.zip ws⟩ (ps.zip (g us ws))
 rel:∀{vs:List V} {us:List Value} {zs:List V} {ws:List Value},Vals vs us->Vals zs ws->Vals (gV vs zs) (g us ws)
def Xu(sp:Sp)(gV:List V->List V->List V)(E:XK)(t tk:TA):TE:=λσ H Q=>t σ H λvs H1=>tk σ H1 λzs H2=>sp (gV vs zs) H2 Q E
end
structure aW (N P:List Str) (sc:Scope):Prop where
 kind:sc.kind= .function:=by rfl
 co:sc.isCoroutine=false:=by rfl
 gen:sc.isGenerator=false:=by rfl
 nd:N.Nodup:=by decide+kernel
 pre:N.take P.length=P:=by rfl
 par:∀x∈P,sc.names.lookup x=some .local\/sc.names.lookup x=some .cell:=by decide+kernel
 nofree:∀y∈sc.names,y.2≠ .free:=by decide+kernel
theorem zW{kindOf:Str->Option NameKind}:∀{binds:List (Str × Value)} {m:Aaf},(∀v,(x,v) ∉ binds)->bindL kindOf binds m x=m x
 | [],_,_=>rfl
 | (n,v) ::r,m,h=>by
   unfold bindL;rw[zW λw hw=>h w$ Qad _ hw]
   split
   .have:x≠n:=by rintro rfl;exact h v Qan
    simp [this]
   .rfl
theorem z6{kindOf:Str->Option NameKind}:∀{binds:List (Str × Value)} {m:Aaf},(∀v,(x,v) ∉ binds)->bindC kindOf binds m x=m x
 | [],_,_=>rfl
 | (n,v) ::r,m,h=>by
   unfold bindC;rw[z6 λw hw=>h w$ Qad _ hw]
   split
   .rfl
   .have:x≠n:=by rintro rfl;exact h v Qan
    simp [this]
def zG{kindOf:Str->Option NameKind}{v:Value}:∀{P:List Str} {vs:List Value} {i:Nat} {m:Aaf},P.Nodup->P[i]? =some x->vs[i]? =some v->kindOf x=some .local->
 bindL kindOf (P.zip vs) m x=some v
 | [],_,_,_,_,h,_,_=>by simp at h
 | _ ::_,[],_,_,_,_,h,_=>by simp at h
 | p ::P,w ::vs,0,m,nd,h1,h2,hk=>by
   simp at h1 h2;subst h1;subst h2;show bindL kindOf ((p,w) ::P.zip vs) m p=_;unfold bindL;rw[zW λv hv=>(Qck.mp nd).1 (List.of_mem_zip hv).1,QaK hk]
   simp
 | p ::P,w ::vs,i+1,m,nd,h1,h2,hk=>by
   show bindL kindOf ((p,w) ::P.zip vs) m x=_;unfold bindL;exact zG (i:=i) (Qck.mp nd).2 (by simpa using h1) (by simpa using h2) hk
def zK{kindOf:Str->Option NameKind}{v:Value}:∀{P:List Str} {vs:List Value} {i:Nat} {m:Aaf},P.Nodup->P[i]? =some x->vs[i]? =some v->kindOf x≠some .local->
 bindC kindOf (P.zip vs) m x=some v
 | [],_,_,_,_,h,_,_=>by simp at h
 | _ ::_,[],_,_,_,_,h,_=>by simp at h
 | p ::P,w ::vs,0,m,nd,h1,h2,hk=>by
   simp at h1 h2;subst h1;subst h2;show bindC kindOf ((p,w) ::P.zip vs) m p=_;unfold bindC;rw[z6 λv hv=>(Qck.mp nd).1 (List.of_mem_zip hv).1,QaH hk]
   simp
 | p ::P,w ::vs,i+1,m,nd,h1,h2,hk=>by
   show bindC kindOf ((p,w) ::P.zip vs) m x=_;unfold bindC;exact zK (i:=i) (Qck.mp nd).2 (by simpa using h1) (by simpa using h2) hk
noncomputable def start(N:List Str)(vs:List V):St:=vs.map some++List.replicate (N.length - vs.length) none
noncomputable def uI(CX:K8)(P:Program)(w:World)(K:Qdf)(mg:Aaf)(base:Heap)(N:List Str)(qual:Str)(scope:Scope)(f:Addr)(cd:Value)(A:Around)(outer:List Env)(s:Qdg)(H:Hp)(E:XK):Cx where
 prog:=P
 w:=w
 K:=K
 mg:=mg
 base:=base
 A:=A.deeper$ envOfC qual scope s.heap.objs.size f cd
 N:=N
 s₀:=s
 H₀:=H
 env:=envOfC qual scope s.heap.objs.size f cd
 outer:=outer
 stack:=envOfC qual scope s.heap.objs.size f cd ::outer
 ex:=[]
 calm:=true
 fn:=λ_=>true
 pn:=[]
 xe:=λe s'=>wpAny (model P w) (A.deeper$ envOfC qual scope s.heap.objs.size f cd) (leaving (envOfC qual scope s.heap.objs.size f cd) e) (λ_ Yx=>CX outer H s E e Yx) (λe' Yx=>CX outer H s E e' Yx) s'
def wO{sc:Scope}{n:Nat}(h:sc.names.lookup x=some .cell):∃c,(cellsFrom n sc.names []).lookup x=some c:=by
 have q:=PySem.W.cellsFrom_some sc.names n []$ .inl h;exact Option.isSome_iff_exists.mp q
def HH{CX:K8}{P:Program}{w:World}{K:Qdf}{mg:Aaf}{base:Heap}{N ps:List Str}{qual:Str}{scope:Scope}{f:Addr}{cd:Value}{A:Around}{outer:List Env}{s s1:Qdg}{H:Hp}{E:XK}{us:List Value}{vs:List V}
 (S:aW N ps scope) (hd:A.handled=none) (e0:Fm P w K mg base A outer s H) (hl:vs.length=ps.length) (r:Vals vs us)
 (x:InCallC s s.heap.objs.size (bindL (envOfC qual scope s.heap.objs.size f cd).kindOf (ps.zip us) λ_=>none) (cellsFrom (s.heap.objs.size+1) scope.names []) (bindC (envOfC qual scope s.heap.objs.size f cd).kindOf (ps.zip us) λ_=>none) s1) :
 Inv (uI CX P w K mg base N qual scope f cd A outer s H E) [] (start N vs) H s1:=by
 have j_:ps.length<=N.length:=by have:=Qbh List.length S.pre;rw [QaB] at this;omega
 obtain⟨h1,tk,rfl,hk⟩:=x.done;have noA:∀b:Addr,b ∉ (uI CX P w K mg base N qual scope f cd A outer s H E).ex:=λb z=>absurd (show b∈([]:List Addr) from z) (by simp)
 refine⟨⟨e0.mod,S.kind,rfl,rfl,Qak _,λy z c h1 h2=>?_,λy hy=>?_,λy c _ h=>?_,λ_=>hd,Around.frames_deeper e0.frames, .inr ⟨rfl,rfl⟩,λb z=>absurd z$ noA b,e0.bs,e0.bsz,λb _ _=>noA b,λb z=>absurd z$ noA b,e0.vM,e0.frf⟩,
  rfl,e0.bare,Un.kept hk,⟨_,x.toInCall.ns,λi y v h1 h2 h3=>?_⟩,λy c h=>⟨_,x.cell y c h⟩,e0.hok.fresh$ Qak _,λy c h=>?_,λp hp=>absurd (show p∈([]:Aaa) from hp) (by simp),e0.hok.kept hk,?_⟩
 .exact name_of_addr x.apart (Qbv h1) (Qbv h2)
 .have hy:scope.names.lookup y=some .cell\/scope.names.lookup y=some .free:=hy;rcases hy with hy | hy
  .exact wO hy
  .exact absurd rfl (S.nofree _$ Qbv hy)
 .exact Nat.le_of_lt (x.above y c$ Qbv h)
 .have hi:i<vs.length:=by
   unfold start at h2;by_cases hi:i<vs.length
   .exact hi
   .rw [Qaj$ by simpa using hi] at h2
    rw[Qa5] at h2;split at h2 <;> cases h2
  have ha:vs[i]? =some v:=by
   unfold start at h2;rw[Qax (by simpa using hi),Qac] at h2
   cases e:vs[i]? with
   | none=>rw [e] at h2;cases h2
   | some a=>rw [e] at h2;cases h2;rfl
  obtain⟨u,hu,rv⟩:=r.get ha;have hp:ps[i]? =some y:=by
   rw[<-S.pre,QbG$ by omega];exact h1
  have ndP:ps.Nodup:=by rw[<-S.pre];exact S.nd.sublist$ Qb6 _ _
  refine⟨u,rv,?_⟩;rcases S.par y (Qap hp) with k | k
  .exact .inl ⟨k,zG ndP hp hu k⟩
  .obtain⟨c,e⟩:=wO (n:=s.heap.objs.size+1) k;refine .inr ⟨.inl k,c,e,?_⟩;have q:=x.cell y c e;rw[zK ndP hp hu$ by show scope.names.lookup y≠_;rw [k];decide] at q
   exact q
 .exact e0.hok.fresh (Nat.le_of_lt$ x.above y c$ Qbv h)
 .unfold start;show _=N.length;rw[Qai,Qaa,Qba];omega
def Vz{CX:K8}{P:Program}{w:World}{K:Qdf}{mg:Aaf}{base:Heap}{k:Nat}{f:Addr}{name qual:Str}{params:Arguments}{body:List Stmt}{scope:Scope}{dV kV doc pm gZ ct oc:Value}{an od:Option Addr}
 {Jv:Array (Option Value)} {N ps:List Str} {sp:Sp} (lk:K.lookup f=some ⟨oc,od, .func$ PySem.W.fnOf name qual params body scope dV kV doc pm an gZ ct,Jv⟩) (tT:PySem.W.codeIn K gZ qual=true) (S:aW N ps scope)
 (len:∀vs H Q E,sp vs H Q E->vs.length=ps.length)
 (jJ:∀(A:Around) (outer:List Env) (s:Qdg) (H:Hp) (vs:List V) (Q:VK) (E:XK),eU k (A.deeper$ envOfC qual scope s.heap.objs.size f gZ)->sp vs H Q E->
   ∃t,Cb (uI CX P w K mg base N qual scope f gZ A outer s H E) body t/\t {nx:=λ_ H'=>Q .cY H',rt:=Q} (start N vs) H) :
 jW P w K mg base CX (k+1) f (PySem.W.fnOf name qual params body scope dV kV doc pm an gZ ct) ps sp:=by
 refine⟨len,λA outer s H args us vs Q E hr e0 hb r TC=>?_⟩
 have hl:=len _ _ _ _ TC;have KX:K.In s.heap:=e0.mod.kin.keeps λb o e=>(e0.bs b o e).1
 have lim:s.heap.NoLimit:=e0.mod.nolimit.keeps λb o e=>(e0.bs b o e).1
 have hkind:∀y∈ps.zip us,scope.names.lookup y.1=some .local\/(scope.names.lookup y.1=some .cell/\((cellsFrom (s.heap.objs.size+1) scope.names []).lookup y.1).isSome=true):=λ⟨n,v⟩ hy=>by
  rcases S.par n (List.of_mem_zip hy).1 with q | q
  .exact .inl q
  .exact .inr ⟨q,PySem.W.cellsFrom_some _ _ _$ .inl q⟩
 refine codeAny_call_function hr.depth (KX _ _ lk) rfl S.co S.gen rfl (PySem.W.codeRec_of KX tT)$ hb _ _ _ _ ?_;refine wpAny_newFunctionEnv_cells S.kind hkind λenv he s1 x=>?_
 subst he;refine⟨lim.keeps x.toInCall.keep,codeAny_func ?_⟩;obtain⟨t,ht,hq⟩:=jJ A outer s H vs Q E (hr.deeper _) TC;have I:Inv (uI CX P w K mg base N qual scope f gZ A outer s H E) [] (start N vs) H s1:=HH S hr.hd e0 hl r x;refine Qb1 (ht [] s1 (start N vs) H _ I hq) (λfl s' hs=>?_) λe s' hs=>hs
 have fin:∀{dN:St} {H':Hp} {v:V} {u:Value},Inv (uI CX P w K mg base N qual scope f gZ A outer s H E) [] dN H' s'->RelV v u->Q v H'->CE outer P w H s Q u s':=
  fun {dN H' v u} J rv q=>⟨v,H',J.os,J.bare,J.base,J.hok,rv,q⟩
 cases fl with
 | ret u=>
   obtain⟨v,dN,H',J,rv,q⟩:=hs;exact fin J rv q
 | next=>
   obtain⟨dN,H',J,q⟩:=hs;exact fin (v:=V.cY) (u:=Value.none) J rfl q
 | brk=>
   obtain⟨_,_,_,q⟩:=hs;exact False.elim q
 | cont=>
   obtain⟨_,_,_,q⟩:=hs;exact False.elim q
section
variable {X:Cx}{x:Str}{p pos:Pos}{e:Expr}{es:List Expr}{t:TA}{id T:String}{r:List V->Hp->VK->Prop}
def Y5(r:List V->Hp->VK->Prop)(t:TA):TE:=λσ H Q=>t σ H λvs H1=>r vs H1 Q
def KL(hc:oq X (.builtin id) r)(hg:Gl X x)(hm:X.mg x=none)(hv:bootBuiltins x=some (.builtin id))(ha:PA X (e ::es) t)(hn:x≠"__name__":=by decide)(uQ:(x==("__debug__":Str))=false:=by decide)
 (he:starEach (e ::es) X.env=(false,eval e X.env) ::starEach es X.env:=by rfl) (j_:(backTo pos$ starEach es X.env).any (·.1)=false:=by rfl):PE X (.Call (.Name x p) (e ::es) [] pos) (Y5 r t):=by
 intro pins s σ H Q I h;refine QbR$ jK I hg hm hv ?_ hn uQ;exact PyProof.Rows.callWith_builtin1 (d9 (ha pos pins s σ H _ I h) λus s1 ⟨vs,H1,I1,r1,q1⟩=>hc pins s1 σ H1 vs us Q I1 r1 q1) he j_
def zt(hc:oq X (.type T) r)(hg:Gl X x)(hm:X.mg x=none)(hv:bootBuiltins x=some (.type T))(ha:PA X (e ::es) t)(hn:x≠"__name__":=by decide)(uQ:(x==("__debug__":Str))=false:=by decide)
 (he:starEach (e ::es) X.env=(false,eval e X.env) ::starEach es X.env:=by rfl) (j_:(backTo pos$ starEach es X.env).any (·.1)=false:=by rfl):PE X (.Call (.Name x p) (e ::es) [] pos) (Y5 r t):=by
 intro pins s σ H Q I h;refine QbR$ jK I hg hm hv ?_ hn uQ;exact QaX (d9 (ha pos pins s σ H _ I h) λus s1 ⟨vs,H1,I1,r1,q1⟩=>hc pins s1 σ H1 vs us Q I1 r1 q1) he j_
end
section
variable {κ:Type}[DecidableEq κ]
noncomputable def i4(kvs:List (κ × V))(k:κ):Option V:=(kvs.find? λkv=>decide$ kv.1=k).map (·.2)
noncomputable def putK(kvs:List (κ × V))(k:κ)(v:V):List (κ × V):=
 if(kvs.any λkv=>decide$ kv.1=k)=true then kvs.map (λkv=>if kv.1=k then(kv.1,v) else kv) else kvs++[(k,v)]
noncomputable def L_(kvs:List (κ × V))(k:κ):List (κ × V):=kvs.filter λkv=>decide$ kv.1≠k
def xi{p:κ × V}{r:List (κ × V)}{k:κ}(e:p.1=k):i4 (p ::r) k=some p.2:=by simp [i4,Qbf,e]
def xA{p:κ × V}{r:List (κ × V)}{k:κ}(e:¬p.1=k):i4 (p ::r) k=i4 r k:=by simp [i4,Qbf,e]
theorem DW(k:κ):∀kvs:List (κ × V),(kvs.any λkv=>decide$ kv.1=k)=(i4 kvs k).isSome
 | []=>rfl
 | p ::r=>by
   rw[Qbt];by_cases e:p.1=k
   .simp only[xi e,Qat e,Bool.true_or,Option.isSome_some]
   .rw [xA e,Qaw e,Bool.false_or];exact DW k r
def pA(kvs:List (κ × V))(k:κ)(v:V):(putK kvs k v).length<=kvs.length+1:=by
 unfold putK;split
 .rw [Qaa];omega
 .rw [Qai,Qao,Qbw];omega
def oA.mL{o:Option V}{u:Option Value}(r:oA o u):o.isSome=u.isSome:=by
 cases o with
 | none=>cases u with
   | none=>rfl
   | some _=>exact(show False from r).elim
 | some _=>cases u with
   | none=>exact(show False from r).elim
   | some _=>rfl
def oA.getD{o:Option V}{u:Option Value}{d:V}{d':Value}(r:oA o u)(rd:RelV d d'):RelV (o.getD d) (u.getD d'):=by
 cases o with
 | none=>cases u with
   | none=>exact rd
   | some _=>exact(show False from r).elim
 | some _=>cases u with
   | none=>exact(show False from r).elim
   | some _=>exact r
def KV.val{kvs:List (κ × V)}{vs:List (κ × Value)}(r:KV kvs vs)(k:κ):oA (i4 kvs k) (valueAt vs k):=by
 unfold KV at r
 induction r with
 | nil=>exact True.intro
 | @cons p q ps qs h t ih=>
   obtain⟨h1,h2⟩:=h;by_cases e:p.1=k
   .have e':q.1=k:=h1.symm.trans e;have b:valueAt (q ::qs) k=some q.2:=by simp [valueAt,Qbf,e']
    rw[xi e,b];exact h2
   .have e':¬q.1=k:=λz=>e (h1.trans z)
    have b:valueAt (q ::qs) k=valueAt qs k:=by simp [valueAt,Qbf,e']
    rw[xA e,b];exact ih
def KV.any{kvs:List (κ × V)}{vs:List (κ × Value)}(r:KV kvs vs)(k:κ):(kvs.any λkv=>decide$ kv.1=k)=vs.any λkv=>decide (kv.1=k):=by
 unfold KV at r
 induction r with
 | nil=>rfl
 | cons h t ih=>rw [Qbt,Qbt,ih,h.1]
def KV.RS{kvs:List (κ × V)}{vs:List (κ × Value)}(r:KV kvs vs)(k:κ){y:V}{u:Value}(ry:RelV y u) :
 KV (kvs.map λkv=>if kv.1=k then(kv.1,y) else kv) (vs.map λkv=>if kv.1=k then(kv.1,u) else kv):=by
 unfold KV at r ⊢
 induction r with
 | nil=>exact .nil
 | @cons p q ps qs h t ih=>
   rw[Qaz,Qaz];refine .cons ?_ ih;obtain⟨h1,h2⟩:=h;by_cases e:p.1=k
   .rw [QaK e,QaK$ h1.symm.trans e];exact⟨h1,ry⟩
   .rw [QaH e,QaH$ λz=>e$ h1.trans z];exact⟨h1,h2⟩
def KV.put{kvs:List (κ × V)}{vs:List (κ × Value)}(r:KV kvs vs)(k:κ){y:V}{u:Value}(ry:RelV y u):KV (putK kvs k y) (stored vs k u):=by
 unfold putK stored;rw[r.any k];by_cases e:(vs.any λkv=>decide$ kv.1=k)=true
 .rw [QaK e,QaK e];exact r.RS k ry
 .rw [QaH e,QaH e];exact Paired.snoc r ⟨rfl,ry⟩
def KV.length{kvs:List (κ × V)}{vs:List (κ × Value)}(r:KV kvs vs):kvs.length=vs.length:=Paired.length r
end
def yg{k:Key}{u:Value}(r:RelV (kV k) u):(dF P w).is k u=true:=by
 cases k with
 | inl i=>obtain⟨t,e⟩:=(show ∃t,u=Value.int i t from r);subst e;exact Dm P w i t
 | inr x=>obtain⟨t,e⟩:=(show ∃t,u=Value.str x t from r);subst e;exact Df P w x t
theorem Ae:∀{ks:List Key} {us:List Value},Vals (ks.map kV) us->ItemsAre (dF P w) ks us
 | [],_,r=>by rw[Qcn] at r;cases r;exact .nil
 | k ::ks,_,r=>by
   rw[Qaz] at r;cases r with
   | cons h t=>exact .cons (yg h)$ Ae t
abbrev KT(H:Hp):List (List Key × V)->List (List Key × Addr × Value)->Prop:=Paired fun p q=>p.1=q.1/\H q.2.1=some (.tup$ p.1.map kV)/\RelV p.2 q.2.2
def KT.val{kvs:List (List Key × V)}{xs:List (List Key × Addr × Value)}(r:KT H kvs xs)(k:List Key):oA (i4 kvs k) ((atKey xs k).map (·.2)):=by
 induction r with
 | nil=>exact True.intro
 | @cons p q ps qs h t ih=>
   obtain⟨h1,_,h2⟩:=h;by_cases e:p.1=k
   .have e':q.1=k:=h1.symm.trans e;have b:atKey (q ::qs) k=some q.2:=by simp [atKey,Qbf,e']
    rw[xi e,b];exact h2
   .have e':¬q.1=k:=λz=>e (h1.trans z)
    have b:atKey (q ::qs) k=atKey qs k:=by simp [atKey,Qbf,e']
    rw[xA e,b];exact ih
def KT.RS{kvs:List (List Key × V)}{xs:List (List Key × Addr × Value)}(r:KT H kvs xs)(k:List Key){y:V}{u:Value}(ry:RelV y u) :
 KT H (kvs.map λkv=>if kv.1=k then(kv.1,y) else kv) (xs.map$ putAt k u):=by
 induction r with
 | nil=>exact .nil
 | @cons p q ps qs h t ih=>
   rw[Qaz,Qaz];refine .cons ?_ ih;obtain⟨h1,h2,h3⟩:=h;unfold putAt;by_cases e:p.1=k
   .rw [QaK e,QaK$ h1.symm.trans e];exact⟨h1,h2,ry⟩
   .rw [QaH e,QaH$ λz=>e$ h1.trans z];exact⟨h1,h2,h3⟩
def KT.put{H:Hp}{kvs:List (List Key × V)}{xs:List (List Key × Addr × Value)}(r:KT H kvs xs)(k:List Key){b:Addr}{y:V}{u:Value}(hb:H b=some (.tup$ k.map kV))(ry:RelV y u) :
 KT H (putK kvs k y) (storedH xs k b u):=by
 have e:(kvs.any λkv=>decide$ kv.1=k)=(atKey xs k).isSome:=by
  rw[DW,(r.val k).mL,Qcw]
 unfold putK storedH;rw[e];by_cases q:(atKey xs k).isSome=true
 .rw [QaK q,QaK q];exact r.RS k ry
 .rw [QaH q,QaH q];exact Paired.snoc r ⟨rfl,hb,ry⟩
def KT.keeps{H H':Hp}{kvs:List (List Key × V)}{xs:List (List Key × Addr × Value)}(r:KT H kvs xs)(ht:∀b ys,H b=some (.tup ys)->H' b=some (.tup ys)):KT H' kvs xs:=
 Paired.QU r λ_ _ z=>⟨z.1,ht _ _ z.2.1,z.2.2⟩
section
variable {P:Program}{w:World}{H:Hp}{h:Heap}{a:Addr}
def P6{u:HO}(ok:ql P w H h)(e:Rd H a u):e8 P w H h a u:=e.ok ok
def ya{kvs:List (Key × V)}(ok:ql P w H h)(e:Rd H a (.dK kvs)):kvs.length<=sizeLine/\(a==sysModules)=false/\∃vs,KV kvs vs/\h.DictOf (dF P w) a vs:=
 show e8 P w H h a (.dK kvs) from P6 ok e
def Qf{kvs:List (Key × V)}(ok:ql P w H h)(e:H a=some (.dK kvs)):kvs.length<=sizeLine/\(a==sysModules)=false/\∃vs,KV kvs vs/\h.DictOf (dF P w) a vs:=ya ok$ .inl e
def uf{ks:List Key}(ok:ql P w H h)(e:H a=some (.tup$ ks.map kV)):(tupleKind$ dF P w).is h ks a:=by
 obtain⟨_,its,r,o,h1,h2,n,h3⟩:=(show e8 P w H h a (.tup$ ks.map kV) from ok a _ e)
 exact⟨o,its.toArray,n,h1,h2,h3,by simpa using Ae r⟩
def x_{kvs:List (List Key × V)}(ok:ql P w H h)(e:Rd H a (.dT kvs)):kvs.length<=sizeLine/\(a==sysModules)=false/\
 ∃xs,KT H kvs xs/\h.DictOfH (tupleKind$ dF P w) a xs:=by
 obtain⟨z,y,xs,r,o,es,ep,h1,h2,h3,h4,h5⟩:=(show e8 P w H h a (.dT kvs) from P6 ok e)
 refine⟨z,y,xs,r,o,es,ep,h1,h2,h3,h4,λx hx=>?_,h5⟩
 have all:∀{l:List (List Key × V)} {m:List (List Key × Addr × Value)},KT H l m->∀x∈m,(tupleKind$ dF P w).is h x.1 x.2.1:=by
  intro l m q
  induction q with
  | nil=>intro x hx;exact nomatch hx
  | @cons p q ps qs hq t ih=>
    intro x hx;rcases QaE.mp hx with e | hx
    .subst e;exact uf ok (by rw[<-hq.1];exact hq.2.1)
    .exact ih x hx
 exact all r x hx
def U_{kvs:List (List Key × V)}(ok:ql P w H h)(e:H a=some (.dT kvs)):kvs.length<=sizeLine/\(a==sysModules)=false/\
 ∃xs,KT H kvs xs/\h.DictOfH (tupleKind$ dF P w) a xs:=x_ ok$ .inl e
end
def pk(H:Hp)(a:Addr)(y:V)(r:Option V):Prop:=
 (∃kvs k,Rd H a (.dK kvs)/\y=kV k/\r=i4 kvs k)\/∃kvs k b,Rd H a (.dT kvs)/\y= .ref b/\H b=some (.tup$ k.map kV)/\r=i4 kvs k
def HG(H:Hp)(a:Addr)(y v:V)(H':Hp):Prop:=
 (∃kvs k,H a=some (.dK kvs)/\y=kV k/\kvs.length<sizeLine/\H'=upd H a (.dK$ putK kvs k v))\/
 ∃kvs k b,H a=some (.dT kvs)/\y= .ref b/\H b=some (.tup$ k.map kV)/\kvs.length<sizeLine/\H'=upd H a (.dT$ putK kvs k v)
def pk.k{H:Hp}{a:Addr}{kvs:List (Key × V)}{k:Key}(e:H a=some (.dK kvs)):pk H a (kV k) (i4 kvs k):= .inl ⟨kvs,k, .inl e,rfl,rfl⟩
def HG.k{H:Hp}{a:Addr}{kvs:List (Key × V)}{k:Key}{v:V}(e:H a=some (.dK kvs))(hl:kvs.length<sizeLine):HG H a (kV k) v (upd H a$ .dK$ putK kvs k v):= .inl ⟨kvs,k,e,rfl,hl,rfl⟩
section
variable {X:Cx}{pins:Aaa}{σ:St}{H:Hp}{s:Qdg}{a:Addr}{y v:V}{u r:Value}{o:Option V}{A:Around}{E:Aab}
def Inv.big(I:Inv X pins σ H s):sysModules<s.heap.objs.size:=by
 have h:mainGlobals<s.heap.objs.size:=(I.mod.glob.keeps I.bk).lt;exact Nat.lt_trans (by decide) h
def HN{Q:Aab}(hu:A.units+1<cLine)(I:Inv X pins σ H s)(g:pk H a y (some v))(ry:RelV y u)(h:∀w' s',Inv X pins σ H s'->RelV v w'->Q w' s') :
 wpAny (model X.prog X.w) A (getItem (.ref a) u) Q E s:=by
 rcases g with⟨kvs,k,e,ey,l⟩ | ⟨kvs,k,b,e,ey,eb,l⟩
 .subst ey;obtain⟨z,hd,vs,rel,dd⟩:=ya I.hok e;obtain⟨w',hw,El⟩:=oA.some_of (v:=v) (o:=valueAt vs k) (by rw[l];exact rel.val k)
  exact wpAny_getItem_of (yg ry) dd.mapOf hw$ h w' _ (I.tok _) El
 .subst ey;cases(show u=Value.ref b from ry)
  obtain⟨z,hd,xs,rel,dd⟩:=x_ I.hok e;obtain⟨w',hw,El⟩:=oA.some_of (v:=v) (o:=(atKey xs k).map (·.2)) (by rw[l];exact rel.val k)
  obtain⟨p,hp,Mt⟩:=Option.map_eq_some_iff.mp hw;refine wpAny_getItem_heap (Qb3 hu) (uf I.hok eb) dd hp ?_;rw[Mt];exact h w' _ (I.tok _) El
def Xn{Q:Aab}(hu:A.units+1<cLine)(I:Inv X pins σ H s)(g:pk H a y o)(ry:RelV y u)(h:∀s',Inv X pins σ H s'->Q (.bool o.isSome) s') :
 wpAny (model X.prog X.w) A (compareOp .In u$ .ref a) Q E s:=by
 rcases g with⟨kvs,k,e,ey,l⟩ | ⟨kvs,k,b,e,ey,eb,l⟩
 .subst ey;obtain⟨z,hd,vs,rel,dd⟩:=ya I.hok e;refine wpAny_in_of (yg ry) hd dd.mapOf ?_;rw[<-(rel.val k).mL,<-l];exact h _$ I.tok _
 .subst ey;cases(show u=Value.ref b from ry)
  obtain⟨z,hd,xs,rel,dd⟩:=x_ I.hok e;refine wpAny_in_heap (Qb3 hu) (uf I.hok eb) hd dd ?_;have q:=(rel.val k).mL;rw[Qcw] at q;rw[<-q,<-l];exact h _$ I.tok _
def OE{Q:Aab}(hu:A.units+1<cLine)(I:Inv X pins σ H s)(g:pk H a y o)(ry:RelV y u)(h:∀s',Inv X pins σ H s'->Q (.bool$ !o.isSome) s') :
 wpAny (model X.prog X.w) A (compareOp .NotIn u$ .ref a) Q E s:=by
 rcases g with⟨kvs,k,e,ey,l⟩ | ⟨kvs,k,b,e,ey,eb,l⟩
 .subst ey;obtain⟨z,hd,vs,rel,dd⟩:=ya I.hok e;refine wpAny_notIn_of (yg ry) hd dd.mapOf ?_;rw[<-(rel.val k).mL,<-l];exact h _$ I.tok _
 .subst ey;cases(show u=Value.ref b from ry)
  obtain⟨z,hd,xs,rel,dd⟩:=x_ I.hok e;refine wpAny_notIn_heap (Qb3 hu) (uf I.hok eb) hd dd ?_;have q:=(rel.val k).mL;rw[Qcw] at q;rw[<-q,<-l];exact h _$ I.tok _
def A8{h':Heap}{t':Nat}{ob:HO}(I:Inv X pins σ H s)(mu:VE (H a))(hs:Heap.SameBut a s.heap h')(he:∃q,h'.get? a=some q)(new:e8 X.prog X.w (upd H a ob) h' a ob) :
 Inv X pins σ (upd H a ob) {s with heap:=h',toks:=t'}:=
 I.write (x:=a) (e:=a) mu (.inl rfl) (λb q hb z=>(hs.2 b hb).trans z) he new
def Lg{H':Hp}{h':Heap}{kvs:List (Key × V)}{vs:List (Key × Value)}(z:kvs.length<=sizeLine)(hd:(a==sysModules)=false)(rel:KV kvs vs)(dd:h'.DictOf (dF P w) a vs) :
 e8 P w H' h' a (.dK kvs):=⟨z,hd,vs,rel,dd⟩
def Jg{Q:Unit->Qdg->Prop}(hu:A.units+1<cLine)(I:Inv X pins σ H s)(g:HG H a y v H')(ry:RelV y u)(rv:RelV v r)(h:∀s',Inv X pins σ H' s'->Q () s') :
 wpAny (model X.prog X.w) A (setItem (.ref a) u r) Q E s:=by
 rcases g with⟨kvs,k,e,ey,l,eH⟩ | ⟨kvs,k,b,e,ey,eb,l,eH⟩
 .subst ey eH;obtain⟨z,hd,vs,rel,dd⟩:=Qf I.hok e;have hz:vs.length<=sizeLine:=by rw[<-rel.length];exact z
  have hl:(putK kvs k v).length<=sizeLine:=by have:=pA kvs k v;omega
  refine wpAny_setItem_pairs (hsz:=hz) (yg ry) dd λh' Tc hs=>h _ ?_
  have he:∃q,h'.get? a=some q:=let⟨q,_,_,hq,_⟩:=Tc;⟨q,hq⟩
  exact A8 I (by rw[e];exact True.intro) hs he$ Lg hl hd (rel.put k rv) Tc
 .subst ey eH;cases(show u=Value.ref b from ry)
  obtain⟨z,hd,xs,rel,dd⟩:=U_ I.hok e;have hz:xs.length<=sizeLine:=by rw[<-Paired.length rel];exact z
  have hl:(putK kvs k v).length<=sizeLine:=by have:=pA kvs k v;omega
  refine wpAny_setItem_heap (hsz:=hz) (Qb3 hu) (uf I.hok eb) dd λh' Tc hs=>h _ ?_
  obtain⟨q,es,ep,hq,h2,h3,h4,_,h5⟩:=Tc;refine A8 I (by rw[e];exact True.intro) hs ⟨q,hq⟩ ⟨hl,hd,_,(rel.put k eb rv).keeps λc ys ec=>?_,q,es,ep,hq,h2,h3,h4,h5⟩
  rw[bA$ UN ec e$ λz=>nomatch z]
  exact ec
end
def Sx(i:Expr):Prop:=∀ov iv,subscripted i false ov iv=operate [ov,iv] (getItem ov iv)
def Oi{prog:Program}{w:World}{A:Around}{E:Aab}{s:Qdg}{env:Env}{value slice:Expr}{pos:Pos}{T id:String}{Q:Aab}
 (hl:typeLookup (.type T) "__getitem__"=pure (some$ .builtin id)) (hs:Sx slice)
 (h:wpAny (model prog w) A (eval value env) (λo s₁=>wpAny (model prog w) A (eval slice env) (λi Ee=>Ee.TypeIs o T/\wpAny (model prog w) A (getItem o i) Q E Ee) E s₁) E s) :
 wpAny (model prog w) A (eval (.Subscript value slice pos) env) Q E s:=by
 refine Subscript_$ Qb1 h (λo s₁ i7=>Qb1 i7 (λi Ee gC=>?_) λ_ _ x=>x) λ_ _ x=>x
 obtain⟨hT,gC⟩:=gC;unfold subscriptTail;refine Qaf ?_;rw[getitemInPython_of_ne hT.not_modules];refine Qaf$ wpAny_specialOf hT hl ?_;have fin:wpAny (model prog w) A (subscripted slice false o i) (λr VZ=>wpAny (model prog w) A (letTemporaryGo value o r >>=λ_=>pure r) Q E VZ) E Ee:=by
  rw[hs o i];exact wpAny_operating$ Qb1 gC (λr VZ Jp=>Qaf$ wpAny_letTemporaryGo$ QaG Jp) λ_ _ x=>x
 first
  | exact QaG (Qaf fin)
  | exact Qaf (QaG$ Qaf fin)
  | exact Qaf fin
def Cv{X:Cx}{pins:Aaa}{s:Qdg}{a:Addr}{y:V}{o:Option V}(I:Inv X pins σ H s)(g:pk H a y o):s.TypeIs (.ref a) "dict":=by
 rcases g with⟨kvs,k,e,_,_⟩ | ⟨kvs,k,b,e,_,_,_⟩
 .obtain⟨_,_,vs,_,dd⟩:=ya I.hok e;exact dd.typeIs
 .obtain⟨_,_,xs,_,dd⟩:=x_ I.hok e;exact dd.typeIs
def Vq(td ty:TE):TE:=λσ H Q=>td σ H λx H1=>ty σ H1 λy H2=>∃a v,x= .ref a/\pk H2 a y (some v)/\Q v H2
def aa5(ty td:TE):TE:=λσ H Q=>ty σ H λy H1=>td σ H1 λx H2=>∃a o,x= .ref a/\pk H2 a y o/\Q (.bl o.isSome) H2
def WD(ty td:TE):TE:=λσ H Q=>ty σ H λy H1=>td σ H1 λx H2=>∃a o,x= .ref a/\pk H2 a y o/\Q (.bl$ !o.isSome) H2
def Us(td ty tv:TE):TS:=λD σ H=>tv σ H λv H1=>td σ H1 λx H2=>ty σ H2 λy H3=>∃a H4,x= .ref a/\HG H3 a y v H4/\D.nx σ H4
def Zy(td ty tv:TE)(rd:V->V->Hp->VK->Prop):TS:=λD σ H=>td σ H λx H1=>ty σ H1 λy H2=>∃a v,x= .ref a/\pk H2 a y (some v)/\
 tv σ H2 λy2 H3=>rd v y2 H3 λz H4=>∃H5,HG H4 a y z H5/\D.nx σ H5
def YW(td ty:TE):TS:=λD σ H=>td σ H λx H1=>ty σ H1 λy H2=>∃a kvs k,x= .ref a/\H2 a=some (.dK kvs)/\y=kV k/\(i4 kvs k).isSome=true/\D.nx σ (upd H2 a$ .dK$ L_ kvs k)
section
variable {X:Cx}{o i value:Expr}{pos pos':Pos}{td ty tv:TE}
def Nv(hu:X.A.units+1<cLine)(ho:PE X o td)(hi:PE X i ty)(hs:Sx i):PE X (.Subscript o i pos) (Vq td ty):=by
 intro pins s σ H Q I h;refine Oi PySem.F.slot_dict_getitem.lookup hs$ d9 (ho pins s σ H _ I h) λu s1 ⟨x,H1,I1,rx,q1⟩=>d9 (hi pins s1 σ H1 _ I1 q1) λiv s2 ⟨y,H2,I2,ry,a,v,ex,g,q2⟩=>?_
 subst ex;obtain rfl:u=Value.ref a:=rx;exact⟨Cv I2 g,HN hu I2 g ry λw' s3 I3 El=>⟨v,H2,I3,El,q2⟩⟩
def Ol(hu:X.A.units+1<cLine)(ho:PE X o td)(hi:PE X i ty)(hv:PE X value tv)(hs:swapsWith value (some$ .Subscript o i pos') pos.line X.env=pure false) :
 PS X (.Assign [.Subscript o i pos'] value pos) (Us td ty tv):=by
 intro pins s σ H D I h;refine wpAny_Assign_Subscript (d9 (hv pins s σ H _ I h) λr s1 ⟨v,H1,I1,rv,q1⟩=>d9 (ho pins s1 σ H1 _ I1 q1) λu s2 ⟨x,H2,I2,rx,q2⟩=>d9 (hi pins s2 σ H2 _ I2 q2) λiv s3 ⟨y,H3,I3,ry,a,H4,ex,g,q3⟩=>?_) hs
 subst ex;obtain rfl:u=Value.ref a:=rx;exact Jg hu I3 g ry rv λs4 I4=>⟨σ,H4,I4,q3⟩
end
def DY(h:Heap)(hb:sysModules<h.objs.size):e8 P w H (h.push {cls:= .type "dict",data:= .dict #[]}) h.objs.size (.dK []):=
 ⟨QbE _,QaZ.mpr$ QbM$ QaR hb,[], .nil,Heap.DictOf.new h⟩
def Rr:TE:=λ_ H Q=>∀p,H p=none->Q (.ref p) (upd H p$ .dK [])
def W9:TE:=λ_ H Q=>∀p,H p=none->Q (.ref p) (upd H p$ .dT [])
section
variable {X:Cx}{pos:Pos}
def L8:PE X (.Dict [] [] pos) Rr:=λpins s σ H Q I h=>
 wpAny_Dict_empty ⟨.ref s.heap.objs.size,_,I.laid (a:=s.heap.objs.size) (o:= .dK []) (t':=s.toks) (λ_ _ q=>Qah _ q) (Qak _)$ DY s.heap I.big,rfl,h _$ I.hok.fresh$ Qak _⟩
end
def AS:List (TE × TE)->St->Hp->(List (V × V)->Hp->Prop)->Prop
 | [],_,H,Q=>Q [] H
 | (tk,tv) ::r,σ,H,Q=>tk σ H λx H1=>tv σ H1 λy H2=>AS r σ H2 λps H3=>Q ((x,y) ::ps) H3
abbrev VV:List (V × V)->List (Value × Value)->Prop:=Paired fun p q=>RelV p.1 q.1/\RelV p.2 q.2
def T_(X:Cx)(pos:Pos)(keys:List (Option Expr))(values:List Expr)(Hj:List (TE × TE)):Prop:=
 ∀(pins:Aaa) (s:Qdg) (σ:St) (H:Hp) (Q:List (V × V)->Hp->Prop),Inv X pins σ H s->AS Hj σ H Q->
  wpAny (model X.prog X.w) X.A (evalPairs$ pairTrees keys values X.env pos) (λvs s'=>∃ps H',Inv X pins σ H' s'/\VV ps vs/\Q ps H') X.xe s
def Oj{X:Cx}:T_ X pos [] [] []:=λpins s σ H Q I h=>pairTrees_nil_walk ⟨[],H,I, .nil,h⟩
def LJ{X:Cx}{ks:List (Option Expr)}{tk tv:TE}{Hj:List (TE × TE)}(hk:PE X k tk)(hv:PE X v tv)(hr:T_ X pos ks vs Hj) :
 T_ X pos (some k ::ks) (v ::vs) ((tk,tv) ::Hj):=λpins s σ H Q I h=>
 pairTrees_cons_walk (d9 (hk pins s σ H _ I h) λu s1 ⟨x,H1,I1,rx,q1⟩=>d9 (hv pins s1 σ H1 _ I1 q1) λw2 s2 ⟨y,H2,I2,ry,q2⟩=>
  d9 (hr pins s2 σ H2 _ I2 q2) λws s3 ⟨ps,H3,I3,rel,q3⟩=>⟨(x,y) ::ps,H3,I3, .cons ⟨rx,ry⟩ rel,q3⟩)
def mm(kvs more:List (Key × V)):List (Key × V):=more.foldl (λacc kv=>putK acc kv.1 kv.2) kvs
def KV.merge:∀{more:List (Key × V)} {rs:List (Key × Value)} {kvs:List (Key × V)} {vs:List (Key × Value)},KV more rs->KV kvs vs->KV (mm kvs more) (merged vs rs):=by
 intro more rs kvs vs r;unfold KV at r
 induction r generalizing kvs vs with
 | nil=>intro q;exact q
 | @cons p q ps qs h t ih=>
   intro r0;have e:KV (putK kvs p.1 p.2) (stored vs q.1 q.2):=by
    have:=r0.put p.1 h.2;rw[<-h.1];exact this
   exact ih e
theorem qy:∀(more kvs:List (Key × V)),(mm kvs more).length<=kvs.length+more.length
 | [],kvs=>by show kvs.length<=kvs.length+0;omega
 | p ::r,kvs=>by
   have h1:=qy r$ putK kvs p.1 p.2;have h2:=pA kvs p.1 p.2;show(mm (putK kvs p.1 p.2) r).length<=_;rw[Qao];omega
theorem wL:∀{kvs:List (Key × V)} {ws:List (Value × Value)},VV (kvs.map λkv=>(kV kv.1,kv.2)) ws->∃rs,Carries (dF P w) ws rs/\KV kvs rs
 | [],_,r=>by rw[Qcn] at r;cases r;exact⟨[],True.intro, .nil⟩
 | p ::kvs,_,r=>by
   rw[Qaz] at r;cases r with
   | @cons a b as bs h t=>
     obtain⟨rs,c,q⟩:=wL (P:=P) (w:=w) t;obtain⟨b1,b2⟩:=b;exact⟨(p.1,b2) ::rs,⟨yg h.1,rfl,c⟩, .cons ⟨rfl,h.2⟩ q⟩
def Uj(Hj:List (TE × TE)):TE:=λσ H Q=>∀p,H p=none->AS Hj σ (upd H p$ .dK []) λps H2=>H2 p=some (.dK [])/\∃kvs:List (Key × V),ps=kvs.map (λkv=>(kV kv.1,kv.2))/\kvs.length<=15/\Q (.ref p) (upd H2 p$ .dK$ mm [] kvs)
def N9{X:Cx}{pos:Pos}{keys:List (Option Expr)}{values:List Expr}{Hj:List (TE × TE)}(h:T_ X pos keys values Hj)(Mn:keys.all (·.isSome)=true)(hl:keys.length=values.length)(h0:keys≠[])
 (YR:keys.length<=15):PE X (.Dict keys values pos) (Uj Hj):=by
 intro pins s σ H Q I q;have hn:=I.hok.fresh$ Qak s.heap.objs.size;have I1:=I.laid (a:=s.heap.objs.size) (o:= .dK []) (h':=s.heap.push {cls:= .type "dict",data:= .dict #[]}) (t':=s.toks) (λ_ _ q=>Qah _ q) (Qak _)$ DY s.heap I.big
 refine wpAny_Dict_walk (knd:=dF X.prog X.w) Mn hl h0 YR$ d9 (h pins _ σ _ _ I1$ q _ hn) λws s2 ⟨ps,H2,I2,rel,e,kvs,ep,lk,q2⟩=>?_
 subst ep;obtain⟨rs,c,rk⟩:=wL (P:=X.prog) (w:=X.w) rel;obtain⟨z,hd,vs0,r0,dd⟩:=Qf I2.hok e;cases r0;refine⟨rs,c,dd,λh' Tc hs=>⟨.ref s.heap.objs.size,_,?_,rfl,q2⟩⟩
 have hz:(mm [] kvs).length<=sizeLine:=by
  have h1:=qy kvs [];rw[Qbw] at h1;rw[Qas];omega
 have he:∃q,h'.get? s.heap.objs.size=some q:=let⟨q,_,_,hq,_⟩:=Tc;⟨q,hq⟩
 exact A8 I2 (by rw[e];exact True.intro) hs he$ Lg hz hd (rk.merge .nil) Tc
structure M1 (X:Cx) (o:Expr) (m:Str) (apos:Pos) (e:Expr) (cH:Pos):Prop where
 base:attributeBase o m X.env (eval o X.env)=eval o X.env
 few:((backTo cH (starEach [e] X.env)).all (fun x=>!x.1) && (backToKw cH (keywordEach [] X.env)).all (fun x=>x.1.isSome)
  && decide (([e]:List Expr).length+([]:List Keyword).length+(if([]:List Keyword).isEmpty then 0 else 1)<30))=true
 line:(apos.endLine==cH.line)=true
 trees:backTo cH (starEach [e] X.env)=[(false,eval e X.env)]
structure M2 (X:Cx) (o:Expr) (m:Str) (apos:Pos) (e f:Expr) (cH:Pos):Prop where
 base:attributeBase o m X.env (eval o X.env)=eval o X.env
 few:((backTo cH (starEach [e,f] X.env)).all (fun x=>!x.1) && (backToKw cH (keywordEach [] X.env)).all (fun x=>x.1.isSome)
  && decide (([e,f]:List Expr).length+([]:List Keyword).length+(if([]:List Keyword).isEmpty then 0 else 1)<30))=true
 line:(apos.endLine==cH.line)=true
 trees:backTo cH (starEach [e,f] X.env)=[(false,eval e X.env),(false,eval f X.env)]
def VT(H:Hp)(a:Addr):Prop:=(∃kvs,Rd H a$ .dK kvs)\/∃kvs,Rd H a$ .dT kvs
def Ry{X:Cx}{pins:Aaa}{s:Qdg}{a:Addr}(I:Inv X pins σ H s)(d:VT H a) :
 s.TypeIs (.ref a) "dict"/\(∀b,Value.ref a= .ref b->∃ob,s.heap.get? b=some ob/\ob.dict=none)/\(a==sysModules)=false:=by
 rcases d with⟨kvs,e⟩ | ⟨kvs,e⟩
 .obtain⟨_,hd,vs,_,dd⟩:=ya I.hok e;refine⟨dd.typeIs,λb q=>?_,hd⟩
  cases q;obtain⟨ob,_,_,h1,h2,_⟩:=dd;exact⟨ob,h1,h2.2.1⟩
 .obtain⟨_,hd,xs,_,dd⟩:=x_ I.hok e;refine⟨dd.typeIs,λb q=>?_,hd⟩
  cases q;obtain⟨ob,_,_,h1,h2,_⟩:=dd;exact⟨ob,h1,h2.2.1⟩
section
variable {X:Cx}{pins:Aaa}{σ:St}{H:Hp}{s:Qdg}{a:Addr}{y d:V}{u r:Value}{o:Option V}{A:Around}{E:Aab}
def Rw{Q:Aab}(hu:A.units+1<cLine)(I:Inv X pins σ H s)(g:pk H a y o)(ry:RelV y u)(rd:RelV d r)(h:∀w' s',Inv X pins σ H s'->RelV (o.getD d) w'->Q w' s') :
 wpAny (model X.prog X.w) A (call (.builtin "dict.get") [.ref a,u,r]) Q E s:=by
 rcases g with⟨kvs,k,e,ey,l⟩ | ⟨kvs,k,b,e,ey,eb,l⟩
 .subst ey;obtain⟨z,hd,vs,rel,dd⟩:=ya I.hok e;refine call_meetsIn QcC dd.typeIs PySem.F.entry_dict_get (PySem.F.args_dict_get_3 _ _ _) (meets_dict_get_default (dF X.prog X.w) a (yg ry) hd r) ⟨_,dd.mapOf,h _ _ (I.tok _) ?_⟩;rw[l];exact(rel.val k).getD rd
 .subst ey;cases(show u=Value.ref b from ry)
  obtain⟨z,hd,xs,rel,dd⟩:=x_ I.hok e;refine call_meetsIn QcC dd.typeIs PySem.F.entry_dict_get (PySem.F.args_dict_get_3 _ _ _) (meetsH_dict_get_default (tupleKind$ dF X.prog X.w) a b hd r) ⟨Qb3 hu,k,xs,uf I.hok eb,dd,h _ _ (I.tok _) ?_⟩;rw[l];exact(rel.val k).getD rd
end
def Xe(td ty:TE):TE:=λσ H Q=>td σ H λx H1=>∃a,x= .ref a/\VT H1 a/\ty σ H1 λy H2=>∃o,pk H2 a y o/\Q (o.getD .cY) H2
def SJ(td ty tx:TE):TE:=λσ H Q=>td σ H λx H1=>∃a,x= .ref a/\VT H1 a/\ty σ H1 λy H2=>tx σ H2 λz H3=>∃o,pk H3 a y o/\Q (o.getD z) H3
def XZ(td ty:TE):TE:=λσ H Q=>td σ H λx H1=>∃a,x= .ref a/\VT H1 a/\ty σ H1 λy H2=>∃kvs k v,H2 a=some (.dK kvs)/\y=kV k/\i4 kvs k=some v/\Q v (upd H2 a$ .dK$ L_ kvs k)
def Xr(td ty tx:TE):TE:=λσ H Q=>td σ H λx H1=>∃a,x= .ref a/\VT H1 a/\ty σ H1 λy H2=>tx σ H2 λz H3=>∃kvs k,H3 a=some (.dK kvs)/\y=kV k/\
 (∀v,i4 kvs k=some v->Q v (upd H3 a$ .dK$ L_ kvs k))/\(i4 kvs k=none->Q z H3)
section
variable {X:Cx}{o e f:Expr}{apos cH:Pos}{td ty tx:TE}
def JZ(hu:X.A.units+1<cLine)(ho:PE X o td)(he:PE X e ty)(hf:PE X f tx)(m:M2 X o "get" apos e f cH):PE X (.Call (.Attribute o "get" apos) [e,f] [] cH) (SJ td ty tx):=by
 intro pins s σ H Q I h;refine wpAny_Call_method m.base m.few m.line PySem.F.plainAttrs_dict QcC PySem.F.type_dict_get$ d9 (ho pins s σ H _ I h) λu s1 ⟨x,H1,I1,rx,a,ex,d,q1⟩=>?_
 subst ex;obtain rfl:u=Value.ref a:=rx;obtain⟨t1,t2,_⟩:=Ry I1 d;refine⟨t1,t2,?_⟩;rw[m.trees];refine Calls.callWith_builtin rfl (Calls.evalArgs_plain (Qb2 (d9 (he pins s1 σ H1 _ I1 q1) λiv s2 ⟨y,H2,I2,ry,q2⟩=>
  Qb2 (d9 (hf pins s2 σ H2 _ I2 q2) λfv s3 ⟨z,H3,I3,rz,ov,g,q3⟩=>Qcv ?_))))
 exact Rw hu I3 g ry rz λw' s4 I4 El=>⟨_,H3,I4,El,q3⟩
end
end L2
namespace HT
open PySem PyProof.Rows
noncomputable def lexLt:List Int->List Int->Bool
 | [],[]=>false
 | [],_ ::_=>true
 | _ ::_,[]=>false
 | x ::xs,y ::ys=>if x=y then lexLt xs ys else decide (x<y)
def EM(x y:Int)(xs ys:List Int):lexLt (x ::xs) (y ::ys)=if x=y then lexLt xs ys else decide (x<y):=rfl
def zj:lexLt [] []=false:=rfl
def wM(y:Int)(ys:List Int):lexLt [] (y ::ys)=true:=rfl
def xU(x:Int)(xs:List Int):lexLt (x ::xs) []=false:=rfl
def Lo(A:Around)(s:Qdg)(a:Int)(t:Tok)(c:Int)(u:Tok):∃e,SeqAt.EqAt A s (.int a t) (.int c u) e/\(e=true↔a=c):=
 ⟨(a==c),SeqAt.EqAt.int_int a t c u,by simp⟩
def Ls(A:Around)(s:Qdg)(a:Int)(t:Tok)(c:Int)(u:Tok)(prog:Program)(w:World)(E:Aab)(Q:Aab)(h:Q (.bool$ decide$ a<c) s) :
 wpAny (model prog w) A (richCompare .Lt (.int a t)$ .int c u) Q E s:=
 (PyProof.Rows.lt_int h:wpAny (model prog w) A (compareOp .Lt (.int a t)$ .int c u) Q E s)
section
open PySem.SeqAt
open PySem.AutoSeq1 (wpAny_loadPart')
open PySem.MeetsSeq PySem.MeetsSeq2 PySem.MeetsSeq3
def yV(l b:Addr)(items dM:Array Value)(n n2:Nat)(dd Qm:Option Addr)(sl MV:Array (Option Value))(ns ms:List Int)(hi:IntsAre items.toList ns)(hj:IntsAre dM.toList ms) :
 Meets (Builtin.«tuple.__lt__» ⟨[.ref l, .ref b],[]⟩)
  (λ_ R s=>s.heap.get? l=some {cls:= .type "tuple",dict:=dd,data:= .seq items n,slots:=sl}/\s.heap.get? b=some {cls:= .type "tuple",dict:=Qm,data:= .seq dM n2,slots:=MV}/\
    R (.ok$ .ret$ .bool$ lexLt ns ms) s):=
 .of_wp λprog w A R s h=>by
   obtain⟨hp,g,d,tk,os⟩:=s;obtain⟨hl,hb,h⟩:=h;have f2:=AutoSeq1.sub_tuple_tuple;have z1:items.size=ns.length:=by rw[<-hi.length];simp
   have z2:dM.size=ms.length:=by rw[<-hj.length];simp
   wp_walk using wpAny_loadPart' hl,wpAny_loadPart' hb,wpAny_forIn_list _ (λrest b s'=>b.1=none/\s'=⟨hp,g,d,tk,os⟩/\∃(vs ws:List Value) (TQ TR:List Int),rest=vs.zip ws/\
    IntsAre vs TQ/\IntsAre ws TR/\TQ.length+dM.size=TR.length+items.size/\R (.ok$ .ret$ .bool$ lexLt TQ TR) ⟨hp,g,d,tk,os⟩) _
   case turn=>
    rintro⟨y,x⟩ rest b s' ⟨yy,rfl,vs,ws,TQ,TR,hz,hvi,hwi,hlen,hR⟩;cases hvi with
    | nil=>rw [List.zip_nil_left] at hz;cases hz
    | cons a t YC=>
      cases hwi with
      | nil=>rw [List.zip_nil_right] at hz;cases hz
      | cons c u Yg=>
        rw[Qco] at hz;injection hz with hyx hrest
        injection hyx with hy hx
        subst hy hx;rw[EM] at hR;simp only[Qao] at hlen;obtain⟨e,he,hiff⟩:=Lo A.in1 ⟨hp,g,d,tk,os⟩ a t c u;refine Qaf$ he prog w _ _ ?_;cases e with
        | true=>
          rw[QaK$ hiff.mp rfl] at hR
          wp_walk
          exact⟨rfl,rfl,_,_,_,_,hrest,YC,Yg,by omega,hR⟩
        | false=>
          rw[QaH$ λq=>absurd (hiff.mpr q) QaJ] at hR
          have hri:=Ls A.in1 ⟨hp,g,d,tk,os⟩ a t c u prog w
          wp_walk using hri
          exact⟨_,rfl,by simpa using hR⟩
   case fin=>
    rintro⟨b1,b2⟩ s' ⟨yy,rfl,vs,ws,TQ,TR,hz,hvi,hwi,hlen,hR⟩;simp only at yy;subst yy;have hv:lexLt TQ TR=decide (items.size<dM.size):=by
     cases hvi with
     | nil=>
       cases hwi with
       | nil=>
         simp only[Qbw] at hlen;rw[zj];exact(Qaw$ by omega).symm
       | cons c u hw=>
         simp only[Qbw,Qao] at hlen;rw[wM];exact(Qat$ by omega).symm
     | cons a t hv=>
       cases hwi with
       | nil=>
         simp only[Qbw,Qao] at hlen;rw[xU];exact(Qaw$ by omega).symm
       | cons c u hw=>
         rw[Qco] at hz;cases hz
    rw[hv] at hR
    wp_walk
    exact⟨_,rfl,by simpa [Builtin.Tuple.tupleCompareSizes] using hR⟩
   case h=>
    exact⟨rfl,rfl,items.toList,dM.toList,ns,ms,rfl,hi,hj,by omega,h⟩
end
section
variable {prog:Program}{w:World}{A:Around}{E:Aab}{s:Qdg}
def Fv{l b:Addr}{items dM:Array Value}{ns ms:List Int}{Q:Aab}(hl:IsTup s.heap l items)(hb:IsTup s.heap b dM)(hi:IntsAre items.toList ns)(hj:IntsAre dM.toList ms)
 (hu:A.units<cLine) (h:Q (.bool$ lexLt ns ms) s):wpAny (model prog w) A (compareOp .Lt (.ref l)$ .ref b) Q E s:=by
 obtain⟨⟨cls,dd,data,sl⟩,ho,hc,n,hd⟩:=id hl;obtain⟨⟨Wl,Qm,data2,MV⟩,Jm,Ei,n2,hd2⟩:=id hb;simp only at hc hd Ei hd2;subst hc hd Ei hd2;exact richCompare_meets_room (op:= .Lt) ⟨_,ho,rfl⟩ ⟨_,Jm,rfl⟩ PySem.F.slot_tuple_lt PySem.F.entry_tuple_lt (PySem.F.args_tuple_lt_2 _ _) (yV l b items dM n n2 dd Qm sl MV ns ms hi hj)
  ⟨ho,Jm,show Value.bool (lexLt ns ms)≠Value.notImplemented/\Q (.bool$ lexLt ns ms) s from⟨(λx=>nomatch x),h⟩⟩ hu
def Pc{t b:Addr}{vs ws:List Value}{Q:Aab}(ht:IsTup s.heap t vs.toArray)(hb:IsTup s.heap b ws.toArray)(hv:vs≠[])
 (h1:ws=[]->Q (.ref t) s) (h2:ws≠[]->Q (.ref s.heap.objs.size) {s with heap:=s.heap.push {cls:= .type "tuple",data:= .seq (vs++ws).toArray}})
 (hsz:vs.length+ws.length<=sizeLine):wpAny (model prog w) A (binaryOp .Add (.ref t)$ .ref b) Q E s:=by
 obtain⟨⟨cls,dd,data,sl⟩,ho,hc,n,hd⟩:=id ht;obtain⟨⟨Wl,Qm,data2,MV⟩,Jm,Ei,n2,hd2⟩:=id hb;simp only at hc hd Ei hd2;subst hc hd Ei hd2;have e:vs.toArray++ws.toArray=(vs++ws).toArray:=by simp
 by_cases hw:ws=[]
 .exact concat_meets ⟨_,ho,rfl⟩ ⟨_,Jm,rfl⟩ noFill_tuple_add seq_tuple_add Qcz Qct (Qcp _ _)
   (tuple_addW1 t b vs.toArray ws.toArray n n2 dd Qm sl MV (by simpa using hv) (by simp [hw])) ⟨ho,Jm,h1 hw⟩
 .refine concat_meets ⟨_,ho,rfl⟩ ⟨_,Jm,rfl⟩ noFill_tuple_add seq_tuple_add Qcz Qct (Qcp _ _)
   (tuple_addW2 t b vs.toArray ws.toArray n n2 dd Qm sl MV (by simpa using hv) (by simpa using hw) (by rw[Qay,Qay];exact hsz)) ⟨ho,Jm,?_⟩
  rw[e];exact h2 hw
noncomputable def g7(n d:Nat):Option Int->Nat
 | none=>d
 | some v=>if v<0 then(v+(n:Int)).toNat else min v.toNat n
def Cz(n d:Nat):g7 n d none=d:=rfl
def G5(n d k:Nat):g7 n d (some (k:Int))=min k n:=by
 show(if(k:Int)<0 then((k:Int)+(n:Int)).toNat else min (k:Int).toNat n)=min k n
 rw[QaH (by omega),Qbg]
def Rn(n d:Nat)(hd:d<=n)(o:Option Int):g7 n d o<=n:=by
 cases o with
 | none=>exact hd
 | some v=>
   show(if v<0 then(v+(n:Int)).toNat else min v.toNat n)<=n
   by_cases hv:v<0
   .rw [QaK hv];omega
   .rw [QaH hv];exact Nat.min_le_right _ _
def F7(v:Int)(n d:Nat):(if v<0 then max (v+(n:Int)) 0 else min v (n:Int))=((g7 n d (some v):Nat):Int):=by
 show(if v<0 then max (v+(n:Int)) 0 else min v (n:Int))=(((if v<0 then(v+(n:Int)).toNat else min v.toNat n):Nat):Int)
 by_cases hv:v<0
 .simp only[QaK hv];omega
 .simp only[QaH hv];omega
def Et(lo hi:Option Int)(n:Nat):Builtin.Slice.sliceAdjust lo hi 1 (n:Int)=(((g7 n 0 lo:Nat):Int),((g7 n n hi:Nat):Int)):=by
 have h1:¬((1:Int)<0):=by omega
 unfold Builtin.Slice.sliceAdjust;simp only[h1,if_false];refine Prod.ext ?_ ?_
 .cases lo with
  | none=>rfl
  | some v=>exact F7 v n 0
 .cases hi with
  | none=>rfl
  | some v=>exact F7 v n n
def Ew(i j:Nat):Builtin.Slice.slicePlaces (i:Int) (j:Int) 1=j - i:=by
 unfold Builtin.Slice.slicePlaces;have h1:(1:Int) > 0:=by omega
 simp only[h1,QbN,Int.ediv_one];split <;> omega
def xn{v:Value}{o:Option Int}{Q:Option Int->Qdg->Prop}(p:IsPart v o)(h:Q o s):wpAny (model prog w) A (Builtin.Slice.slicePartIndex v) Q E s:=by
 cases p with
 | none=>exact slicePart_none h
 | int i t=>exact slicePart_int h
def t8{sl:Addr}{vl vu:Value}{lo hi:Option Int}{n:Nat}{Q:Int × Int × Nat->Qdg->Prop}(hs:s.heap.IsSliceOf sl vl vu .none)(pl:IsPart vl lo)(pu:IsPart vu hi)
 (h:Q (((g7 n 0 lo:Nat):Int),1,g7 n n hi - g7 n 0 lo) s):wpAny (model prog w) A (Builtin.Slice.sliceApplied (.ref sl)$ pure (n:Int)) Q E s:=by
 obtain⟨os,hos,hcs,hds⟩:=id hs;unfold Builtin.Slice.sliceApplied Builtin.Slice.sliceFields;refine Qaf$ Qaf$ Qbl hos hds (x:=vl) rfl$ Qaf$ Qbl hos hds (x:=vu) rfl$ Qaf$ Qbl hos hds (x:= .none) rfl$ QaG ?_;refine Qaf$ slicePart_none ?_;show wpAny _ _ (if((1:Int)==0)=true then _ else _) _ _ s
 rw[QaH$ by decide]
 refine Qaf$ xn pl$ Qaf$ xn pu$ Qaf$ QaG ?_;show wpAny _ _ (match Builtin.Slice.sliceAdjust lo hi 1 (n:Int) with | (lo,hi)=>pure (lo,(1:Int),Builtin.Slice.slicePlaces lo hi 1)) _ _ s
 rw[Et lo hi n];show wpAny _ _ (pure (((g7 n 0 lo:Nat):Int),(1:Int),Builtin.Slice.slicePlaces ((g7 n 0 lo:Nat):Int) ((g7 n n hi:Nat):Int) 1)) _ _ s;rw[Ew];exact QaG h
def JR(xs:Array Value)(i k:Nat):((List.range k).filterMap λ(m:Nat)=>xs[((i:Int)+(m:Int)*1).toNat]?).toArray=((xs.toList.drop i).take k).toArray:=by
 have e:(λ(m:Nat)=>xs[((i:Int)+(m:Int)*1).toNat]?)=λm=>xs[i+m]?:=by
  funext m;have:((i:Int)+(m:Int)*1).toNat=i+m:=by omega
  rw[this]
 rw[e];have:=pick_run xs i k;rw[List.filterMap_map] at this;have e2:((λx=>xs[x]?) ∘ λx=>i+x)=λm=>xs[i+m]?:=rfl
 rw[e2] at this;rw[this]
def sY{t sl:Addr}{items:Array Value}{vl vu:Value}{lo hi:Option Int}{Q:Aab}(ht:IsTup s.heap t items)(hs:s.heap.IsSliceOf sl vl vu .none)(pl:IsPart vl lo)(pu:IsPart vu hi)
 (hw:¬(g7 items.size 0 lo=0/\g7 items.size items.size hi=items.size))
 (h:Q (.ref s.heap.objs.size) {s with heap:=s.heap.push {cls:= .type "tuple",data:= .seq ((items.toList.drop$ g7 items.size 0 lo).take$ g7 items.size items.size hi - g7 items.size 0 lo).toArray}})
 (hsz:items.size<=sizeLine):wpAny (model prog w) A (getItem (.ref t)$ .ref sl) Q E s:=by
 have htake:sizeOk (.seq ((items.toList.drop$ g7 items.size 0 lo).take$ g7 items.size items.size hi - g7 items.size 0 lo).toArray):=by
  show((items.toList.drop$ g7 items.size 0 lo).take$ g7 items.size items.size hi - g7 items.size 0 lo).toArray.size<=sizeLine;rw[Qay,QaB,Qbm,QbW];omega
 have hj:g7 items.size items.size hi<=items.size:=Rn _ _ (Qak _) hi;obtain⟨os,hos,hcs,hds⟩:=id hs;have hTs:s.TypeIs (.ref sl) "slice":=⟨os,hos,hcs⟩;unfold getItem
 try with_reducible refine Qcc ?_
 first | refine Qaf (QaG ?_) | skip
 refine Qaf (wpAny_sequenceKey ht.typeIs (by decide) ?_)
 refine Qaf (QbC (name:="__getitem__") ht.typeIs QbY
  (QbO QbY ht.typeIs entry_tuple_getitem ?_$ args_tuple_getitem _ _))
 show wpAny _ _ (Builtin.Tuple.tupleItemsOf (.ref t) >>=_) _ _ s;refine Qaf$ tupleItemsOf_ ht ?_;refine Qaf$ wpAny_typeOf hTs ?_;rw[QaK$ by decide]
 refine Qaf$ t8 hs pl pu ?_;have hno:¬((((g7 items.size 0 lo:Nat):Int)==0 && (1:Int)==1 && (g7 items.size items.size hi - g7 items.size 0 lo)==items.size)=true):=by
  intro q;rw[Qbn,Qbn] at q;have q1:((g7 items.size 0 lo:Nat):Int)=0:=eq_of_beq q.1.1;have q2:g7 items.size items.size hi - g7 items.size 0 lo=items.size:=eq_of_beq q.2;exact hw ⟨by omega,by omega⟩
 show wpAny _ _ (if(((g7 items.size 0 lo:Nat):Int)==0 && (1:Int)==1 && (g7 items.size items.size hi - g7 items.size 0 lo)==items.size)=true then _ else _) _ _ s
 rw[QaH hno,JR]
 first
  | exact Qaf (m:=Builtin.Tuple.tupleExact _) (QbD (QaG ⟨_,rfl,QaG h⟩) htake)
  | exact Qaf (m:=Builtin.Tuple.tupleExact _) (QbD (Qaf$ QaG$ QaG ⟨_,rfl,QaG h⟩) htake)
  | exact Qaf (Qaf (m:=Builtin.Tuple.tupleExact _)$ QbD (QaG$ QaG ⟨_,rfl,QaG h⟩) htake)
  | exact Qaf (Qaf (m:=Builtin.Tuple.tupleExact _)$ QbD (QaG ⟨_,rfl,QaG h⟩) htake)
end
end HT
namespace L2
open PySem PySem.Spec PyProof.Rows
abbrev TO:=St->Hp->(Option Int->Hp->Prop)->Prop
def PO(X:Cx)(e:Option Expr)(t:TO):Prop:=
 ∀(pins:Aaa) (s:Qdg) (σ:St) (H:Hp) (Q:Option Int->Hp->Prop),Inv X pins σ H s->t σ H Q->
  wpAny (model X.prog X.w) X.A (evalPart e X.env) (λu s'=>∃o H',Inv X pins σ H' s'/\IsPart u o/\Q o H') X.xe s
def N6:TO:=λ_ H Q=>Q none H
def Vd(t:TE):TO:=λσ H Q=>t σ H λx H1=>∃i,x= .int i/\Q (some i) H1
def intsAre_of{ns:List Int}:∀{us:List Value},Vals (ns.map V.int) us->IntsAre us ns:=by
 induction ns with
 | nil=>intro us r;rw [Qcn] at r;cases r;exact .nil
 | cons n ns ih=>
   intro us r;rw[Qaz] at r;cases r with
   | cons r1 r2=>
     obtain⟨t,e⟩:=r1;subst e;exact .cons n t$ ih r2
section
variable {X:Cx}{e:Expr}{te:TE}{lo hi:Option Expr}{tl th:TO}{pos p2:Pos}
def N_:PO X none N6:=by
 intro pins s σ H Q I h;rw[evalPart_none];exact QaG ⟨none,H,I, .none,h⟩
def NA(h:PE X e te):PO X (some e) (Vd te):=by
 intro pins s σ H Q I hw;rw[evalPart_some];refine d9 (h pins s σ H _ I hw) λu s1 ⟨x,H1,I1,r1,q1⟩=>?_
 obtain⟨i,rfl,q⟩:=q1;obtain⟨t,rfl⟩:=r1;exact⟨some i,H1,I1, .int i t,q⟩
def PH(X:Cx)(r:V->Option Int->Option Int->Hp->VK->Prop):Prop:=
 ∀(pins:Aaa) (s:Qdg) (σ:St) (H:Hp) (x:V) (v vl vu:Value) (lo hi:Option Int) (sl:Addr) (Q:VK),Inv X pins σ H s->RelV x v->s.heap.IsSliceOf sl vl vu .none->IsPart vl lo->IsPart vu hi->r x lo hi H Q->
  ∃T id,typeLookup (.type T) "__getitem__"=pure (some$ .builtin id)/\s.TypeIs v T/\wpAny (model X.prog X.w) X.A (getItem v$ .ref sl) (EP X pins σ Q) X.xe s
def PH.or{r r':V->Option Int->Option Int->Hp->VK->Prop}(h:PH X r)(h':PH X r'):PH X (λx lo hi H Q=>r x lo hi H Q\/r' x lo hi H Q):=by
 intro pins s σ H x v vl vu lo hi sl Q I rx hs pl pu q;rcases q with q | q
 .exact h pins s σ H x v vl vu lo hi sl Q I rx hs pl pu q
 .exact h' pins s σ H x v vl vu lo hi sl Q I rx hs pl pu q
def tSl(r:V->Option Int->Option Int->Hp->VK->Prop)(te:TE)(tl th:TO):TE:=λσ H Q=>te σ H λx H1=>tl σ H1 λl H2=>th σ H2 λu H3=>r x l u H3 Q
def DJ{r:V->Option Int->Option Int->Hp->VK->Prop}(hr:PH X r)(he:PE X e te)(hl:PO X lo tl)(hu:PO X hi th):PE X (.Subscript e (.Slice lo hi none p2) pos) (tSl r te tl th):=by
 intro pins s σ H Q I h;refine Subscript_$ d9 (he pins s σ H _ I h) λv s1 ⟨x,H1,I1,r1,q1⟩=>?_
 refine wpAny_Slice$ d9 (hl pins s1 σ H1 _ I1 q1) λvl s2 ⟨l,H2,I2,pl,q2⟩=>d9 (hu pins s2 σ H2 _ I2 q2) λvu s3 ⟨u,H3,I3,pu,q3⟩=>?_
 rw[evalPart_none];refine QaG ?_;have I4:Inv X pins σ H3 {s3 with heap:=s3.heap.push {cls:= .type "slice",data:= .fields #[vl,vu, .none]}}:=I3.kept (t':=s3.toks) λb ob q=>Qah _ q
 obtain⟨T,id,hT,ht,hg⟩:=hr pins {s3 with heap:=s3.heap.push {cls:= .type "slice",data:= .fields #[vl,vu, .none]}} σ H3 x v vl vu l u s3.heap.objs.size Q I4 r1 (Heap.IsSliceOf.new ..) pl pu q3
 show wpAny (model X.prog X.w) X.A (subscriptTail e (.Slice lo hi none p2) v$ .ref s3.heap.objs.size) (EP X pins σ Q) X.xe {s3 with heap:=s3.heap.push {cls:= .type "slice",data:= .fields #[vl,vu, .none]}}
 exact tail_any (ops:=[.ref s3.heap.objs.size,v]) ht hT hg (by with_unfolding_all rfl)
def Dh(xs:List V)(lo hi:Option Int):List V:=(xs.drop$ HT.g7 xs.length 0 lo).take$ HT.g7 xs.length xs.length hi - HT.g7 xs.length 0 lo
def vn(xs:List V)(lo hi:Option Int):(Dh xs lo hi).length<=xs.length:=by
 unfold Dh;rw[QaB,Qbm];omega
def Xs(K:Qdf):V->Option Int->Option Int->Hp->VK->Prop:=λx lo hi H Q=>∃a xs,x= .ref a/\u9 K H a xs/\
 ¬(HT.g7 xs.length 0 lo=0/\HT.g7 xs.length xs.length hi=xs.length)/\∀p,H p=none->Q (.ref p) (upd H p$ .tup$ Dh xs lo hi)
def RE:PH X (Xs X.K):=by
 intro pins s σ H x v vl vu lo hi sl Q I rx hs pl pu h;obtain⟨a,xs,rfl,hx,hw,q⟩:=h;cases rx;obtain⟨its,r,ht,hz⟩:=I.tuple hx;have hlen:its.toArray.size=xs.length:=by rw[Qay];exact r.length.symm
 refine⟨"tuple",_,QbY.lookup,ht.typeIs,?_⟩;refine HT.sY ht hs pl pu (by rw[hlen];exact hw) ?_ (by rw[hlen];exact hz)
 rw[hlen];refine⟨.ref s.heap.objs.size,_,I.laid (t':=s.toks) (o:= .tup$ Dh xs lo hi) (λb ob q=>Qah _ q) (Qak _) ?_,rfl,q _$ I.hok.fresh$ Qak _⟩
 exact⟨QaT (vn xs lo hi) hz,_,(r.drop$ HT.g7 xs.length 0 lo).take$ HT.g7 xs.length xs.length hi - HT.g7 xs.length 0 lo,IsTup.new _ _⟩
def aa6(K:Qdf):R2:=λx y H Q=>∃a b ns ms,x= .ref a/\y= .ref b/\u9 K H a (ns.map V.int)/\u9 K H b (ms.map V.int)/\Q (.bl$ HT.lexLt ns ms) H
def Y1(K:Qdf):R2:=λx y H Q=>∃a b xs ys,x= .ref a/\y= .ref b/\u9 K H a xs/\u9 K H b ys/\xs≠[]/\xs.length+ys.length<=sizeLine/\
 (ys=[]->Q (.ref a) H)/\(ys≠[]->∀p,H p=none->Q (.ref p) (upd H p$ .tup$ xs++ys))
end
noncomputable def Eg(n:Nat)(i:Int):Option Nat:=if 0<=i then(if i<n then some i.toNat else none) else if -(n:Int)<=i then some (i+n).toNat else none
def yC{α:Type}(xs:List α)(i:Int):Option α:=(Eg xs.length i).bind λj=>xs[j]?
def Gz{n:Nat}{i:Int}{j:Nat}(h:Eg n i=some j):seqIndex? i n=some j/\j<n/\ -(n:Int)<=i/\i<n:=by
 unfold Eg at h;by_cases h0:0<=i
 .rw [QaK h0] at h;by_cases h1:i<n
  .rw [QaK h1] at h;have e:i.toNat=j:=QaW h;exact⟨by rw[seqIndex_of h0 h1,e],by omega,by omega,h1⟩
  .rw [QaH h1] at h;cases h
 .rw [QaH h0] at h;by_cases h1: -(n:Int)<=i
  .rw [QaK h1] at h;have e:(i+n).toNat=j:=QaW h;exact⟨by rw[seqIndex_neg (by omega) h1,e],by omega,h1,by omega⟩
  .rw [QaH h1] at h;cases h
def AU{α:Type}{xs:List α}{i:Int}{v:α}(h:yC xs i=some v):∃j,seqIndex? i xs.length=some j/\xs[j]? =some v/\j<xs.length/\ -(xs.length:Int)<=i/\i<xs.length:=by
 unfold yC at h;cases e:Eg xs.length i with
 | none=>rw [e] at h;cases h
 | some j=>
   rw[e] at h;obtain⟨h1,h2,h3,h4⟩:=Gz e;exact⟨j,h1,h,h2,h3,h4⟩
def wg(b:Expr):Prop:=∀o i,subscripted b false o i=operate [o,i] (getItem o i)
def N0(X:Cx)(r:R2):Prop:=
 ∀(value slice:Expr) (pins:Aaa) (s:Qdg) (σ:St) (H:Hp) (x y:V) (v u:Value) (Q:VK),Inv X pins σ H s->RelV x v->RelV y u->r x y H Q->
  subscripted slice false v u=operate [v,u] (getItem v u)->wpAny (model X.prog X.w) X.A (subscriptTail value slice v u) (EP X pins σ Q) X.xe s
def MtR(X:Cx)(id:String)(r:V->List V->Hp->VK->Prop):Prop:=
 ∀(pins:Aaa) (s:Qdg) (σ:St) (H:Hp) (x:V) (xs:List V) (v:Value) (us:List Value) (Q:VK),Inv X pins σ H s->RelV x v->Vals xs us->r x xs H Q->
  wpAny (model X.prog X.w) X.A (call (.builtin id) (v ::us)) (EP X pins σ Q) X.xe s
section
variable {X:Cx}{a b:Expr}{ta tb:TE}{pos:Pos}
def N0.or{r r':R2}(h:N0 X r)(h':N0 X r'):N0 X (λx y H Q=>r x y H Q\/r' x y H Q):=by
 intro value slice pins s σ H x y v u Q I rx ry q hs;rcases q with q | q
 .exact h value slice pins s σ H x y v u Q I rx ry q hs
 .exact h' value slice pins s σ H x y v u Q I rx ry q hs
def PM{r:R2}(hr:N0 X r)(ha:PE X a ta)(hb:PE X b tb)(hs:wg b):PE X (.Subscript a b pos) (Tw r ta tb):=by
 intro pins s σ H Q I h;exact Subscript_$ Rj ha hb I h λv u s2 x y H2 I2 rx ry q=>hr a b pins s2 σ H2 x y v u Q I2 rx ry q$ hs _ _
def Vs(K:Qdf):R2:=λx y H Q=>∃p xs i v,x= .ref p/\y= .int i/\qT K H p xs/\yC xs i=some v/\Q v H
def UP(K:Qdf):R2:=λx y H Q=>∃p xs i v,x= .ref p/\y= .int i/\u9 K H p xs/\yC xs i=some v/\Q v H
def Ud:R2:=λx y H Q=>∃z i c,x= .str z/\y= .int i/\z.length<=sizeLine/\yC z.cps.toList i=some c/\Q (.str ⟨#[c]⟩) H
def MZ:N0 X (Vs X.K):=by
 intro value slice pins s σ H x y v u Q I rx ry h hs;obtain⟨p,xs,i,z,rfl,rfl,hq,he,q⟩:=h;cases rx;obtain⟨t,rfl⟩:=ry;obtain⟨its,r,pl,hz⟩:=I.list hq;obtain⟨j,h1,h2,h3,h4,h5⟩:=AU he;obtain⟨w,ew,El⟩:=r.get h2;have hl:=r.length;have hn:=ur;have fin:EP X pins σ Q w s:=⟨z,H,I,El,q⟩;by_cases h0:0<=i
 .have hj:i.toNat=j:=by
   rw[seqIndex_of h0 h5] at h1;exact QaW h1
  exact item_listR pl.isList h0 (by omega) (by rw[hj];simpa using ew) fin hs
 .have hj:(i+(its.toArray.size:Int)).toNat=j:=by
   rw[seqIndex_neg (by omega) h4] at h1
   rw[Qay,<-hl];exact QaW h1
  exact subscriptTail_builtinR (x:=w) pl.isList.typeIs slot_list_getitem.lookup
   (wpAny_getItem_list_neg (Q:=λr s'=>r=w/\EP X pins σ Q r s') pl.isList (by omega) (by rw[Qay] <;> omega) (by omega) (by rw[hj];simpa using ew) ⟨rfl,fin⟩) hs
def Qu:N0 X (UP X.K):=by
 intro value slice pins s σ H x y v u Q I rx ry h hs;obtain⟨p,xs,i,z,rfl,rfl,hq,he,q⟩:=h;cases rx;obtain⟨t,rfl⟩:=ry;obtain⟨its,r,pl,hz⟩:=I.tuple hq;obtain⟨j,h1,h2,h3,h4,h5⟩:=AU he;obtain⟨w,ew,El⟩:=r.get h2;have hl:=r.length;have hn:=ur;have fin:EP X pins σ Q w s:=⟨z,H,I,El,q⟩;exact subscriptTail_builtinR (x:=w) pl.typeIs slot_tuple_getitem.lookup
  (getItem_tuple (j:=j) (Q:=λr s'=>r=w/\EP X pins σ Q r s') pl (by omega) (by omega) (by rw[Qay,<-hl];exact h1) (by simpa using ew) ⟨rfl,fin⟩) hs
def Ri:N0 X Ud:=by
 intro value slice pins s σ H x y v u Q I rx ry h hs;obtain⟨z,i,c,rfl,rfl,hz,he,q⟩:=h;obtain⟨t,rfl⟩:=rx;obtain⟨t',rfl⟩:=ry;obtain⟨j,h1,h2,h3,h4,h5⟩:=AU he;have hl:z.cps.toList.length=z.length:=by simp [Str.length]
 rw[hl] at h1 h4 h5;have hn:=ur;exact tail_any (typeIs_str s z t) slot_str_getitem.lookup (getItem_str (c:=c) (by
  have e1:decide (i < -(2 ^ 63:Int))=false:=Qaw (by omega)
  have e2:decide (i>=2 ^ 63)=false:=Qaw (by omega)
  rw[e1,e2,QbA]) (by rw[h1];simpa using h2) ⟨.str ⟨#[c]⟩,H,I.tok _,⟨_,rfl⟩,q⟩) hs
def X6(K:Qdf):R2:=λx y H Q=>Vs K x y H Q\/UP K x y H Q\/Ud x y H Q
def Ln:N0 X (X6 X.K):=MZ.or$ Qu.or Ri
def ER(its:List Value)(n j:Nat)(u:Value):Obj.mapSeq (·.setIfInBounds j u) {cls:= .type "list",data:= .seq its.toArray n}={cls:= .type "list",data:= .seq (its.set j u).toArray n}:=by
 simp [Obj.mapSeq]
def Inv.lst{pins:Aaa}{H:Hp}{s:Qdg}{p:Addr}{xs:List V}(I:Inv X pins σ H s)(h:H p=some (.lst xs)) :
 ∃(its:List Value) (n:Nat),Vals xs its/\s.heap.get? p=some {cls:= .type "list",data:= .seq its.toArray n}/\xs.length<=sizeLine:=by
 obtain⟨z,its,n,r,e⟩:=I.hok p _ h;exact⟨its,n,r,e,z⟩
def Inv.RM{pins:Aaa}{σ:St}{H:Hp}{s:Qdg}{p:Addr}{xs ys:List V}{its its':List Value}{n n':Nat}{f:Obj->Obj}(I:Inv X pins σ H s)(h:H p=some (.lst xs))
 (ho:s.heap.get? p=some {cls:= .type "list",data:= .seq its.toArray n}) (hf:f {cls:= .type "list",data:= .seq its.toArray n}={cls:= .type "list",data:= .seq its'.toArray n'}) (r:Vals ys its') (hz:ys.length<=sizeLine) (t:Nat) :
 Inv X pins σ (upd H p$ .lst ys) {s with heap:=s.heap.update p f,toks:=t}:=by
 have e:(s.heap.update p f).get? p=some {cls:= .type "list",data:= .seq its'.toArray n'}:=by
  rw[Heap.get?_update_self f ho (by rw[hf] <;> rfl),hf]
 refine I.write (x:=p) (e:=p) (by rw[h];trivial) (.inl rfl) (λb u hb q=>(Heap.get?_update_other _ _$ QbM hb).trans q) ⟨_,e⟩ ?_
 exact⟨hz,its',n',r,e⟩
def Pr:V->V->V->Hp->(Hp->Prop)->Prop:=λo i v H Q=>∃p xs k j,o= .ref p/\i= .int k/\H p=some (.lst xs)/\Eg xs.length k=some j/\Q (upd H p$ .lst$ xs.set j v)
def set_list:UM X Pr:=by
 intro pins s σ H o i v ov iv u Q I ro ri rv h;obtain⟨p,xs,k,j,rfl,rfl,hp,hj,q⟩:=h;cases ro;obtain⟨t,rfl⟩:=ri;obtain⟨its,n,r,ho,hz⟩:=I.lst hp;obtain⟨h1,h2,h3,h4⟩:=Gz hj;have hl:=r.length;have hn:=ur;have I':Inv X pins σ (upd H p$ .lst$ xs.set j v) {s with heap:=s.heap.update p$ Obj.mapSeq (·.setIfInBounds j u)}:=
  I.RM hp ho (ER its n j u) (r.set rv j) (by rw[Qa6];exact hz) s.toks
 by_cases h0:0<=k
 .have hk:k.toNat=j:=by
   rw[seqIndex_of h0 h4] at h1;exact QaW h1
  exact PySem.W.ki_setAt ho h0 (by omega) (by rw[Qay,<-hl];exact h4) (by rw[hk];exact⟨_,I',q⟩)
 .have hk:(k+(its.toArray.size:Int)).toNat=j:=by
   rw[seqIndex_neg (by omega) h3] at h1
   rw[Qay,<-hl];exact QaW h1
  exact PySem.W.ki_setBack ho (by omega) (by rw[Qay,<-hl];exact h3) (by omega) (by rw[hk];exact⟨_,I',q⟩)
def BD(lo hi:Option Int)(n:Nat):(sliceBounds lo hi none n).1=((HT.g7 n 0 lo:Nat):Int)/\(sliceBounds lo hi none n).2.1=((HT.g7 n n hi:Nat):Int)/\(sliceBounds lo hi none n).2.2=1:=by
 refine⟨?_,?_,rfl⟩
 .cases lo with
  | none=>simp [sliceBounds,HT.g7]
  | some i=>
    simp only[sliceBounds,HT.g7,Option.getD_none,show(1:Int) > 0 by decide,QbN]
    by_cases h:i<0
    .simp only[h,QbN] <;> omega
    .simp only[h,if_false] <;> omega
 .cases hi with
  | none=>simp [sliceBounds,HT.g7]
  | some i=>
    simp only[sliceBounds,HT.g7,Option.getD_none,show(1:Int) > 0 by decide,QbN]
    by_cases h:i<0
    .simp only[h,QbN] <;> omega
    .simp only[h,if_false] <;> omega
def zc(its:List Value)(lo hi:Option Int):slicePick its.toArray lo hi none=((its.drop$ HT.g7 its.length 0 lo).take$ HT.g7 its.length its.length hi - HT.g7 its.length 0 lo).toArray:=by
 obtain⟨h1,h2,h3⟩:=BD lo hi its.toArray.size;unfold slicePick;rw[h1,h2,h3];simp only[sliceRange_one,pick_run,Qay] <;> rfl
def WU(K:Qdf):V->Option Int->Option Int->Hp->VK->Prop:=λx lo hi H Q=>∃a xs,x= .ref a/\qT K H a xs/\∀p,H p=none->Q (.ref p) (upd H p$ .lst$ Dh xs lo hi)
def M7:PH X (WU X.K):=by
 intro pins s σ H x v vl vu lo hi sl Q I rx hs pl pu h;obtain⟨a,xs,rfl,hx,q⟩:=h;cases rx;obtain⟨its,r,ht,hz⟩:=I.list hx;have hlen:=r.length;refine⟨"list",_,slot_list_getitem.lookup,ht.isList.typeIs,?_⟩;refine wpAny_getItem_list_slice ht.isList hs pl pu .none (by simp) ?_ (by rw[Qay] <;> omega)
 rw[zc,<-hlen];refine⟨.ref s.heap.objs.size,_,I.laid (t':=s.toks) (o:= .lst$ Dh xs lo hi) (λb ob q=>Qah _ q) (Qak _) ?_,rfl,q _$ I.hok.fresh$ Qak _⟩
 exact⟨QaT (vn xs lo hi) hz,_,0,(r.drop$ HT.g7 xs.length 0 lo).take$ HT.g7 xs.length xs.length hi - HT.g7 xs.length 0 lo,QaN _ rfl⟩
noncomputable def og:V->Bool
 | .cY=>true
 | .bl _=>true
 | .int _=>true
 | .str _=>true
 | _=>false
noncomputable def Po:V->V->Bool
 | .cY, .cY=>true
 | .bl a, .bl b=>a==b
 | .bl a, .int b=>(if a then 1 else 0)==b
 | .int a, .bl b=>a==(if b then 1 else 0)
 | .int a, .int b=>a==b
 | .str a, .str b=>a==b
 | _,_=>false
def SU{s:Qdg}{y x:V}{u v:Value}(ry:RelV y u)(rx:RelV x v)(fy:og y=true)(fx:og x=true):SeqAt.EqAt A s u v (Po y x):=by
 cases y with
 | cY=>
   cases ry;cases x with
   | cY=>cases rx;exact SeqAt.EqAt.same _
   | bl b=>cases rx;exact SeqAt.EqAt.none_bool b
   | int b=>obtain⟨t,rfl⟩:=rx;exact SeqAt.EqAt.none_int b t
   | str b=>obtain⟨t,rfl⟩:=rx;exact SeqAt.EqAt.none_str b t
   | _=>exact absurd (show false=true from fx) QaJ
 | bl a=>
   cases ry;cases x with
   | cY=>cases rx;exact SeqAt.EqAt.bool_none a
   | bl b=>cases rx;exact SeqAt.EqAt.bool_bool a b
   | int b=>obtain⟨t,rfl⟩:=rx;exact SeqAt.EqAt.bool_int a b t
   | str b=>obtain⟨t,rfl⟩:=rx;exact SeqAt.EqAt.bool_str a b t
   | _=>exact absurd (show false=true from fx) QaJ
 | int a=>
   obtain⟨t',rfl⟩:=ry;cases x with
   | cY=>cases rx;exact SeqAt.EqAt.int_none a t'
   | bl b=>cases rx;exact SeqAt.EqAt.int_bool a t' b
   | int b=>obtain⟨t,rfl⟩:=rx;exact SeqAt.EqAt.int_int a t' b t
   | str b=>obtain⟨t,rfl⟩:=rx;exact SeqAt.EqAt.int_str a t' b t
   | _=>exact absurd (show false=true from fx) QaJ
 | str a=>
   obtain⟨t',rfl⟩:=ry;cases x with
   | cY=>cases rx;exact SeqAt.EqAt.str_none a t'
   | bl b=>cases rx;exact SeqAt.EqAt.str_bool a t' b
   | int b=>obtain⟨t,rfl⟩:=rx;exact SeqAt.EqAt.str_int a t' b t
   | str b=>obtain⟨t,rfl⟩:=rx;exact SeqAt.EqAt.str_str a t' b t
   | _=>exact absurd (show false=true from fx) QaJ
 | _=>exact absurd (show false=true from fy) QaJ
def E9(x:V)(u:Value):Bool:=match u with
 | .none=>Po .cY x
 | .bool b=>Po (.bl b) x
 | .int i _=>Po (.int i) x
 | .str z _=>Po (.str z) x
 | _=>false
def LP{x y:V}{u:Value}(r:RelV y u)(f:og y=true):E9 x u=Po y x:=by
 cases y with
 | cY=>cases r;rfl
 | bl b=>cases r;rfl
 | int i=>obtain⟨t,rfl⟩:=r;rfl
 | str z=>obtain⟨t,rfl⟩:=r;rfl
 | _=>exact absurd (show false=true from f) QaJ
theorem sQ{x:V}:∀{xs:List V} {us:List Value},Vals xs us->xs.all og=true->us.any (E9 x)=xs.any λy=>Po y x
 | _,_, .nil,_=>rfl
 | y ::xs,u ::us, .cons r t,f=>by
   rw[List.all_cons,Qbn] at f;rw[Qbt,Qbt,LP r f.1,sQ t f.2]
theorem pR{s:Qdg}{x:V}{v:Value}(rx:RelV x v)(fx:og x=true):∀{xs:List V} {us:List Value},Vals xs us->xs.all og=true->∀u∈us,SeqAt.EqAt A s u v (E9 x u)
 | _,_, .nil,_=>λu hu=>by cases hu
 | y ::xs,u ::us, .cons r t,f=>λu' hu=>by
   rw[List.all_cons,Qbn] at f;rcases QaE.mp hu with rfl | hu
   .rw [LP r f.1];exact SU r rx f.1 fx
   .exact pR rx fx t f.2 u' hu
def P8(x:V)(xs:List V):Bool:=xs.any λy=>Po y x
def Xg(K:Qdf)(neg:Bool):R2:=λx y H Q=>∃p xs,y= .ref p/\(qT K H p xs\/u9 K H p xs)/\og x=true/\xs.all og=true/\Q (.bl$ if neg then !P8 x xs else P8 x xs) H
def HS:oC X (compareOp .In) (Xg X.K false):=by
 intro pins s σ H x y v u Q I rx ry h;obtain⟨p,xs,rfl,hq,fx,fs,q⟩:=h;cases ry;rcases hq with hq | hq
 .obtain⟨its,r,pl,hz⟩:=I.list hq;refine SeqAt.in_listAt (E9 x) pl.isList (λw hw=>pR rx fx r fs w$ by simpa using hw) ⟨.bl _,H,I,rfl,?_⟩
  rw[show its.toArray.any (E9 x)=its.any (E9 x) by simp,sQ r fs]
  exact q
 .obtain⟨its,r,pl,hz⟩:=I.tuple hq;refine SeqAt.in_tupleAt (E9 x) pl (λw hw=>pR rx fx r fs w$ by simpa using hw) ⟨.bl _,H,I,rfl,?_⟩
  rw[show its.toArray.any (E9 x)=its.any (E9 x) by simp,sQ r fs]
  exact q
def AF:oC X (compareOp .NotIn) (Xg X.K true):=by
 intro pins s σ H x y v u Q I rx ry h;obtain⟨p,xs,rfl,hq,fx,fs,q⟩:=h;cases ry;rcases hq with hq | hq
 .obtain⟨its,r,pl,hz⟩:=I.list hq;refine SeqAt.notIn_listAt (E9 x) pl.isList (λw hw=>pR rx fx r fs w$ by simpa using hw) ⟨.bl _,H,I,rfl,?_⟩
  rw[show its.toArray.any (E9 x)=its.any (E9 x) by simp,sQ r fs]
  exact q
 .obtain⟨its,r,pl,hz⟩:=I.tuple hq;refine SeqAt.notIn_tupleAt (E9 x) pl (λw hw=>pR rx fx r fs w$ by simpa using hw) ⟨.bl _,H,I,rfl,?_⟩
  rw[show its.toArray.any (E9 x)=its.any (E9 x) by simp,sQ r fs]
  exact q
def tw:oq X (.type "list") (λxs H Q=>∃p ys,xs=[.ref p]/\(qT X.K H p ys\/u9 X.K H p ys)/\∀l,H l=none->Q (.ref l) (upd H l$ .lst ys)):=by
 intro pins s σ H xs us Q I r h;obtain⟨p,ys,rfl,hq,q⟩:=h;obtain⟨u,rfl,rx⟩:=vals1 r;cases rx;have fin:∀(its:List Value),Vals ys its->ys.length<=sizeLine->∀(h':Heap) (c':Nat),(∀b o',s.heap.get? b=some o'->h'.get? b=some o')->
  h'.get? s.heap.objs.size=some {cls:= .type "list",dict:=none,data:= .seq its.toArray c',slots:=#[]}->EP X pins σ Q (.ref s.heap.objs.size) {s with heap:=h'}:=λits r' hz h' c' kp e=>
  ⟨.ref s.heap.objs.size,_,I.laid (t':=s.toks) kp (Qak _)$ show e8 X.prog X.w _ h' _ (.lst ys) from⟨hz,its,c',r',e⟩,rfl,q _$ I.hok.fresh$ Qak _⟩
 rcases hq with hq | hq
 .obtain⟨its,r',pl,hz⟩:=I.list hq;have hlen:=r'.length;obtain⟨o,ho,hc,n,hd⟩:=pl.isList;exact call_list_seq p (.inl rfl) ho hc hd (λh' c' kp e=>fin its r' hz h' c' kp e) (by simp only[Qay] <;> omega)
 .obtain⟨its,r',pl,hz⟩:=I.tuple hq;have hlen:=r'.length;obtain⟨o,ho,hc,n,hd⟩:=pl;exact call_list_seq p (.inr rfl) ho hc hd (λh' c' kp e=>fin its r' hz h' c' kp e) (by simp only[Qay] <;> omega)
def zi:oq X (.type "tuple") (λxs H Q=>∃p ys,xs=[.ref p]/\((qT X.K H p ys/\∀l,H l=none->Q (.ref l) (upd H l$ .tup ys))\/(u9 X.K H p ys/\Q (.ref p) H))):=by
 intro pins s σ H xs us Q I r h;obtain⟨p,ys,rfl,h⟩:=h;obtain⟨u,rfl,rx⟩:=vals1 r;cases rx;rcases h with⟨hq,q⟩ | ⟨hq,q⟩
 .obtain⟨its,r',pl,hz⟩:=I.list hq;have hlen:=r'.length;refine call_tuple_list pl.isList (λh' kp=>?_) (by simp only[Qay] <;> omega)
  have I1:Inv X pins σ H {s with heap:=h'}:=I.kept (t':=s.toks) kp
  have I2:Inv X pins σ (upd H h'.objs.size$ .tup ys) {s with heap:=h'.push {cls:= .type "tuple",data:= .seq its.toArray}}:=
   I1.laid (t':=s.toks) (λb o e=>Qah _ e) (Qak _) (show e8 X.prog X.w _ _ _ (.tup ys) from⟨hz,its,r',IsTup.new _ _⟩)
  exact⟨.ref h'.objs.size,_,I2,rfl,q _$ I1.hok.fresh$ Qak _⟩
 .obtain⟨its,r',pl,hz⟩:=I.tuple hq;exact call_tuple_same pl ⟨.ref p,H,I,rfl,q⟩
def XO(K:Qdf)(T:String)(x:V)(H:Hp):Prop:=match x with
 | .str _=>T="str"
 | .int _=>T="int"
 | .ref p=>(T="list"/\∃xs,qT K H p xs)\/(T="tuple"/\∃o,K.lookup p=some o/\o.cls= .type "tuple"/\o.dict=none)\/
    (T="dict"/\((∃kvs,H p=some (.dK kvs))\/∃kvs,H p=some (.dT kvs)))\/(T="set"/\∃S n,H p=some (.set S n))
 | _=>False
def Rm{pins:Aaa}{s:Qdg}{T:String}{x:V}{v:Value}(I:Inv X pins σ H s)(r:RelV x v)(ty:XO X.K T x H) :
 s.TypeIs v T/\∀a,v= .ref a->∃ob,s.heap.get? a=some ob/\ob.dict=none:=by
 cases x with
 | str z=>
   obtain⟨t,rfl⟩:=r;cases(show T="str" from ty)
   exact⟨typeIs_str s z t,λ_ e=>nomatch e⟩
 | int i=>
   obtain⟨t,rfl⟩:=r;cases(show T="int" from ty)
   exact⟨typeIs_int s i t,λ_ e=>nomatch e⟩
 | ref p=>
   cases r;rcases ty with⟨rfl,xs,hq⟩ | ⟨rfl,o,hk,hc,hd⟩ | ⟨rfl,hk⟩ | ⟨rfl,S,n,hk⟩
   .obtain⟨its,_,pl,_⟩:=I.list hq;refine⟨pl.isList.typeIs,λa e=>?_⟩
    cases e;obtain⟨o,n,e,c,hd,_⟩:=pl;exact⟨o,e,hd⟩
   .refine⟨⟨o,I.GO p o hk,hc⟩,λa e=>?_⟩
    cases e;exact⟨o,I.GO _ o hk,hd⟩
   .have z:∃o,s.heap.get? p=some o/\o.ExactDict:=by
     rcases hk with⟨kvs,hk⟩ | ⟨kvs,hk⟩
     .obtain⟨_,_,_,_,o,_,_,e,ex,_⟩:=I.hok p _ hk;exact⟨o,e,ex⟩
     .obtain⟨_,_,_,_,o,_,_,e,ex,_⟩:=I.hok p _ hk;exact⟨o,e,ex⟩
    obtain⟨o,e,ex⟩:=z;refine⟨⟨o,e,ex.1⟩,λa e2=>?_⟩
    cases e2;exact⟨o,e,ex.2.1⟩
   .obtain⟨o,_,_,_,e,ex,_⟩:=I.hok p _ hk;refine⟨⟨o,e,ex.1⟩,λa e2=>?_⟩
    cases e2;exact⟨o,e,ex.2.1⟩
 | _=>exact False.elim ty
def aaN(K:Qdf)(T:String)(r:V->List V->Hp->VK->Prop)(to:TE):TE:=λσ H Q=>to σ H λx H1=>XO K T x H1/\r x [] H1 Q
def Z3(K:Qdf)(T:String)(r:V->List V->Hp->VK->Prop)(to:TE)(t:TA):TE:=λσ H Q=>to σ H λx H1=>XO K T x H1/\t σ H1 λxs H2=>r x xs H2 Q
variable {o e:Expr}{es:List Expr}{to:TE}{t:TA}{name:Str}{apos cH:Pos}{T id:String}{r:V->List V->Hp->VK->Prop}
def GP(pa:PlainAttrs T)(slot:Slot T name id)(hty:typeOf (.builtin id)=pure (.type "method_descriptor"))(hm:MtR X id r)(ho:PE X o to)(ha:PA X (e ::es) t)
 (lC:attributeBase o name X.env (eval o X.env)=eval o X.env:=by rfl)
 (rQ:((backTo cH$ starEach (e ::es) X.env).all (λx=>!x.1) && (backToKw cH$ keywordEach [] X.env).all (λx=>x.1.isSome)
   && decide ((e ::es).length+([]:List Keyword).length+(if([]:List Keyword).isEmpty then 0 else 1)<30))=true:=by rfl)
 (lz:(apos.endLine==cH.line)=true:=by rfl) (hs:starEach (e ::es) X.env=(false,eval e X.env) ::starEach es X.env:=by rfl) (S6:(backTo cH$ starEach es X.env).any (·.1)=false:=by rfl) :
 PE X (.Call (.Attribute o name apos) (e ::es) [] cH) (Z3 X.K T r to t):=by
 intro pins s σ H Q I h;refine wpAny_Call_method_late lC rQ lz rfl$ d9 (ho pins s σ H _ I h) λv s1 ⟨x,H1,I1,r1,ty,q1⟩=>?_
 obtain⟨h1,h2⟩:=Rm I1 r1 ty;refine⟨T,id,pa,slot,hty,h1,h2,?_⟩;have hA:=ha cH pins s1 σ H1 _ I1 q1;rw[hs] at hA ⊢;refine Calls.callWith_builtin (by show(false || (backTo cH$ starEach es X.env).any (·.1))=false;rw [S6] <;> rfl)$ Calls.evalArgs_plain ?_
 exact d9 hA λus s2 ⟨vs,H2,I2,r2,q2⟩=>hm pins s2 σ H2 x vs v us Q I2 r1 r2 q2
end
def W7(X:Cx)(id:String)(r:V->List V->Hp->VK->Prop):Prop:=
 ∀(pins:Aaa) (s:Qdg) (σ:St) (H:Hp) (x:V) (xs:List V) (v:Value) (us:List Value) (Q:VK),Inv X pins σ H s->RelV x v->Vals xs us->r x xs H Q->
  wpAny (model X.prog X.w) X.A (call (.builtin id) (v ::us)) (EP X pins σ Q) X.xe s
theorem Vals.one:∀{x:V} {us:List Value},Vals [x] us->∃u,us=[u]/\RelV x u
 | _,_, .cons r .nil=>⟨_,rfl,r⟩
theorem Vals.rep{xs:List V}{us:List Value}(h:Vals xs us):∀k:Nat,Vals (List.replicate k xs).flatten (List.replicate k us).flatten
 | 0=> .nil
 | k+1=>by
   rw[Qbo,Qbo,QbJ,QbJ];exact Vals.append h$ Vals.rep h k
def foldl_rep(its:List Value):∀(k:Nat) (acc:List Value),
 List.foldl (λx1 x2=>x1++x2) acc.toArray (List.replicate k its.toArray)=(acc++(List.replicate k its).flatten).toArray
 | 0,acc=>by simp
 | k+1,acc=>by
   have e:acc.toArray++its.toArray=(acc++its).toArray:=by simp
   have e2:(acc++its)++(List.replicate k its).flatten=acc++(List.replicate (k+1) its).flatten:=by
    rw[Qbo,QbJ,QaL]
   rw[<-e2,<-foldl_rep its k (acc++its),<-e,Qbo,List.foldl_cons]
section
variable {X:Cx}{pins:Aaa}{σ:St}{H:Hp}{s:Qdg}{l:Addr}{xs ys:List V}
def Inv.M_{its its':List Value}{n:Nat}{f:Array Value->Array Value}{t':Nat}(I:Inv X pins σ H s)(hH:H l=some (.lst xs))
 (e:s.heap.get? l=some {cls:= .type "list",data:= .seq its.toArray n}) (hf:f its.toArray=its'.toArray) (hv:Vals ys its') (hz:ys.length<=sizeLine) :
 Inv X pins σ (upd H l$ .lst ys) {s with heap:=s.heap.update l$ Obj.mapSeq f,toks:=t'}:=by
 have q:=PySem.IsL.update e f;rw[hf] at q;refine I.write (x:=l) (e:=l) (by rw[hH];exact trivial) (.inl rfl) (λb' u hb hu=>(Heap.get?_update_other s.heap (Obj.mapSeq f)$ QbM hb).trans hu) ⟨_,q⟩ ?_
 exact⟨hz,its',_,hv,q⟩
def Inv.NU{its:List Value}{t':Nat}(I:Inv X pins σ H s)(hv:Vals ys its)(hz:ys.length<=sizeLine) :
 Inv X pins σ (upd H s.heap.objs.size$ .lst ys) {s with heap:=s.heap.push {cls:= .type "list",data:= .seq its.toArray},toks:=t'}:=
 I.laid (λ_ _ q=>Qah _ q) (Qak _) ⟨hz,its,0,hv,QaN _ rfl⟩
def Inv.fresh(I:Inv X pins σ H s):H s.heap.objs.size=none:=I.hok.fresh$ Qak _
def Inv.JF(I:Inv X pins σ H s)(hH:H l=some (.lst xs)):xs.length<=sizeLine/\∃(its:List Value) (n:Nat),Vals xs its/\xs.length=its.length/\s.heap.get? l=some {cls:= .type "list",data:= .seq its.toArray n}:=by
 obtain⟨z,its,n,r,e⟩:=I.hok l _ hH;exact⟨z,its,n,r,r.length,e⟩
def wX{n:Nat}(h:n<=sizeLine):Builtin.List.listTooLong n=false:=by
 unfold Builtin.List.listTooLong;exact Qaw (by omega)
end
section
variable {X:Cx}
def NS:V->List V->Hp->VK->Prop:=λx vs H Q=>∃l xs y,x= .ref l/\vs=[y]/\H l=some (.lst xs)/\xs.length<sizeLine/\Q .cY (upd H l$ .lst$ xs++[y])
def ui:W7 X "list.append" NS:=by
 intro pins s σ H x vs v us Q I rx rv h;obtain⟨l,xs,y,rfl,rfl,hH,hz,q⟩:=h;cases rx;obtain⟨u,rfl,ru⟩:=rv.one;obtain⟨z,its,n,r,hl,e⟩:=I.JF hH;refine QcF F.slot_list_append ⟨_,e,rfl⟩ F.entry_list_append (F.args_list_append_2 _ _) (PySem.list_append l its.toArray n u$ by rw[Qay];omega) ⟨e,?_⟩
 refine⟨.cY,_,I.M_ (its':=its++[u]) hH e (by simp) (r.append$ .cons ru .nil) ?_,rfl,q⟩
 rw[Qai,Qb7];omega
def NW:V->List V->Hp->VK->Prop:=λx vs H Q=>∃l b xs zs,x= .ref l/\vs=[.ref b]/\H l=some (.lst xs)/\H b=some (.lst zs)/\xs.length+zs.length<=sizeLine/\Q .cY (upd H l$ .lst$ xs++zs)
def HR:W7 X "list.extend" NW:=by
 intro pins s σ H x vs v us Q I rx rv h;obtain⟨l,b,xs,zs,rfl,rfl,hH,hB,hz,q⟩:=h;cases rx;obtain⟨u,rfl,ru⟩:=rv.one;cases ru;obtain⟨z,its,n,r,hl,e⟩:=I.JF hH;obtain⟨z2,p9,n2,r2,zp,e2⟩:=I.JF hB;have hsz:its.toArray.size+p9.toArray.size<=sizeLine:=by rw[Qay,Qay];omega
 have hlong:¬(!its.toArray.isEmpty && Builtin.List.listTooLong (its.toArray.size+p9.toArray.size))=true:=by
  rw[wX hsz,Bool.and_false];exact QaJ
 refine QcF QcV ⟨_,e,rfl⟩ QcQ (QcG _ _)
  (AutoSeq1.list_extend_list_list_0 l its.toArray n b p9.toArray n2 hlong (by rw[Qay];omega)$ by omega) ⟨e,e2,?_⟩
 refine⟨.cY,_,I.M_ (its':=its++p9) hH e (by simp) (r.append r2) ?_,rfl,q⟩
 rw[Qai];omega
def aas:V->List V->Hp->VK->Prop:=λx vs H Q=>∃l xs y,x= .ref l/\vs=[]/\H l=some (.lst xs)/\xs[xs.length - 1]? =some y/\Q y (upd H l$ .lst xs.dropLast)
def X2:V->List V->Hp->VK->Prop:=λx vs H Q=>∃l xs i k y,x= .ref l/\vs=[.int i]/\H l=some (.lst xs)/\ -(2 ^ 63)<=i/\i<2 ^ 63/\seqIndex? i xs.length=some k/\xs[k]? =some y/\Q y (upd H l$ .lst$ xs.eraseIdx k)
def Uo:V->List V->Hp->VK->Prop:=λx vs H Q=>∃l xs,x= .ref l/\vs=[]/\H l=some (.lst xs)/\Q .cY (upd H l$ .lst xs.reverse)
def Xt:V->List V->Hp->VK->Prop:=λx vs H Q=>∃l xs,x= .ref l/\vs=[]/\H l=some (.lst xs)/\Q .cY (upd H l$ .lst [])
def aaS:R2:=λx y H Q=>∃l b xs zs,x= .ref l/\y= .ref b/\H l=some (.lst xs)/\H b=some (.lst zs)/\xs.length+zs.length<=sizeLine/\∀p,H p=none->Q (.ref p) (upd H p$ .lst$ xs++zs)
def Xk:R2:=λx y H Q=>∃l k xs,x= .ref l/\y= .int k/\H l=some (.lst xs)/\ -(2 ^ 63)<=k/\k<2 ^ 63/\xs.length*k.toNat<=sizeLine/\
 ∀p,H p=none->Q (.ref p) (upd H p$ .lst (List.replicate k.toNat xs).flatten)
def len_rep{α:Type}(xs:List α)(k:Nat):(List.replicate k xs).flatten.length=k*xs.length:=by
 induction k with
 | zero=>simp
 | succ k ih=>rw [Qbo,QbJ,Qai,ih,Nat.succ_mul,Nat.add_comm]
def QZ:oC X (binaryOp .Mult) Xk:=by
 intro pins s σ H x y v u Q I rx ry h;obtain⟨l,k,xs,rfl,rfl,hH,h1,h2,hz,q⟩:=h;cases rx;obtain⟨t,rfl⟩:=ry;obtain⟨z,its,n,r,hl,e⟩:=I.JF hH;have hlen:its.toArray.size*k.toNat<=sizeLine:=by rw[Qay,<-hl];exact hz
 have hcap:¬its.toArray.size*k.toNat > (2 ^ 63 - 1) / 8:=by
  have:(sizeLine:Nat)<=(2 ^ 63 - 1) / 8:=by decide
  omega
 have hfit:¬(!Builtin.List.listFitsIndex k)=true:=by
  rw[fitsIndex_both h1 h2];exact QaJ
 have hlong:¬Builtin.List.listTooLong (its.toArray.size*k.toNat)=true:=by
  rw[wX hlen];exact QaJ
 have hnew:List.foldl (λx1 x2=>x1++x2) #[] (List.replicate (if its.toArray.isEmpty=true then 0 else k.toNat) its.toArray)=(List.replicate k.toNat its).flatten.toArray:=by
  have f0:∀m:Nat,List.foldl (λx1 x2=>x1++x2) #[] (List.replicate m its.toArray)=(List.replicate m its).flatten.toArray:=λm=>by
   have:=foldl_rep its m [];rw[Qa2] at this;exact this
  rw[f0];cases its with
  | nil=>simp
  | cons a r'=>rw [QaH$ by simp]
 refine wpAny_binaryOp_repeat_ref (T:="list") (U:="int") (by decide) ⟨_,e,rfl⟩ (λs'=>typeIs_int s' k t) noFill_list_mul F.fills_int_mul F.slot_int_rmul repeat_list F.slot_int_index.lookup
  (QcF F.slot_int_rmul (typeIs_int s k t) F.entry_int_rmul (F.args_int_rmul_2 _ _) (int___rmul___int_list k t l its.toArray n)
    ⟨e,rfl,⟨_,e,rfl⟩,QcF F.slot_list_mul ⟨_,e,rfl⟩ F.entry_list_mul (F.args_list_mul_2 _ _) (AutoListH.list___mul___list_int_3 l its.toArray n k t hfit hcap hlong) ⟨e,?_⟩⟩)
 rw[hnew];exact⟨.ref _,_,I.NU (t':=s.toks) (r.rep k.toNat) (by rw[len_rep,Nat.mul_comm];exact hz),rfl,q _ I.fresh⟩
end
section
set_option maxRecDepth 100000 in
end
end L2
namespace Att
open PySem PySem.W PySem.Calls PyProof.Rows
def vR{P:Params}:∀(ns:List Int) (vs:List Value),WellAll P h vs (ns.map WData.int)->IntsAre vs ns:=by
 intro ns
 induction ns with
 | nil=>
   intro vs w;rw[Qcn] at w;cases w;exact .nil
 | cons n ns ih=>
   intro vs w;rw[Qaz] at w;cases w with
   | cons a b=>
     cases a;exact .cons _ _$ ih _ b
def Ii{l:OpenLaw}{n:Nat}(hn:l.most=some n){P:Params}{h:Heap}{args:List WData}{vals:List Value}
 (Pk:l.row.toRowW.claim.pre args=true) (Pm:WellAll P h vals args) :
 ∃a vs ns,vals=[Value.ref a]/\args=[WData.list$ ns.map WData.int]/\h.get? a=some {cls:= .type "list",data:= .seq vs.toArray}/\IntsAre vs ns/\ns.length<=n:=by
 have hsh:WShape.hasAll [] args [.list .int]=true:=(pre_splitW Pk).1;have hc:l.pre.holds [] {args:=args}=true:=(pre_splitW Pk).2;obtain⟨d,r,rfl,h1,h2⟩:=hasAllW_cons hsh;obtain rfl:=hasAllW_nil h2;obtain⟨xs,rfl,h3⟩:=hasW_list h1;obtain⟨ns,rfl⟩:=items_int h3;have hlen:ns.length<=n:=by
  unfold OpenLaw.pre at hc;have h4:(WTm.not$ .lt (.lit$ .int (n:Int))$ .len$ .arg 0).holds [] {args:=[.list$ ns.map .int]}=true:=by
   have h4:=(holds_andW hc).1;rw[hn] at h4;exact h4
  have h5:=condW_of h4$ w_not$ w_lt w_lit$ w_len_list$ w_arg rfl;rw[Qaa] at h5;refine Nat.le_of_not_lt λq=>?_
  have q':(n:Int)<((ns.length:Nat):Int):=by omega
  first
   | (rw [Qat q'] at h5;exact absurd h5$ by decide)
   | (simp at h5;omega)
 cases Pm with
 | cons w1 w2=>
   cases w2;cases w1 with
   | list ho Mn=>exact⟨_,_,ns,rfl,rfl,ho,vR ns _ Mn,hlen⟩
def IT(l:OpenLaw)(args:List WData):l.row.toRowW.claim.post args (.bool true) args=true:=
 postW_of (r:=l.row.toRowW) (X:=(true==true))
  (show WShape.has [] (.bool true) .bool=true by first | rfl | decide | simp [WShape.has,WShape.arms,WShape.armsAll])
  (show(WTm.eq .res$ .lit$ .bool true).value [] {args:=args,res:=some$ .bool true,after:=args}=some (.bool$ true==true) from w_eq_bool (w_res rfl) w_lit) rfl
def Di{l:OpenLaw}{n:Nat}{q:Program}{loose:List Str}{XP:(Str->Option Value)->Heap->Prop}{YP:World->Heap->Prop}{d:DefRec}
 (hn:l.most=some n) (Yv:d.params.defaults=[])
 (call:∀(w:World) (s₀ s₁:Qdg) (mg mb:Aaf) (fa:Addr) (o:Obj) (pm cd doc:Value) (a:Addr) (vs:List Value) (ns:List Int),
   Ground q loose [] XP w s₀ mg mb s₁.heap->YP w s₁.heap->
   s₁.heap.get? fa=some o->o.data= .func (docDef d.name d.params d.body d.scope pm cd doc)->s₁.heap.CodeRec cd d.name->mg d.name=some (.ref fa)->
   s₁.heap.get? a=some {cls:= .type "list",data:= .seq vs.toArray}->IntsAre vs ns->ns.length<=n->s₁.gens=#[]->
   codeAny (model l.prog w) callerA (.call (.ref fa) ⟨[.ref a],[]⟩) (λr s'=>r= .ok (.ret$ .bool true)/\OldK s₁.heap s'.heap/\s'.os=s₁.os/\AllBare s'.gens) s₁) :
 WalkO q loose XP YP l.row.toRowW d [] (λf vs=>PySem.call f vs):=by
 intro w s₀ s₁ mg mb G Y fa o pm cd doc dV kV ho hd tT hD VW hg args vals as Pk hlay hrd Pm hlo;obtain rfl:dV= .none:=Dflts.none hD Yv;obtain rfl:kV= .none:=Dflts.noKw hD;obtain⟨a,vs,ns,rfl,rfl,Th,hints,hlen⟩:=Ii hn Pk Pm;refine enter_call$ codeAny_mono (call w s₀ s₁ mg mb fa o pm cd doc a vs ns G Y ho (fd_plain hd) tT VW Th hints hlen hg) λr s' hq=>?_
 obtain⟨rfl,h2,h3,h4⟩:=hq;exact⟨.inl ⟨.bool true, .bool true,[],rfl,λ_=>rfl, .bool true,IT l _,λ_=>⟨List.Pairwise.nil,λ_ hm=>(nomatch hm)⟩⟩,h2,h3,h4⟩
section
noncomputable def XD(h:Heap):Heap:={h with objs:=#[]}
noncomputable def ledger(h:Heap)(L d:Addr):Aaa:=(List.range h.objs.size).filterMap λa=>if a=L\/a=d then none else(h.get? a).map λo=>(a,o)
end
end Att
namespace L2
open PySem PySem.Spec PyProof.Rows
theorem zX:∀{vs:List Value} {ns:List Int},IntsAre vs ns->Vals (ns.map V.int) vs
 | _,_, .nil=> .nil
 | _,_, .cons n t h=> .cons ⟨t,rfl⟩$ zX h
def UR(H:Hp):Prop:=∀b,H b=none\/∃o xs,H b=some (.fm o$ .lst xs)
noncomputable abbrev dI{K:Qdf}{h:Heap}(_:K.In h):Qdf:=K
noncomputable def inClass(s:Stmt)(j:Nat):Stmt:=match s with
 | .ClassDef _ _ _ body _ _ _ _ _ _ _=>body.getD j$ .Pass ⟨0,0,0,0⟩
 | _=> .Pass ⟨0,0,0,0⟩
noncomputable def jk(s:Stmt):Arguments:=match s with
 | .FunctionDef _ a _ _ _ _ _ _ _ _=>a
 | _=>{posonlyargs:=[],args:=[],vararg:=none,kwonlyargs:=[],kw_defaults:=[],kwarg:=none,defaults:=[]}
noncomputable def aN(s:Stmt):List Stmt:=match s with
 | .FunctionDef _ _ b _ _ _ _ _ _ _=>b
 | _=>[]
noncomputable def aF(s:Stmt):Scope:=match s with
 | .FunctionDef _ _ _ _ _ _ sc _ _ _=>sc
 | _=>{kind:= .function,names:=[],isGenerator:=false,isCoroutine:=false}
abbrev xu:K8:=fun _ _ _ _ _ _=>False
abbrev E0:XK:=fun _ _ _=>False
def C7{X:Cx}:Passes xu X E0:=λ_ _ _ _ _ _ _ h=>h.elim
structure Gq (K:Qdf) (x qual:Str) (st:Stmt) (f:Addr) (fd:FuncData):Prop where
 ex:∃(oc:Value) (od:Option Addr) (kV doc pm:Value) (an:Option Addr) (gZ ct:Value) (Jv:Array (Option Value)),
  fd=PySem.W.fnOf x qual (jk st) (aN st) (aF st) .none kV doc pm an gZ ct/\K.lookup f=some ⟨oc,od, .func fd,Jv⟩/\PySem.W.codeIn K gZ qual=true
 kp:PySem.W.keepIn K (.ref f)=true
section
variable {P:Program}{w:World}{K:Qdf}{mg:Aaf}{base:Heap}
def Gq.ok{x qual:Str}{st:Stmt}{f:Addr}{fd:FuncData}{N ps:List Str}{k:Nat}{sp:Sp}(F:Gq K x qual st f fd)(S:aW N ps (aF st))(len:∀vs H Q E,sp vs H Q E->vs.length=ps.length)
 (jJ:∀(gZ:Value) (A:Around) (outer:List Env) (s:Qdg) (H:Hp) (vs:List V) (Q:VK) (E:XK),eU k (A.deeper$ envOfC qual (aF st) s.heap.objs.size f gZ)->sp vs H Q E->
   ∃t,Cb (uI xu P w K mg base N qual (aF st) f gZ A outer s H E).KA (aN st) t/\t {nx:=λ_ H'=>Q .cY H',rt:=Q} (start N vs) H):jW P w K mg base xu (k+1) f fd ps sp:=by
 obtain⟨oc,od,kV,doc,pm,an,gZ,ct,Jv,rfl,lk,tT⟩:=F.ex;refine Vz lk tT S len λA outer s H vs Q E hr TC=>?_
 obtain⟨t,h,q⟩:=jJ gZ A outer s H vs Q E hr TC;exact⟨t,h.KA,q⟩
def Gq.binds{x qual:Str}{st:Stmt}{f:Addr}{fd:FuncData}{ps:List Str}(F:Gq K x qual st f fd)
 (h:∀(kV doc pm:Value) (an:Option Addr) (gZ ct:Value) (us:List Value),us.length=ps.length->bindArgs (PySem.W.fnOf x qual (jk st) (aN st) (aF st) .none kV doc pm an gZ ct) ⟨us,[]⟩=pure (ps.zip us)):Binds K fd ps []:=by
 obtain⟨oc,od,kV,doc,pm,an,gZ,ct,Jv,rfl,lk,tT⟩:=F.ex;exact .all$ h kV doc pm an gZ ct
def Ap{x qual:Str}{st:Stmt}{f:Addr}{oc:Value}{od an:Option Addr}{Jv:Array (Option Value)}{kV doc pm gZ ct:Value}(l:K.lookup f=some ⟨oc,od, .func$ PySem.W.fnOf x qual (jk st) (aN st) (aF st) .none kV doc pm an gZ ct,Jv⟩)
 (c:PySem.W.codeIn K gZ qual=true) (k:PySem.W.keepIn K (.ref f)=true):Gq K x qual st f (PySem.W.fnOf x qual (jk st) (aN st) (aF st) .none kV doc pm an gZ ct):=⟨⟨oc,od,kV,doc,pm,an,gZ,ct,Jv,rfl,l,c⟩,k⟩
end
def oa{A:Around}{k:Nat}(hr:eU k A):A.units+1<cLine:=Nat.lt_of_le_of_lt (Nat.add_le_add_left (by decide:1<=64) _) hr.units
def OI{A B:Prop}(h:B):if false=true then A else B:=by
 rw[QaH QaJ];exact h
def OY{A B:Prop}(h:A):if true=true then A else B:=by
 rw[QaK rfl];exact h
def bo(H H':Hp):Prop:=∀b o,H b=some o->H' b=some o
def bo.refl(H:Hp):bo H H:=λ_ _ h=>h
def bo.trans(a:bo H H1)(b:bo H1 H2):bo H H2:=λc o h=>b c o$ a c o h
def bo.free{H H':Hp}(e:bo H H'){l:Addr}(h:H' l=Option.none):H l=Option.none:=by
 cases q:H l with
 | none=>rfl
 | some o=>
   rw[e l o q] at h;cases h
noncomputable def qm(cells:List (Str × Addr)):List (Str × NameKind)->List (Str × Addr)->List (Str × Addr)
 | [],acc=>acc
 | (n,k) ::r,acc=>qm cells r (if k==NameKind.free then(n,(cells.lookup n).getD 0) ::acc else acc)
def m_{env:Env}:∀(names:List (Str × NameKind)) (acc:List (Str × Addr)),(∀y∈names,y.2= .free->∃c,env.cells.lookup y.1=some c)->
 (forIn names acc λ(x:Str × NameKind) (cs:List (Str × Addr))=>(match x with
   | (name,kind)=>if kind== .free then do let a <-cellOf env name;pure (ForInStep.yield ((name,a) ::cs)) else pure (ForInStep.yield cs):Sem (ForInStep$ List$ Str × Addr)))=pure (qm env.cells names acc)
 | [],acc,_=>by simp [qm]
 | (n,k) ::r,acc,h=>by
   rw[List.forIn_cons];by_cases hk:k=NameKind.free
   .subst hk;obtain⟨c,hc⟩:=h (n, .free) Qan rfl;have e:cellOf env n=pure c:=by unfold cellOf;rw [hc]
    simp only[QbP,QbN,e,pure_bind,qm,hc,Option.getD_some];exact m_ r _ λy hy=>h y$ Qad _ hy
   .have hb:(k==NameKind.free)=false:=by simpa using hk
    simp only[hb,Qcq,if_false,pure_bind,qm];exact m_ r _ λy hy=>h y$ Qad _ hy
def oh{env:Env}{scope:Scope}(h:∀y∈scope.names,y.2= .free->∃c,env.cells.lookup y.1=some c):closureFor scope env=pure (qm env.cells scope.names []):=by
 unfold closureFor;have:=m_ (env:=env) scope.names [] h;simp only[bind_pure];exact this
def lR{cells:List (Str × Addr)}:∀(names:List (Str × NameKind)) (acc:List (Str × Addr)) {x:Str} {c:Addr},(qm cells names acc).lookup x=some c->
 acc.lookup x=some c\/((x,NameKind.free)∈names/\c=(cells.lookup x).getD 0)
 | [],acc,x,c,h=> .inl h
 | (n,k) ::r,acc,x,c,h=>by
   rcases lR r _ h with q | ⟨q1,q2⟩
   .by_cases hk:k=NameKind.free
    .subst hk;simp only[QbP,QbN] at q;cases hx:x==n with
     | true=>
       have e:x=n:=by simpa using hx
       subst e;rw[QaF,hx] at q;exact .inr ⟨Qan,(QaW q).symm⟩
     | false=>
       rw[QaF,hx] at q;exact .inl q
    .have hb:(k==NameKind.free)=false:=by simpa using hk
     simp only[hb,Qcq,if_false] at q;exact .inl q
   .exact .inr ⟨Qad _ q1,q2⟩
theorem Ds{cells:List (Str × Addr)}:∀(names:List (Str × NameKind)) (acc:List (Str × Addr)) {x:Str},((x,NameKind.free)∈names\/∃c,acc.lookup x=some c)->∃c,(qm cells names acc).lookup x=some c
 | [],acc,x,h=>by
   rcases h with h | h
   .simp at h
   .exact h
 | (n,k) ::r,acc,x,h=>by
   refine Ds r _ ?_;rcases h with h | ⟨c,h⟩
   .rcases QaE.mp h with e | e
    .cases e;exact .inr ⟨(cells.lookup n).getD 0,by simp [QaF]⟩
    .exact .inl e
   .by_cases hk:k=NameKind.free
    .subst hk;simp only[QbP,QbN];cases hx:x==n with
     | true=>exact .inr ⟨(cells.lookup n).getD 0,by rw[QaF,hx]⟩
     | false=>exact .inr ⟨c,by rw[QaF,hx];exact h⟩
    .have hb:(k==NameKind.free)=false:=by simpa using hk
     simp only[hb,Qcq,if_false];exact .inr ⟨c,h⟩
theorem Bb:∀(names:List (Str × NameKind)) (n:Nat) (acc:List (Str × Addr)) {x:Str},(x,NameKind.cell) ∉ names->(cellsFrom n names acc).lookup x=acc.lookup x
 | [],_,_,_,_=>rfl
 | (y,k) ::r,n,acc,x,h=>by
   unfold cellsFrom;split
   .rename_i hk;have hk:k= .cell:=by simpa using hk
    subst hk;rw[Bb r _ _ λz=>h$ Qad _ z,QaF]
    cases hx:x==y with
    | true=>
      have e:x=y:=by simpa using hx
      subst e;exact absurd Qan h
    | false=>rfl
   .exact Bb r _ _ λz=>h$ Qad _ z
theorem rC:∀(names:List (Str × NameKind)) (n:Nat) (acc:List (Str × Addr)),cellsFrom n names acc=cellsFrom n names []++acc
 | [],_,_=>rfl
 | (y,k) ::r,n,acc=>by
   unfold cellsFrom;split
   .rw [rC r (n+1) ((y,n) ::acc),rC r (n+1) [(y,n)],QaL];rfl
   .exact rC r n acc
def E4{a b:List (Str × Addr)}{c:Addr}(h:(a++b).lookup x=some c):(x,c)∈a\/b.lookup x=some c:=by
 induction a with
 | nil=>exact .inr h
 | cons y r ih=>
   obtain⟨n,v⟩:=y;rw[QaO,QaF] at h;cases hx:x==n with
   | true=>
     rw[hx] at h;have e:x=n:=by simpa using hx
     subst e;cases h;exact .inl Qan
   | false=>
     rw[hx] at h;exact(ih h).imp (Qad _) id
def oR{a b:List (Str × Addr)}(h:∃c,b.lookup x=some c):∃c,(a++b).lookup x=some c:=by
 induction a with
 | nil=>exact h
 | cons y r ih=>
   rw[QaO,QaF];cases x==y.1 with
   | true=>exact⟨_,rfl⟩
   | false=>exact ih
def A2{a b:List (Str × Addr)}{c:Addr}(h:a.lookup x=some c):∃c,(a++b).lookup x=some c:=by
 induction a with
 | nil=>cases h
 | cons y r ih=>
   rw[QaO,QaF];rw[QaF] at h;cases hx:x==y.1 with
   | true=>exact⟨_,rfl⟩
   | false=>rw [hx] at h;exact ih h
def zF{M:Model}{A:Around}{E:Aab}{s:Qdg}{scope:Scope}{cl:List (Str × Addr)}{qual:Str}{env:Env}{Q:Env->Qdg->Prop}(hQ:∀h',h'.Ns s.heap.objs.size (λ_=>none)->(∀b o,s.heap.get? b=some o->h'.get? b=some o)->CellsOk h' (s.heap.objs.size+1) (cellsFrom (s.heap.objs.size+1) scope.names [])->
 Q (newEnv scope s.heap.objs.size env.globals (cellsFrom (s.heap.objs.size+1) scope.names cl) qual none .none (some env) builtinsNs) {s with heap:=h'}) :
 wpAny M A (newFunctionEnv scope env.globals cl [] qual none .none$ some env) Q E s:=by
 simp only[newFunctionEnv,Option.isSome_some,QbN];refine Qaf$ wpAny_alloc ?_;refine Qaf (wpAny_layCells _ (λname kind cells=>by cases hkc:kind==NameKind.cell <;> simp [hkc]) _ _ _ _ ?_)
 have ok:=cellsFrom_ok scope.names (s.heap.push {cls:= .type "dict",data:= .dict #[]}) (s.heap.objs.size+1) [] ⟨λ_ _ hm=>(nomatch hm),List.Pairwise.nil⟩ (by rw[Qbk];exact Qak _)
 rw[Qbk] at ok;rw[show({s with heap:=s.heap.push {cls:= .type "dict",data:= .dict #[]}}:Qdg).heap.objs.size=s.heap.objs.size+1 from Qbk ..]
 rw[List.forIn_nil];refine Qaf$ QaG$ QaG ?_;exact hQ _ ((Heap.Ns.new s.heap$ .type "dict").keeps$ pushCells_keeps _ _) (λb o e=>pushCells_keeps _ _ b o$ Qah _ e) ok
def bN(X:Cx)(scope:Scope)(N':List Str)(fp:List Addr)(s:Qdg)(H:Hp):Cx where
 prog:=X.prog
 w:=X.w
 K:=X.K
 mg:=X.mg
 base:=X.base
 A:=X.A
 N:=N'
 s₀:=s
 H₀:=H
 env:=compEnvC scope (cellsFrom (s.heap.objs.size+1) scope.names$ qm X.env.cells scope.names []) s.heap.objs.size X.env
 outer:=X.stack
 stack:=X.stack
 ex:=fp
 fn:=λx=>scope.names.lookup x==some .cell
 calm:=X.calm
 pn:=[]
 xe:=λ_ _=>False
structure f6 (X:Cx) (scope:Scope) (own:List Str) (kp:List Nat) (kn:List Str):Prop where
 kind:scope.kind= .function
 cel:∀y∈scope.names,y.2= .cell->scope.names.lookup y.1=some .cell
 nd:∀y∈scope.names,y.2= .local->scope.names.lookup y.1=some .local
 free:∀y∈scope.names,y.2= .free->X.env.kindOf y.1=some .cell\/X.env.kindOf y.1=some .free
 frl:∀y∈scope.names,y.2= .free->scope.names.lookup y.1=some .free
 names:kn.length=kp.length
 at_:∀(j i:Nat) (x:Str),kp[j]? =some i->kn[j]? =some x->X.N[i]? =some x
 isfree:∀x∈kn,scope.names.lookup x=some .free
noncomputable def d5(own:List Str)(kp:List Nat)(σ:St):St:=List.replicate own.length none++kp.map λi=>(σ[i]?).getD none
section
variable {X:Cx}{scope:Scope}{own:List Str}{kp:List Nat}{kn:List Str}
def fO{env:Env}:∀{names:List (Str × NameKind)} {x:Str} {k:NameKind},
 (names.map λ(n,k)=>if(k==NameKind.free && env.scope.kind== .function && env.kindOf n==some .cell) then(n,NameKind.cell) else(n,k)).lookup x=some k->
 names.lookup x=some k\/(k= .cell/\names.lookup x=some .free)
 | [],_,_,h=>by simp at h
 | (n,k) ::r,x,k',h=>by
   have ih:=@fO env r x k';have h:List.lookup x ((if(k==NameKind.free && env.scope.kind== .function && env.kindOf n==some .cell)=true then(n,NameKind.cell) else(n,k)) ::_)=some k':=h
   by_cases hc:(k==NameKind.free && env.scope.kind== .function && env.kindOf n==some .cell)=true
   .rw [QaK hc] at h;have hkf:k= .free:=by
     simp only[Qbn,Qbj] at hc;exact hc.1.1
    cases hx:x==n with
    | true=>
      rw[QaF,hx] at h;cases h;exact .inr ⟨rfl,by rw[QaF,hx,hkf]⟩
    | false=>
      rw[QaF,hx] at h;rw[QaF,hx];exact ih h
   .rw [QaH hc] at h;cases hx:x==n with
    | true=>
      rw[QaF,hx] at h;rw[QaF,hx];exact .inl h
    | false=>
      rw[QaF,hx] at h;rw[QaF,hx];exact ih h
def q_{pins:Aaa}{s:Qdg}(C:f6 X scope own kp kn)(I:Inv X pins σ H s):∀y∈scope.names,y.2= .free->∃c,X.env.cells.lookup y.1=some c:=λy hy hf=>
 I.ok.has y.1 (C.free y hy hf)
def Md{pins:Aaa}{σ:St}{H:Hp}{s:Qdg}{fp:List Addr}{i7:Heap}{tk:Nat}(C:f6 X scope own kp kn)(I:Inv X pins σ H s)(hf:∀b∈fp,vT X pins H b)(hb:∀b∈fp,b<s.heap.objs.size)
 (hn:i7.Ns s.heap.objs.size (λ_=>none)) (hk:∀b o,s.heap.get? b=some o->i7.get? b=some o) (hC:CellsOk i7 (s.heap.objs.size+1) (cellsFrom (s.heap.objs.size+1) scope.names [])):Inv (bN X scope (own++kn) fp s H) [] (d5 own kp σ) H {s with heap:=i7,toks:=tk}:=by
 have cl:∀x c,(qm X.env.cells scope.names []).lookup x=some c->X.env.cells.lookup x=some c:=λx c e=>by
  rcases lR scope.names [] e with q | ⟨q1,q2⟩
  .simp at q
  .obtain⟨c',Jx⟩:=q_ C I (x, .free) q1 rfl;have Jx:X.env.cells.lookup x=some c':=Jx;rw[Jx] at q2;rw[Jx,q2];rfl
 have clA:∀x c,(cellsFrom (s.heap.objs.size+1) scope.names$ qm X.env.cells scope.names []).lookup x=some c->(x,c)∈cellsFrom (s.heap.objs.size+1) scope.names []\/(qm X.env.cells scope.names []).lookup x=some c:=λx c e=>by
  rw[rC] at e;exact E4 e
 have old:∀x c,(qm X.env.cells scope.names []).lookup x=some c->c<s.heap.objs.size:=λx c e=>by
  obtain⟨v,h⟩:=I.cell x c$ cl x c e;exact h.lt
 have new:∀x c,(x,c)∈cellsFrom (s.heap.objs.size+1) scope.names []->s.heap.objs.size<=c:=λx c e=>Nat.le_of_lt (hC.empty x c e).2
 have clh:∀x,scope.names.lookup x=some .free->∃c,(qm X.env.cells scope.names []).lookup x=some c:=λx hx=>Ds scope.names []$ .inl$ Qbv hx
 refine⟨⟨I.ok.mod,C.kind,I.ok.glob,I.ok.blt,Qak _,λx y c h1 h2=>?inj,λx hx=>?_,λx c hn h=>?cab,I.ok.hd,I.ok.frames, .inl rfl,λb yy=>⟨QaR$ hb b yy,λx c e z=>?exf⟩,
  λb o e=>I.bs b o e,QaT I.ok.bsz I.sz,λb o e yy=>?_,λb yy hs=>?_,I.stack,I.GH⟩,
  rfl,I.bare,Un.kept hk,⟨_,hn,λi x v h1 h2 h3=>?_⟩,λx c e=>?_,I.hok.fresh$ Qak _,λx c e=>?frc,λp hp=>(by cases hp),I.hok.kept hk,?_⟩
 case inj=>
  rcases clA x c h1 with a | a <;> rcases clA y c h2 with b | b
  .exact name_of_addr hC.apart a b
  .exact absurd (QaP (old y c b)$ new x c a) (QbK _)
  .exact absurd (QaP (old x c a)$ new y c b) (QbK _)
  .exact I.ok.inj x y c (cl x c a) (cl y c b)
 case cab=>
  have hn:(scope.names.lookup x==some .cell)=true:=hn;rcases clA x c h with a | a
  .exact new x c a
  .rcases lR scope.names [] a with q | ⟨q1,q2⟩
   .simp at q
   .have hx:scope.names.lookup x=some .cell:=by simpa using hn
    have h7:scope.names.lookup x=some .free:=C.frl _ q1 rfl;rw[hx] at h7;cases h7
 case exf=>
  rcases clA x c e with a | a
  .subst z;exact absurd (QaP (hb _ yy)$ new x _ a)$ QbK _
  .exact(hf b yy).2.2.2.2.1 x c (cl x c a) z
 case frc=>
  rcases clA x c e with a | a
  .exact I.hok.fresh (new x c a)
  .exact I.freeC x c (cl x c a)
 .have hx:(relabel scope X.env).names.lookup x=some .cell\/(relabel scope X.env).names.lookup x=some .free:=hx;show ∃c,(cellsFrom (s.heap.objs.size+1) scope.names$ qm X.env.cells scope.names []).lookup x=some c;rcases hx with hx | hx
  .rcases fO hx with q | ⟨_,q⟩
   .rw [rC];obtain⟨c,hc⟩:=wO (n:=s.heap.objs.size+1) q;exact A2 hc
   .rw [rC];exact oR$ clh x q
  .rcases fO hx with q | ⟨q,_⟩
   .rw [rC];exact oR$ clh x q
   .cases q
 .rcases(hf b yy).2.2.2.1 with z | z
  .exact I.ok.noex b o e z
  .exact absurd (QaP (QaD (I.ok.bs b o e).1) z) (QbK _)
 .rcases QaE.mp (I.Fe b hs) with z | z
  .exact(hf b yy).2.1 z
  .exact(hf b yy).2.2.1 z
 .-- a kept name
  have h1:(own++kn)[i]? =some x:=h1;have h2:(d5 own kp σ)[i]? =some (some v):=h2;unfold d5 at h2;by_cases hi:i<own.length
  .rw [Qax (by simpa using hi),Qa5] at h2
   split at h2 <;> cases h2
  .rw [Qaj (by simpa using hi),Qba,Qac] at h2
   rw[Qaj$ by simpa using hi] at h1
   cases e:kp[i - own.length]? with
   | none=>rw [e] at h2;cases h2
   | some j=>
     rw[e] at h2;have h2:(σ[j]?).getD none=some v:=QaW h2;have hj:X.N[j]? =some x:=C.at_ _ j x e h1;have Pn:σ[j]? =some (some v):=by
      cases q:σ[j]? with
      | none=>rw [q] at h2;cases h2
      | some y=>rw [q] at h2;exact Qbh some h2
     have hfree:scope.names.lookup x=some .free:=C.isfree x$ Qap h1;have hkind:=C.free (x, .free) (Qbv hfree) rfl;obtain⟨m,hm,hl⟩:=I.loc;obtain⟨u,r,l⟩:=hl j x v hj Pn$ hkind.elim (λq=>Or.inr$ Or.inl q) λq=>Or.inr$ Or.inr q
     refine⟨u,r, .inr ⟨?_,?_⟩⟩
     .have h3:(relabel scope X.env).names.lookup x=some .local\/(relabel scope X.env).names.lookup x=some .cell\/(relabel scope X.env).names.lookup x=some .free:=h3;rcases h3 with q | q | q
      .rcases fO q with z | ⟨z,_⟩
       .rw [hfree] at z;cases z
       .cases z
      .exact .inl q
      .exact .inr q
     .rcases l with⟨k,_⟩ | ⟨_,c,hc,hcell⟩
      .rcases hkind with q | q
       .rw [show X.env.kindOf x=some .cell from q] at k;cases k
       .rw [show X.env.kindOf x=some .free from q] at k;cases k
      .obtain⟨c',Jx⟩:=clh x hfree;have:=cl x c' Jx;rw[hc] at this;cases this;obtain⟨o,ho,hd⟩:=hcell;exact⟨c,(Bb _ _ _ λz=>by have:=C.cel _ z rfl;rw [hfree] at this;cases this).trans Jx,o,hk c o ho,hd⟩
 .rcases clA x c e with a | a
  .exact⟨_,(hC.empty x c a).1⟩
  obtain⟨v,o,ho,hd⟩:=I.cell x c$ cl x c a;exact⟨v,o,hk c o ho,hd⟩
 .show(d5 own kp σ).length=(own++kn).length;unfold d5;rw[Qai,Qba,Qaa,Qai,C.names]
def yo{pins:Aaa}{s s':Qdg}{fp:List Addr}{N':List Str}(I:Inv X pins σ H s)(hf:∀b∈fp,vT X pins H b)(J:Inv (bN X scope N' fp s H) [] dN H' s'):Inv X pins σ H' s':=
 I.UW (ch:=fp) J.os J.base J.hok J.bare λb hb=>⟨(hf b hb).2.2.2.1,(hf b hb).2.1,(hf b hb).2.2.2.2.1,(hf b hb).2.2.2.2.2⟩
end
def rX(X:Cx)(ifs:List Expr)(t:TT):Prop:=
 ∀(pins:Aaa) (s:Qdg) (σ:St) (H:Hp) (Q:Bool->Hp->Prop),Inv X pins σ H s->t σ H Q->
  wpAny (model X.prog X.w) X.A (forIn ifs true λc r=>if r=true then do let ok <-isTrue c X.env (eval c X.env);pure (ForInStep.yield ok) else pure (ForInStep.yield r)) (TP X pins σ Q) X.xe s
def Xd:TT:=λ_ H Q=>Q true H
def D4{X:Cx}:rX X [] Xd:=λ_ _ _ H _ I h=>wpAny_tests_nil ⟨H,I,h⟩
def D7{X:Cx}{t:TT}(h:PT X c t):rX X [c] t:=λpins s σ H Q I hq=>wpAny_tests_one$ h pins s σ H Q I hq
def Gn(wi:TI)(g:TG)(tc:TT)(te:TE)(own:List Str)(kp:List Nat):TE:=λσ H Q=>wi σ H λJ H1=>∀D,H1 D=none->
 ∃W:Nat->Nat->List V->Hp->Prop,(∃m,W 0 m []$ upd H1 D$ .lst [])/\∀i m ys H,W i m ys H->
  (J.stop i H/\Q (.ref D) H)\/(J.go i H/\∀x H',J.yld i H x H'->g x (d5 own kp σ) H' λB0 H2=>tc B0 H2 λc H3=>
    if c=true then te B0 H3 λy H4=>H4 D=some (.lst ys)/\ys.length<sizeLine/\∃m',m'<m/\W (i+1) m' (ys++[y]) (upd H4 D$ .lst$ ys++[y])
    else ∃m',m'<m/\W (i+1) m' ys H3)
section
variable {X:Cx}{scope:Scope}{own:List Str}{kp:List Nat}{kn:List Str}{tg iter elt:Expr}{ifs:List Expr}{wi:TI}{g:TG}{tc:TT}{te:TE}{pos:Pos}
def C4{pins:Aaa}{σ:St}{H:Hp}{s:Qdg}{fp:List Addr}{it D:Addr}{tn:Nat->Heap->Prop}{J:It}{Q:VK}{i7:Heap}{tk:Nat}{R:Result->Qdg->Prop}
 (hc:X.calm=true) (C:f6 X scope own kp kn) (I:Inv X pins σ H s) (hf:∀b∈fp,vT X pins H b) (hb:∀b∈fp,b<s.heap.objs.size) (T:Turn X.prog X.w X.K tg J fp it tn)
 (hg:PG (bN X scope (own++kn) fp s H) tg g) (hi:rX (bN X scope (own++kn) fp s H) ifs tc) (he:PE (bN X scope (own++kn) fp s H) elt te)
 (hn:i7.Ns s.heap.objs.size (λ_=>none)) (hk:∀b o,s.heap.get? b=some o->i7.get? b=some o) (hC:CellsOk i7 (s.heap.objs.size+1) (cellsFrom (s.heap.objs.size+1) scope.names [])) (st:tn 0 s.heap)
 (W:Nat->Nat->List V->Hp->Prop) (w0:∃m,W 0 m [] H)
 (turn:∀i m ys H,W i m ys H->
   (J.stop i H/\Q (.ref D) H)\/(J.go i H/\∀x H',J.yld i H x H'->g x (d5 own kp σ) H' λB0 H2=>tc B0 H2 λc H3=>
     if c=true then te B0 H3 λy H4=>H4 D=some (.lst ys)/\ys.length<sizeLine/\∃m',m'<m/\W (i+1) m' (ys++[y]) (upd H4 D$ .lst$ ys++[y])
     else ∃m',m'<m/\W (i+1) m' ys H3))
 (hR:∀H' s' dN,Inv (bN X scope (own++kn) fp s H) [] dN H' s'->Q (.ref D) H'->R (.ok .next) s') :
 codeAny (model X.prog X.w) X.A (.compStart (.ListComp elt [⟨tg,iter,ifs,0⟩] scope pos) 0 (.ref it) (.ref D) (bN X scope (own++kn) fp s H).env) R {s with heap:=i7,toks:=tk}:=by
 have I1:Inv (bN X scope (own++kn) fp s H) [] (d5 own kp σ) H {s with heap:=i7,toks:=tk}:=Md C I hf hb hn hk hC
 have ZI:tn 0 i7:=T.keep _ _ _ st λb _ o e=>hk b o e
 have fp1:∀{H':Hp} {p:Aaa},(∀b∈fp,H' b=none)->(∀b∈fp,∀q∈p,q.1≠b)->∀b∈fp,vT (bN X scope (own++kn) fp s H) p H' b:=fun {H' p} hn hp b yy=>
  ⟨hn b yy,(I1.ok.exf b yy).1,I1.ok.exfs b yy, .inl yy,λx c e=>(I1.ok.exf b yy).2 x c e,λq hq=>hp b yy q hq⟩
 obtain⟨m0,w0⟩:=w0;have loop:codeAny (model X.prog X.w) X.A (.compLoop (.ListComp elt [⟨tg,iter,ifs,0⟩] scope pos) 0 (.ref it) (.ref D) (bN X scope (own++kn) fp s H).env) R {s with heap:=i7,toks:=tk}:=by
  refine codeAny_loop rfl (λn s'=>∃i ys H',Inv (bN X scope (own++kn) fp s H) [] (d5 own kp σ) H' s'/\tn i s'.heap/\(∀b∈fp,H' b=none)/\W i n ys H') (λn s' hI=>?_) m0 ⟨0,[],H,I1,ZI,λb yy=>(hf b yy).1,w0⟩
  obtain⟨i,ys,H3,I3,Pj,V8,w3⟩:=hI;show wpAny _ _ ((compTurn (.ListComp elt [⟨tg,iter,ifs,0⟩] scope pos) 0 (.ref it) (.ref D) (bN X scope (own++kn) fp s H).env).onRaise$ λx=>do noteFrame x (bN X scope (own++kn) fp s H).env;theTreesLotGoes x) _ _ s'
  refine wpAny_noted$ wpAny_noRaise ?_;rw[compTurn_list];refine Qaf$ wpAny_standAt$ Qaf ?_;rcases turn i n ys H3 w3 with⟨stop,q⟩ | ⟨go,step⟩
  .refine d9 (T.done (bN X scope (own++kn) fp s H) rfl rfl rfl hc i [] s' _ H3 _ I3 (fp1 V8$ λ_ _ q hq=>by cases hq) Pj stop) λr s4 ⟨hr,I4⟩=>?_
   subst hr;exact QaG$ hR H3 s4 _ I4 q
  .refine d9 (T.item (bN X scope (own++kn) fp s H) rfl rfl rfl hc i [] s' _ H3 _ I3 (fp1 V8$ λ_ _ q hq=>by cases hq) Pj go) λr s4 ⟨u,hr,h4⟩=>?_
   subst hr;refine Qaf$ d9 h4 λ_ s5 ⟨x,H5,I5,r5,y5,Tf,YA⟩=>?_
   have I5':=I5.pinned (fp1 YA$ λ_ _ q hq=>by cases hq) (T.obj _ _ Tf)
   have keepIt:∀{Eb:St} {H7:Hp} {s7:Qdg},Inv (bN X scope (own++kn) fp s H) ([]++qZ fp s5.heap) Eb H7 s7->tn (i+1) s7.heap/\∀b∈fp,H7 b=none:=fun {Eb H7 s7} I7=>by
    refine⟨T.keep _ _ _ Tf λb hb o e=>(I7.pin (b,o)$ Qa9 _$ Qa9 _$ nq hb e).1,λb hb=>?_⟩
    obtain⟨o,e,d⟩:=T.obj _ _ Tf b hb;exact(I7.pin (b,o)$ Qa9 _$ Qa9 _$ nq hb e).2.1
   have reset:∀{Eb:St} {H7:Hp} {s7:Qdg},Inv (bN X scope (own++kn) fp s H) ([]++qZ fp s5.heap) Eb H7 s7->Inv (bN X scope (own++kn) fp s H) [] (d5 own kp σ) H7 s7:=fun {Eb H7 s7} I7=>by
    have I8:=I7.sL;have hun:Un (Jt X.stack) fp H H7 s.heap s7.heap:=I8.base;have I9:Inv X pins σ H7 s7:=yo I hf I8;refine⟨I8.ok,I8.os,I8.bare,I8.base,?_,I8.cell,I8.free,I8.freeC,I8.pin,I8.hok,I1.len⟩;obtain⟨m,hm,_⟩:=I8.loc;refine⟨m,hm,λi x v h1 h2 h3=>?_⟩
    obtain⟨m1,hm1,Cg⟩:=I1.loc;obtain⟨u1,r1,l1⟩:=Cg i x v h1 h2 h3;have h1:(own++kn)[i]? =some x:=h1;have h2:(d5 own kp σ)[i]? =some (some v):=h2;unfold d5 at h2;by_cases hi:i<own.length
    .rw [Qax (by simpa using hi),Qa5] at h2
     split at h2 <;> cases h2
    .rw [Qaj (by simpa using hi),Qba,Qac] at h2
     rw[Qaj$ by simpa using hi] at h1
     cases e:kp[i - own.length]? with
     | none=>rw [e] at h2;cases h2
     | some j=>
       rw[e] at h2;have h2:(σ[j]?).getD none=some v:=QaW h2;have hj:X.N[j]? =some x:=C.at_ _ j x e h1;have Pn:σ[j]? =some (some v):=by
        cases q:σ[j]? with
        | none=>rw [q] at h2;cases h2
        | some y=>rw [q] at h2;exact Qbh some h2
       have hfree:scope.names.lookup x=some .free:=C.isfree x$ Qap h1;have hkind:=C.free (x, .free) (Qbv hfree) rfl;obtain⟨m9,hm9,hl9⟩:=I9.loc;obtain⟨u,r,l⟩:=hl9 j x v hj Pn$ hkind.elim (λq=>Or.inr$ Or.inl q) λq=>Or.inr$ Or.inr q
       refine⟨u,r, .inr ?_⟩;rcases l1 with⟨k,k2⟩ | ⟨k,c,hc,hcell⟩
       .have k:(relabel scope X.env).names.lookup x=some .local:=k;rcases fO k with z | ⟨z,_⟩
        .rw [hfree] at z;cases z
        .cases z
       .refine⟨k,c,hc,?_⟩;rcases l with⟨k',_⟩ | ⟨_,c',Jx,S8⟩
        .rcases hkind with q | q
         .rw [show X.env.kindOf x=some .cell from q] at k';cases k'
         .rw [show X.env.kindOf x=some .free from q] at k';cases k'
        .have MA:(qm X.env.cells scope.names []).lookup x=some c:=(Bb _ _ _ λz=>by have:=C.cel _ z rfl;rw [hfree] at this;cases this).symm.trans hc
         rcases lR scope.names [] MA with q | ⟨q1,q2⟩
         .simp at q
         .rw [Jx] at q2;have q2:c=c':=q2;rw[q2];exact S8
   have hmm:=hg ([]++qZ fp s5.heap) s5 (d5 own kp σ) H5 x u _ I5' r5$ step x H5 y5;refine Qaf$ d9 hmm λ_ s6 ⟨V0,H6,I6,q6⟩=>?_
   refine Qaf$ d9 (hi _ s6 V0 H6 _ I6 q6) λok s7 ⟨H7,I7,q7⟩=>?_
   cases ok with
   | false=>
     simp only[Qcq,if_false] at q7 ⊢;obtain⟨m',Tg,w7⟩:=q7;obtain⟨a1,a2⟩:=keepIt I7;exact QaG ⟨rfl,m',Tg,i+1,ys,H7,reset I7,a1,a2,w7⟩
   | true=>
     simp only[QbN] at q7 ⊢;refine Qaf$ Qaf$ d9 (he _ s7 V0 H7 _ I7 q7) λyv s8 ⟨y,H8,I8,r8,hD,hlt,m',Tg,w8⟩=>Qaf ?_
     obtain⟨a1,a2⟩:=keepIt I8;refine d9 (ui _ s8 V0 H8 (.ref D) [y] (.ref D) [yv] (λv H9=>v= .cY/\H9=upd H8 D (.lst$ ys++[y])) I8 rfl (.cons r8 .nil) ⟨D,ys,y,rfl,rfl,hD,hlt,rfl,rfl⟩) λ_ s9 ⟨v9,H9,I9,_,_,e9⟩=>?_
     subst e9;obtain⟨b1,b2⟩:=keepIt I9;exact QaG$ QaG ⟨rfl,m',Tg,i+1,ys++[y],_,reset I9,b1,b2,w8⟩
 exact codeAny_compStart_list loop$ T.self _ _ _ _ _ ZI loop
def G0(hc:X.calm=true)(C:f6 X scope own kp kn)(hi:PI X tg iter wi)(hg:∀fp s H,PG (bN X scope (own++kn) fp s H) tg g)(D_:∀fp s H,rX (bN X scope (own++kn) fp s H) ifs tc)
 (he:∀fp s H,PE (bN X scope (own++kn) fp s H) elt te) (hs:∀x,foldedSetIterable iter X.env x=pure x:=by intro _;rfl):PE X (.ListComp elt [⟨tg,iter,ifs,0⟩] scope pos) (Gn wi g tc te own kp):=by
 intro pins s σ H Q I h;rw[eval_ListComp];refine wpAny_comprehension_free (use:=none) rfl hs (oh$ q_ C I) C.kind C.nd$ d9 (hi pins s σ H _ I h) λv s1 h1=>d9 h1 λWI s2 h2=>?_
 obtain⟨it,fp,tn,J,H2,e,I2,T,MQ,f2,q⟩:=h2;subst e;refine QbD ?_;have I3:Inv X pins σ (upd H2 s2.heap.objs.size$ .lst []) {s2 with heap:=s2.heap.push {cls:= .type "list",dict:=none,data:= .seq ([]:List Value).toArray}}:=I2.NU (its:=[]) (t':=s2.toks) .nil$ QbE _
 obtain⟨W,w0,turn⟩:=q s2.heap.objs.size I2.fresh;have fne:∀b∈fp,b<s2.heap.objs.size:=λb hb=>let⟨o,e,_⟩:=T.obj _ _ MQ b hb;QaD e
 have f3:∀b∈fp,vT X pins (upd H2 s2.heap.objs.size$ .lst []) b:=λb hb=>⟨by rw[bA$ QaR$ fne b hb];exact(f2 b hb).1,(f2 b hb).2⟩
 generalize hs3:({s2 with heap:=s2.heap.push {cls:= .type "list",dict:=none,data:= .seq ([]:List Value).toArray}}:Qdg)=s3 at I3 ⊢
 have Pj:tn 0 s3.heap:=by rw[<-hs3];exact T.keep _ _ _ MQ λb _ o e=>Qah _ e
 have fne3:∀b∈fp,b<s3.heap.objs.size:=λb hb=>by rw[<-hs3];exact QaP (fne b hb) (by rw[Qbk];exact Qce _)
 refine zF λi7 FY hk hC=>?_
 refine C4 (D:=s2.heap.objs.size) hc C I3 f3 fne3 T (hg fp s3 _) (D_ fp s3 _) (he fp s3 _) FY hk hC Pj W w0 turn λH' s' dN J' hq=>?_
 have B:=yo I3 f3 J';obtain⟨m',Tg,_⟩:=J'.loc;refine⟨m',Tg,λh' sb=>⟨.ref s2.heap.objs.size,H',?_,rfl,hq⟩⟩
 have fC:=I3.A1 (H':=H') (b:=s3.heap.objs.size) (Qak _) J'.free;exact B.turned (it:=s3.heap.objs.size) (t':=s'.toks) (λb o hb e=>(sb.2 b hb).trans e) fC.1 fC.2.1 fC.2.2.2.1 fC.2.2.2.2.1 fC.2.2.2.2.2
def rj{i:Nat}{x:Str}{pos' mw:Pos}(hc:X.calm=true)(hN:X.N.Nodup)(hx:X.N[i]? =some x)(Jz:X.env.scope.names.lookup x=some .local)(C:f6 X scope own kp kn)(hi:PI X tg iter wi)
 (hg:∀fp s H,PG (bN X scope (own++kn) fp s H) tg g) (D_:∀fp s H,rX (bN X scope (own++kn) fp s H) ifs tc)
 (he:∀fp s H,PE (bN X scope (own++kn) fp s H) elt te)
 (yw:swapsWith (.ListComp elt [⟨tg,iter,ifs,0⟩] scope pos) (some$ .Name x pos') mw.line X.env=pure true:=by rfl)
 (hs:∀x,foldedSetIterable iter X.env x=pure x:=by intro _;rfl) :
 PS X (.Assign [.Name x pos'] (.ListComp elt [⟨tg,iter,ifs,0⟩] scope pos) mw) (Ir (Gn wi g tc te own kp)$ xD i):=by
 intro pins s σ H D I h;rw[exec_Assign_Name_used _ _ _ _ yw];refine Qaf$ wpAny_standAt$ Qaf ?_;show wpAny _ X.A (do let _ <-comprehension (.ListComp elt [⟨tg,iter,ifs,0⟩] scope pos) scope X.env _ (newList []) false (eval iter X.env) (some$ assign (.Name x pos') X.env)) _ _ s
 refine Qaf (Qb1 (wpAny_comprehension_free (use:=some$ assign (.Name x pos') X.env) (Q:=λ_ s'=>SP X pins D .next s') rfl hs (oh$ q_ C I) C.kind C.nd
  (d9 (hi pins s σ H _ I h) λv s1 h1=>d9 h1 λWI s2 h2=>?_)) (λ_ s' hq=>QaG$ QaG hq) λ_ _ e=>e)
 obtain⟨it,fp,tn,J,H2,e,I2,T,MQ,f2,q⟩:=h2;subst e;refine QbD ?_;have I3:Inv X pins σ (upd H2 s2.heap.objs.size$ .lst []) {s2 with heap:=s2.heap.push {cls:= .type "list",dict:=none,data:= .seq ([]:List Value).toArray}}:=I2.NU (its:=[]) (t':=s2.toks) .nil$ QbE _
 obtain⟨W,w0,turn⟩:=q s2.heap.objs.size I2.fresh;have fne:∀b∈fp,b<s2.heap.objs.size:=λb hb=>let⟨o,e,_⟩:=T.obj _ _ MQ b hb;QaD e
 have f3:∀b∈fp,vT X pins (upd H2 s2.heap.objs.size$ .lst []) b:=λb hb=>⟨by rw[bA$ QaR$ fne b hb];exact(f2 b hb).1,(f2 b hb).2⟩
 generalize hs3:({s2 with heap:=s2.heap.push {cls:= .type "list",dict:=none,data:= .seq ([]:List Value).toArray}}:Qdg)=s3 at I3 ⊢
 have Pj:tn 0 s3.heap:=by rw[<-hs3];exact T.keep _ _ _ MQ λb _ o e=>Qah _ e
 have fne3:∀b∈fp,b<s3.heap.objs.size:=λb hb=>by rw[<-hs3];exact QaP (fne b hb) (by rw[Qbk];exact Qce _)
 refine zF λi7 FY hk hC=>?_
 refine C4 (Q:=λx H1=>xD i x σ H1 D.nx) (D:=s2.heap.objs.size) hc C I3 f3 fne3 T (hg fp s3 _) (D_ fp s3 _) (he fp s3 _) FY hk hC Pj W w0 turn λH' s' dN J' hq=>?_
 have B:=yo I3 f3 J';obtain⟨m',Tg,_⟩:=J'.loc;have fC:=I3.A1 (H':=H') (b:=s3.heap.objs.size) (Qak _) J'.free;show wpAny _ X.A (assign (.Name x pos') X.env$ .ref s2.heap.objs.size) _ _ s';refine wpAny_assign_Name$ Ab B hN hx (.inl Jz) (v:= .ref s2.heap.objs.size) rfl (λs4 I4 ⟨a,sb,ha⟩=>?_)$ .inr Jz
 have ha':s3.heap.objs.size≠a:=by
  rcases ha with rfl | z
  .exact fC.2.1
  .exact λe=>fC.2.2.2.2.1 x a z e.symm
 refine⟨m',Tg.sameBut sb ha',λh' sb'=>⟨_,H',?_,hq⟩⟩
 exact I4.turned (it:=s3.heap.objs.size) (t':=s4.toks) (λb o hb e=>(sb'.2 b hb).trans e) fC.1 fC.2.1 fC.2.2.2.1 fC.2.2.2.2.1 fC.2.2.2.2.2
end
inductive D where
 | cY | bl (b:Bool) | int (i:Int) | str (x:Str) | lst (ds:List D) | tup (ds:List D) | dct (ks:List Key) (ds:List D)
inductive R (α:Type) where
 | ok (a:α) | ex (c:Nat) | no
noncomputable def R.bind{α β:Type}:R α->(α->R β)->R β
 | .ok a,f=>f a
 | .ex c,_=> .ex c
 | .no,_=> .no
def R.ao{α β:Type}{r:R α}{f:α->R β}{b:β}(h:r.bind f= .ok b):∃a,r= .ok a/\f a= .ok b:=by
 cases r with
 | ok a=>exact⟨a,rfl,h⟩
 | ex c=>cases h
 | no=>cases h
@[simp] theorem R.aP{α β:Type}(a:α)(f:α->R β):(R.ok a).bind f=f a:=rfl
noncomputable def R.bH{α:Type}(c:Bool)(r:R α):R α:=if c then r else .no
def R.bj{α:Type}{c:Bool}{r:R α}{a:α}(h:R.bH c r= .ok a):c=true/\r= .ok a:=by
 cases c with
 | true=>exact⟨rfl,h⟩
 | false=>cases h
@[simp] theorem R.Tr{α:Type}(r:R α):R.bH true r=r:=rfl
def zM(K:Qdf)(B:List Addr)(H:Hp)(a:Addr)(xs:List V):Prop:=
 (a ∉ B/\Rd H a (.lst xs))\/∃(its:List Value) (n:Nat),K.lookup a=some {cls:= .type "list",data:= .seq its.toArray n}/\xs.length<=sizeLine/\Vals xs its
def Ac(K:Qdf)(B:List Addr)(H:Hp)(a:Addr)(xs:List V):Prop:=
 (a ∉ B/\Rd H a (.tup xs))\/∃(o:Obj) (its:Array Value) (n:Nat),K.lookup a=some o/\o.cls= .type "tuple"/\o.data= .seq its n/\its.size<=sizeLine/\Vals xs its.toList
def zM.sq{K:Qdf}{B:List Addr}{a:Addr}{xs:List V}(h:zM K B H a xs):qT K H a xs:=by
 rcases h with z | ⟨its,n,hk,hz,r⟩
 .exact .inl z.2
 .exact .inr ⟨_,its.toArray,n,hk,rfl,rfl,rfl,by rw[Qay,<-r.length];exact hz,by simpa using r⟩
def Ac.sq{K:Qdf}{B:List Addr}{a:Addr}{xs:List V}(h:Ac K B H a xs):u9 K H a xs:=h.elim (λz=> .inl z.2) .inr
mutual
def Rep(K:Qdf)(B:List Addr)(H:Hp):D->V->Prop
 | .cY,v=>v= .cY
 | .bl b,v=>v= .bl b
 | .int i,v=>v= .int i
 | .str x,v=>v= .str x
 | .lst ds,v=>∃a xs,v= .ref a/\zM K B H a xs/\aI K B H ds xs
 | .tup ds,v=>∃a xs,v= .ref a/\Ac K B H a xs/\aI K B H ds xs
 | .dct ks ds,v=>∃(a:Addr) (kvs:List (Key × V)),v= .ref a/\(a ∉ B/\H a=some (.dK kvs))/\kvs.map (·.1)=ks/\aI K B H ds (kvs.map (·.2))
def aI(K:Qdf)(B:List Addr)(H:Hp):List D->List V->Prop
 | [],xs=>xs=[]
 | d ::ds,xs=>∃x r,xs=x ::r/\Rep K B H d x/\aI K B H ds r
end
def dR(B:List Addr)(H:Hp)(B':List Addr)(H':Hp):Prop:=∀b o,H b=some o->b ∉ B->H' b=some o/\b ∉ B'
def dR.rd{B B':List Addr}(p:dR B H B' H'){a:Addr}{u:HO}(h:Rd H a u)(n:a ∉ B):Rd H' a u/\a ∉ B':=by
 rcases h with e | ⟨o,e⟩
 .exact⟨.inl (p a _ e n).1,(p a _ e n).2⟩
 .exact⟨.inr ⟨o,(p a _ e n).1⟩,(p a _ e n).2⟩
def dR.trans{B B' Wg:List Addr}(p:dR B H B' H')(q:dR B' H' Wg qX):dR B H Wg qX:=λb o e n=>
 let⟨e1,n1⟩:=p b o e n;q b o e1 n1
def dR.same{B:List Addr}(s:bo H H'):dR B H B H':=λb o e n=>⟨s b o e,n⟩
def dR.refl(B:List Addr)(H:Hp):dR B H B H:=dR.same$ bo.refl H
def zM.bG{K:Qdf}{B B':List Addr}(p:dR B H B' H'){a:Addr}{xs:List V}(l:zM K B H a xs):zM K B' H' a xs:=
 l.elim (λz=> .inl ⟨(p.rd z.2 z.1).2,(p.rd z.2 z.1).1⟩) .inr
mutual
theorem Rep.bG{K:Qdf}{B B':List Addr}(p:dR B H B' H'):∀{d:D} {v:V},Rep K B H d v->Rep K B' H' d v
 | .cY,_,h=>h
 | .bl _,_,h=>h
 | .int _,_,h=>h
 | .str _,_,h=>h
 | .lst ds,v,h=>by
   unfold Rep at h ⊢;obtain⟨a,xs,e,l,r⟩:=h;exact⟨a,xs,e,l.bG p,aI.bG p r⟩
 | .tup ds,v,h=>by
   unfold Rep at h ⊢;obtain⟨a,xs,e,l,r⟩:=h;exact⟨a,xs,e,l.elim (λz=> .inl ⟨(p.rd z.2 z.1).2,(p.rd z.2 z.1).1⟩) .inr,aI.bG p r⟩
 | .dct ks ds,v,h=>by
   unfold Rep at h ⊢;obtain⟨a,kvs,e,⟨n,l⟩,k,r⟩:=h;exact⟨a,kvs,e,⟨(p a _ l n).2,(p a _ l n).1⟩,k,aI.bG p r⟩
theorem aI.bG{K:Qdf}{B B':List Addr}(p:dR B H B' H'):∀{ds:List D} {xs:List V},aI K B H ds xs->aI K B' H' ds xs
 | [],_,h=>h
 | d ::ds,xs,h=>by
   unfold aI at h ⊢;obtain⟨x,r,e,h1,h2⟩:=h;exact⟨x,r,e,Rep.bG p h1,aI.bG p h2⟩
end
def Rep.same{K:Qdf}{B:List Addr}{d:D}{v:V}(h:Rep K B H d v)(s:bo H H'):Rep K B H' d v:=h.bG$ dR.same s
def aI.same{K:Qdf}{B:List Addr}{d:List D}{v:List V}(h:aI K B H d v)(s:bo H H'):aI K B H' d v:=h.bG$ dR.same s
def aI.nil{K:Qdf}{B:List Addr}:aI K B H [] []:=by unfold aI;rfl
def aI.cons{K:Qdf}{B:List Addr}{d:D}{ds:List D}{x:V}{xs:List V}(h:Rep K B H d x)(t:aI K B H ds xs):aI K B H (d ::ds) (x ::xs):=by
 unfold aI;exact⟨x,xs,rfl,h,t⟩
def aI.cj{K:Qdf}{B:List Addr}{d:D}{ds:List D}{xs:List V}(h:aI K B H (d ::ds) xs):∃x r,xs=x ::r/\Rep K B H d x/\aI K B H ds r:=by
 unfold aI at h;exact h
theorem aI.length{K:Qdf}{B:List Addr}:∀{ds:List D} {xs:List V},aI K B H ds xs->ds.length=xs.length
 | [],_,h=>by unfold aI at h;rw [h];rfl
 | d ::ds,xs,h=>by
   obtain⟨x,r,rfl,_,h2⟩:=h.cj;simp [h2.length]
theorem aI.get{K:Qdf}{B:List Addr}:∀{ds:List D} {xs:List V} {i:Nat} {d:D},aI K B H ds xs->ds[i]? =some d->∃x,xs[i]? =some x/\Rep K B H d x
 | [],_,_,_,_,e=>by simp at e
 | d ::ds,xs,0,d',h,e=>by
   obtain⟨x,r,rfl,h1,h2⟩:=h.cj;simp at e;subst e;exact⟨x,rfl,h1⟩
 | d ::ds,xs,i+1,d',h,e=>by
   obtain⟨x,r,rfl,h1,h2⟩:=h.cj;obtain⟨y,e1,e2⟩:=aI.get (i:=i) h2 (by simpa using e)
   exact⟨y,by simpa using e1,e2⟩
theorem aI.append{K:Qdf}{B:List Addr}:∀{ds es:List D} {xs ys:List V},aI K B H ds xs->aI K B H es ys->aI K B H (ds++es) (xs++ys)
 | [],_,_,_,h,t=>by unfold aI at h;subst h;exact t
 | d ::ds,es,xs,ys,h,t=>by
   obtain⟨x,r,rfl,h1,h2⟩:=h.cj;exact aI.cons h1$ aI.append h2 t
theorem aI.drop{K:Qdf}{B:List Addr}:∀{ds:List D} {xs:List V} (n:Nat),aI K B H ds xs->aI K B H (ds.drop n) (xs.drop n)
 | _,_,0,h=>h
 | [],_,n+1,h=>by unfold aI at h;subst h;exact aI.nil
 | d ::ds,xs,n+1,h=>by
   obtain⟨x,r,rfl,h1,h2⟩:=h.cj;exact aI.drop n h2
theorem aI.take{K:Qdf}{B:List Addr}:∀{ds:List D} {xs:List V} (n:Nat),aI K B H ds xs->aI K B H (ds.take n) (xs.take n)
 | _,_,0,h=>aI.nil
 | [],_,n+1,h=>by unfold aI at h;subst h;exact aI.nil
 | d ::ds,xs,n+1,h=>by
   obtain⟨x,r,rfl,h1,h2⟩:=h.cj;exact aI.cons h1$ aI.take n h2
noncomputable def D.atom:D->Bool
 | .cY=>true | .bl _=>true | .int _=>true | .str _=>true | _=>false
def Rep.atom{K:Qdf}{B B':List Addr}{d:D}{v:V}(a:d.atom=true)(h:Rep K B H d v):Rep K B' H' d v:=by
 cases d <;> first | exact h | cases a
inductive Sl where
 | un | val (d:D) | bld (ds:List D)
abbrev ay:=List Sl
structure eV (K:Qdf) (Z B:List Addr) (H:Hp) (σ:St) (δ:ay):Prop where
 len:δ.length=σ.length
 bs:∀a∈B,∃o,H a=some o
 zb:∀a∈Z,a∈B
 val:∀(i:Nat) (d:D),δ[i]? =some (.val d)->∃v,σ[i]? =some (some v)/\Rep K B H d v
 bld:∀(i:Nat) (ds:List D),δ[i]? =some (.bld ds)->∃a xs,σ[i]? =some (some (.ref a))/\a∈B/\a ∉ Z/\H a=some (.lst xs)/\aI K B H ds xs
 dis:∀(i j:Nat) (a:Addr) (ds es:List D),δ[i]? =some (.bld ds)->δ[j]? =some (.bld es)->σ[i]? =some (some (.ref a))->σ[j]? =some (some (.ref a))->i=j
def eV.same{K:Qdf}{Z B:List Addr}{δ:ay}(E:eV K Z B H σ δ)(s:bo H H'):eV K Z B H' σ δ where
 len:=E.len
 bs:=λa ha=>let⟨o,e⟩:=E.bs a ha;⟨o,s a o e⟩
 zb:=E.zb
 val:=λi d e=>let⟨v,h1,h2⟩:=E.val i d e;⟨v,h1,h2.same s⟩
 bld:=λi ds e=>let⟨a,xs,h1,h2,h3,h4,h5⟩:=E.bld i ds e;⟨a,xs,h1,h2,h3,s a _ h4,h5.same s⟩
 dis:=E.dis
noncomputable def Vg(δ:ay):ay:=δ.map λx=>match x with | .bld ds=> .val (.lst ds) | y=>y
def PE.imp{X:Cx}{t t':TE}(h:PE X e t)(w:∀σ H Q,t' σ H Q->t σ H Q):PE X e t':=λpins s σ H Q I hq=>h pins s σ H Q I$ w σ H Q hq
def PT.imp{X:Cx}{t t':TT}(h:PT X e t)(w:∀σ H Q,t' σ H Q->t σ H Q):PT X e t':=λpins s σ H Q I hq=>h pins s σ H Q I$ w σ H Q hq
def PA.imp{X:Cx}{t t':TA}(h:PA X e t)(w:∀σ H Q,t' σ H Q->t σ H Q):PA X e t':=λpos pins s σ H Q I hq=>h pos pins s σ H Q I$ w σ H Q hq
def PS.imp{X:Cx}{t t':TS}(h:PS X e t)(w:∀D σ H,t' D σ H->t D σ H):PS X e t':=λpins s σ H D I hq=>h pins s σ H D I$ w D σ H hq
def Cb.imp{X:Cx}{t t':TS}(h:Cb X e t)(w:∀D σ H,t' D σ H->t D σ H):Cb X e t':=λpins s σ H D I hq=>h pins s σ H D I$ w D σ H hq
def PG.imp{X:Cx}{t t':TG}(h:PG X e t)(w:∀v σ H Q,t' v σ H Q->t v σ H Q):PG X e t':=λpins s σ H v u Q I r hq=>h pins s σ H v u Q I r$ w v σ H Q hq
def PI.imp{X:Cx}{t t':TI}(h:PI X tg e t)(w:∀σ H Q,t' σ H Q->t σ H Q):PI X tg e t':=λpins s σ H Q I hq=>h pins s σ H Q I$ w σ H Q hq
abbrev FD:=ay->R D
def tD(K:Qdf)(f:FD):TE:=λσ H Q=>∃Z B δ d,eV K Z B H σ δ/\f δ= .ok d/\∀v H',bo H H'->Rep K B H' d v->Q v H'
def tN(K:Qdf)(f:ay->R (List D)):TE:=λσ H Q=>∃Z B δ ds,eV K Z B H σ δ/\f δ= .ok ds/\∀a xs H',bo H H'->H a=none->H' a=some (.lst xs)->aI K (a ::B) H' ds xs->Q (.ref a) H'
def P7(K:Qdf)(f:ay->R Bool):TT:=λσ H Q=>∃Z B δ b,eV K Z B H σ δ/\f δ= .ok b/\∀H',bo H H'->Q b H'
def Zs(K:Qdf)(f:ay->R (List D)):TA:=λσ H Q=>∃Z B δ ds,eV K Z B H σ δ/\f δ= .ok ds/\∀vs H',bo H H'->aI K B H' ds vs->Q vs H'
abbrev PD(X:Cx)(e:Expr)(f:FD):Prop:=PE X e$ tD X.K f
abbrev PN(X:Cx)(e:Expr)(f:ay->R (List D)):Prop:=PE X e$ tN X.K f
abbrev PB(X:Cx)(e:Expr)(f:ay->R Bool):Prop:=PT X e$ P7 X.K f
abbrev MN(X:Cx)(es:List Expr)(f:ay->R (List D)):Prop:=PA X es$ Zs X.K f
section
variable {X:Cx}
def eNew(f:ay->R (List D)):FD:=λδ=>(f δ).bind λds=> .ok$ .lst ds
def QH{f:ay->R (List D)}(h:PN X e f):PD X e (eNew f):=h.imp λσ H Q ⟨Z,B,δ,d,E,hf,q⟩=>by
 obtain⟨ds,h1,h2⟩:=R.ao hf;cases h2;refine⟨Z,B,δ,ds,E,h1,λa xs H' s n e r=>q _ H' s ?_⟩
 unfold Rep;refine⟨a,xs,rfl, .inl ⟨λha=>?_, .inl e⟩,r.bG λb o e nb=>⟨e,λhb=>nb$ Qad _ hb⟩⟩
 obtain⟨o,ho⟩:=E.bs a ha;rw[n] at ho;cases ho
def sd{B:List Addr}{H:Hp}{p:Addr}{o:HO}(h:H p=none):dR B H (p ::B) (upd H p o):=λb u e nb=>
 ⟨by rw[bA$ cG e h];exact e,λhb=>by
   rcases QaE.mp hb with z | z
   .exact cG e h z
   .exact nb z⟩
def Zx(f:FD):FD:=λδ=>(f$ Vg δ).bind λd=>R.bH d.atom$ .ok d
def Zp(f:ay->R Bool):ay->R Bool:=λδ=>f$ Vg δ
noncomputable def af(i:Nat):FD:=λδ=>match δ[i]? with | some (.val d)=> .ok d | _=> .no
noncomputable def eC(d:D):FD:=λ_=> .ok d
def RO(i:Nat){x:Str}{pos:Pos}(hN:X.N[i]? =some x:=by rfl)(hv:Jr X.env.scope x:=by first | exact Or.inl rfl | exact Or.inr Qdc | exact Or.inr (Or.inr rfl))(hd:(x==("__debug__":Str))=false:=by decide)
 (tT:(x==("__classdict__":Str))=false:=by decide):PD X (.Name x pos) (af i):=(q8 hN hv hd tT).imp λσ H Q ⟨Z,B,δ,d,E,hf,q⟩=>by
 unfold af at hf;split at hf
 .rename_i d' e;cases hf;obtain⟨v,h1,h2⟩:=E.val i d e;exact⟨v,h1,q v H (bo.refl H) h2⟩
 .cases hf
def tM{v:V}{d:D}(h:PE X e (tC v))(r:∀B H,Rep X.K B H d v):PD X e (eC d):=h.imp λσ H Q ⟨Z,B,δ,d',E,hf,q⟩=>by
 cases hf;exact q v H (bo.refl H)$ r B H
def Qs{i j pos}:PD X (.Constant (.int i) j pos) (eC$ .int i):=tM Rk λ_ _=>by unfold Rep;rfl
def Vr{b j pos}:PD X (.Constant (.bool b) j pos) (eC$ .bl b):=tM VN λ_ _=>by unfold Rep;rfl
def R_{x j pos}:PD X (.Constant (.str x) j pos) (eC$ .str x):=tM Q5 λ_ _=>by unfold Rep;rfl
def Glob(K:Qdf)(mg:Aaf)(x:Str)(d:D):Prop:=∃(u:Value) (v:V),mg x=some u/\RelV v u/\∀B H,Rep K B H d v
def OL{d:D}{pos:Pos}(g:Glob X.K X.mg x d)(hg:Gl X x)(hd:(x==("__debug__":Str))=false:=by decide):PD X (.Name x pos) (eC d):=by
 obtain⟨u,v,hm,r,h⟩:=g;exact tM (O9 hg hm r hd) h
noncomputable def ax:ay->R (List D):=λ_=> .ok []
def ah(f:FD)(g:ay->R (List D)):ay->R (List D):=λδ=>(f δ).bind λd=>(g δ).bind λds=> .ok (d ::ds)
def Ox:MN X [] ax:=f9.imp λσ H Q ⟨Z,B,δ,d,E,hf,q⟩=>by
 cases hf;exact q [] H (bo.refl H) aI.nil
def Kj{g:ay->R (List D)}(h:PD X e f)(t:MN X es g)(hs:starEach (e ::es) X.env=(false,eval e X.env) ::starEach es X.env:=by rfl):MN X (e ::es) (ah f g):=
 (dq h t hs).imp λσ H Q ⟨Z,B,δ,d,E,hf,q⟩=>by
   obtain⟨d1,h1,h2⟩:=R.ao hf;obtain⟨ds,h3,h4⟩:=R.ao h2;cases h4;exact⟨Z,B,δ,d1,E,h1,λv H1 s1 r1=>⟨Z,B,δ,ds,E.same s1,h3,λvs H2 s2 r2=>q _ H2 (s1.trans s2)$ aI.cons (r1.same s2) r2⟩⟩
def b_(g:ay->R (List D)):FD:=λδ=>(g δ).bind λds=>R.bH (decide$ ds.length<=sizeLine)$ .ok$ .tup ds
def eF(g:ay->R (List D)):ay->R (List D):=λδ=>(g δ).bind λds=>R.bH (decide$ ds.length<=sizeLine)$ .ok ds
def aU{H:Hp}{p:Addr}{o:HO}(h:H p=none):bo H (upd H p o):=λb u e=>by rw[bA$ cG e h];exact e
def R9{g:ay->R (List D)}{x1 pos}(h:MN X es g):PD X (.Tuple es x1 pos) (b_ g):=(J_ h).imp λσ H Q ⟨Z,B,δ,d,E,hf,q⟩=>by
 obtain⟨ds,h1,h2⟩:=R.ao hf;obtain⟨hl,h3⟩:=R.bj h2;cases h3;refine⟨Z,B,δ,ds,E,h1,λvs H1 s1 r1=>⟨by rw[<-r1.length];exact Qal hl,λp hp=>q _ _ (s1.trans$ aU hp) ?_⟩⟩
 unfold Rep;refine⟨p,vs,rfl, .inl ⟨λha=>?_, .inl bh⟩,r1.same$ aU hp⟩
 obtain⟨o,ho⟩:=(E.same s1).bs p ha;rw[hp] at ho;cases ho
def Sk{g:ay->R (List D)}{pos}(h:MN X es g):PN X (.List es pos) (eF g):=(La h).imp λσ H Q ⟨Z,B,δ,d,E,hf,q⟩=>by
 obtain⟨ds,h1,h2⟩:=R.ao hf;obtain⟨hl,h3⟩:=R.bj h2;cases h3;exact⟨Z,B,δ,_,E,h1,λvs H1 s1 r1=>⟨by rw[<-r1.length];exact Qal hl,λp hp=>q p vs _ (s1.trans$ aU hp) (s1.free hp) bh$ r1.bG$ sd hp⟩⟩
def m6(X:Cx)(f:Value->Value->Sem Value)(g:D->D->R D):Prop:=
 ∀(pins:Aaa) (s:Qdg) (σ:St) (H:Hp) (B:List Addr) (da db d:D) (x y:V) (v u:Value),Inv X pins σ H s->(∀a∈B,∃o,H a=some o)->RelV x v->RelV y u->Rep X.K B H da x->Rep X.K B H db y->g da db= .ok d->
  wpAny (model X.prog X.w) X.A (f v u) (EP X pins σ λz H'=>bo H H'/\Rep X.K B H' d z) X.xe s
def e2(g:D->D->R D)(fa fb:FD):FD:=λδ=>(fa δ).bind λa=>(fb δ).bind λb=>g a b
def m6.r{f:Value->Value->Sem Value}{g:D->D->R D}(h:m6 X f g):oC X f (λx y H Q=>∃B da db d,(∀a∈B,∃o,H a=some o)/\Rep X.K B H da x/\Rep X.K B H db y/\g da db= .ok d/\∀z H',bo H H'->Rep X.K B H' d z->Q z H'):=by
 intro pins s σ H x y v u Q I rx ry ⟨B,da,db,d,hb,ha,yy,hg,q⟩;exact d9 (h pins s σ H B da db d x y v u I hb rx ry ha yy hg) λz s' ⟨zv,H',I',r',s1,r1⟩=>⟨zv,H',I',r',q zv H' s1 r1⟩
def Sr{K:Qdf}{g:D->D->R D}{Q:VK}(h:tD K (e2 g fa fb) σ H Q) :
 Tw (λx y H Q=>∃B da db d,(∀a∈B,∃o,H a=some o)/\Rep K B H da x/\Rep K B H db y/\g da db= .ok d/\∀z H',bo H H'->Rep K B H' d z->Q z H') (tD K fa) (tD K fb) σ H Q:=by
 obtain⟨Z,B,δ,d,E,hf,q⟩:=h;obtain⟨d1,h1,h2⟩:=R.ao hf;obtain⟨d2,h3,h4⟩:=R.ao h2;exact⟨Z,B,δ,d1,E,h1,λv1 H1 s1 r1=>⟨Z,B,δ,d2,E.same s1,h3,λv2 H2 s2 r2=>⟨B,d1,d2,d,(E.same$ s1.trans s2).bs,r1.same s2,r2,h4,λz H' s3 r3=>q z H' (s1.trans$ s2.trans s3) r3⟩⟩⟩
def Uu{op:Operator}{g:D->D->R D}(ho:m6 X (binaryOp op) g)(ha:PD X a fa)(hb:PD X b fb):PD X (.BinOp a op b pos) (e2 g fa fb):=
 (L6 ho.r ha hb).imp λσ H Q h=>Sr h
def R0{op:CmpOp}{g:D->D->R D}(ho:m6 X (compareOp op) g)(ha:PD X a fa)(hb:PD X b fb)(hm:behindInMarks op b=false):PD X (.Compare a [op] [b] pos) (e2 g fa fb):=
 (N5 ho.r ha hb hm).imp λσ H Q h=>Sr h
def b2(g:D->D->R D)(fa fb:FD):ay->R Bool:=λδ=>(e2 g fa fb δ).bind λd=>match d with | .bl b=> .ok b | _=> .no
def SQ{op:CmpOp}{g:D->D->R D}(ho:m6 X (compareOp op) g)(ha:PD X a fa)(hb:PD X b fb)(hm:behindInMarks op b=false):PB X (.Compare a [op] [b] pos) (b2 g fa fb):=
 (Gx ho.r ha hb hm).imp λσ H Q ⟨Z,B,δ,b,E,hf,q⟩=>by
   obtain⟨d,h1,h2⟩:=R.ao hf;cases d with
   | bl k=>
     cases h2;exact Sr (g:=g) (Q:=λx H'=>∃k,x= .bl k/\Q k H') ⟨Z,B,δ, .bl b,E,h1,λv H' s r=>⟨b,by unfold Rep at r;exact r,q H' s⟩⟩
   | _=>cases h2
def W_(g g':D->D->R D)(fa fb fc:FD):FD:=λδ=>(fa δ).bind λa=>(fb δ).bind λb=>(g a b).bind λr=>match r with
 | .bl true=>(fc δ).bind λc=>g' b c
 | .bl false=> .ok$ .bl false
 | _=> .no
def Nz:D->R Bool
 | .cY=> .ok false
 | .bl b=> .ok b
 | .int i=> .ok$ i !=0
 | .str x=>R.bH (decide$ x.length<=sizeLine)$ .ok$ (x.length:Int) !=0
 | .lst ds=> .ok$ !ds.isEmpty
 | .tup ds=> .ok$ !ds.isEmpty
 | .dct _ _=> .no
def AR(f:FD):ay->R Bool:=λδ=>(f δ).bind Nz
def aI.isEmpty{K:Qdf}{B:List Addr}{ds:List D}{xs:List V}(h:aI K B H ds xs):ds.isEmpty=xs.isEmpty:=by
 have:=h.length;cases ds <;> cases xs <;> simp_all
def K5{K:Qdf}{B:List Addr}{d:D}{v:V}{b:Bool}(r:Rep K B H d v)(h:Nz d= .ok b):Pf K v H b:=by
 cases d with
 | cY=>unfold Rep at r;subst r;cases h;exact rfl
 | bl k=>unfold Rep at r;subst r;cases h;exact rfl
 | int i=>unfold Rep at r;subst r;cases h;exact rfl
 | str x=>unfold Rep at r;subst r;obtain⟨h1,h2⟩:=R.bj h;cases h2;exact⟨Qal h1,rfl⟩
 | lst ds=>unfold Rep at r;obtain⟨a,xs,rfl,l,r⟩:=r;cases h;exact .inl ⟨xs,l.sq,by rw[r.isEmpty]⟩
 | tup ds=>unfold Rep at r;obtain⟨a,xs,rfl,l,r⟩:=r;cases h;exact .inr (.inl ⟨xs,l.sq,by rw[r.isEmpty]⟩)
 | dct _ _=>cases h
def QQ{a:Expr}(ha:PD X a f)(he:∀whole,isTrue a X.env whole=(do let v <-whole;standAt a.pos;holding [v] (truthy v)):=by intro _;rfl):PB X a (AR f):=
 (Dw ha he).imp λσ H Q ⟨Z,B,δ,b,E,hf,q⟩=>by
   obtain⟨d,h1,h2⟩:=R.ao hf;exact⟨Z,B,δ,d,E,h1,λv H' s r=>⟨b,K5 r h2,q H' s⟩⟩
def O6(f g:ay->R Bool):ay->R Bool:=λδ=>(f δ).bind λb=>if b then g δ else .ok false
def UH(f g:ay->R Bool):ay->R Bool:=λδ=>(f δ).bind λb=>if b then .ok true else g δ
def AQ(f:ay->R Bool):ay->R Bool:=λδ=>(f δ).bind λb=> .ok$ !b
def ML(X:Cx)(e:Expr)(f:ay->R Bool):Prop:=PW X e$ P7 X.K f
def ML.pb{f:ay->R Bool}(h:ML X e f):PB X e f:=PW.pt h
def LS{f:ay->R Bool}(h:PB X a f):ML X (.BoolOp .And [a] pos) f:=Gy h
def O2{f:ay->R Bool}(h:PB X a f):ML X (.BoolOp .Or [a] pos) f:=Qy h
def Ov{rest:List Expr}{f g:ay->R Bool}(ha:PB X a f)(hb:ML X (.BoolOp .And (b ::rest) pos) g):ML X (.BoolOp .And (a ::b ::rest) pos) (O6 f g):=by
 intro wh pins s σ H Q I ⟨Z,B,δ,k,E,hf,q⟩;refine J7 ha hb wh pins s σ H Q I ?_;obtain⟨c,h1,h2⟩:=R.ao hf;refine⟨Z,B,δ,c,E,h1,λH1 s1=>?_⟩
 cases c with
 | true=>rw [QaK rfl] at h2 ⊢;exact⟨Z,B,δ,k,E.same s1,h2,λH' s2=>q H'$ s1.trans s2⟩
 | false=>rw [QaH$ by decide] at h2 ⊢;cases h2;exact q H1 s1
def Q0{rest:List Expr}{f g:ay->R Bool}(ha:PB X a f)(hb:ML X (.BoolOp .Or (b ::rest) pos) g):ML X (.BoolOp .Or (a ::b ::rest) pos) (UH f g):=by
 intro wh pins s σ H Q I ⟨Z,B,δ,k,E,hf,q⟩;refine U6 ha hb wh pins s σ H Q I ?_;obtain⟨c,h1,h2⟩:=R.ao hf;refine⟨Z,B,δ,c,E,h1,λH1 s1=>?_⟩
 cases c with
 | true=>rw [QaK rfl] at h2 ⊢;cases h2;exact q H1 s1
 | false=>rw [QaH$ by decide] at h2 ⊢;exact⟨Z,B,δ,k,E.same s1,h2,λH' s2=>q H'$ s1.trans s2⟩
def Q8{f:ay->R Bool}(ha:PB X a f):PB X (.UnaryOp .Not a pos) (AQ f):=(Rq ha).imp λσ H Q ⟨Z,B,δ,k,E,hf,q⟩=>by
 obtain⟨c,h1,h2⟩:=R.ao hf;cases h2;exact⟨Z,B,δ,c,E,h1,λH1 s1=>q H1 s1⟩
def MM(f:FD):ay->R Bool:=λδ=>(f δ).bind λd=>match d with | .bl b=> .ok b | _=> .no
def Ow(f g:FD):FD:=λδ=>(MM f δ).bind λb=>if b then g δ else .ok (.bl false)
def UO(f g:FD):FD:=λδ=>(MM f δ).bind λb=>if b then .ok (.bl true) else g δ
def aai(f:FD):FD:=λδ=>(MM f δ).bind λb=> .ok$ .bl$ !b
def LF{f:FD}{δ:ay}{b:Bool}(h:MM f δ= .ok b):f δ= .ok (.bl b):=by
 obtain⟨d,h1,h2⟩:=R.ao h;cases d with
 | bl k=>cases h2;exact h1
 | _=>cases h2
def RF{op}(h:PD X a f):PD X (.BoolOp op [a] pos) f:=RU h
def Su{rest:List Expr}(ha:PD X a f)(hb:PD X (.BoolOp .And (b ::rest) pos) g):PD X (.BoolOp .And (a ::b ::rest) pos) (Ow f g):=(RL ha hb).imp λσ H Q ⟨Z,B,δ,k,E,hf,q⟩=>by
 obtain⟨c,h1,h2⟩:=R.ao hf;refine⟨Z,B,δ, .bl c,E,LF h1,λv H1 s1 r1=>⟨c,by unfold Rep at r1;exact r1,?_⟩⟩
 cases c with
 | true=>rw [QaK rfl] at h2 ⊢;exact⟨Z,B,δ,k,E.same s1,h2,λv H' s2 r2=>q v H' (s1.trans s2) r2⟩
 | false=>rw [QaH$ by decide] at h2 ⊢;cases h2;exact q _ H1 s1 (by unfold Rep;rfl)
def VU{rest:List Expr}(ha:PD X a f)(hb:PD X (.BoolOp .Or (b ::rest) pos) g):PD X (.BoolOp .Or (a ::b ::rest) pos) (UO f g):=(Uz ha hb).imp λσ H Q ⟨Z,B,δ,k,E,hf,q⟩=>by
 obtain⟨c,h1,h2⟩:=R.ao hf;refine⟨Z,B,δ, .bl c,E,LF h1,λv H1 s1 r1=>⟨c,by unfold Rep at r1;exact r1,?_⟩⟩
 cases c with
 | true=>rw [QaK rfl] at h2 ⊢;cases h2;exact q _ H1 s1 (by unfold Rep;rfl)
 | false=>rw [QaH$ by decide] at h2 ⊢;exact⟨Z,B,δ,k,E.same s1,h2,λv H' s2 r2=>q v H' (s1.trans s2) r2⟩
def Tt(c:ay->R Bool)(f g:FD):FD:=λδ=>(c δ).bind λb=>if b then f δ else g δ
def U8{fc:ay->R Bool}(hc:PB X c fc)(ha:PD X a f)(hb:PD X b g):PD X (.IfExp c a b pos) (Tt fc f g):=(Kr hc ha hb).imp λσ H Q ⟨Z,B,δ,k,E,hf,q⟩=>by
 obtain⟨c,h1,h2⟩:=R.ao hf;refine⟨Z,B,δ,c,E,h1,λH1 s1=>?_⟩
 cases c with
 | true=>rw [QaK rfl] at h2 ⊢;exact⟨Z,B,δ,k,E.same s1,h2,λv H' s2 r2=>q v H' (s1.trans s2) r2⟩
 | false=>rw [QaH$ by decide] at h2 ⊢;exact⟨Z,B,δ,k,E.same s1,h2,λv H' s2 r2=>q v H' (s1.trans s2) r2⟩
def cV(X:Cx)(f:Value)(g:List D->R D):Prop:=
 ∀(pins:Aaa) (s:Qdg) (σ:St) (H:Hp) (B:List Addr) (ds:List D) (d:D) (xs:List V) (us:List Value),Inv X pins σ H s->(∀a∈B,∃o,H a=some o)->Vals xs us->aI X.K B H ds xs->g ds= .ok d->
  wpAny (model X.prog X.w) X.A (call f us) (EP X pins σ λz H'=>bo H H'/\Rep X.K B H' d z) X.xe s
def aD(g:List D->R D)(fs:ay->R (List D)):FD:=λδ=>(fs δ).bind g
def cV.r{f:Value}{g:List D->R D}(h:cV X f g):oq X f (λxs H Q=>∃B ds d,(∀a∈B,∃o,H a=some o)/\aI X.K B H ds xs/\g ds= .ok d/\∀z H',bo H H'->Rep X.K B H' d z->Q z H'):=by
 intro pins s σ H xs us Q I rx ⟨B,ds,d,hb,hr,hg,q⟩;exact d9 (h pins s σ H B ds d xs us I hb rx hr hg) λz s' ⟨zv,H',I',r',s1,r1⟩=>⟨zv,H',I',r',q zv H' s1 r1⟩
def Hg{K:Qdf}{g:List D->R D}{fs:ay->R (List D)}{Q:VK}(h:tD K (aD g fs) σ H Q) :
 Zs K fs σ H λvs H1=>∃B ds d,(∀a∈B,∃o,H1 a=some o)/\aI K B H1 ds vs/\g ds= .ok d/\∀z H',bo H1 H'->Rep K B H' d z->Q z H':=by
 obtain⟨Z,B,δ,d,E,hf,q⟩:=h;obtain⟨ds,h1,h2⟩:=R.ao hf;exact⟨Z,B,δ,ds,E,h1,λvs H1 s1 r1=>⟨B,ds,d,(E.same s1).bs,r1,h2,λz H' s2 r2=>q z H' (s1.trans s2) r2⟩⟩
def Lb{g:List D->R D}{x:Str}{id:String}{p pos:Pos}{e:Expr}{es:List Expr}{fs:ay->R (List D)}(hc:cV X (.builtin id) g)(hg:Gl X x)(hm:X.mg x=none)(hv:bootBuiltins x=some (.builtin id))(ha:MN X (e ::es) fs)(hn:x≠"__name__":=by decide)(uQ:(x==("__debug__":Str))=false:=by decide)
 (he:starEach (e ::es) X.env=(false,eval e X.env) ::starEach es X.env:=by rfl) (j_:(backTo pos$ starEach es X.env).any (·.1)=false:=by rfl):PD X (.Call (.Name x p) (e ::es) [] pos) (aD g fs):=
 (KL hc.r hg hm hv ha hn uQ he j_).imp λσ H Q h=>Hg h
def Ji{g:List D->R D}{x:Str}{T:String}{p pos:Pos}{e:Expr}{es:List Expr}{fs:ay->R (List D)}(hc:cV X (.type T) g)(hg:Gl X x)(hm:X.mg x=none)(hv:bootBuiltins x=some (.type T))(ha:MN X (e ::es) fs)(hn:x≠"__name__":=by decide)(uQ:(x==("__debug__":Str))=false:=by decide)
 (he:starEach (e ::es) X.env=(false,eval e X.env) ::starEach es X.env:=by rfl) (j_:(backTo pos$ starEach es X.env).any (·.1)=false:=by rfl):PD X (.Call (.Name x p) (e ::es) [] pos) (aD g fs):=
 (zt hc.r hg hm hv ha hn uQ he j_).imp λσ H Q h=>Hg h
def Lx(K:Qdf)(n:Nat)(g:List D->R D):Sp:=λvs H Q _=>vs.length=n/\∃B ds d,(∀a∈B,∃o,H a=some o)/\aI K B H ds vs/\g ds= .ok d/\∀z H',bo H H'->Rep K B H' d z->Q z H'
def M6{g:List D->R D}{k n:Nat}{f:Addr}{fd:FuncData}{ps:List Str}{x:Str}{p pos:Pos}{e:Expr}{es:List Expr}{fs:ay->R (List D)}
 (F:jW X.prog X.w X.K X.mg X.base xu k f fd ps (Lx X.K n g)) (hr:eU k X.A) (hg:Gl X x) (hm:X.mg x=some (.ref f)) (hk:PySem.W.keepIn X.K (.ref f)=true) (hb:Binds X.K fd ps []) (ha:MN X (e ::es) fs)
 (hn:∀δ ds,fs δ= .ok ds->ds.length=n) (uQ:(x==("__debug__":Str))=false:=by decide) (he:starEach (e ::es) X.env=(false,eval e X.env) ::starEach es X.env:=by rfl) (j_:(backTo pos$ starEach es X.env).any (·.1)=false:=by rfl) :
 PD X (.Call (.Name x p) (e ::es) [] pos) (aD g fs):=
 (BH F hr hg hm hk hb .nil C7 ha uQ he j_).imp λσ H Q ⟨Z,B,δ,d,E,hf,q⟩=>by
   obtain⟨ds,h1,h2⟩:=R.ao hf;refine⟨Z,B,δ,ds,E,h1,λvs H1 s1 r1=>?_⟩
   show Lx X.K n g (vs++[]) H1 Q E0;rw[QaV];exact⟨by rw[<-r1.length];exact hn δ ds h1,B,ds,d,(E.same s1).bs,r1,h2,λz H' s2 r2=>q z H' (s1.trans s2) r2⟩
end
end L2
end
section
namespace L2
open PySem PySem.Spec PyProof.Rows
inductive Out where
 | nx (δ:ay) | rt (d:D)
abbrev FS:=ay->R Out
structure Ev (Z B:List Addr) (H:Hp) (B':List Addr) (H':Hp):Prop where
 bG:dR B H B' H'
 zs:∀b o,H b=some o->b∈Z->H' b=some o/\b∈B'
def Ev.refl(Z B:List Addr)(H:Hp)(zb:∀a∈Z,a∈B):Ev Z B H B H:=⟨dR.refl B H,λb o e z=>⟨e,zb b z⟩⟩
def Ev.trans{Z B B' Wg:List Addr}(a:Ev Z B H B' H')(b:Ev Z B' H' Wg qX):Ev Z B H Wg qX:=
 ⟨a.bG.trans b.bG,λc o e z=>let⟨e1,_⟩:=a.zs c o e z;b.zs c o e1 z⟩
def Ev.same{Z B:List Addr}(zb:∀a∈Z,a∈B)(s:bo H H'):Ev Z B H B H':=⟨dR.same s,λb o e z=>⟨s b o e,zb b z⟩⟩
def GC(K:Qdf)(Z B:List Addr)(H:Hp)(D:Ends):Out->Prop
 | .nx fg=>∀dN B' H',Ev Z B H B' H'->eV K Z B' H' dN fg->D.nx dN H'
 | .rt d=>∀v B' H',Ev Z B H B' H'->(∀a∈Z,a∈B')->Rep K B' H' d v->D.rt v H'
def GC.ev{K:Qdf}{Z B B1:List Addr}{D:Ends}{o:Out}(q:GC K Z B H D o)(ev:Ev Z B H B1 H1):GC K Z B1 H1 D o:=by
 cases o with
 | nx fg=>exact λdN B' H' Mv E'=>q dN B' H' (ev.trans Mv) E'
 | rt d=>exact λv B' H' Mv z r=>q v B' H' (ev.trans Mv) z r
def sD(K:Qdf)(F:FS):TS:=λD σ H=>∃Z B δ o,eV K Z B H σ δ/\F δ= .ok o/\GC K Z B H D o
abbrev JW(X:Cx)(st:Stmt)(F:FS):Prop:=PS X st$ sD X.K F
abbrev vJ(X:Cx)(st:List Stmt)(F:FS):Prop:=Cb X st$ sD X.K F
section
variable {X:Cx}
noncomputable def yk:FS:=λδ=> .ok$ .nx δ
def du(F G:FS):FS:=λδ=>(F δ).bind λo=>match o with | .nx fg=>G fg | .rt d=> .ok$ .rt d
def O7:vJ X [] yk:=Hh.imp λD σ H ⟨Z,B,δ,o,E,hf,q⟩=>by
 cases hf;exact q σ B H (Ev.refl Z B H E.zb) E
def QY{K:Qdf}{F G:FS}{D:Ends}(h:sD K (du F G) D σ H):T7 (sD K F) (sD K G) D σ H:=by
 obtain⟨Z,B,δ,o,E,hf,q⟩:=h;obtain⟨o1,h1,h2⟩:=R.ao hf;refine⟨Z,B,δ,o1,E,h1,?_⟩;cases o1 with
 | nx δ1=>
   intro We B1 H1 ev E1;refine⟨Z,B1,δ1,o,E1,h2,?_⟩;cases o with
   | nx c_=>exact λdN B' H' Mv E'=>q dN B' H' (ev.trans Mv) E'
   | rt d=>exact λv B' H' Mv z r=>q v B' H' (ev.trans Mv) z r
 | rt d=>
   cases h2;exact q
def JJ{st:Stmt}{rest:List Stmt}{F G:FS}(h1:JW X st F)(h2:vJ X rest G):vJ X (st ::rest) (du F G):=(D5 h1 h2).imp λD σ H h=>QY h
def Nh{st:Stmt}{F:FS}(h1:JW X st F):vJ X [st] F:=F6 h1
def eV.set{K:Qdf}{Z B:List Addr}{σ:St}{δ:ay}(E:eV K Z B H σ δ){i:Nat}{d:D}{v:V}(hi:i<σ.length)(r:Rep K B H d v):eV K Z B H (σ.set i$ some v) (δ.set i$ .val d) where
 len:=by rw[Qa6,Qa6];exact E.len
 bs:=E.bs
 zb:=E.zb
 val:=λj d' e=>by
  by_cases h:i=j
  .subst h;rw[Qau$ by rw[E.len];exact hi] at e
   cases e;exact⟨v,Qau hi,r⟩
  .rw [Qav h] at e ⊢;exact E.val j d' e
 bld:=λj ds e=>by
  by_cases h:i=j
  .subst h;rw[Qau$ by rw[E.len];exact hi] at e
   cases e
  .rw [Qav h] at e ⊢;exact E.bld j ds e
 dis:=λj k a ds es e1 e2 e3 e4=>by
  by_cases h:i=j
  .subst h;rw[Qau$ by rw[E.len];exact hi] at e1
   cases e1
  .by_cases h':i=k
   .subst h';rw[Qau$ by rw[E.len];exact hi] at e2
    cases e2
   .rw [Qav h] at e1 e3;rw[Qav h'] at e2 e4;exact E.dis j k a ds es e1 e2 e3 e4
def eV.setB{K:Qdf}{Z B:List Addr}{H:Hp}{σ:St}{δ:ay}(E:eV K Z B H σ δ){i:Nat}{ds:List D}{a:Addr}{xs:List V}(hi:i<σ.length)(hB:a∈B)(hZ:a ∉ Z)(hH:H a=some (.lst xs))(r:aI K B H ds xs)
 (new:∀j es,j≠i->δ[j]? =some (.bld es)->σ[j]?≠some (some$ .ref a)):eV K Z B H (σ.set i$ some$ .ref a) (δ.set i$ .bld ds) where
 len:=by rw[Qa6,Qa6];exact E.len
 bs:=E.bs
 zb:=E.zb
 val:=λj d' e=>by
  by_cases h:i=j
  .subst h;rw[Qau$ by rw[E.len];exact hi] at e
   cases e
  .rw [Qav h] at e ⊢;exact E.val j d' e
 bld:=λj es e=>by
  by_cases h:i=j
  .subst h;rw[Qau$ by rw[E.len];exact hi] at e
   cases e;exact⟨a,xs,Qau hi,hB,hZ,hH,r⟩
  .rw [Qav h] at e ⊢;exact E.bld j es e
 dis:=λj k b V6 Wm e1 e2 e3 e4=>by
  by_cases h:i=j
  .subst h;by_cases h':i=k
   .exact h'
   .rw [Qau hi] at e3;cases e3;rw[Qav h'] at e2 e4;exact absurd e4$ new k Wm (QbM h') e2
  .by_cases h':i=k
   .subst h';rw[Qau hi] at e4;cases e4;rw[Qav h] at e1 e3;exact absurd e3$ new j V6 (QbM h) e1
   .rw [Qav h] at e1 e3;rw[Qav h'] at e2 e4;exact E.dis j k b V6 Wm e1 e2 e3 e4
def i0(i:Nat)(f:FD):FS:=λδ=>(f δ).bind λd=>R.bH (decide$ i<δ.length)$ .ok$ .nx$ δ.set i$ .val d
def Q2{K:Qdf}{i:Nat}{D:Ends}(h:sD K (i0 i f) D σ H):Ir (tD K f) (xD i) D σ H:=by
 obtain⟨Z,B,δ,o,E,hf,q⟩:=h;obtain⟨d,h1,h2⟩:=R.ao hf;obtain⟨hi,h3⟩:=R.bj h2;cases h3;refine⟨Z,B,δ,d,E,h1,λv H1 s1 r1=>?_⟩
 exact q _ B H1 (Ev.same E.zb s1) ((E.same s1).set (by rw[<-E.len];exact Qal hi) r1)
def Nq{i:Nat}{pos pos':Pos}(hN:X.N.Nodup)(hi:X.N[i]? =some x)(hx:Loc X.env.scope x)(he:PD X e f)(hs:swapsWith e (some$ .Name x pos') pos.line X.env=pure false:=by rfl)(hf:X.fn x=true\/X.env.scope.names.lookup x=some .local:=by first | exact .inl rfl | exact .inr rfl | assumption) :
 JW X (.Assign [.Name x pos'] e pos) (i0 i f):=(FI hN hi hx he hs hf).imp λD σ H h=>Q2 h
def vU(i:Nat)(f:ay->R (List D)):FS:=λδ=>(f δ).bind λds=>R.bH (decide$ i<δ.length)$ .ok$ .nx$ δ.set i$ .bld ds
def L0{K:Qdf}{i:Nat}{f:ay->R (List D)}{D:Ends}(h:sD K (vU i f) D σ H):Ir (tN K f) (xD i) D σ H:=by
 obtain⟨Z,B,δ,o,E,hf,q⟩:=h;obtain⟨ds,h1,h2⟩:=R.ao hf;obtain⟨hi,h3⟩:=R.bj h2;cases h3;refine⟨Z,B,δ,ds,E,h1,λa xs H1 s1 n e r=>?_⟩
 have E1:=E.same s1;have aB:a ∉ B:=λha=>by obtain⟨o,ho⟩:=E.bs a ha;rw [n] at ho;cases ho
 have nZ:a ∉ Z:=λha=>aB$ E.zb a ha
 have p0:dR B H (a ::B) H1:=λb o e' nb=>⟨s1 b o e',λhb=>by
  rcases QaE.mp hb with z | z
  .subst z;rw [n] at e';cases e'
  .exact nb z⟩
 have E2:eV K Z (a ::B) H1 σ δ:={
  len:=E.len
  bs:=λb hb=>by
   rcases QaE.mp hb with z | z
   .subst z;exact⟨_,e⟩
   .exact E1.bs b z
  zb:=λb hb=>Qad _$ E.zb b hb
  val:=λj d e=>let⟨v,q1,q2⟩:=E.val j d e;⟨v,q1,q2.bG p0⟩
  bld:=λj es e=>let⟨b,ys,q1,q2,q3,q4,q5⟩:=E.bld j es e;⟨b,ys,q1,Qad _ q2,q3,s1 b _ q4,q5.bG p0⟩
  dis:=E.dis}
 refine q _ (a ::B) H1 ⟨p0,λb o e' hb=>⟨s1 b o e',Qad _$ E.zb b hb⟩⟩ (E2.setB (by rw[<-E.len];exact Qal hi) Qan nZ e r λj es hj ej Pn=>?_)
 obtain⟨b,ys,q1,_,_,q4,_⟩:=E.bld j es ej;rw[Pn] at q1;cases q1;rw[n] at q4;cases q4
def Oz{i:Nat}{f:ay->R (List D)}{pos pos':Pos}(hN:X.N.Nodup)(hi:X.N[i]? =some x)(hx:Loc X.env.scope x)(he:PN X e f)(hs:swapsWith e (some$ .Name x pos') pos.line X.env=pure false:=by rfl)(hf:X.fn x=true\/X.env.scope.names.lookup x=some .local:=by first | exact .inl rfl | exact .inr rfl | assumption) :
 JW X (.Assign [.Name x pos'] e pos) (vU i f):=(FI hN hi hx he hs hf).imp λD σ H h=>L0 h
def eV.grow{K:Qdf}{Z B:List Addr}{H:Hp}{σ:St}{δ:ay}(E:eV K Z B H σ δ){i:Nat}{ds es:List D}{a:Addr}{xs ys:List V}(hd:δ[i]? =some (.bld ds))(Pn:σ[i]? =some (some$ .ref a))(hB:a∈B)(hH:H a=some (.lst xs))(r:aI K B H es ys) :
 eV K Z B (upd H a$ .lst ys) σ (δ.set i$ .bld es)/\dR B H B (upd H a$ .lst ys):=by
 have p:dR B H B (upd H a$ .lst ys):=λb o e nb=>⟨by rw[bA$ λ(z:b=a)=>nb$ by rw[z];exact hB];exact e,nb⟩
 have hi:i<δ.length:=(Qae.mp hd).1;refine⟨{
  len:=by rw[Qa6];exact E.len
  bs:=λb hb=>by
   by_cases z:b=a
   .subst z;exact⟨_,bh⟩
   .rw [bA z];exact E.bs b hb
  zb:=E.zb
  val:=λj d e=>by
   by_cases h:i=j
   .subst h;rw [Qau hi] at e;cases e
   .rw [Qav h] at e;obtain⟨v,q1,q2⟩:=E.val j d e;exact⟨v,q1,q2.bG p⟩
  bld:=λj fs e=>by
   by_cases h:i=j
   .subst h;rw [Qau hi] at e;cases e;obtain⟨b,zs,q1,q2,q3,_,_⟩:=E.bld i ds hd;rw[Pn] at q1;cases q1;exact⟨a,ys,Pn,hB,q3,bh,r.bG p⟩
   .rw [Qav h] at e;obtain⟨b,zs,q1,q2,q3,q4,q5⟩:=E.bld j fs e;have ne:b≠a:=λz=>by subst z;exact h (E.dis i j b ds fs hd e Pn q1)
    exact⟨b,zs,q1,q2,q3,by rw[bA ne];exact q4,q5.bG p⟩
  dis:=λj k b V6 Wm e1 e2 e3 e4=>by
   have f1:∃fs,δ[j]? =some (.bld fs):=by
    by_cases h:i=j
    .subst h;exact⟨ds,hd⟩
    .rw [Qav h] at e1;exact⟨_,e1⟩
   have f2:∃fs,δ[k]? =some (.bld fs):=by
    by_cases h:i=k
    .subst h;exact⟨ds,hd⟩
    .rw [Qav h] at e2;exact⟨_,e2⟩
   obtain⟨_,f1⟩:=f1;obtain⟨_,f2⟩:=f2;exact E.dis j k b _ _ f1 f2 e3 e4},p⟩
def Ev.grow{Z B:List Addr}{a:Addr}{o:HO}(zb:∀a∈Z,a∈B)(hZ:a ∉ Z)(p:dR B H B (upd H a o)):Ev Z B H B (upd H a o):=
 ⟨p,λb u e hb=>⟨by rw[bA$ λ(z:b=a)=>hZ$ by rw[<-z];exact hb];exact e,zb b hb⟩⟩
noncomputable def sI(δ:ay)(i:Nat):R (List D):=match δ[i]? with | some (.bld ds)=> .ok ds | _=> .no
def wZ{δ:ay}{i:Nat}{ds:List D}(h:sI δ i= .ok ds):δ[i]? =some (.bld ds):=by
 unfold sI at h;split at h
 .rename_i q;cases h;exact q
 .cases h
def EL(i:Nat)(f:FD):FS:=λδ=>(f δ).bind λd=>(sI δ i).bind λds=>R.bH (decide$ ds.length<sizeLine)$ .ok$ .nx$ δ.set i$ .bld$ ds++[d]
def Nj{i:Nat}{x:Str}{e:Expr}{f:FD}{eD apos cH pos:Pos}(hN:X.N[i]? =some x)(hv:Jr X.env.scope x)(he:PD X e f)
 (hd:(x==("__debug__":Str))=false:=by decide) (tT:(x==("__classdict__":Str))=false:=by decide)
 (hs:starEach [e] X.env=(false,eval e X.env) ::starEach [] X.env:=by rfl) (lz:(apos.endLine==cH.line)=true:=by rfl)
 (rQ:((backTo cH$ starEach [e] X.env).all (λx=>!x.1) && (backToKw cH$ keywordEach [] X.env).all (λx=>x.1.isSome)
   && decide (([e]:List Expr).length+([]:List Keyword).length+(if([]:List Keyword).isEmpty then 0 else 1)<30))=true:=by rfl)
 (yw:swapsWith (.Call (.Attribute (.Name x eD) "append" apos) [e] [] cH) none pos.line X.env=pure false:=by rfl)
 (lC:attributeBase (.Name x eD) "append" X.env (eval (.Name x eD) X.env)=eval (.Name x eD) X.env:=by rfl) :
 JW X (.Expr (.Call (.Attribute (.Name x eD) "append" apos) [e] [] cH) pos) (EL i f):=by
 refine(tK (GP (X:=X) QbZ Qc8 Qc9 ui (q8 hN hv hd tT) (dq he f9 hs) lC rQ lz hs) yw).imp λD σ H ⟨Z,B,δ,o,E,hf,q⟩=>?_
 obtain⟨d,h1,h2⟩:=R.ao hf;obtain⟨ds,h3,h4⟩:=R.ao h2;obtain⟨hl,h5⟩:=R.bj h4;cases h5;have hb:=wZ h3;obtain⟨a,xs,q1,q2,q3,q4,q5⟩:=E.bld i ds hb;refine⟨.ref a,q1, .inl ⟨rfl,xs,qT.of q4⟩,⟨Z,B,δ,d,E,h1,λv H1 s1 r1=>?_⟩⟩
 have E1:=E.same s1;refine⟨a,xs,v,rfl,rfl,s1 a _ q4,by rw[<-q5.length];exact Qal hl,?_⟩
 obtain⟨E2,p2⟩:=E1.grow (es:=ds++[d]) (ys:=xs++[v]) hb q1 q2 (s1 a _ q4)$ (q5.same s1).append$ aI.cons r1 aI.nil;exact q σ B _ ((Ev.same E.zb s1).trans$ Ev.grow E.zb q3 p2) E2
def K_(i:Nat)(f:ay->R (List D)):FS:=λδ=>(f δ).bind λes=>(sI δ i).bind λds=>R.bH (decide$ ds.length+es.length<=sizeLine)$ .ok$ .nx$ δ.set i$ .bld$ ds++es
def OC{i:Nat}{x:Str}{e:Expr}{f:ay->R (List D)}{eD apos cH pos:Pos}(hN:X.N[i]? =some x)(hv:Jr X.env.scope x)(he:PN X e f)
 (hd:(x==("__debug__":Str))=false:=by decide) (tT:(x==("__classdict__":Str))=false:=by decide)
 (hs:starEach [e] X.env=(false,eval e X.env) ::starEach [] X.env:=by rfl) (lz:(apos.endLine==cH.line)=true:=by rfl)
 (rQ:((backTo cH$ starEach [e] X.env).all (λx=>!x.1) && (backToKw cH$ keywordEach [] X.env).all (λx=>x.1.isSome)
   && decide (([e]:List Expr).length+([]:List Keyword).length+(if([]:List Keyword).isEmpty then 0 else 1)<30))=true:=by rfl)
 (yw:swapsWith (.Call (.Attribute (.Name x eD) "extend" apos) [e] [] cH) none pos.line X.env=pure false:=by rfl)
 (lC:attributeBase (.Name x eD) "extend" X.env (eval (.Name x eD) X.env)=eval (.Name x eD) X.env:=by rfl) :
 JW X (.Expr (.Call (.Attribute (.Name x eD) "extend" apos) [e] [] cH) pos) (K_ i f):=by
 refine(tK (GP (X:=X) QbZ Qda Qdb HR (q8 hN hv hd tT) (dq he f9 hs) lC rQ lz hs) yw).imp λD σ H ⟨Z,B,δ,o,E,hf,q⟩=>?_
 obtain⟨es,h1,h2⟩:=R.ao hf;obtain⟨ds,h3,h4⟩:=R.ao h2;obtain⟨hl,h5⟩:=R.bj h4;cases h5;have hb:=wZ h3;obtain⟨a,xs,q1,q2,q3,q4,q5⟩:=E.bld i ds hb;refine⟨.ref a,q1, .inl ⟨rfl,xs,qT.of q4⟩,⟨Z,B,δ,es,E,h1,λb ys H1 s1 n e r=>?_⟩⟩
 have E1:=E.same s1;have r':aI X.K B H1 es ys:=r.bG λb o e nb=>⟨e,λhb=>nb$ Qad _ hb⟩
 refine⟨a,b,xs,ys,rfl,rfl,s1 a _ q4,e,by rw[<-q5.length,<-r'.length];exact Qal hl,?_⟩
 obtain⟨E2,p2⟩:=E1.grow (es:=ds++es) (ys:=xs++ys) hb q1 q2 (s1 a _ q4)$ (q5.same s1).append r';exact q σ B _ ((Ev.same E.zb s1).trans$ Ev.grow E.zb q3 p2) E2
noncomputable def fm(i:Nat)(δ:ay):ay:=match δ[i]? with | some (.bld ds)=>δ.set i (.val$ .lst ds) | _=>δ
def eV.fm{K:Qdf}{Z B:List Addr}{δ:ay}(E:eV K Z B H σ δ)(i:Nat):∃B',Ev Z B H B' H/\eV K Z B' H σ (fm i δ):=by
 unfold L2.fm;cases hd:δ[i]? with
 | none=>exact⟨B,Ev.refl Z B H E.zb,E⟩
 | some x=>
   cases x with
   | un=>exact⟨B,Ev.refl Z B H E.zb,E⟩
   | val d=>exact⟨B,Ev.refl Z B H E.zb,E⟩
   | bld ds=>
     obtain⟨a,xs,q1,q2,q3,q4,q5⟩:=E.bld i ds hd;have hi:i<δ.length:=(Qae.mp hd).1;have p:dR B H (B.filter λb=>decide$ b≠a) H:=λb o e nb=>⟨e,λhb=>nb (Qbb.mp hb).1⟩
     have zb:∀b∈Z,b∈B.filter λb=>decide (b≠a):=λb hb=>Qbb.mpr ⟨E.zb b hb,Qat λz=>q3$ z▸hb⟩
     refine⟨B.filter λb=>decide$ b≠a,⟨p,λb o e hb=>⟨e,zb b hb⟩⟩,{
      len:=by rw[Qa6];exact E.len
      bs:=λb hb=>E.bs b (Qbb.mp hb).1
      zb:=zb
      val:=λj d e=>by
       by_cases h:i=j
       .subst h;rw [Qau hi] at e;cases e;refine⟨.ref a,q1,?_⟩;unfold Rep;exact⟨a,xs,rfl, .inl ⟨λhb=>by simpa using(Qbb.mp hb).2, .inl q4⟩,q5.bG p⟩
       .rw [Qav h] at e;obtain⟨v,z1,z2⟩:=E.val j d e;exact⟨v,z1,z2.bG p⟩
      bld:=λj fs e=>by
       by_cases h:i=j
       .subst h;rw [Qau hi] at e;cases e
       .rw [Qav h] at e;obtain⟨b,zs,z1,z2,z3,z4,z5⟩:=E.bld j fs e;exact⟨b,zs,z1,Qbb.mpr ⟨z2,Qat λz=>by subst z;exact h$ E.dis i j b ds fs hd e q1 z1⟩,z3,z4,z5.bG p⟩
      dis:=λj k b V6 Wm e1 e2 e3 e4=>by
       by_cases h:i=j
       .subst h;rw [Qau hi] at e1;cases e1
       .by_cases h':i=k
        .subst h';rw [Qau hi] at e2;cases e2
        .rw [Qav h] at e1;rw[Qav h'] at e2;exact E.dis j k b V6 Wm e1 e2 e3 e4}⟩
def CZ(i:Nat)(F:FS):FS:=λδ=>F$ fm i δ
def Q6{K:Qdf}{i:Nat}{F:FS}{D:Ends}(h:sD K (CZ i F) D σ H):sD K F D σ H:=by
 obtain⟨Z,B,δ,o,E,hf,q⟩:=h;obtain⟨B1,ev,E1⟩:=E.fm i;refine⟨Z,B1,L2.fm i δ,o,E1,hf,?_⟩;cases o with
 | nx fg=>exact λdN B' H' Mv E'=>q dN B' H' (ev.trans Mv) E'
 | rt d=>exact λv B' H' Mv z r=>q v B' H' (ev.trans Mv) z r
def OW(i:Nat){F:FS}(h:vJ X Mz F):vJ X Mz (CZ i F):=h.imp λD σ H h=>Q6 h
def f_(f:FD):FS:=λδ=>(f δ).bind λd=> .ok$ .rt d
def ND(he:PD X e f):JW X (.Return (some e) pos) (f_ f):=(Mg he).imp λD σ H ⟨Z,B,δ,o,E,hf,q⟩=>by
 obtain⟨d,h1,h2⟩:=R.ao hf;cases h2;exact⟨Z,B,δ,d,E,h1,λv H1 s1 r1=>q v B H1 (Ev.same E.zb s1) E.zb r1⟩
def D2(c:ay->R Bool)(F G:FS):FS:=λδ=>(c δ).bind λb=>if b then F δ else G δ
def Ru{fc:ay->R Bool}{F G:FS}(hc:PB X c fc)(ha:vJ X a F)(hb:vJ X b G):JW X (.If c a b pos) (D2 fc F G):=(Qk hc ha hb).imp λD σ H ⟨Z,B,δ,o,E,hf,q⟩=>by
 obtain⟨k,h1,h2⟩:=R.ao hf;refine⟨Z,B,δ,k,E,h1,λH1 s1=>?_⟩
 have q':=q.ev$ Ev.same E.zb s1;cases k with
 | true=>rw [QaK rfl] at h2;exact OY ⟨Z,B,δ,o,E.same s1,h2,q'⟩
 | false=>rw [QaH$ by decide] at h2;exact OI ⟨Z,B,δ,o,E.same s1,h2,q'⟩
abbrev FT:=D->ay->R ay
def gD(K:Qdf)(t:FT):TG:=λv σ H Q=>∃Z B δ d fg,eV K Z B H σ δ/\Rep K B H d v/\t d δ= .ok fg/\∀dN H',bo H H'->eV K Z B H' dN fg->dN.length=σ.length->Q dN H'
abbrev RC(X:Cx)(tg:Expr)(t:FT):Prop:=PG X tg$ gD X.K t
def aC(i:Nat):FT:=λd δ=>R.bH (decide$ i<δ.length)$ .ok$ δ.set i$ .val d
def JB{i:Nat}{pos:Pos}(hN:X.N.Nodup)(hi:X.N[i]? =some x)(hx:Loc X.env.scope x)(hf:X.fn x=true\/X.env.scope.names.lookup x=some .local:=by first | exact .inl rfl | exact .inr rfl | assumption):RC X (.Name x pos) (aC i):=
 (GA hN hi hx hf).imp λv σ H Q ⟨Z,B,δ,d,fg,E,r,ht,q⟩=>by
   obtain⟨hi,h⟩:=R.bj ht;cases h;exact q _ H (bo.refl H) (E.set (by rw[<-E.len];exact Qal hi) r)$ Qa6 ..
abbrev JL:=List D->ay->R ay
def gDs(K:Qdf)(t:JL):JY:=λvs σ H Q=>∃Z B δ ds fg,eV K Z B H σ δ/\aI K B H ds vs/\t ds δ= .ok fg/\∀dN H',bo H H'->eV K Z B H' dN fg->dN.length=σ.length->Q dN H'
abbrev Kf(X:Cx)(ts:List Expr)(t:JL):Prop:=OV X ts$ gDs X.K t
def OV.imp{X:Cx}{t t':JY}(h:OV X e t)(w:∀v σ H Q,t' v σ H Q->t v σ H Q):OV X e t':=λpins s σ H v u Q I r hq=>h pins s σ H v u Q I r$ w v σ H Q hq
noncomputable def fA:JL:=λds δ=>match ds with | []=> .ok δ | _=> .no
def bL(t:FT)(u:JL):JL:=λds δ=>match ds with | d ::r=>(t d δ).bind λfg=>u r fg | []=> .no
def JQ:Kf X [] fA:=G1.imp λvs σ H Q ⟨Z,B,δ,ds,fg,E,r,ht,q⟩=>by
 cases ds with
 | nil=>unfold aI at r;cases ht;exact⟨r,q σ H (bo.refl H) E rfl⟩
 | cons=>cases ht
def HI{u:JL}(h1:RC X e t)(h2:Kf X es u)(hs:(assignEach (e ::es) X.env).map (·.2)=assign e X.env ::(assignEach es X.env).map (·.2):=by rfl):Kf X (e ::es) (bL t u):=
 (D6 h1 h2 hs).imp λvs σ H Q ⟨Z,B,δ,ds,fg,E,r,ht,q⟩=>by
   cases ds with
   | nil=>cases ht
   | cons d ds=>
     obtain⟨x,xs,rfl,r1,r2⟩:=r.cj;obtain⟨δ1,h1,h2⟩:=R.ao ht;exact⟨x,xs,rfl,Z,B,δ,d,δ1,E,r1,h1,λWe H1 s1 E1 l1=>⟨Z,B,δ1,ds,fg,E1,r2.same s1,h2,λB0 H2 s2 E2 l2=>q B0 H2 (s1.trans s2) E2$ l2.trans l1⟩⟩
def fD(n:Nat)(t:JL):FT:=λd δ=>match d with | .tup ds=>R.bH (decide$ ds.length=n) (t ds δ) | _=> .no
def N7{k:Nat}{t:JL}{n:Nat}{pos:Pos}(hc:X.calm=true)(h:Kf X es t)(hn:(assignEach es X.env).length=n:=by rfl)(Jl:(assignEach es X.env).findIdx? (·.1)=none:=by rfl):RC X (.Tuple es k pos) (fD n t):=
 (Lv hc h hn Jl).imp λv σ H Q ⟨Z,B,δ,d,fg,E,r,ht,q⟩=>by
   cases d with
   | tup ds=>
     unfold Rep at r;obtain⟨a,xs,rfl,l,r⟩:=r;obtain⟨hl,h⟩:=R.bj ht;exact⟨a,xs,rfl,l.sq,by rw[<-r.length];exact Qal hl,Z,B,δ,ds,fg,E,r,h,q⟩
   | _=>cases ht
def ZZ(f:FD)(t:FT):FS:=λδ=>(f δ).bind λd=>(t d δ).bind λfg=> .ok$ .nx fg
def JE(K:Qdf)(B:List Addr)(H:Hp)(J:It)(ds:List D):Prop:=∀B' H',dR B H B' H'->(∀(i:Nat) (d:D),ds[i]? =some d->J.go i H'/\∀x qX,J.yld i H' x qX->(∀a∈B',∃o,H' a=some o)->bo H' qX/\Rep K B' qX d x)/\J.stop ds.length H'
def iD(K:Qdf)(f:ay->R (List D)):TI:=λσ H R=>∃Z B δ ds,eV K Z B H σ δ/\f δ= .ok ds/\∀J H1,bo H H1->JE K B H1 J ds->R J H1
abbrev P1(X:Cx)(tg e:Expr)(f:ay->R (List D)):Prop:=PI X tg e$ iD X.K f
def cb(f:FD):ay->R (List D):=λδ=>(f δ).bind λd=>match d with | .lst ds=> .ok ds | .tup ds=> .ok ds | _=> .no
def NQ(h:PD X e f):P1 X tg e (cb f):=by
 intro pins s σ H RR I ⟨Z,B,δ,ds,E,hf,q⟩;obtain⟨d,h1,h2⟩:=R.ao hf;refine d9 (h pins s σ H (λv H1=>bo H H1/\Rep X.K B H1 d v) I ⟨Z,B,δ,d,E,h1,λv H1 s1 r1=>⟨s1,r1⟩⟩) λv s1 ⟨x,H1,I1,r1,ss,rr⟩=>?_
 cases d with
 | lst es=>
   cases h2;unfold Rep at rr;obtain⟨a,xs,rfl,l,rr⟩:=rr;cases r1;obtain⟨its,rv,p,hz⟩:=I1.list l.sq;refine Qc4 p.isList ?_;refine⟨s1.heap.objs.size,[s1.heap.objs.size],_,_,H1,rfl,I1.kept (t':=s1.toks) λb o e=>Qah _ e,qj a _,⟨_,QaN _ rfl,rfl,rfl⟩,λb hb=>?_,q _ H1 ss λB' H' pr=>?_⟩
   .have e:b=s1.heap.objs.size:=by simpa using hb
    subst e;exact I1.A1 (Qak _)$ I1.hok.fresh$ Qak _
   .have l':zM X.K B' H' a xs:=l.bG pr;have Wi:=rr.bG pr;refine⟨λi d hd=>?_,⟨xs,l'.sq,by rw[rr.length];exact Qak _⟩⟩
    obtain⟨x,hx,rx⟩:=Wi.get hd;exact⟨⟨xs,x,l'.sq,hx⟩,λy qX ⟨e1,e2⟩ _=>by
     subst e1;have:=e2 xs l'.sq;rw[hx] at this;cases this;exact⟨bo.refl _,rx⟩⟩
 | tup es=>
   cases h2;unfold Rep at rr;obtain⟨a,xs,rfl,l,rr⟩:=rr;cases r1;obtain⟨its,rv,p,hz⟩:=I1.tuple l.sq;refine Qcr (show s1.heap.IsTuple a its.toArray from p) ?_
   refine⟨s1.heap.objs.size,[s1.heap.objs.size],_,_,H1,rfl,I1.kept (t':=s1.toks) λb o e=>Qah _ e,FH a _,⟨_,QaN _ rfl,rfl,rfl⟩,λb hb=>?_,q _ H1 ss λB' H' pr=>?_⟩
   .have e:b=s1.heap.objs.size:=by simpa using hb
    subst e;exact I1.A1 (Qak _)$ I1.hok.fresh$ Qak _
   .have l':Ac X.K B' H' a xs:=l.elim (λz=> .inl ⟨(pr.rd z.2 z.1).2,(pr.rd z.2 z.1).1⟩) .inr
    have Wi:=rr.bG pr;refine⟨λi d hd=>?_,⟨xs,l'.sq,by rw[rr.length];exact Qak _⟩⟩
    obtain⟨x,hx,rx⟩:=Wi.get hd;exact⟨⟨xs,x,l'.sq,hx⟩,λy qX ⟨e1,e2⟩ _=>by
     subst e1;have:=e2 xs l'.sq;rw[hx] at this;cases this;exact⟨bo.refl _,rx⟩⟩
 | _=>cases h2
noncomputable def jq(lo:Int)(n:Nat):List D:=(List.range n).map λ(i:Nat)=>D.int$ lo+i
def Fx{K:Qdf}{B:List Addr}(lo:Int)(n:Nat):JE K B H (UD lo n) (jq lo n):=λB' H' _=>by
 refine⟨λi d hd=>?_,?_⟩
 .unfold jq at hd;rw[Qac] at hd;cases e:(List.range n)[i]? with
  | none=>rw [e] at hd;cases hd
  | some j=>
    rw[e] at hd;cases hd;obtain⟨hi,ej⟩:=Qae.mp e;rw[Qbp] at ej;subst ej;rw[Qaq] at hi;exact⟨hi,λx qX ⟨e1,e2⟩ _=>by subst e1 e2;exact⟨bo.refl _,by unfold Rep;rfl⟩⟩
 .show n<=(jq lo n).length;unfold jq;rw[Qaa,Qaq];exact Qak _
def bZ(f:FD):ay->R (List D):=λδ=>(f δ).bind λd=>match d with | .int j=>R.bH (decide (-(2 ^ 62)<=j/\j<2 ^ 62)) (.ok$ jq 0 j.toNat) | _=> .no
def E7{tg a:Expr}{p pos:Pos}(h:PD X a f)(hg:Gl X "range")(hm:X.mg "range"=none)(hs:starEach [a] X.env=[(false,eval a X.env)]:=by rfl):P1 X tg (.Call (.Name "range" p) [a] [] pos) (bZ f):=
 (zP hg hm (dq h f9 hs) hs).imp λσ H RR ⟨Z,B,δ,ds,E,hf,q⟩=>by
   obtain⟨d,h1,h2⟩:=R.ao hf;cases d with
   | int j=>
     obtain⟨hb,h3⟩:=R.bj h2;cases h3;have hb:=Qal hb;refine⟨Z,B,δ, .int j,E,h1,λv H1 s1 r1=>⟨j,?_,hb.1,hb.2,q _ H1 s1$ Fx 0 _⟩⟩
     unfold Rep at r1;rw[r1]
   | _=>cases h2
def tZ(f g:FD):ay->R (List D):=λδ=>(f δ).bind λd=>(g δ).bind λe=>match d,e with
 | .int i, .int j=>R.bH (decide (-(2 ^ 62)<=i/\i<2 ^ 62/\ -(2 ^ 62)<=j/\j<2 ^ 62)) (.ok$ jq i (j - i).toNat) | _,_=> .no
def EO{tg a b:Expr}{p pos:Pos}(h:PD X a f)(h':PD X b g)(hg:Gl X "range")(hm:X.mg "range"=none)(hs:starEach [a,b] X.env=[(false,eval a X.env),(false,eval b X.env)]:=by rfl)(hs2:starEach [b] X.env=[(false,eval b X.env)]:=by rfl) :
 P1 X tg (.Call (.Name "range" p) [a,b] [] pos) (tZ f g):=
 (HZ hg hm (dq h (dq h' f9 hs2)$ by rw[hs,hs2]) hs hs2).imp λσ H RR ⟨Z,B,δ,ds,E,hf,q⟩=>by
   obtain⟨d,h1,h2⟩:=R.ao hf;obtain⟨d2,h3,h4⟩:=R.ao h2;split at h4
   .rename_i i j;obtain⟨hb,h5⟩:=R.bj h4;cases h5;have hb:=Qal hb;refine⟨Z,B,δ, .int i,E,h1,λv H1 s1 r1=>⟨Z,B,δ, .int j,E.same s1,h3,λv2 H2 s2 r2=>⟨i,j,?_,hb,q _ H2 (s1.trans s2)$ Fx i _⟩⟩⟩
    unfold Rep at r1 r2;rw[r1,r2]
   .cases h4
noncomputable def uX(t:FT)(body:FS):List D->FS
 | [],δ=> .ok$ .nx δ
 | d ::ds,δ=>(t d δ).bind λδ1=>(body δ1).bind λo=>match o with | .nx c_=>uX t body ds c_ | .rt r=> .ok$ .rt r
def q9(it:ay->R (List D))(t:FT)(body:FS):FS:=λδ=>(it δ).bind λds=>uX t body ds δ
def Nr{tg iter:Expr}{body:List Stmt}{it:ay->R (List D)}{t:FT}{F:FS}{pos:Pos}(hp:PassesOwn (model X.prog X.w) X.A X.env X.xe)(hc:X.calm=true)(hi:P1 X tg iter it)(hg:RC X tg t)(hb:vJ X body F)
 (hs:∀x,foldedSetIterable iter X.env x=pure x:=by intro _;rfl):JW X (.For tg iter body [] pos) (q9 it t F):=(L4 hp hc hi hg hb hs).imp λD σ H ⟨Z,B,δ,o,E,hf,q⟩=>by
 obtain⟨ds,h1,h2⟩:=R.ao hf;refine⟨Z,B,δ,ds,E,h1,λJ H1 s1 ir=>?_⟩
 refine⟨λi m dN H'=>m=ds.length - i/\i<=ds.length/\∃B' fg,Ev Z B H1 B' H'/\eV X.K Z B' H' dN fg/\uX t F (ds.drop i) fg= .ok o,⟨ds.length,rfl,QbE _,B,δ,Ev.refl Z B H1 E.zb,E.same s1,by simpa using h2⟩,?_⟩
 rintro i m dN H' ⟨rfl,hi,B',fg,ev,E',hl⟩;obtain⟨go,stop⟩:=ir B' H' ev.bG;by_cases hlt:i<ds.length
 .have hd:ds[i]? =some ds[i]:=Qab hlt;have hdrop:ds.drop i=ds[i] ::ds.drop (i+1):=QbF hlt;rw[hdrop] at hl;obtain⟨δ1,h3,h4⟩:=R.ao hl;obtain⟨o1,h5,h6⟩:=R.ao h4;obtain⟨g1,g2⟩:=go i _ hd;refine .inr ⟨g1,λB0 H2=>∃B2 c_,Ev Z B H1 B2 H2/\eV X.K Z B2 H2 B0 c_/\uX t F (ds.drop$ i+1) c_= .ok o,λB0 H2 n=>⟨ds.length - (i+1),by omega,rfl,hlt,n⟩,λx qX y=>?_⟩
  obtain⟨ss,rr⟩:=g2 x qX y E'.bs;refine⟨Z,B',fg,ds[i],δ1,E'.same ss,rr,h3,λB0 H2 s2 E2 l2=>⟨Z,B',δ1,o1,E2,h5,?_⟩⟩
  have ev2:Ev Z B H1 B' H2:=ev.trans$ Ev.same E'.zb$ ss.trans s2;cases o1 with
  | nx c_=>exact λPh B3 H3 YN E3=>⟨B3,c_,ev2.trans YN,E3,h6⟩
  | rt d=>
    cases h6;exact λv B3 H3 YN z r=>q v B3 H3 ((Ev.same E.zb s1).trans$ ev2.trans YN) z r
 .have e:i=ds.length:=by omega
  subst e;rw[QcA] at hl;cases hl;exact .inl ⟨stop,q dN B' H' ((Ev.same E.zb s1).trans ev) E'⟩
noncomputable def J3(c:ay->R Bool)(body:FS):Nat->FS
 | 0,_=> .no
 | n+1,δ=>(c δ).bind λb=>if b then(body δ).bind λo=>match o with | .nx c_=>J3 c body n c_ | .rt r=> .ok (.rt r) else .ok (.nx δ)
def W8(n:Nat)(c:ay->R Bool)(body:FS):FS:=λδ=>J3 c body n δ
noncomputable def qV(δ:ay)(i:Nat):Sl:=match δ[i]? with | some (.val d)=> .val d | _=> .un
def t9(own:List Str)(kp:List Nat)(δ:ay):ay:=List.replicate own.length .un++kp.map (qV δ)
noncomputable def qW(t:FT)(c:ay->R Bool)(f:FD)(δ:ay):List D->R (List D)
 | []=> .ok []
 | d ::ds=>(t d δ).bind λδ1=>(c δ1).bind λb=>if b then(f δ1).bind λy=>(qW t c f δ ds).bind λys=> .ok (y ::ys) else qW t c f δ ds
def bX(it:ay->R (List D))(t:FT)(c:ay->R Bool)(f:FD)(own:List Str)(kp:List Nat):ay->R (List D):=λδ=>(it δ).bind λds=>R.bH (decide$ ds.length<=sizeLine)$ qW t c f (t9 own kp δ) ds
def RI{K:Qdf}{Z B B':List Addr}{H H':Hp}{δ:ay}{own:List Str}{kp:List Nat}(E:eV K Z B H σ δ)(p:dR B H B' H')(hB:∀a∈B',∃o,H' a=some o):eV K [] B' H' (d5 own kp σ) (t9 own kp δ) where
 len:=by unfold d5 t9;simp
 bs:=hB
 zb:=λa ha=>by cases ha
 val:=λi d e=>by
  unfold t9 at e;unfold d5;by_cases hi:i<own.length
  .rw [Qax (by simpa using hi),Qa5] at e
   split at e <;> cases e
  .rw [Qaj (by simpa using hi),Qba,Qac] at e ⊢
   cases q:kp[i - own.length]? with
   | none=>rw [q] at e;cases e
   | some j=>
     rw[q] at e;have e:qV δ j= .val d:=QaW e;unfold qV at e;split at e
     .rename_i d' ed;cases e;obtain⟨v,h1,h2⟩:=E.val j d ed;exact⟨v,by simp [h1],h2.bG p⟩
     .cases e
 bld:=λi ds e=>by
  unfold t9 at e;by_cases hi:i<own.length
  .rw [Qax (by simpa using hi),Qa5] at e
   split at e <;> cases e
  .rw [Qaj (by simpa using hi),Qba,Qac] at e
   cases q:kp[i - own.length]? with
   | none=>rw [q] at e;cases e
   | some j=>
     rw[q] at e;have e:qV δ j= .bld ds:=QaW e;unfold qV at e;split at e <;> cases e
 dis:=λi j a ds es e=>by
  unfold t9 at e;by_cases hi:i<own.length
  .rw [Qax (by simpa using hi),Qa5] at e
   split at e <;> cases e
  .rw [Qaj (by simpa using hi),Qba,Qac] at e
   cases q:kp[i - own.length]? with
   | none=>rw [q] at e;cases e
   | some j=>
     rw[q] at e;have e:qV δ j= .bld ds:=QaW e;unfold qV at e;split at e <;> cases e
def BE{K:Qdf}{it:ay->R (List D)}{c:ay->R Bool}{own:List Str}{kp:List Nat}{Q:VK}(h:tN K (bX it t c f own kp) σ H Q) :
 Gn (iD K it) (gD K t) (P7 K c) (tD K f) own kp σ H Q:=by
 obtain⟨Z,B,δ,ds,E,hf,q⟩:=h;obtain⟨es,h1,h2⟩:=R.ao hf;obtain⟨hl,h3⟩:=R.bj h2;have hl:=Qal hl;refine⟨Z,B,δ,es,E,h1,λJ H1 s1 ir Dd hD=>?_⟩
 have E1:=E.same s1;have pD:dR B H1 (Dd ::B) (upd H1 Dd$ .lst []):=sd hD;refine⟨λi m ys H'=>m=es.length - i/\i<=es.length/\ys.length<=i/\H' Dd=some (.lst ys)/\bo H1 H'/\∃done rest,ds=done++rest/\aI K (Dd ::B) H' done ys/\qW t c f (t9 own kp δ) (es.drop i)= .ok rest,
  ⟨es.length,rfl,QbE _,Qak _,bh,aU hD,[],ds,rfl,aI.nil,by simpa using h3⟩,?_⟩
 rintro i m ys H' ⟨rfl,hi,hy,hDl,ss,done,rest,rfl,rd,hc⟩;have dB:Dd ∉ B:=λhb=>by obtain⟨o,ho⟩:=E1.bs Dd hb;rw [hD] at ho;cases ho
 have p':dR B H1 (Dd ::B) H':=λb o e nb=>⟨ss b o e,λhb=>by
  rcases QaE.mp hb with z | z
  .exact cG e hD z
  .exact nb z⟩
 have Pg:∀a∈Dd ::B,∃o,H' a=some o:=λa ha=>by
  rcases QaE.mp ha with z | z
  .subst z;exact⟨_,hDl⟩
  .obtain⟨o,ho⟩:=E1.bs a z;exact⟨o,ss a o ho⟩
 obtain⟨go,stop⟩:=ir (Dd ::B) H' p';by_cases hlt:i<es.length
 .have hd:es[i]? =some es[i]:=Qab hlt;have hdrop:es.drop i=es[i] ::es.drop (i+1):=QbF hlt;rw[hdrop] at hc;obtain⟨δ1,h4,h5⟩:=R.ao hc;obtain⟨b,h6,h7⟩:=R.ao h5;obtain⟨g1,g2⟩:=go i _ hd;refine .inr ⟨g1,λx H2 y=>?_⟩
  obtain⟨sy,ry⟩:=g2 x H2 y Pg;have Ec:eV K [] (Dd ::B) H2 (d5 own kp σ) (t9 own kp δ):=RI E1 (p'.trans$ dR.same sy) λa ha=>let⟨o,ho⟩:=Pg a ha;⟨o,sy a o ho⟩
  refine⟨[],Dd ::B,t9 own kp δ,es[i],δ1,Ec,ry,h4,λPh H3 s3 E3 _=>⟨[],Dd ::B,δ1,b,E3,h6,λH4 s4=>?_⟩⟩
  have sAll:bo H' H4:=sy.trans$ s3.trans s4;cases b with
  | true=>
    rw[QaK rfl] at h7;refine OY ?_;obtain⟨yv,h8,h9⟩:=R.ao h7;obtain⟨rs,YB,Ti⟩:=R.ao h9;cases Ti;refine⟨[],Dd ::B,δ1,yv,E3.same s4,h8,λv H5 s5 r5=>?_⟩
    have s':bo H' H5:=sAll.trans s5;have YH:H5 Dd=some (.lst ys):=s' Dd _ hDl;have pu:dR (Dd ::B) H5 (Dd ::B) (upd H5 Dd$ .lst$ ys++[v]):=λb o e nb=>⟨by rw[bA$ λ(z:b=Dd)=>nb$ by rw[z];exact Qan];exact e,nb⟩
    refine⟨YH,by omega,es.length - (i+1),by omega,rfl,hlt,by rw[Qai,Qb7];omega,bh,λb o e=>?_,done++[yv],rs,by simp,((rd.same s').append$ aI.cons r5 aI.nil).bG pu,YB⟩
    rw[bA$ cG e hD];exact s' b o$ ss b o e
  | false=>
    rw[QaH$ by decide] at h7
    refine OI ?_;exact⟨es.length - (i+1),by omega,rfl,hlt,by omega,sAll Dd _ hDl,ss.trans sAll,done,rest,rfl,rd.same sAll,h7⟩
 .have e:i=es.length:=by omega
  subst e;rw[QcA] at hc;cases hc;rw[QaV] at q;exact .inl ⟨stop,q Dd ys H' (s1.trans ss) (s1.free hD) hDl rd⟩
def O_{scope:Scope}{own:List Str}{kp:List Nat}{kn:List Str}{tg iter elt:Expr}{ifs:List Expr}{it:ay->R (List D)}{t:FT}{c:ay->R Bool}{f:FD}{pos:Pos}(hc:X.calm=true)(C:f6 X scope own kp kn)(hi:P1 X tg iter it)
 (hg:∀fp s H,RC (bN X scope (own++kn) fp s H) tg t) (D_:∀fp s H,rX (bN X scope (own++kn) fp s H) ifs$ P7 X.K c) (he:∀fp s H,PD (bN X scope (own++kn) fp s H) elt f)
 (hs:∀x,foldedSetIterable iter X.env x=pure x:=by intro _;rfl):PN X (.ListComp elt [⟨tg,iter,ifs,0⟩] scope pos) (bX it t c f own kp):=
 (G0 hc C hi hg D_ he hs).imp λσ H Q h=>BE h
noncomputable def eB:ay->R Bool:=λ_=> .ok true
def LG:rX X [] (P7 X.K eB):=λpins s σ H Q I ⟨Z,B,δ,b,E,hf,q⟩=>D4 pins s σ H Q I (by cases hf;exact q H$ bo.refl H)
def OS{c:ay->R Bool}(h:PB X e c):rX X [e] (P7 X.K c):=D7 h
def CN{i:Nat}{x:Str}{pos' mw:Pos}{scope:Scope}{own:List Str}{kp:List Nat}{kn:List Str}{tg iter elt:Expr}{ifs:List Expr}{it:ay->R (List D)}{t:FT}{c:ay->R Bool}{f:FD}{pos:Pos}(hc:X.calm=true)
 (hN:X.N.Nodup) (hx:X.N[i]? =some x) (Jz:X.env.scope.names.lookup x=some .local) (C:f6 X scope own kp kn) (hi:P1 X tg iter it)
 (hg:∀fp s H,RC (bN X scope (own++kn) fp s H) tg t) (D_:∀fp s H,rX (bN X scope (own++kn) fp s H) ifs$ P7 X.K c) (he:∀fp s H,PD (bN X scope (own++kn) fp s H) elt f)
 (yw:swapsWith (.ListComp elt [⟨tg,iter,ifs,0⟩] scope pos) (some$ .Name x pos') mw.line X.env=pure true:=by rfl)
 (hs:∀x,foldedSetIterable iter X.env x=pure x:=by intro _;rfl):JW X (.Assign [.Name x pos'] (.ListComp elt [⟨tg,iter,ifs,0⟩] scope pos) mw) (vU i$ bX it t c f own kp):=
 (rj hc hN hx Jz C hi hg D_ he yw hs).imp λD σ H h=>BE$ L0 h
end
noncomputable def cA(N:List Str)(ds:List D):ay:=ds.map .val++List.replicate (N.length - ds.length) .un
def qJ(N:List Str)(F:FS):List D->R D:=λds=>(F$ cA N ds).bind λo=>match o with | .rt d=> .ok d | .nx _=> .ok .cY
def MX{K:Qdf}{B:List Addr}{H:Hp}{N:List Str}{ds:List D}{vs:List V}(hB:∀a∈B,∃o,H a=some o)(r:aI K B H ds vs):eV K B B H (start N vs) (cA N ds) where
 len:=by unfold start cA;simp [r.length]
 bs:=hB
 zb:=λa ha=>ha
 val:=λi d e=>by
  unfold cA at e;unfold start;by_cases hi:i<ds.length
  .rw [Qax (by simpa using hi),Qac] at e
   cases q:ds[i]? with
   | none=>rw [q] at e;cases e
   | some d'=>
     rw[q] at e;cases e;obtain⟨x,h1,h2⟩:=r.get q;exact⟨x,by rw[Qax (by rw[Qaa,<-r.length];exact hi),Qac,h1];rfl,h2⟩
  .rw [Qaj (by simpa using hi),Qa5] at e
   split at e <;> cases e
 bld:=λi es e=>by
  unfold cA at e;by_cases hi:i<ds.length
  .rw [Qax (by simpa using hi),Qac] at e
   cases q:ds[i]? with
   | none=>rw [q] at e;cases e
   | some d'=>rw [q] at e;cases e
  .rw [Qaj (by simpa using hi),Qa5] at e
   split at e <;> cases e
 dis:=λi j a es fs e=>by
  unfold cA at e;by_cases hi:i<ds.length
  .rw [Qax (by simpa using hi),Qac] at e
   cases q:ds[i]? with
   | none=>rw [q] at e;cases e
   | some d'=>rw [q] at e;cases e
  .rw [Qaj (by simpa using hi),Qa5] at e
   split at e <;> cases e
def NJ{P:Program}{w:World}{K:Qdf}{mg:Aaf}{base:Heap}{x qual:Str}{st:Stmt}{f:Addr}{fd:FuncData}{N ps:List Str}{k:Nat}{F:FS}(Fn:Gq K x qual st f fd)(S:aW N ps (aF st))
 (jJ:∀(gZ:Value) (A:Around) (outer:List Env) (s:Qdg) (H:Hp) (E:XK),eU k (A.deeper$ envOfC qual (aF st) s.heap.objs.size f gZ)->
   vJ (uI xu P w K mg base N qual (aF st) f gZ A outer s H E).KA (aN st) F):jW P w K mg base xu (k+1) f fd ps (Lx K ps.length$ qJ N F):=by
 refine Fn.ok S (λvs H Q E h=>h.1)$ λgZ A outer s H vs Q E hr h=>⟨_,jJ gZ A outer s H E hr,?_⟩
 obtain⟨_,B,ds,d,hB,r,hg,q⟩:=h;obtain⟨o,h1,h2⟩:=R.ao hg;refine⟨B,B,cA N ds,o,MX hB r,h1,?_⟩;have sm:∀{B':List Addr} {H':Hp},Ev B B H B' H'->bo H H':=fun {B' H'} ev b u e=>by
  by_cases hb:b∈B
  .exact(ev.zs b u e hb).1
  .exact(ev.bG b u e hb).1
 cases o with
 | nx fg=>
   cases h2;exact λdN B' H' ev _=>q _ H' (sm ev) (by unfold Rep;rfl)
 | rt d'=>
   cases h2;exact λv B' H' ev z rr=>q v H' (sm ev)$ rr.bG λb o e nb=>⟨e,λhb=>nb$ z b hb⟩
def Rep.int{K:Qdf}{B:List Addr}{i:Int}{v:V}:Rep K B H (.int i) v↔v= .int i:=by unfold Rep;exact Iff.rfl
def Rep.bl{K:Qdf}{B:List Addr}{i:Bool}{v:V}:Rep K B H (.bl i) v↔v= .bl i:=by unfold Rep;exact Iff.rfl
def Rep.str{K:Qdf}{B:List Addr}{v:V}:Rep K B H (.str i) v↔v= .str i:=by unfold Rep;exact Iff.rfl
def Rep.cY{K:Qdf}{B:List Addr}{v:V}:Rep K B H .cY v↔v= .cY:=by unfold Rep;exact Iff.rfl
def Rep.lst{K:Qdf}{B:List Addr}{ds:List D}{v:V}:Rep K B H (.lst ds) v↔∃a xs,v= .ref a/\zM K B H a xs/\aI K B H ds xs:=by rw[Rep]
def Rep.tup{K:Qdf}{B:List Addr}{ds:List D}{v:V}:Rep K B H (.tup ds) v↔∃a xs,v= .ref a/\Ac K B H a xs/\aI K B H ds xs:=by rw[Rep]
section
variable {X:Cx}
def m6.of{f:Value->Value->Sem Value}{r:R2}{g:D->D->R D}(h:oC X f r)
 (w:∀(B:List Addr) (H:Hp) (da db d:D) (x y:V) (Q:VK),(∀a∈B,∃o,H a=some o)->Rep X.K B H da x->Rep X.K B H db y->g da db= .ok d->(∀z H',bo H H'->Rep X.K B H' d z->Q z H')->r x y H Q):m6 X f g:=by
 intro pins s σ H B da db d x y v u I hb rx ry ra rb hg;exact h pins s σ H x y v u _ I rx ry$ w B H da db d x y _ hb ra rb hg λz H' s1 r1=>⟨s1,r1⟩
def cV.of{f:Value}{r:List V->Hp->VK->Prop}{g:List D->R D}(h:oq X f r)
 (w:∀(B:List Addr) (H:Hp) (ds:List D) (d:D) (xs:List V) (Q:VK),(∀a∈B,∃o,H a=some o)->aI X.K B H ds xs->g ds= .ok d->(∀z H',bo H H'->Rep X.K B H' d z->Q z H')->r xs H Q):cV X f g:=by
 intro pins s σ H B ds d xs us I hb rx rs hg;exact h pins s σ H xs us _ I rx$ w B H ds d xs _ hb rs hg λz H' s1 r1=>⟨s1,r1⟩
def cV.or{f:Value}{g g1 g2:List D->R D}(h1:cV X f g1)(h2:cV X f g2)(e:∀a d,g a= .ok d->g1 a= .ok d\/g2 a= .ok d):cV X f g:=by
 intro pins s σ H B ds d xs us I hb rx rs hg;rcases e ds d hg with q | q
 .exact h1 pins s σ H B ds d xs us I hb rx rs q
 .exact h2 pins s σ H B ds d xs us I hb rx rs q
def MF(C:Int->Int->Bool)(g:Int->Int->Int):D->D->R D
 | .int i, .int j=>R.bH (C i j)$ .ok$ .int$ g i j
 | _,_=> .no
def Dv{f:Value->Value->Sem Value}{C:Int->Int->Bool}{Cp:Int->Int->Prop}{g:Int->Int->Int}(h:oC X f (rI Cp λi j=> .int$ g i j))(hc:∀i j,C i j=true->Cp i j):m6 X f (MF C g):=
 m6.of h λB H da db d x y Q _ ra rb hg q=>by
  unfold MF at hg;split at hg
  .obtain⟨h1,h2⟩:=R.bj hg;cases h2;exact⟨_,_,Rep.int.mp ra,Rep.int.mp rb,hc _ _ h1,q _ H (bo.refl H)$ Rep.int.mpr rfl⟩
  .cases hg
noncomputable def IQ(g:Int->Int->Int):D->D->R D
 | .int i, .int j=> .ok$ .int$ g i j
 | _,_=> .no
def Bm{f:Value->Value->Sem Value}{g:Int->Int->Int}(h:oC X f (Ju λi j=> .int$ g i j)):m6 X f (IQ g):=
 m6.of h λB H da db d x y Q _ ra rb hg q=>by
  unfold IQ at hg;split at hg
  .cases hg;exact⟨_,_,Rep.int.mp ra,Rep.int.mp rb,q _ H (bo.refl H)$ Rep.int.mpr rfl⟩
  .cases hg
noncomputable def Tj(g:Int->Int->Bool):D->D->R D
 | .int i, .int j=> .ok$ .bl$ g i j
 | _,_=> .no
def Ll{f:Value->Value->Sem Value}{g:Int->Int->Bool}(h:oC X f (Ju λi j=> .bl$ g i j)):m6 X f (Tj g):=
 m6.of h λB H da db d x y Q _ ra rb hg q=>by
  unfold Tj at hg;split at hg
  .cases hg;exact⟨_,_,Rep.int.mp ra,Rep.int.mp rb,q _ H (bo.refl H)$ Rep.bl.mpr rfl⟩
  .cases hg
abbrev rB:D->D->R D:=IQ fun i j=>i - j
def oQ:m6 X (binaryOp .Sub) rB:=Bm Q4
abbrev pL:D->D->R D:=MF (fun _ j=>decide$ 0<j/\j<1073741824) fun i j=>i / j
def ub:m6 X (binaryOp .FloorDiv) pL:=Dv Pa λi j h=>(Qal h:0<j/\j<1073741824)
abbrev fF:D->D->R D:=MF (fun _ j=>decide$ 0<j) fun i j=>i % j
def eE:m6 X (binaryOp .Mod) fF:=Dv RZ λi j h=>Qal h
abbrev Rz:D->D->R D:=MF (fun i j=>decide$ 0<=j/\j<=1000000/\i.natAbs<2 ^ 64) fun i j=>i ^ j.toNat
def Uw:m6 X (binaryOp .Pow) Rz:=Dv Q7 λi j h=>(Qal h:0<=j/\j<=1000000/\i.natAbs<2 ^ 64)
abbrev IB:D->D->R D:=MF (fun _ j=>decide$ 0<=j) fun i j=>i / 2 ^ j.toNat
def PV:m6 X (binaryOp .RShift) IB:=Dv Ro λi j h=>Qal h
abbrev MD:D->D->R D:=IQ fun i j=>Builtin.bitAnd i j
def Je:m6 X (binaryOp .BitAnd) MD:=Bm SX
abbrev P_:D->D->R D:=IQ fun i j=>Builtin.bitOr i j
def IU:m6 X (binaryOp .BitOr) P_:=Bm TY
abbrev Hu:D->D->R D:=IQ fun i j=>Builtin.bitXor i j
def FE:m6 X (binaryOp .BitXor) Hu:=Bm RY
abbrev Tu:D->D->R D:=Tj fun i j=>decide$ i<j
def Vf:m6 X (compareOp .Lt) Tu:=Ll VA
abbrev dLe:D->D->R D:=Tj fun i j=>decide$ i<=j
abbrev Ic:D->D->R D:=Tj fun i j=>decide$ j<i
def Kn:m6 X (compareOp .Gt) Ic:=Ll Um
abbrev U7:D->D->R D:=Tj fun i j=>decide$ j<=i
def Uh:m6 X (compareOp .GtE) U7:=Ll VO
def zM.xE{K:Qdf}{B:List Addr}{H:Hp}{a:Addr}{xs:List V}(h:H a=some (.lst xs))(n:a ∉ B):zM K B H a xs:= .inl ⟨n, .inl h⟩
def Inv.Qi{pins:Aaa}{s:Qdg}{a:Addr}{xs:List V}{B:List Addr}(I:Inv X pins σ H s)(h:zM X.K B H a xs):∃(its:List Value) (n:Nat),Vals xs its/\s.heap.get? a=some {cls:= .type "list",data:= .seq its.toArray n}/\xs.length<=sizeLine:=by
 rcases h with⟨_,h⟩ | ⟨its,n,hk,hz,r⟩
 .obtain⟨z,its,n,r,e⟩:=h.ok I.hok;exact⟨its,n,r,e,z⟩
 .exact⟨its,n,r,I.GO a _ hk,hz⟩
def Hb:oC X (binaryOp .Add) (λx y H Q=>∃B l b xs zs,x= .ref l/\y= .ref b/\zM X.K B H l xs/\zM X.K B H b zs/\xs.length+zs.length<=sizeLine/\∀p,H p=none->Q (.ref p) (upd H p$ .lst$ xs++zs)):=by
 intro pins s σ H x y v u Q I rx ry h;obtain⟨B,l,b,xs,zs,rfl,rfl,hH,hB,hz,q⟩:=h;cases rx;cases ry;obtain⟨its,n,r,e,_⟩:=I.Qi hH;obtain⟨p9,n2,r2,e2,_⟩:=I.Qi hB;have l1:=r.length;have l2:=r2.length;refine PySem.P.add_list e e2 ?_ (by rw[Qay,Qay];omega)
 have ea:its.toArray++p9.toArray=(its++p9).toArray:=by simp
 rw[ea];exact⟨.ref _,_,I.NU (t':=s.toks) (r.append r2) (by rw[Qai];omega),rfl,q _ I.fresh⟩
def cI:D->D->R D
 | .int i, .int j=> .ok$ .int$ i+j
 | .str a, .str b=>R.bH (decide$ a.length+b.length<=sizeLine)$ .ok$ .str$ a++b
 | .lst a, .lst b=>R.bH (decide$ a.length+b.length<=sizeLine)$ .ok$ .lst$ a++b
 | _,_=> .no
def cD:m6 X (binaryOp .Add) cI:=by
 intro pins s σ H B da db d x y v u I hb rx ry ra rb hg;unfold cI at hg;split at hg
 .cases hg;exact Qw pins s σ H x y v u _ I rx ry ⟨_,_,Rep.int.mp ra,Rep.int.mp rb,bo.refl H,Rep.int.mpr rfl⟩
 .obtain⟨h1,h2⟩:=R.bj hg;cases h2;exact Fh pins s σ H x y v u _ I rx ry ⟨_,_,Rep.str.mp ra,Rep.str.mp rb,Qal h1,bo.refl H,Rep.str.mpr rfl⟩
 .obtain⟨h1,h2⟩:=R.bj hg;cases h2;obtain⟨a1,YF,rfl,l1,r1⟩:=Rep.lst.mp ra;obtain⟨a2,Yp,rfl,l2,r2⟩:=Rep.lst.mp rb;refine Hb pins s σ H _ _ v u _ I rx ry ⟨B,a1,a2,YF,Yp,rfl,rfl,l1,l2,by rw[<-r1.length,<-r2.length];exact Qal h1,λp hp=>⟨aU hp,Rep.lst.mpr ⟨p,_,rfl, .xE bh λha=>?_,(r1.append r2).same$ aU hp⟩⟩⟩
  obtain⟨o,ho⟩:=hb p ha;rw[hp] at ho;cases ho
 .cases hg
def OH:oC X (binaryOp .Mult) (λx y H Q=>∃z n,x= .str z/\y= .int n/\MulOk z n/\Q (.str$ Txt.mul z n) H):=by
 intro pins s σ H x y v u Q I rx ry h;obtain⟨z,n,rfl,rfl,hm,q⟩:=h;obtain⟨t,rfl⟩:=rx;obtain⟨t',rfl⟩:=ry;exact SB.mul hm λt2 k=>⟨.str _,H,I.tok _,⟨_,rfl⟩,q⟩
end
section
variable {X:Cx}
def mulOk_of{x:Str}{n:Int}(h1: -(2 ^ 63)<=n)(h2:n<2 ^ 63)(h3:x.length*n.toNat<=sizeLine):MulOk x n:=by
 refine⟨by simp only[Bool.or_eq_false_iff,decide_eq_false_iff_not];omega,λhn _=>?_,λhn _=>?_⟩
 .have hz:=Qas;have e:(n.toNat:Int)=n:=by omega
  have h4:(x.length:Int)*n<=16777216:=by
   have:((x.length*n.toNat:Nat):Int)<=((16777216:Nat):Int):=Int.ofNat_le.mpr (by omega)
   rw[Int.natCast_mul,e] at this;exact this
  have:(x.length:Int)<=(2 ^ 63 - 1) / n:=(Int.le_ediv_iff_mul_le$ by omega).mpr (by omega)
  omega
 .unfold Builtin.Str.tooLong;exact Qaw (by omega)
def lJ:D->D->R D
 | .int i, .int j=>R.bH (decide$ (-(2 ^ 64)<i/\i<2 ^ 64)\/(-(2 ^ 64)<j/\j<2 ^ 64))$ .ok$ .int$ i*j
 | .str x, .int n=>R.bH (decide (-(2 ^ 63)<=n/\n<2 ^ 63/\x.length*n.toNat<=sizeLine))$ .ok$ .str$ Txt.mul x n
 | _,_=> .no
def lh:m6 X (binaryOp .Mult) lJ:=by
 intro pins s σ H B da db d x y v u I hb rx ry ra rb hg;unfold lJ at hg;split at hg
 .obtain⟨h1,h2⟩:=R.bj hg;cases h2;have h1:=Qal h1;exact Rg pins s σ H x y v u _ I rx ry ⟨_,_,Rep.int.mp ra,Rep.int.mp rb,h1,bo.refl H,Rep.int.mpr rfl⟩
 .obtain⟨h1,h2⟩:=R.bj hg;cases h2;have h1:=Qal h1;exact OH pins s σ H x y v u _ I rx ry ⟨_,_,Rep.str.mp ra,Rep.int.mp rb,mulOk_of h1.1 h1.2.1 h1.2.2,bo.refl H,Rep.str.mpr rfl⟩
 .cases hg
mutual
noncomputable def toPy:D->PyData
 | .cY=> .none
 | .bl b=> .bool b
 | .int i=> .int i
 | .str x=> .str x
 | .lst ds=> .list$ n9 ds
 | .tup ds=> .tuple$ n9 ds
 | .dct _ _=> .dict []
noncomputable def n9:List D->List PyData
 | []=>[]
 | d ::ds=>toPy d ::n9 ds
end
mutual
noncomputable def eM:D->Bool
 | .dct _ _=>false
 | .lst ds=>lQ ds
 | .tup ds=>lQ ds
 | _=>true
noncomputable def lQ:List D->Bool
 | []=>true
 | d ::ds=>eM d && lQ ds
end
mutual
theorem Rep.reads{pins:Aaa}{s:Qdg}{B:List Addr}(I:Inv X pins σ H s):∀{d:D} {v:V} {u:Value},eM d=true->Rep X.K B H d v->RelV v u->∃as,Reads s.heap u (toPy d) as
 | .cY,v,u,_,r,q=>by rw[Rep.cY.mp r] at q;cases q;unfold toPy;exact⟨_, .none⟩
 | .bl b,v,u,_,r,q=>by rw[Rep.bl.mp r] at q;cases q;unfold toPy;exact⟨_, .bool b⟩
 | .int i,v,u,_,r,q=>by rw[Rep.int.mp r] at q;obtain⟨t,rfl⟩:=q;unfold toPy;exact⟨_, .int i t⟩
 | .str x,v,u,_,r,q=>by rw[Rep.str.mp r] at q;obtain⟨t,rfl⟩:=q;unfold toPy;exact⟨_, .str x t⟩
 | .lst ds,v,u,hp,r,q=>by
   obtain⟨a,xs,rfl,l,rs⟩:=Rep.lst.mp r;cases q;obtain⟨its,rv,⟨o,n,e,hc,hd,he⟩,_⟩:=I.list l.sq;obtain⟨as,ra⟩:=aI.reads I (by unfold eM at hp;exact hp) rs rv
   unfold toPy;exact⟨_, .list e hc he$ by simpa using ra⟩
 | .tup ds,v,u,hp,r,q=>by
   obtain⟨a,xs,rfl,l,rs⟩:=Rep.tup.mp r;cases q;obtain⟨its,rv,⟨o,e,hc,n,hd⟩,_⟩:=I.tuple l.sq;obtain⟨as,ra⟩:=aI.reads I (by unfold eM at hp;exact hp) rs rv
   unfold toPy;exact⟨_, .tuple e hc hd$ by simpa using ra⟩
 | .dct _ _,v,u,hp,r,q=>by unfold eM at hp;cases hp
theorem aI.reads{pins:Aaa}{s:Qdg}{B:List Addr}(I:Inv X pins σ H s):∀{ds:List D} {vs:List V} {us:List Value},lQ ds=true->aI X.K B H ds vs->Vals vs us->∃as,ReadsAll s.heap us (n9 ds) as
 | [],vs,us,_,r,q=>by unfold aI at r;subst r;cases q;unfold n9;exact⟨_, .nil⟩
 | d ::ds,vs,us,hp,r,q=>by
   obtain⟨x,xs,rfl,r1,r2⟩:=r.cj;cases q with
   | cons q1 q2=>
     unfold lQ at hp;obtain⟨h1,h2⟩:=Qbc.mp hp;obtain⟨as,a1⟩:=Rep.reads I h1 r1 q1;obtain⟨bs,a2⟩:=aI.reads I h2 r2 q2;unfold n9;exact⟨_, .cons a1 a2⟩
end
def C8:D->D->R Bool
 | .int i, .int j=> .ok$ decide$ i=j
 | .str x, .str y=> .ok$ decide$ x=y
 | .bl a, .bl b=> .ok$ decide$ a=b
 | d,e=>R.bH (eM d && eM e && SeqAt.shaped (toPy d) && SeqAt.shaped (toPy e))$ .ok$ PyData.eqv (toPy d)$ toPy e
def xK(d e:D):R D:=(C8 d e).bind λb=> .ok$ .bl b
def vX(d e:D):R D:=(C8 d e).bind λb=> .ok$ .bl$ !b
def uH(hu:X.A.units+64<cLine):m6 X (compareOp .Eq) xK:=by
 intro pins s σ H B da db d x y v u I hb rx ry ra rb hg;obtain⟨b,h1,h2⟩:=R.ao hg;cases h2;unfold C8 at h1;split at h1
 .cases h1;rename_i i j;have:=Mj pins s σ H x y v u (λz H'=>bo H H'/\Rep X.K B H' (.bl$ decide$ i=j) z) I rx ry
  rw[Rep.int.mp ra,Rep.int.mp rb] at this;refine this ⟨rfl,bo.refl H,Rep.bl.mpr ?_⟩;simp [V.int.injEq]
 .cases h1;rename_i i j;have:=Mj pins s σ H x y v u (λz H'=>bo H H'/\Rep X.K B H' (.bl$ decide$ i=j) z) I rx ry
  rw[Rep.str.mp ra,Rep.str.mp rb] at this;refine this ⟨rfl,bo.refl H,Rep.bl.mpr ?_⟩;simp [V.str.injEq]
 .cases h1;rename_i i j;have:=Mj pins s σ H x y v u (λz H'=>bo H H'/\Rep X.K B H' (.bl$ decide$ i=j) z) I rx ry
  rw[Rep.bl.mp ra,Rep.bl.mp rb] at this;refine this ⟨rfl,bo.refl H,Rep.bl.mpr ?_⟩;simp [V.bl.injEq]
 .obtain⟨h3,h4⟩:=R.bj h1;cases h4;simp only[Qbn] at h3;obtain⟨⟨⟨p1,p2⟩,s1⟩,s2⟩:=h3;obtain⟨as,r1⟩:=ra.reads I p1 rx;obtain⟨bs,r2⟩:=rb.reads I p2 ry;exact eq_dataH r1 r2 s1 s2 hu ⟨.bl _,H,I,rfl,bo.refl H,Rep.bl.mpr rfl⟩
def yH(hu:X.A.units+64<cLine):m6 X (compareOp .NotEq) vX:=by
 intro pins s σ H B da db d x y v u I hb rx ry ra rb hg;obtain⟨b,h1,h2⟩:=R.ao hg;cases h2;unfold C8 at h1;split at h1
 .cases h1;rename_i i j;have:=LX pins s σ H x y v u (λz H'=>bo H H'/\Rep X.K B H' (.bl$ !decide (i=j)) z) I rx ry
  rw[Rep.int.mp ra,Rep.int.mp rb] at this;refine this ⟨rfl,bo.refl H,Rep.bl.mpr ?_⟩;simp [V.int.injEq]
 .cases h1;rename_i i j;have:=LX pins s σ H x y v u (λz H'=>bo H H'/\Rep X.K B H' (.bl$ !decide (i=j)) z) I rx ry
  rw[Rep.str.mp ra,Rep.str.mp rb] at this;refine this ⟨rfl,bo.refl H,Rep.bl.mpr ?_⟩;simp [V.str.injEq]
 .cases h1;rename_i i j;have:=LX pins s σ H x y v u (λz H'=>bo H H'/\Rep X.K B H' (.bl$ !decide (i=j)) z) I rx ry
  rw[Rep.bl.mp ra,Rep.bl.mp rb] at this;refine this ⟨rfl,bo.refl H,Rep.bl.mpr ?_⟩;simp [V.bl.injEq]
 .obtain⟨h3,h4⟩:=R.bj h1;cases h4;simp only[Qbn] at h3;obtain⟨⟨⟨p1,p2⟩,s1⟩,s2⟩:=h3;obtain⟨as,r1⟩:=ra.reads I p1 rx;obtain⟨bs,r2⟩:=rb.reads I p2 ry;exact ne_dataH r1 r2 s1 s2 hu ⟨.bl _,H,I,rfl,bo.refl H,Rep.bl.mpr rfl⟩
noncomputable def strs?:List D->Option (List Str)
 | []=>some []
 | .str x ::ds=>(strs? ds).map (x ::·)
 | _ ::_=>none
theorem mW{K:Qdf}{B:List Addr}:∀{ds:List D} {xs:List V} {ss:List Str},aI K B H ds xs->strs? ds=some ss->xs=ss.map V.str
 | [],xs,ss,r,h=>by unfold aI at r;subst r;cases h;rfl
 | d ::ds,xs,ss,r,h=>by
   obtain⟨x,r',rfl,r1,r2⟩:=r.cj;cases d with
   | str z=>
     unfold strs? at h;cases e:strs? ds with
     | none=>rw [e] at h;cases h
     | some tt=>
       rw[e] at h;cases h;rw[Rep.str.mp r1,mW r2 e];rfl
   | _=>cases h
noncomputable def ints?:List D->Option (List Int)
 | []=>some []
 | .int x ::ds=>(ints? ds).map (x ::·)
 | _ ::_=>none
theorem dv{K:Qdf}{B:List Addr}:∀{ds:List D} {xs:List V} {ss:List Int},aI K B H ds xs->ints? ds=some ss->xs=ss.map V.int
 | [],xs,ss,r,h=>by unfold aI at r;subst r;cases h;rfl
 | d ::ds,xs,ss,r,h=>by
   obtain⟨x,r',rfl,r1,r2⟩:=r.cj;cases d with
   | int z=>
     unfold ints? at h;cases e:ints? ds with
     | none=>rw [e] at h;cases h
     | some tt=>
       rw[e] at h;cases h;rw[Rep.int.mp r1,dv r2 e];rfl
   | _=>cases h
def inD(d e:D):R Bool:=match d,e with
 | .str x, .lst ds=>(match strs? ds with | some ss=> .ok (ss.contains x) | none=> .no)
 | .str x, .tup ds=>(match strs? ds with | some ss=> .ok (ss.contains x) | none=> .no)
 | .str x, .str y=> .ok$ !(Builtin.Str.occurrences y x 0 y.length 1).isEmpty
 | .int x, .lst ds=>(match ints? ds with | some ss=> .ok (ss.contains x) | none=> .no)
 | .int x, .tup ds=>(match ints? ds with | some ss=> .ok (ss.contains x) | none=> .no)
 | _,_=> .no
def PY(d e:D):R D:=(inD d e).bind λb=> .ok$ .bl b
def Bn(d e:D):R D:=(inD d e).bind λb=> .ok$ .bl$ !b
theorem wY(x:Str):∀ss:List Str,P8 (.str x) (ss.map V.str)=ss.contains x
 | []=>rfl
 | y ::ss=>by
   unfold P8;rw[Qaz,Qbt];have ih:=wY x ss;unfold P8 at ih;rw[ih];show(y==x || ss.contains x)=_
   rw[Qb4];congr 1;exact Qbi.mpr ⟨λh=>by simpa using(Qbj.mp h).symm,λh=>by simpa using(Qbj.mp h).symm⟩
theorem yq(x:Int):∀ss:List Int,P8 (.int x) (ss.map V.int)=ss.contains x
 | []=>rfl
 | y ::ss=>by
   unfold P8;rw[Qaz,Qbt];have ih:=yq x ss;unfold P8 at ih;rw[ih];show(y==x || ss.contains x)=_
   rw[Qb4];congr 1;exact Qbi.mpr ⟨λh=>by simpa using(Qbj.mp h).symm,λh=>by simpa using(Qbj.mp h).symm⟩
def z7(ss:List Int):(ss.map V.int).all og=true:=by
 rw[List.all_map];simp [Qbq,og]
def zT(ss:List Str):(ss.map V.str).all og=true:=by
 rw[List.all_map];simp [Qbq,og]
def Lw{neg:Bool}{op:CmpOp}{g:D->D->R D}(h1:oC X (compareOp op) (Xg X.K neg))(h2:oC X (compareOp op) (λx y H Q=>∃i j,x= .str i/\y= .str j/\Q (.bl$ if neg then !(!(Builtin.Str.occurrences j i 0 j.length 1).isEmpty) else(!(Builtin.Str.occurrences j i 0 j.length 1).isEmpty)) H))
 (hg:∀d e r,g d e= .ok r->∃b,inD d e= .ok b/\r= .bl (if neg then !b else b)):m6 X (compareOp op) g:=by
 intro pins s σ H B da db d x y v u I hb rx ry ra rb hg';obtain⟨b,hi,rfl⟩:=hg da db d hg';unfold inD at hi;split at hi
 .rename_i z ds;split at hi
  .rename_i ss e;cases hi;obtain⟨a,xs,rfl,l,rs⟩:=Rep.lst.mp rb;refine h1 pins s σ H x _ v u _ I rx ry ⟨a,xs,rfl, .inl l.sq,by rw[Rep.str.mp ra];rfl,by rw[mW rs e];exact zT _,bo.refl H,Rep.bl.mpr ?_⟩
   rw[mW rs e,Rep.str.mp ra,wY]
  .cases hi
 .rename_i z ds;split at hi
  .rename_i ss e;cases hi;obtain⟨a,xs,rfl,l,rs⟩:=Rep.tup.mp rb;refine h1 pins s σ H x _ v u _ I rx ry ⟨a,xs,rfl, .inr l.sq,by rw[Rep.str.mp ra];rfl,by rw[mW rs e];exact zT _,bo.refl H,Rep.bl.mpr ?_⟩
   rw[mW rs e,Rep.str.mp ra,wY]
  .cases hi
 .cases hi;exact h2 pins s σ H x y v u _ I rx ry ⟨_,_,Rep.str.mp ra,Rep.str.mp rb,bo.refl H,Rep.bl.mpr rfl⟩
 .rename_i z ds;split at hi
  .rename_i ss e;cases hi;obtain⟨a,xs,rfl,l,rs⟩:=Rep.lst.mp rb;refine h1 pins s σ H x _ v u _ I rx ry ⟨a,xs,rfl, .inl l.sq,by rw[Rep.int.mp ra];rfl,by rw[dv rs e];exact z7 _,bo.refl H,Rep.bl.mpr ?_⟩
   rw[dv rs e,Rep.int.mp ra,yq]
  .cases hi
 .rename_i z ds;split at hi
  .rename_i ss e;cases hi;obtain⟨a,xs,rfl,l,rs⟩:=Rep.tup.mp rb;refine h1 pins s σ H x _ v u _ I rx ry ⟨a,xs,rfl, .inr l.sq,by rw[Rep.int.mp ra];rfl,by rw[dv rs e];exact z7 _,bo.refl H,Rep.bl.mpr ?_⟩
   rw[dv rs e,Rep.int.mp ra,yq]
  .cases hi
 .cases hi
def Nk:m6 X (compareOp .In) PY:=Lw (neg:=false) HS H0 λd e r h=>by
 obtain⟨b,h1,h2⟩:=R.ao h;cases h2;exact⟨b,h1,rfl⟩
def Gd:m6 X (compareOp .NotIn) Bn:=Lw (neg:=true) AF By λd e r h=>by
 obtain⟨b,h1,h2⟩:=R.ao h;cases h2;exact⟨b,h1,rfl⟩
def bz(d e:D):R D:=match d,e with
 | .lst ds, .int i=>(match yC ds i with | some x=> .ok x | none=> .no)
 | .tup ds, .int i=>(match yC ds i with | some x=> .ok x | none=> .no)
 | .str x, .int i=>R.bH (decide$ x.length<=sizeLine)$ match yC x.cps.toList i with | some c=> .ok (.str ⟨#[c]⟩) | none=> .no
 | _,_=> .no
def so{K:Qdf}{B:List Addr}{ds:List D}{xs:List V}{i:Int}{d:D}(r:aI K B H ds xs)(h:yC ds i=some d):∃x,yC xs i=some x/\Rep K B H d x:=by
 unfold yC at h ⊢;rw[<-r.length];cases e:Eg ds.length i with
 | none=>rw [e] at h;cases h
 | some j=>
   rw[e] at h;exact r.get h
def UT(ha:PD X a fa)(hb:PD X b fb)(hs:wg b):PD X (.Subscript a b pos) (e2 bz fa fb):=by
 refine(PM (r:=X6 X.K) Ln ha hb hs).imp λσ H Q ⟨Z,B,δ,d,E,hf,q⟩=>?_
 obtain⟨d1,h1,h2⟩:=R.ao hf;obtain⟨d2,h3,h4⟩:=R.ao h2;refine⟨Z,B,δ,d1,E,h1,λv1 H1 s1 r1=>⟨Z,B,δ,d2,E.same s1,h3,λv2 H2 s2 r2=>?_⟩⟩
 have tS:=r1.same s2;unfold bz at h4;split at h4
 .split at h4
  .rename_i e;cases h4;obtain⟨p,xs,rfl,l,rs⟩:=Rep.lst.mp tS;obtain⟨y,e1,e2⟩:=so rs e;exact .inl ⟨p,xs,_,y,rfl,Rep.int.mp r2,l.sq,e1,q y H2 (s1.trans s2) e2⟩
  .cases h4
 .split at h4
  .rename_i e;cases h4;obtain⟨p,xs,rfl,l,rs⟩:=Rep.tup.mp tS;obtain⟨y,e1,e2⟩:=so rs e;exact .inr$ .inl ⟨p,xs,_,y,rfl,Rep.int.mp r2,l.sq,e1,q y H2 (s1.trans s2) e2⟩
  .cases h4
 .obtain⟨hl,h5⟩:=R.bj h4;split at h5
  .rename_i e;cases h5;exact .inr$ .inr ⟨_,_,_,Rep.str.mp tS,Rep.int.mp r2,Qal hl,e,q _ H2 (s1.trans s2)$ Rep.str.mpr rfl⟩
  .cases h5
 .cases h4
abbrev FO:=ay->R (Option Int)
def tOD(K:Qdf)(f:FO):TO:=λσ H Q=>∃Z B δ o,eV K Z B H σ δ/\f δ= .ok o/\∀H',bo H H'->Q o H'
def PO.imp{X:Cx}{e:Option Expr}{t t':TO}(h:PO X e t)(w:∀σ H Q,t' σ H Q->t σ H Q):PO X e t':=λpins s σ H Q I hq=>h pins s σ H Q I$ w σ H Q hq
abbrev PP(X:Cx)(e:Option Expr)(f:FO):Prop:=PO X e$ tOD X.K f
noncomputable def D0:FO:=λ_=> .ok none
def xC(f:FD):FO:=λδ=>(f δ).bind λd=>match d with | .int i=> .ok (some i) | _=> .no
def OT:PP X none D0:=N_.imp λσ H Q ⟨Z,B,δ,o,E,hf,q⟩=>by cases hf;exact q H$ bo.refl H
def Od(h:PD X e f):PP X (some e) (xC f):=(NA h).imp λσ H Q ⟨Z,B,δ,o,E,hf,q⟩=>by
 obtain⟨d,h1,h2⟩:=R.ao hf;cases d with
 | int i=>cases h2;exact⟨Z,B,δ, .int i,E,h1,λv H1 s1 r1=>⟨i,Rep.int.mp r1,q H1 s1⟩⟩
 | _=>cases h2
def QW:PH X (λx lo hi H Q=>∃z,x= .str z/\z.length<=sizeLine/\Q (.str$ Txt.slice z lo hi) H):=by
 intro pins s σ H x v vl vu lo hi sl Q I rx hs pl pu h;obtain⟨z,rfl,hz,q⟩:=h;obtain⟨t,rfl⟩:=rx;refine⟨"str",_,F.slot_str_getitem.lookup,typeIs_str _ _ _,?_⟩;have fin:∀t' k,EP X pins σ Q (.str (Txt.slice z lo hi) t') {s with toks:=k}:=λt' k=>⟨.str _,H,I.tok _,⟨_,rfl⟩,q⟩
 obtain⟨o,ho,hc,hd⟩:=hs;cases pl with
 | none=>
   cases pu with
   | none=>exact Qb0 (l:=none) (u:=none) (st:=none) ⟨o,ho,hc,hd⟩ rfl$ QcH ⟨QaT (Txt.slice_le z _ _) hz,fin⟩
   | int j u=>exact Qb0 (l:=none) (u:=some (j,u)) (st:=none) ⟨o,ho,hc,hd⟩ rfl$ QcH ⟨QaT (Txt.slice_le z _ _) hz,fin⟩
 | int i t1=>
   cases pu with
   | none=>exact Qb0 (l:=some (i,t1)) (u:=none) (st:=none) ⟨o,ho,hc,hd⟩ rfl$ QcH ⟨QaT (Txt.slice_le z _ _) hz,fin⟩
   | int j u=>exact Qb0 (l:=some (i,t1)) (u:=some (j,u)) (st:=none) ⟨o,ho,hc,hd⟩ rfl$ QcH ⟨QaT (Txt.slice_le z _ _) hz,fin⟩
def cutD{α:Type}(xs:List α)(lo hi:Option Int):List α:=(xs.drop$ HT.g7 xs.length 0 lo).take$ HT.g7 xs.length xs.length hi - HT.g7 xs.length 0 lo
def UA(d:D)(lo hi:Option Int):R D:=match d with
 | .str x=>R.bH (decide$ x.length<=sizeLine)$ .ok$ .str$ Txt.slice x lo hi
 | .lst ds=> .ok$ .lst$ cutD ds lo hi
 | _=> .no
def CG{K:Qdf}{B:List Addr}{ds:List D}{xs:List V}(r:aI K B H ds xs)(lo hi:Option Int):aI K B H (cutD ds lo hi) (Dh xs lo hi):=by
 unfold cutD Dh;rw[<-r.length];exact(r.drop _).take _
def Ve(f:FD)(fl fh:FO):FD:=λδ=>(f δ).bind λd=>(fl δ).bind λlo=>(fh δ).bind λhi=>UA d lo hi
def Vn{lo hi:Option Expr}{fl fh:FO}(he:PD X e f)(hl:PP X lo fl)(hh:PP X hi fh):PD X (.Subscript e (.Slice lo hi none p2) pos) (Ve f fl fh):=by
 refine(DJ (QW.or M7) he hl hh).imp λσ H Q ⟨Z,B,δ,d,E,hf,q⟩=>?_
 obtain⟨d1,h1,h2⟩:=R.ao hf;obtain⟨l,h3,h4⟩:=R.ao h2;obtain⟨h,h5,h6⟩:=R.ao h4;refine⟨Z,B,δ,d1,E,h1,λv1 H1 s1 r1=>⟨Z,B,δ,l,E.same s1,h3,λH2 s2=>⟨Z,B,δ,h,(E.same s1).same s2,h5,λH3 s3=>?_⟩⟩⟩
 have sA:bo H H3:=s1.trans$ s2.trans s3;have tS:=r1.same$ s2.trans s3;unfold UA at h6;split at h6
 .obtain⟨hz,h7⟩:=R.bj h6;cases h7;exact .inl ⟨_,Rep.str.mp tS,Qal hz,q _ H3 sA$ Rep.str.mpr rfl⟩
 .cases h6;obtain⟨a,xs,rfl,ls,rs⟩:=Rep.lst.mp tS;refine .inr ⟨a,xs,rfl,ls.sq,λp hp=>q _ _ (sA.trans$ aU hp)$ Rep.lst.mpr ⟨p,_,rfl, .xE bh λha=>?_,(CG rs l h).same$ aU hp⟩⟩
  obtain⟨o,ho⟩:=(E.same sA).bs p ha;rw[hp] at ho;cases ho
 .cases h6
end
end L2
end
section
namespace L2
open PySem PySem.Spec PyProof.Rows
section
variable {X:Cx}
def aI.one{K:Qdf}{B:List Addr}{d:D}{xs:List V}(h:aI K B H [d] xs):∃x,xs=[x]/\Rep K B H d x:=by
 obtain⟨x,r,rfl,h1,h2⟩:=h.cj;unfold aI at h2;subst h2;exact⟨x,rfl,h1⟩
def aI.two{K:Qdf}{B:List Addr}{d e:D}{xs:List V}(h:aI K B H [d,e] xs):∃x y,xs=[x,y]/\Rep K B H d x/\Rep K B H e y:=by
 obtain⟨x,r,rfl,h1,h2⟩:=h.cj;obtain⟨y,rfl,h3⟩:=h2.one;exact⟨x,y,rfl,h1,h3⟩
def cP:List D->R D
 | [.str x]=>R.bH (decide$ x.length<=sizeLine)$ .ok$ .int x.length
 | [.lst ds]=> .ok$ .int ds.length
 | [.tup ds]=> .ok$ .int ds.length
 | _=> .no
def cz:cV X (.builtin "len") cP:=cV.of LO λB H ds d xs Q _ rs hg q=>by
 unfold cP at hg;split at hg
 .obtain⟨h1,h2⟩:=R.bj hg;cases h2;obtain⟨x,rfl,r⟩:=rs.one;exact⟨x,_,rfl,by rw[Rep.str.mp r];exact⟨Qal h1,rfl⟩,q _ H (bo.refl H)$ Rep.int.mpr rfl⟩
 .cases hg;obtain⟨x,rfl,r⟩:=rs.one;obtain⟨a,ys,rfl,l,r⟩:=Rep.lst.mp r;exact⟨_,_,rfl, .inl ⟨ys,l.sq,rfl⟩,q _ H (bo.refl H)$ Rep.int.mpr$ by rw[r.length]⟩
 .cases hg;obtain⟨x,rfl,r⟩:=rs.one;obtain⟨a,ys,rfl,l,r⟩:=Rep.tup.mp r;exact⟨_,_,rfl, .inr ⟨ys,l.sq,rfl⟩,q _ H (bo.refl H)$ Rep.int.mpr$ by rw[r.length]⟩
 .cases hg
noncomputable def cInt:List D->R D
 | [.int i]=> .ok$ .int i
 | [.bl b]=> .ok$ .int$ if b then 1 else 0
 | _=> .no
def VQ:cV X (.type "int") cInt:=cV.of Jd λB H ds d xs Q _ rs hg q=>by
 unfold cInt at hg;split at hg
 .cases hg;obtain⟨x,rfl,r⟩:=rs.one;exact .inl ⟨_,by rw[Rep.int.mp r],q _ H (bo.refl H)$ Rep.int.mpr rfl⟩
 .cases hg;obtain⟨x,rfl,r⟩:=rs.one;exact .inr ⟨_,by rw[Rep.bl.mp r],q _ H (bo.refl H)$ Rep.int.mpr rfl⟩
 .cases hg
def cStr:List D->R D
 | [.int i]=>R.bH (decide$ i.natAbs.log2<1920)$ .ok$ .str$ toString i
 | _=> .no
noncomputable def M4:List D->R D
 | [.int i, .int j]=> .ok$ .int$ if j<i then j else i
 | _=> .no
def U9(hc:X.calm=true):cV X (.builtin "min") M4:=cV.of (Ht hc) λB H ds d xs Q _ rs hg q=>by
 unfold M4 at hg;split at hg
 .cases hg;obtain⟨x,y,rfl,r1,r2⟩:=rs.two;exact⟨_,_,by rw[Rep.int.mp r1,Rep.int.mp r2],q _ H (bo.refl H)$ Rep.int.mpr rfl⟩
 .cases hg
noncomputable def QX:List D->R D
 | [.int i, .int j]=> .ok$ .int$ if j > i then j else i
 | _=> .no
def U5(hc:X.calm=true):cV X (.builtin "max") QX:=cV.of (HJ hc) λB H ds d xs Q _ rs hg q=>by
 unfold QX at hg;split at hg
 .cases hg;obtain⟨x,y,rfl,r1,r2⟩:=rs.two;exact⟨_,_,by rw[Rep.int.mp r1,Rep.int.mp r2],q _ H (bo.refl H)$ Rep.int.mpr rfl⟩
 .cases hg
noncomputable def h_:List D->R D
 | [.lst ds]=> .ok$ .tup ds
 | [.tup ds]=> .ok$ .tup ds
 | _=> .no
def gI:cV X (.type "tuple") h_:=cV.of zi λB H ds d xs Q hb rs hg q=>by
 unfold h_ at hg;split at hg
 .cases hg;obtain⟨x,rfl,r⟩:=rs.one;obtain⟨a,ys,rfl,l,r⟩:=Rep.lst.mp r;refine⟨a,ys,rfl, .inl ⟨l.sq,λp hp=>q _ _ (aU hp)$ Rep.tup.mpr ⟨p,ys,rfl, .inl ⟨λha=>?_, .inl bh⟩,r.same$ aU hp⟩⟩⟩
  obtain⟨o,ho⟩:=hb p ha;rw[hp] at ho;cases ho
 .cases hg;obtain⟨x,rfl,r⟩:=rs.one;have r0:=r;obtain⟨a,ys,rfl,l,r⟩:=Rep.tup.mp r;exact⟨a,ys,rfl, .inr ⟨l.sq,q _ H (bo.refl H) r0⟩⟩
 .cases hg
noncomputable def Ha:List D->R D
 | [.lst ds]=> .ok$ .lst ds
 | [.tup ds]=> .ok$ .lst ds
 | _=> .no
def Ko:cV X (.type "list") Ha:=cV.of tw λB H ds d xs Q hb rs hg q=>by
 unfold Ha at hg;split at hg
 .cases hg;obtain⟨x,rfl,r⟩:=rs.one;obtain⟨a,ys,rfl,l,r⟩:=Rep.lst.mp r;refine⟨a,ys,rfl, .inl l.sq,λp hp=>q _ _ (aU hp)$ Rep.lst.mpr ⟨p,ys,rfl, .xE bh λha=>?_,r.same$ aU hp⟩⟩
  obtain⟨o,ho⟩:=hb p ha;rw[hp] at ho;cases ho
 .cases hg;obtain⟨x,rfl,r⟩:=rs.one;obtain⟨a,ys,rfl,l,r⟩:=Rep.tup.mp r;refine⟨a,ys,rfl, .inr l.sq,λp hp=>q _ _ (aU hp)$ Rep.lst.mpr ⟨p,ys,rfl, .xE bh λha=>?_,r.same$ aU hp⟩⟩
  obtain⟨o,ho⟩:=hb p ha;rw[hp] at ho;cases ho
 .cases hg
noncomputable def cAbs:List D->R D
 | [.int i]=> .ok$ .int$ if i<0 then -i else i
 | _=> .no
def Pp:cV X (.builtin "abs") cAbs:=cV.of J8 λB H ds d xs Q _ rs hg q=>by
 unfold cAbs at hg;split at hg
 .cases hg;obtain⟨x,rfl,r⟩:=rs.one;exact⟨_,by rw[Rep.int.mp r],q _ H (bo.refl H)$ Rep.int.mpr rfl⟩
 .cases hg
def RT:List D->R D
 | [.lst ds]=>(match ints? ds with | some ns=> .ok (.int ns.sum) | none=> .no)
 | _=> .no
theorem gp:∀{ns:List Int} {us:List Value},Vals (ns.map V.int) us->∃l:List (Int × Tok),us=l.map (λp=>Value.int p.1 p.2)/\l.map (·.1)=ns
 | [],_, .nil=>⟨[],rfl,rfl⟩
 | n ::ns,_, .cons r t=>by
   obtain⟨l,rfl,e⟩:=gp t;obtain⟨tk,rfl⟩:=r;exact⟨(n,tk) ::l,rfl,by rw[Qaz,e]⟩
def U4(hc:X.calm=true):cV X (.builtin "sum") RT:=by
 intro pins s σ H B ds d xs us I hb rx rs hg;unfold RT at hg;split at hg
 .split at hg
  .rename_i es ns e;cases hg;obtain⟨x,rfl,r⟩:=rs.one;obtain⟨a,ys,rfl,l,r⟩:=Rep.lst.mp r;obtain⟨u,rfl,ru⟩:=vals1 rx;cases ru;obtain⟨its,n,rv,e1,hz⟩:=I.Qi l;rw[dv r e] at rv;obtain⟨ps,rfl,rfl⟩:=gp rv;have hl:s.heap.IsList a (intItems ps.toArray):=⟨_,e1,rfl,n,by simp [intItems]⟩
   refine sum_intListG (I.ok.hd hc) hl λh' tk t' k=>⟨.int _,H,I.kept k,⟨t',rfl⟩,bo.refl H,Rep.int.mpr ?_⟩
   rw[preSum_eq,QaQ$ by simp]
  .cases hg
 .cases hg
noncomputable def tyName:D->String
 | .cY=>"NoneType" | .bl _=>"bool" | .int _=>"int" | .str _=>"str" | .lst _=>"list" | .tup _=>"tuple" | .dct _ _=>"dict"
def Z6(T:String)(f:FD):FD:=λδ=>(f δ).bind λd=>R.bH (tyName d==T && d.atom)$ .ok$ .bl true
def MtD(X:Cx)(id:String)(g:D->List D->R D):Prop:=
 ∀(pins:Aaa) (s:Qdg) (σ:St) (H:Hp) (B:List Addr) (da d:D) (ds:List D) (x:V) (xs:List V) (v:Value) (us:List Value),Inv X pins σ H s->(∀a∈B,∃o,H a=some o)->RelV x v->Vals xs us->Rep X.K B H da x->aI X.K B H ds xs->g da ds= .ok d->
  wpAny (model X.prog X.w) X.A (call (.builtin id) (v ::us)) (EP X pins σ λz H'=>bo H H'/\Rep X.K B H' d z) X.xe s
def eMt(T:String)(g:D->List D->R D)(f:FD)(fs:ay->R (List D)):FD:=λδ=>(f δ).bind λd=>R.bH (tyName d==T && (d.atom || T=="list"))$ (fs δ).bind λds=>g d ds
def Zr(d:D)(ds:List D):R D:=match d,ds with
 | .str sep,[.lst es]=>(match strs? es with | some ss=>R.bH (JoinOk sep ss) (.ok$ .str$ Str.join sep ss) | none=> .no)
 | _,_=> .no
abbrev PJ(X:Cx)(es:List Expr)(f:ay->R (List Str)):Prop:=
 ∀(pins:Aaa) (s:Qdg) (σ:St) (H:Hp) (Z B:List Addr) (δ:ay) (acc:Str) (ss:List Str) (Q:VK),Inv X pins σ H s->eV X.K Z B H σ δ->f δ= .ok ss->(ss.foldl (·++·) acc).length<=sizeLine->(∀H',bo H H'->Q (.str$ ss.foldl (·++·) acc) H')->
  wpAny (model X.prog X.w) X.A (joinParts acc$ evalEach es X.env) (EP X pins σ Q) X.xe s
noncomputable def Z2:ay->R (List Str):=λ_=> .ok []
def Zj(f:FD)(g:ay->R (List Str)):ay->R (List Str):=λδ=>(f δ).bind λd=>match d with | .str x=>(g δ).bind λss=> .ok (x ::ss) | _=> .no
def Wq(g:ay->R (List Str)):FD:=λδ=>(g δ).bind λss=>R.bH (decide$ (ss.foldl (·++·) Str.empty).length<=sizeLine)$ .ok$ .str$ ss.foldl (·++·) Str.empty
def Ya:D->R D
 | .str x=>R.bH (decide$ x.length<=sizeLine)$ .ok$ .str x
 | .int i=>R.bH (decide$ i.natAbs.log2<1920)$ .ok$ .str$ toString i
 | _=> .no
def aam(f:FD):FD:=λδ=>(f δ).bind Ya
noncomputable def VL:List (D × D)->Str->R (Option D)
 | [],_=> .ok none
 | (.str y,d) ::r,x=>(VL r x).bind λo=> .ok$ match o with | some e=>some e | none=>if y=x then some d else none
 | _ ::_,_=> .no
noncomputable def T4(x:Str):List D:=x.cps.toList.map λc=> .str ⟨#[c]⟩
noncomputable def Its(x:Str):It:=⟨λi _=>i<x.cps.size,λi H v H'=>H'=H/\∃c,x.cps[i]? =some c/\v= .str ⟨#[c]⟩,λi _=>x.cps.size<=i⟩
def Zd(f:FD):ay->R (List D):=λδ=>(f δ).bind λd=>match d with | .str x=> .ok (T4 x) | _=> .no
def Ite(K:Qdf)(a:Addr):It:=
 ⟨λi H=>∃xs x,qT K H a xs/\xs[i]? =some x,λi H v H'=>∃p x,H p=none/\v= .ref p/\(∀xs,qT K H a xs->xs[i]? =some x)/\H'=upd H p (.tup [.int i,x]),λi H=>∃xs,qT K H a xs/\xs.length<=i⟩
def HL{K:Qdf}{k:Nat}(a e it:Addr)(TU:e≠it):Turn P w K (.Tuple elts k pos) (Ite K a) [e,it] e (λi h=>(∃old,IsEnum h e it ((i:Nat):Int) old)/\h.IsListIter it a i) where
 mem:=by simp
 obj:=λi h st b hb=>by
  obtain⟨⟨old,he⟩,o,ho,c,d⟩:=st;rcases QaE.mp hb with rfl | hb
  .exact⟨_,he,λv z=>by cases z⟩
  .have e:b=it:=by simpa using hb
   subst e;exact⟨o,ho,λv z=>by rw[d] at z;cases z⟩
 keep:=λi h h' st k=>by
  obtain⟨⟨old,he⟩,hi⟩:=st;exact⟨⟨old,k e (by simp) _ he⟩,hi.at λo x=>k it (by simp) o x⟩
 item:=by
  intro X hP hw hK hc i pins s σ H E I hf st hg;subst hP hw hK;obtain⟨xs,x,hq,hx⟩:=hg;obtain⟨its,rv,p,hz⟩:=I.list hq;obtain⟨u,hu,ru⟩:=rv.get hx;obtain⟨⟨old,he⟩,hit⟩:=st;obtain⟨f0,f1,f2,f3,f4,f5⟩:=hf e (by simp)
  obtain⟨g0,g1,g2,g3,g4,g5⟩:=hf it (by simp)
  refine wpAny_pyNext_enum_item he hit p.isList (x:=u) (by simpa using hu) TU λi7 MO FV Ms qY Al=>⟨_,rfl,?_⟩
  refine wpAny_letOwnedTupleGo_enum MO λgC Mx dj=>?_
  replace dj:Heap.SameBut e i7 gC:=dj
  have hel:e<s.heap.objs.size:=QaD he;have Ed:gC.get? s.heap.objs.size=some {cls:= .type "tuple",data:= .seq #[.int i s.toks,u]}:=(dj.2 _$ Qcm hel).trans Ms;have kk:∀b o,b≠e->b≠it->s.heap.get? b=some o->gC.get? b=some o:=λb o h1 h2 q=>(dj.2 b h1).trans$ Al b o h1 h2 q
  have hn:H s.heap.objs.size=none:=I.fresh;have sm:bo H (upd H s.heap.objs.size$ .tup [.int i,x]):=aU hn;have nit:∀b o,H b=some o->b≠e/\b≠it:=λb o q=>⟨λz=>(by rw[z,f0] at q;cases q),λz=>(by rw[z,g0] at q;cases q)⟩
  have hok:ql X.prog X.w (upd H s.heap.objs.size$ .tup [.int i,x]) gC:=λb ob q=>by
   by_cases hb:b=s.heap.objs.size
   .subst hb;rw[bh] at q;cases q;exact⟨by show 2<=sizeLine;decide,[.int i s.toks,u], .cons ⟨_,rfl⟩$ .cons ru .nil,⟨_,Ed,rfl,_,rfl⟩⟩
   .rw [bA hb] at q;refine(I.hok b ob q).Aw (λc v hc z=>?_) (λc z=>sm c _ z) λc ys z=>sm c _ z
    rcases hc with rfl | hc
    .exact kk c v (nit c _ q).1 (nit c _ q).2 z
    .exact kk c v (nit c _ hc).1 (nit c _ hc).2 z
  have nch:∀b,b ∉ [e,it]->b≠e/\b≠it:=λb hb=>⟨λz=>hb (by simp [z]),λz=>hb$ by simp [z]⟩
  have I2:Inv X pins σ (upd H s.heap.objs.size$ .tup [.int i,x]) {s with heap:=gC,toks:=s.toks+1}:=by
   refine I.step (g':=s.gens) (d':=s.drawn) (ch:=[e,it]) (λb hb=>?_) (λb o _ _ hb q _=>kk b o (nch b hb).1 (nch b hb).2 q) (λb o _ _ hb q _=>⟨o.slots,kk b o (nch b hb).1 (nch b hb).2 q⟩)
    (λb o hb q n=>by rw[bA$ QaR$ QaD q];exact n) (λb o hb q=>⟨o,kk b o (nch b hb).1 (nch b hb).2 q⟩) (λb ys z=>sm b _ z) (λb o u z=>sm b _ z) (λb ps z=>⟨#[],by rw[sm b _ z];simp⟩) (λm hm=>?_) hok I.bare
   .rcases QaE.mp hb with rfl | hb
    .exact⟨f3,f1,f4,f5⟩
    .have z:b=it:=by simpa using hb
     subst z;exact⟨g3,g1,g4,g5⟩
   .obtain⟨o,es,ep,ho,r⟩:=hm;exact⟨o,es,ep,kk _ o (QbM f1) (QbM g1) ho,r⟩
  refine⟨.ref s.heap.objs.size,_,I2,rfl,⟨s.heap.objs.size,x,hn,rfl,λys hy=>(by rw[I.sC hy hq];exact hx),rfl⟩,⟨⟨_,by simpa using Mx⟩,FV.at λo q=>(dj.2 it$ QbM TU).trans q⟩,λb hb=>?_⟩
  rcases QaE.mp hb with rfl | hb
  .rw [bA$ QaR hel];exact f0
  .have z:b=it:=by simpa using hb
   subst z;obtain⟨o,ho,_⟩:=hit;rw[bA$ QaR$ QaD ho];exact g0
 done:=by
  intro X hP hw hK hc i pins s σ H E I hf st hg;subst hP hw hK;obtain⟨xs,hq,hx⟩:=hg;obtain⟨its,rv,p,hz⟩:=I.list hq;obtain⟨⟨old,he⟩,hit⟩:=st;obtain⟨g0,g1,g2,g3,g4,g5⟩:=hf it (by simp)
  have hl:=rv.length;exact wpAny_pyNext_enum_end (I.ok.hd hc) he hit p.isList (by simp;omega) λh' eb=>⟨rfl,I.turned (t':=s.toks) (λb o hb q=>eb b o hb q) g0 g1 g3 g4 g5⟩
 self:=λA i s Q E st h=>let⟨⟨_,he⟩,_⟩:=st;Qcx he h
noncomputable def er(ds:List D):List D:=ds.zipIdx.map λp=> .tup [.int p.2,p.1]
def f7(f:FD):ay->R (List D):=λδ=>(f δ).bind λd=>match d with | .lst ds=> .ok (er ds) | _=> .no
def C1{elts:List Expr}{k:Nat}{yB:Pos}{p pos:Pos}(h:PD X a f)(hg:Gl X "enumerate")(hm:X.mg "enumerate"=none)(hs:starEach [a] X.env=[(false,eval a X.env)]:=by rfl):P1 X (.Tuple elts k yB) (.Call (.Name "enumerate" p) [a] [] pos) (f7 f):=by
 intro pins s σ H RR I ⟨Z,B,δ,ds,E,hf,q⟩;obtain⟨d,h1,h2⟩:=R.ao hf;have hA:=dq h f9 hs pos pins s σ H (λvs H1=>bo H H1/\∃v,vs=[v]/\Rep X.K B H1 d v) I ⟨Z,B,δ,d,E,h1,λv H1 s1 r1=>⟨s1,v,rfl,r1⟩⟩
 refine Call_$ jK I hg hm boot_enumerate$ QaX (d9 hA λus s1 ⟨vs,H1,I1,r1,ss,v,ev,rr⟩=>?_) hs rfl
 subst ev;obtain⟨u,rfl,ru⟩:=vals1 r1;cases d with
 | lst es=>
   cases h2;obtain⟨b,xs,rfl,l,rs⟩:=Rep.lst.mp rr;cases ru;obtain⟨its,n,rv,e1,hz⟩:=I1.Qi l;refine call_enumerate_list (items:=its.toArray) ⟨_,e1,rfl,n,rfl⟩ λh' he hit hsz kk=>Qcx he ?_
   have I2:Inv X pins σ H1 {s1 with heap:=h'}:=I1.kept (t':=s1.toks) kk
   refine⟨s1.heap.objs.size+1,[s1.heap.objs.size+1,s1.heap.objs.size],_,_,H1,rfl,I2,HL b (s1.heap.objs.size+1) s1.heap.objs.size$ Nat.succ_ne_self _,⟨⟨_,he⟩,hit⟩,λc hc=>?_,q _ H1 ss λB' H' pr=>?_⟩
   .have hle:s1.heap.objs.size<=c:=by
     rcases QaE.mp hc with z | hc
     .rw [z];exact Qce _
     .have z:c=s1.heap.objs.size:=by simpa using hc
      rw[z];exact Qak _
    exact I1.A1 hle$ I1.hok.fresh hle
   .have l':zM X.K B' H' b xs:=l.bG pr;have rs':=rs.bG pr;refine⟨λi d hd=>?_,⟨xs,l'.sq,by rw[<-rs.length];unfold er;simp⟩⟩
    unfold er at hd;rw[Qac,Qbd] at hd;cases e:es[i]? with
    | none=>rw [e] at hd;cases hd
    | some d0=>
      rw[e] at hd;have hd:D.tup [.int ((0+i:Nat):Int),d0]=d:=QaW hd;rw[QcI] at hd;obtain⟨x,hx,rx⟩:=rs'.get e;refine⟨⟨xs,x,l'.sq,hx⟩,λv qX y Pg=>?_⟩
      obtain⟨p,y,hp,rfl,hy,rfl⟩:=y;refine⟨aU hp,?_⟩;subst hd;have Jo:=hy xs l'.sq;rw[hx] at Jo;cases Jo;refine Rep.tup.mpr ⟨p,_,rfl, .inl ⟨λha=>?_, .inl bh⟩,aI.cons (Rep.int.mpr rfl)$ aI.cons (rx.same$ aU hp) aI.nil⟩
      obtain⟨o,ho⟩:=Pg p ha;rw[hp] at ho;cases ho
 | _=>cases h2
end
def Def(K:Qdf)(mg:Aaf)(x:Str)(st:Stmt):Prop:=∃f fd,Gq K x x st f fd/\mg x=some (.ref f)
def Callee(P:Program)(w:World)(K:Qdf)(mg:Aaf)(base:Heap)(k:Nat)(x:Str)(n:Nat)(g:List D->R D):Prop:=
 ∃f fd ps,jW P w K mg base xu k f fd ps (Lx K n g)/\mg x=some (.ref f)/\PySem.W.keepIn K (.ref f)=true/\Binds K fd ps []
def Kd:∀(δ:ay) (ds:List D),ax δ= .ok ds->ds.length=0:=λδ ds h=>by cases h;rfl
def Jc{g:ay->R (List D)}{n:Nat}(h:∀(δ:ay) (ds:List D),g δ= .ok ds->ds.length=n):∀(δ:ay) (ds:List D),ah f g δ= .ok ds->ds.length=n+1:=λδ ds e=>by
 obtain⟨d,h1,h2⟩:=R.ao e;obtain⟨es,h3,h4⟩:=R.ao h2;cases h4;rw[Qao,h δ es h3]
def KD{P:Program}{w:World}{K:Qdf}{mg:Aaf}{base:Heap}{x qual:Str}{st:Stmt}{f:Addr}{fd:FuncData}{N ps:List Str}{k:Nat}{F:FS}{b:List Stmt}{sc:Scope}(hb:aN st=b)(hs:aF st=sc)(Fn:Gq K x qual st f fd)(S:aW N ps sc)
 (jJ:∀(gZ:Value) (A:Around) (outer:List Env) (s:Qdg) (H:Hp) (E:XK),eU k (A.deeper$ envOfC qual sc s.heap.objs.size f gZ)->
   vJ (uI xu P w K mg base N qual sc f gZ A outer s H E).KA b F):jW P w K mg base xu (k+1) f fd ps (Lx K ps.length$ qJ N F):=by
 subst hb hs;exact NJ Fn S jJ
section
variable {X:Cx}
def Ma{g:List D->R D}{k j n:Nat}{x:Str}{p pos:Pos}{e:Expr}{es:List Expr}{fs:ay->R (List D)}(C:Callee X.prog X.w X.K X.mg X.base k x n g)(hr:eU j X.A)(hkj:k<=j)(hg:Gl X x)(ha:MN X (e ::es) fs)
 (hn:∀δ ds,fs δ= .ok ds->ds.length=n) (uQ:(x==("__debug__":Str))=false:=by decide) (he:starEach (e ::es) X.env=(false,eval e X.env) ::starEach es X.env:=by rfl) (j_:(backTo pos$ starEach es X.env).any (·.1)=false:=by rfl) :
 PD X (.Call (.Name x p) (e ::es) [] pos) (aD g fs):=by
 obtain⟨f,fd,ps,F,hm,hk,hb⟩:=C;exact M6 F (hr.mono hkj) hg hm hk hb ha hn uQ he j_
noncomputable def SM(sc:Scope)(N:List Str)(scope:Scope)(kp:List Nat)(kn:List Str):Bool:=
 decide (scope.kind= .function) && scope.names.all (λy=>decide$ y.2= .cell->scope.names.lookup y.1=some .cell) && scope.names.all (λy=>decide$ y.2= .local->scope.names.lookup y.1=some .local)
  && scope.names.all (λy=>decide$ y.2= .free->(sc.names.lookup y.1=some .cell\/sc.names.lookup y.1=some .free)) && scope.names.all (λy=>decide$ y.2= .free->scope.names.lookup y.1=some .free) && decide (kn.length=kp.length)
  && (List.range kp.length).all (λj=>decide$ (kp[j]?).bind (N[·]?)=kn[j]?) && kn.all (λx=>decide$ scope.names.lookup x=some .free)
def f6.of{own:List Str}{kp:List Nat}{kn:List Str}{N:List Str}(h1:X.env.scope=sc)(h2:X.N=N)(h:SM sc N scope kp kn=true):f6 X scope own kp kn:=by
 unfold SM at h;simp only[Qbn,decide_eq_true_eq,Qbq] at h;obtain⟨⟨⟨⟨⟨⟨⟨a1,a2⟩,a3⟩,a4⟩,a8⟩,a5⟩,a6⟩,a7⟩:=h;refine⟨a1,a2,a3,λy hy hf=>?_,a8,a5,λj i x hj hx=>?_,a7⟩
 .have:=a4 y hy hf;unfold Env.kindOf;rw[h1];exact this
 .have hlt:j<kp.length:=(Qae.mp hj).1;have:=a6 j$ QaM.mpr hlt;rw[hj] at this;rw[h2];exact this.trans hx
noncomputable def mX(kp:List Nat)(N:List Str):List Str:=kp.map λi=>N.getD i Str.empty
def Ui{own:List Str}{kp:List Nat}{kn:List Str}(h:SM X.env.scope X.N scope kp kn=true):f6 X scope own kp kn:=f6.of rfl rfl h
noncomputable def Zb:List Str->Bool
 | []=>true
 | x ::l=>!l.contains x && Zb l
theorem Pd:∀{l:List Str},Zb l=true->l.Nodup
 | [],_=>List.nodup_nil
 | x ::l,h=>by
   obtain⟨h1,h2⟩:=Qbc.mp h;exact Qck.mpr ⟨λq=>(by rw[List.contains_iff_mem.mpr q] at h1;cases h1),Pd h2⟩
def aau(kvs:List (Key × V))(f g:FD):FD:=λδ=>(f δ).bind λk=>(g δ).bind λd=>match k with
 | .str x=>(match i4 (mm [] kvs) (Sum.inr x) with | some (.int i)=> .ok (.int i) | none=> .ok d | _=> .no)
 | _=> .no
def Zu(i:Nat)(f:FD):FS:=λδ=>(f δ).bind λd=>match d with
 | .lst es=>(sI δ i).bind λds=>R.bH (decide$ ds.length+es.length<=sizeLine)$ .ok$ .nx$ δ.set i$ .bld$ ds++es
 | _=> .no
end
structure QD (X:Cx) (e:Expr) (f:FD):Prop where
 h:PD X e f
structure QN (X:Cx) (e:Expr) (f:ay->R (List D)):Prop where
 h:PN X e f
structure QB (X:Cx) (e:Expr) (f:ay->R Bool):Prop where
 h:PB X e f
structure So (X:Cx) (e:Expr) (f:ay->R Bool):Prop where
 h:ML X e f
structure PU (X:Cx) (e:List Expr) (f:ay->R (List D)):Prop where
 h:MN X e f
structure Js (X:Cx) (e:Stmt) (f:FS):Prop where
 h:JW X e f
structure xj (X:Cx) (e:List Stmt) (f:FS):Prop where
 h:vJ X e f
structure SA (X:Cx) (e:Expr) (f:FT):Prop where
 h:RC X e f
structure Pe (X:Cx) (e:List Expr) (f:JL):Prop where
 h:Kf X e f
structure Cd (X:Cx) (tg e:Expr) (f:ay->R (List D)):Prop where
 h:P1 X tg e f
structure QP (X:Cx) (e:Option Expr) (f:FO):Prop where
 h:PP X e f
structure QJ (X:Cx) (e:List Expr) (f:ay->R (List Str)):Prop where
 h:PJ X e f
structure Lp (X:Cx) (e:List Expr) (c:ay->R Bool):Prop where
 h:rX X e (P7 X.K c)
section
variable {X:Cx}
def bt{f:ay->R (List D)}(h:QN X e f):QD X e (eNew f):=⟨QH h.1⟩
def aa(i:Nat){pos:Pos}(hN:X.N[i]? =some x:=by rfl)(hv:Jr X.env.scope x:=by first | exact Or.inl rfl | exact Or.inr Qdc | exact Or.inr (Or.inr rfl))(hd:(x==("__debug__":Str))=false:=by decide)(tT:(x==("__classdict__":Str))=false:=by decide):QD X (.Name x pos) (af i):=⟨RO i hN hv hd tT⟩
def ag{i j pos}:QD X (.Constant (.int i) j pos) (eC$ .int i):=⟨Qs⟩
def uD{b j pos}:QD X (.Constant (.bool b) j pos) (eC$ .bl b):=⟨Vr⟩
def bY{x j pos}:QD X (.Constant (.str x) j pos) (eC$ .str x):=⟨R_⟩
def wK{d:D}{pos:Pos}(g:Glob X.K X.mg x d)(hg:Gl X x)(hd:(x==("__debug__":Str))=false:=by decide):QD X (.Name x pos) (eC d):=⟨OL g hg hd⟩
def ae:PU X [] ax:=⟨Ox⟩
def ab{g:ay->R (List D)}(h:QD X e f)(t:PU X es g)(hs:starEach (e ::es) X.env=(false,eval e X.env) ::starEach es X.env:=by rfl):PU X (e ::es) (ah f g):=⟨Kj h.1 t.1 hs⟩
def aL{g:ay->R (List D)}{x1 pos}(h:PU X es g):QD X (.Tuple es x1 pos) (b_ g):=⟨R9 h.1⟩
def cf{g:ay->R (List D)}{pos}(h:PU X es g):QN X (.List es pos) (eF g):=⟨Sk h.1⟩
def aw{op:Operator}{g:D->D->R D}(ho:m6 X (binaryOp op) g)(ha:QD X a fa)(hb:QD X b fb):QD X (.BinOp a op b pos) (e2 g fa fb):=⟨Uu ho ha.1 hb.1⟩
def j7{op:CmpOp}{g:D->D->R D}{pos:Pos}(ho:m6 X (compareOp op) g)(ha:QD X a fa)(hb:QD X b fb)(hm:behindInMarks op b=false:=by first | exact xS _ | with_unfolding_all rfl):QD X (.Compare a [op] [b] pos) (e2 g fa fb):=⟨R0 ho ha.1 hb.1 hm⟩
def bS{op:CmpOp}{g:D->D->R D}{pos:Pos}(ho:m6 X (compareOp op) g)(ha:QD X a fa)(hb:QD X b fb)(hm:behindInMarks op b=false:=by first | exact xS _ | with_unfolding_all rfl):QB X (.Compare a [op] [b] pos) (b2 g fa fb):=⟨SQ ho ha.1 hb.1 hm⟩
def AY{a:Expr}(ha:QD X a f)(he:∀whole,isTrue a X.env whole=(do let v <-whole;standAt a.pos;holding [v] (truthy v)):=by intro _;rfl):QB X a (AR f):=⟨QQ ha.1 he⟩
def Hf{f:ay->R Bool}(h:So X e f):QB X e f:=⟨ML.pb h.1⟩
def IK{f:ay->R Bool}(h:QB X a f):So X (.BoolOp .And [a] pos) f:=⟨LS h.1⟩
def J6{f:ay->R Bool}(h:QB X a f):So X (.BoolOp .Or [a] pos) f:=⟨O2 h.1⟩
def KG{rest:List Expr}{f g:ay->R Bool}(ha:QB X a f)(hb:So X (.BoolOp .And (b ::rest) pos) g):So X (.BoolOp .And (a ::b ::rest) pos) (O6 f g):=⟨Ov ha.1 hb.1⟩
def GU{rest:List Expr}{f g:ay->R Bool}(ha:QB X a f)(hb:So X (.BoolOp .Or (b ::rest) pos) g):So X (.BoolOp .Or (a ::b ::rest) pos) (UH f g):=⟨Q0 ha.1 hb.1⟩
def Ba{f:ay->R Bool}(ha:QB X a f):QB X (.UnaryOp .Not a pos) (AQ f):=⟨Q8 ha.1⟩
def GS{op}(h:QD X a f):QD X (.BoolOp op [a] pos) f:=⟨RF h.1⟩
def M3{rest:List Expr}(ha:QD X a f)(hb:QD X (.BoolOp .And (b ::rest) pos) g):QD X (.BoolOp .And (a ::b ::rest) pos) (Ow f g):=⟨Su ha.1 hb.1⟩
def RH{rest:List Expr}(ha:QD X a f)(hb:QD X (.BoolOp .Or (b ::rest) pos) g):QD X (.BoolOp .Or (a ::b ::rest) pos) (UO f g):=⟨VU ha.1 hb.1⟩
def LK{fc:ay->R Bool}(hc:QB X c fc)(ha:QD X a f)(hb:QD X b g):QD X (.IfExp c a b pos) (Tt fc f g):=⟨U8 hc.1 ha.1 hb.1⟩
def aG{g:List D->R D}{id:String}{p pos:Pos}{fs:ay->R (List D)}(hc:cV X (.builtin id) g)(hg:Gl X x)(hm:X.mg x=none)(hv:bootBuiltins x=some (.builtin id))(ha:PU X (e ::es) fs)(hn:x≠"__name__":=by decide)(uQ:(x==("__debug__":Str))=false:=by decide)(he:starEach (e ::es) X.env=(false,eval e X.env) ::starEach es X.env:=by rfl)(j_:(backTo pos$ starEach es X.env).any (·.1)=false:=by rfl):QD X (.Call (.Name x p) (e ::es) [] pos) (aD g fs):=⟨Lb hc hg hm hv ha.1 hn uQ he j_⟩
def cg{g:List D->R D}{T:String}{p pos:Pos}{fs:ay->R (List D)}(hc:cV X (.type T) g)(hg:Gl X x)(hm:X.mg x=none)(hv:bootBuiltins x=some (.type T))(ha:PU X (e ::es) fs)(hn:x≠"__name__":=by decide)(uQ:(x==("__debug__":Str))=false:=by decide)(he:starEach (e ::es) X.env=(false,eval e X.env) ::starEach es X.env:=by rfl)(j_:(backTo pos$ starEach es X.env).any (·.1)=false:=by rfl):QD X (.Call (.Name x p) (e ::es) [] pos) (aD g fs):=⟨Ji hc hg hm hv ha.1 hn uQ he j_⟩
def jx:xj X [] yk:=⟨O7⟩
def aV{st:Stmt}{rest:List Stmt}{F G:FS}(h1:Js X st F)(h2:xj X rest G):xj X (st ::rest) (du F G):=⟨JJ h1.1 h2.1⟩
def aT{st:Stmt}{F:FS}(h1:Js X st F):xj X [st] F:=⟨Nh h1.1⟩
def cx{i:Nat}{pos pos':Pos}(he:QD X e f)(hs:swapsWith e (some$ .Name x pos') pos.line X.env=pure false:=by rfl)(hf:X.fn x=true\/X.env.scope.names.lookup x=some .local:=by first | exact .inl rfl | exact .inr rfl | assumption)(hN:X.N.Nodup:=by first | assumption | exact Pd (by kernel_rfl))(hi:X.N[i]? =some x:=by rfl)(hx:Loc X.env.scope x:=by first | exact Or.inl rfl | exact Or.inr rfl):Js X (.Assign [.Name x pos'] e pos) (i0 i f):=⟨Nq hN hi hx he.1 hs hf⟩
def tq{i:Nat}{f:ay->R (List D)}{pos pos':Pos}(he:QN X e f)(hs:swapsWith e (some$ .Name x pos') pos.line X.env=pure false:=by rfl)(hf:X.fn x=true\/X.env.scope.names.lookup x=some .local:=by first | exact .inl rfl | exact .inr rfl | assumption)(hN:X.N.Nodup:=by first | assumption | exact Pd (by kernel_rfl))(hi:X.N[i]? =some x:=by rfl)(hx:Loc X.env.scope x:=by first | exact Or.inl rfl | exact Or.inr rfl):Js X (.Assign [.Name x pos'] e pos) (vU i f):=⟨Oz hN hi hx he.1 hs hf⟩
def wA{i:Nat}{x:Str}{e:Expr}{f:FD}{eD apos cH pos:Pos}(he:QD X e f)(hd:(x==("__debug__":Str))=false:=by decide)(tT:(x==("__classdict__":Str))=false:=by decide)(hs:starEach [e] X.env=(false,eval e X.env) ::starEach [] X.env:=by rfl)(lz:(apos.endLine==cH.line)=true:=by rfl)(rQ:((backTo cH$ starEach [e] X.env).all (λx=>!x.1) && (backToKw cH$ keywordEach [] X.env).all (λx=>x.1.isSome)
 && decide (([e]:List Expr).length+([]:List Keyword).length+(if([]:List Keyword).isEmpty then 0 else 1)<30))=true:=by rfl) (yw:swapsWith (.Call (.Attribute (.Name x eD) "append" apos) [e] [] cH) none pos.line X.env=pure false:=by rfl) (lC:attributeBase (.Name x eD) "append" X.env (eval (.Name x eD) X.env)=eval (.Name x eD) X.env:=by rfl) (hN:X.N[i]? =some x:=by rfl) (hv:Jr X.env.scope x:=by first | exact Or.inl rfl | exact Or.inr Qdc | exact Or.inr (Or.inr rfl)):Js X (.Expr (.Call (.Attribute (.Name x eD) "append" apos) [e] [] cH) pos) (EL i f):=⟨Nj hN hv he.1 hd tT hs lz rQ yw lC⟩
def DV{i:Nat}{x:Str}{e:Expr}{f:ay->R (List D)}{eD apos cH pos:Pos}(he:QN X e f)(hd:(x==("__debug__":Str))=false:=by decide)(tT:(x==("__classdict__":Str))=false:=by decide)(hs:starEach [e] X.env=(false,eval e X.env) ::starEach [] X.env:=by rfl)(lz:(apos.endLine==cH.line)=true:=by rfl)(rQ:((backTo cH$ starEach [e] X.env).all (λx=>!x.1) && (backToKw cH$ keywordEach [] X.env).all (λx=>x.1.isSome)
 && decide (([e]:List Expr).length+([]:List Keyword).length+(if([]:List Keyword).isEmpty then 0 else 1)<30))=true:=by rfl) (yw:swapsWith (.Call (.Attribute (.Name x eD) "extend" apos) [e] [] cH) none pos.line X.env=pure false:=by rfl) (lC:attributeBase (.Name x eD) "extend" X.env (eval (.Name x eD) X.env)=eval (.Name x eD) X.env:=by rfl) (hN:X.N[i]? =some x:=by rfl) (hv:Jr X.env.scope x:=by first | exact Or.inl rfl | exact Or.inr Qdc | exact Or.inr (Or.inr rfl)):Js X (.Expr (.Call (.Attribute (.Name x eD) "extend" apos) [e] [] cH) pos) (K_ i f):=⟨OC hN hv he.1 hd tT hs lz rQ yw lC⟩
def pM(i:Nat){F:FS}(h:xj X Mz F):xj X Mz (CZ i F):=⟨OW i h.1⟩
def bR(he:QD X e f):Js X (.Return (some e) pos) (f_ f):=⟨ND he.1⟩
def jj{fc:ay->R Bool}{F G:FS}(hc:QB X c fc)(ha:xj X a F)(hb:xj X b G):Js X (.If c a b pos) (D2 fc F G):=⟨Ru hc.1 ha.1 hb.1⟩
def aA{i:Nat}{pos:Pos}(hf:X.fn x=true\/X.env.scope.names.lookup x=some .local:=by first | exact .inl rfl | exact .inr rfl | assumption)(hN:X.N.Nodup:=by first | assumption | exact Pd (by kernel_rfl))(hi:X.N[i]? =some x:=by rfl)(hx:Loc X.env.scope x:=by first | exact Or.inl rfl | exact Or.inr rfl):SA X (.Name x pos) (aC i):=⟨JB hN hi hx hf⟩
def cU:Pe X [] fA:=⟨JQ⟩
def bb{u:JL}(h1:SA X e t)(h2:Pe X es u)(hs:(assignEach (e ::es) X.env).map (·.2)=assign e X.env ::(assignEach es X.env).map (·.2):=by rfl):Pe X (e ::es) (bL t u):=⟨HI h1.1 h2.1 hs⟩
def dA{k:Nat}{t:JL}{n:Nat}{pos:Pos}(h:Pe X es t)(hn:(assignEach es X.env).length=n:=by rfl)(Jl:(assignEach es X.env).findIdx? (·.1)=none:=by rfl)(hc:X.calm=true:=by rfl):SA X (.Tuple es k pos) (fD n t):=⟨N7 hc h.1 hn Jl⟩
def bg(h:QD X e f):Cd X tg e (cb f):=⟨NQ h.1⟩
def aS{tg a:Expr}{p pos:Pos}(h:QD X a f)(hg:Gl X "range")(hm:X.mg "range"=none)(hs:starEach [a] X.env=[(false,eval a X.env)]:=by rfl):Cd X tg (.Call (.Name "range" p) [a] [] pos) (bZ f):=⟨E7 h.1 hg hm hs⟩
def vv{tg a b:Expr}{p pos:Pos}(h:QD X a f)(h':QD X b g)(hg:Gl X "range")(hm:X.mg "range"=none)(hs:starEach [a,b] X.env=[(false,eval a X.env),(false,eval b X.env)]:=by rfl)(hs2:starEach [b] X.env=[(false,eval b X.env)]:=by rfl):Cd X tg (.Call (.Name "range" p) [a,b] [] pos) (tZ f g):=⟨EO h.1 h'.1 hg hm hs hs2⟩
def fN{it:ay->R (List D)}{F:FS}{pos:Pos}(hi:Cd X tg iter it)(hg:SA X tg t)(hb:xj X body F)(hs:∀x,foldedSetIterable iter X.env x=pure x:=by intro _;rfl)(hp:PassesOwn (model X.prog X.w) X.A X.env X.xe:=by exact PassesOwn.never)(hc:X.calm=true:=by rfl):Js X (.For tg iter body [] pos) (q9 it t F):=⟨Nr hp hc hi.1 hg.1 hb.1 hs⟩
def bB{own:List Str}{kp:List Nat}{it:ay->R (List D)}{c:ay->R Bool}{pos:Pos}(hi:Cd X tg iter it)(hg:∀fp s H,SA (bN X scope (own++(mX kp X.N)) fp s H) tg t)(D_:∀fp s H,Lp (bN X scope (own++(mX kp X.N)) fp s H) ifs c)(he:∀fp s H,QD (bN X scope (own++(mX kp X.N)) fp s H) elt f)(hs:∀x,foldedSetIterable iter X.env x=pure x:=by intro _;rfl)(hc:X.calm=true:=by rfl)(C:f6 X scope own kp (mX kp X.N):=by exact Ui (by kernel_rfl)):QN X (.ListComp elt [⟨tg,iter,ifs,0⟩] scope pos) (bX it t c f own kp):=⟨O_ hc C hi.1 (λfp s H=>(hg fp s H).1) (λfp s H=>(D_ fp s H).1) (λfp s H=>(he fp s H).1) hs⟩
def br:Lp X [] eB:=⟨LG⟩
def xB{c:ay->R Bool}(h:QB X e c):Lp X [e] c:=⟨OS h.1⟩
def Bz{i:Nat}{pos' mw:Pos}{own:List Str}{kp:List Nat}{it:ay->R (List D)}{c:ay->R Bool}(hi:Cd X tg iter it)(hg:∀fp s H,SA (bN X scope (own++(mX kp X.N)) fp s H) tg t)(D_:∀fp s H,Lp (bN X scope (own++(mX kp X.N)) fp s H) ifs c)(he:∀fp s H,QD (bN X scope (own++(mX kp X.N)) fp s H) elt f)(yw:swapsWith (.ListComp elt [⟨tg,iter,ifs,0⟩] scope pos) (some$ .Name x pos') mw.line X.env=pure true:=by rfl)(hs:∀x,foldedSetIterable iter X.env x=pure x:=by intro _;rfl)(hc:X.calm=true:=by rfl)(hN:X.N.Nodup:=by first | assumption | exact Pd (by kernel_rfl))(hx:X.N[i]? =some x:=by rfl)(Jz:X.env.scope.names.lookup x=some .local:=by rfl)(C:f6 X scope own kp (mX kp X.N):=by exact Ui (by kernel_rfl)):Js X (.Assign [.Name x pos'] (.ListComp elt [⟨tg,iter,ifs,0⟩] scope pos) mw) (vU i$ bX it t c f own kp):=⟨CN hc hN hx Jz C hi.1 (λfp s H=>(hg fp s H).1) (λfp s H=>(D_ fp s H).1) (λfp s H=>(he fp s H).1) yw hs⟩
def av{pos:Pos}(ha:QD X a fa)(hb:QD X b fb)(hs:wg b:=by intro _ _;rfl):QD X (.Subscript a b pos) (e2 bz fa fb):=⟨UT ha.1 hb.1 hs⟩
def xl:QP X none D0:=⟨OT⟩
def xM(h:QD X e f):QP X (some e) (xC f):=⟨Od h.1⟩
def Rp{lo hi:Option Expr}{fl fh:FO}(he:QD X e f)(hl:QP X lo fl)(hh:QP X hi fh):QD X (.Subscript e (.Slice lo hi none p2) pos) (Ve f fl fh):=⟨Vn he.1 hl.1 hh.1⟩
def iW{elts:List Expr}{k:Nat}{yB:Pos}{p pos:Pos}(h:QD X a f)(hg:Gl X "enumerate")(hm:X.mg "enumerate"=none)(hs:starEach [a] X.env=[(false,eval a X.env)]:=by rfl):Cd X (.Tuple elts k yB) (.Call (.Name "enumerate" p) [a] [] pos) (f7 f):=⟨C1 h.1 hg hm hs⟩
def zS{P:Program}{w:World}{K:Qdf}{mg:Aaf}{base:Heap}{x qual:Str}{st:Stmt}{f:Addr}{fd:FuncData}{N ps:List Str}{k:Nat}{F:FS}{b:List Stmt}{sc:Scope}(hb:aN st=b)(hs:aF st=sc)(Fn:Gq K x qual st f fd)(S:aW N ps sc)(jJ:∀(gZ:Value) (A:Around) (outer:List Env) (s:Qdg) (H:Hp) (E:XK),eU k (A.deeper$ envOfC qual sc s.heap.objs.size f gZ)->
 xj (uI xu P w K mg base N qual sc f gZ A outer s H E).KA b F):jW P w K mg base xu (k+1) f fd ps (Lx K ps.length$ qJ N F):=KD hb hs Fn S$ λgZ A outer s H E hr=>(jJ gZ A outer s H E hr).1
def wF{K:Qdf}{mg:Aaf}{st:Stmt}{N ps:List Str}{k:Nat}{F:FS}(h:Def K mg x st)(hb:aN st=b)(hs:aF st=sc)(S:aW N ps sc)(jJ:∀(f:Addr) (gZ:Value) (A:Around) (outer:List Env) (s:Qdg) (H:Hp) (E:XK),eU k (A.deeper$ envOfC x sc s.heap.objs.size f gZ)->N.Nodup->xj (uI xu P w K mg base N x sc f gZ A outer s H E).KA b F)(bd:∀(kV doc pm:Value) (an:Option Addr) (gZ ct:Value) (us:List Value),us.length=ps.length->bindArgs (PySem.W.fnOf x x (jk st) (aN st) (aF st) .none kV doc pm an gZ ct) ⟨us,[]⟩=pure (ps.zip us):=by intro _ _ _ _ _ _ us hl;rcases us with _ | ⟨_,_ | ⟨_,_ | ⟨_,_ | ⟨_,_ | ⟨_,_ | ⟨_,_ | ⟨_,_⟩⟩⟩⟩⟩⟩⟩ <;> first | (simp at hl;done) | rfl):Callee P w K mg base (k+1) x ps.length (qJ N F):=by
 obtain⟨f,fd,F,hm⟩:=h;exact⟨f,fd,_,zS hb hs F S (λgZ A outer s H E hr=>jJ f gZ A outer s H E hr S.nd),hm,F.kp,F.binds bd⟩
def aX{g:List D->R D}{k j n:Nat}{p pos:Pos}{fs:ay->R (List D)}(C:Callee X.prog X.w X.K X.mg X.base k x n g)(ha:PU X (e ::es) fs)(uQ:(x==("__debug__":Str))=false:=by decide)(he:starEach (e ::es) X.env=(false,eval e X.env) ::starEach es X.env:=by rfl)(j_:(backTo pos$ starEach es X.env).any (·.1)=false:=by rfl)(hr:eU j X.A:=by assumption)(hkj:k<=j:=by decide)(hg:Gl X x:=by rfl)(hn:∀δ ds,fs δ= .ok ds->ds.length=n:=by(repeat apply Jc);exact Kd):QD X (.Call (.Name x p) (e ::es) [] pos) (aD g fs):=⟨Ma C hr hkj hg ha.1 hn uQ he j_⟩
end
def HF{P:Program}{w:World}{K:Qdf}{mg mb:Aaf}{CX:K8}{k:Nat}{fa a:Addr}{fd:FuncData}{x:Str}{sp:Sp}{s₁:Qdg}{vs:List Value}{ns:List Int}
 (KX:K.In s₁.heap) (WS:s₁.heap.Ns mainGlobals mg) (hb:s₁.heap.Ns builtinsNs mb) (hbb:∀x:Str,x≠"__name__"->mb x=bootBuiltins x) (Yf:s₁.heap.NoLimit) (hg:s₁.gens=#[])
 (ha:s₁.heap.get? a=some {cls:= .type "list",data:= .seq vs.toArray}) (hi:IntsAre vs ns) (hl:ns.length<=sizeLine) (hr:eU k callerA)
 (F:∀base:Heap,K.In base->base.Ns mainGlobals mg->jW P w K mg base CX k fa fd [x] sp) (V1:∀(s:Qdg) (u:Value),BindsTo s fd ⟨[u],[]⟩ [(x,u)])
 (TC:∀H:Hp,UR H->zM K [] H a (ns.map V.int)->sp [.ref a] H (λv _=>v= .bl true) λ_ _ _=>False)
 (hCX:∀H e s',CX [] H s₁ (λ_ _ _=>False) e s'->False) :
 codeAny (model P w) callerA (.call (.ref fa) ⟨[.ref a],[]⟩) (λr s'=>r= .ok (.ret$ .bool true)/\OldK s₁.heap s'.heap/\s'.os=s₁.os/\AllBare s'.gens) s₁:=by
 have rv:=zX hi;have lenV:=hi.length;have core:∀H:Hp,UR H->zM K [] H a (ns.map V.int)->ql P w H s₁.heap->(∀b,H b≠none->b=a)->(H a≠none->K.lookup a=none)->
  codeAny (model P w) callerA (.call (.ref fa) ⟨[.ref a],[]⟩) (λr s'=>r= .ok (.ret$ .bool true)/\OldK s₁.heap s'.heap/\s'.os=s₁.os/\AllBare s'.gens) s₁:=by
  intro H hO hS hok hA hK;have Hq:∀{b:Addr} {o:Obj},s₁.heap.get? b=some o->H b=none->(BQ s₁.heap H).get? b=some o:=λe n=>Mh e n
  have noA:∀{b:Addr} {o:Obj} {es:Array DictEntry} {ep:Nat},s₁.heap.get? b=some o->o.data= .dict es ep->H b=none:=fun {b o es ep} e d=>by
   cases q:H b with
   | none=>rfl
   | some u=>
     have e':b=a:=hA b (by rw[q];simp)
     subst e';rw[ha] at e;cases e;have d':Data.seq vs.toArray _=Data.dict es ep:=d;cases d'
  have nsK:∀{b:Addr} {m:Aaf},s₁.heap.Ns b m->(BQ s₁.heap H).Ns b m:=fun {b m} ⟨o,es,ep,e,d,r⟩=>⟨o,es,ep,Hq e$ noA e d,d,r⟩
  have hKb:K.In (BQ s₁.heap H):=λb o e=>Hq (KX b o e) (by
   cases q:H b with
   | none=>rfl
   | some u=>
     have e':b=a:=hA b (by rw[q];simp)
     subst e';rw[hK$ by rw[q];simp] at e;cases e)
  have hM:Mod K mg (BQ s₁.heap H):=⟨hKb,nsK WS,⟨mb,nsK hb,hbb⟩,let⟨mc,h1,h2⟩:=Yf;⟨mc,nsK h1,h2⟩⟩
  have e0:Fm P w K mg (BQ s₁.heap H) callerA [] s₁ H:=⟨rfl,hM,λb o e=>Oq e,Nat.le_of_eq$ H_ _ _,trivial,λb hb=>absurd (show b∈([]:List Addr) from hb) (by simp),hok, .of_eq hg⟩
  refine codeAny_mono ((F _ hKb$ nsK WS).run callerA [] s₁ H ⟨[.ref a],[]⟩ [.ref a] [.ref a] _ _ hr e0 (V1 s₁$ .ref a) (.cons rfl .nil)$ TC H hO hS) λr s' h=>?_
  cases r with
  | error e=>exact(hCX H e s' h).elim
  | ok fl=>
    cases fl with
    | next=>exact False.elim h
    | brk=>exact False.elim h
    | cont=>exact False.elim h
    | ret u=>
      obtain⟨v,H',os,bare,un,Yk,r',q⟩:=h;have q':v= .bl true:=q;subst q';obtain rfl:u=Value.bool true:=r';refine⟨rfl,OldK.of_keep λb o e=>?_,os,bare⟩
      cases q:H b with
      | none=>exact un.keep b o e q (by intro z;exact absurd (show b∈([]:List Addr) from z) (by simp)) (by simp)
      | some u=>
        rcases hO b with z | ⟨ob,xs,z⟩
        .rw [q] at z;cases z
        .have z2:=un.frzs b ob _ z;obtain⟨e1,_⟩:=hok b _ z;obtain⟨e2,_⟩:=Yk b _ z2;rw[e] at e1;cases e1;exact e2
 cases hk:K.lookup a with
 | some o=>
   have e:=KX a o hk;rw[ha] at e;cases e;refine core (λ_=>none) (λ_=> .inl rfl) (.inr ⟨vs,_,hk,by rw[Qaa];exact hl,rv⟩) (λb u z=>by have z':(none:Option HO)=some u:=z;cases z') (λb z=>absurd rfl z) λz=>absurd rfl z
 | none=>
   refine core (λb=>if b=a then some (.fm {cls:= .type "list",data:= .seq vs.toArray} (.lst$ ns.map V.int)) else none) (λb=>?_) (.inl ⟨by simp, .inr ⟨{cls:= .type "list",data:= .seq vs.toArray},QaK rfl⟩⟩) (λb u z=>?_) (λb z=>?_) λ_=>hk
   .by_cases hb:b=a
    .exact .inr ⟨_,_,QaK hb⟩
    .exact .inl (QaH hb)
   .by_cases hb:b=a
    .have z':=(QaK hb).symm.trans z;cases z';subst hb;exact⟨ha,by rw[Qaa];exact hl,vs,_,rv,ha⟩
    .have z':=(QaH hb).symm.trans z;cases z'
   .by_cases hb:b=a
    .exact hb
    .exact absurd (QaH hb) z
theorem ints_rep{K:Qdf}{B:List Addr}:∀ns:List Int,aI K B H (ns.map D.int) (ns.map V.int)
 | []=>aI.nil
 | n ::ns=>aI.cons (Rep.int.mpr rfl)$ ints_rep ns
def VD{l:PySem.W.OpenLaw}{n k:Nat}{q:Program}{loose:List Str}{XP:(Str->Option Value)->Heap->Prop}{YP:World->Heap->Prop}{d:DefRec}{K:Params->Qdf}{x:Str}{g:List D->R D}
 (hn:l.most=some n) (S9:n<=sizeLine) (Yv:d.params.defaults=[]) (hr:eU k callerA) (hY:∀(w:World) (h:Heap),YP w h->(K w.params).In h)
 (F:∀(w:World) (mg:Aaf) (fa:Addr) (h:Heap),(K w.params).In h->h.Ns mainGlobals mg->mg d.name=some (.ref fa)->
   ∃fd:FuncData,(∀(s:Qdg) (u:Value),BindsTo s fd ⟨[u],[]⟩ [(x,u)])/\∀base:Heap,(K w.params).In base->base.Ns mainGlobals mg->jW l.prog w (K w.params) mg base xu k fa fd [x] (Lx (K w.params) 1 g))
 (hg:∀ns:List Int,ns.length<=n->g [.lst$ ns.map D.int]= .ok (.bl true)):PySem.W.WalkO q loose XP YP l.row.toRowW d [] (λf vs=>PySem.call f vs):=by
 refine Att.Di hn Yv λw s₀ s₁ mg mb fa o pm cd doc a vs ns G Y ho hd tT VW Th hints hlen Ys=>?_
 have KX:=hY w _ Y;obtain⟨fd,hb,hF⟩:=F w mg fa _ KX G.T.g VW;refine HF KX G.T.g G.T.b G.T.builtins G.T.nolimit Ys Th hints (QaT hlen S9) hr hF hb (λH hO hS=>?_) λH e s' h=>h
 refine⟨rfl,[],[.lst$ ns.map D.int], .bl true,λb hb=>(by cases hb),aI.cons (Rep.lst.mpr ⟨_,_,rfl,hS,ints_rep ns⟩) aI.nil,hg ns hlen,λz H' _ r=>Rep.bl.mp r⟩
def bV{K:Qdf}{h:Heap}{mg:Aaf}{x:Str}{st:Stmt}{f:Addr}{oc:Value}{od an:Option Addr}{Jv:Array (Option Value)}{kV doc pm gZ ct:Value}(X:K.In h)(G:h.Ns mainGlobals mg)(a:PySem.W.nsIn K mainGlobals x=some (some$ .ref f))
 (l:K.lookup f=some ⟨oc,od, .func$ PySem.W.fnOf x x (jk st) (aN st) (aF st) .none kV doc pm an gZ ct,Jv⟩) (c:PySem.W.codeIn K gZ x=true) (k:PySem.W.keepIn K (.ref f)=true):Def K mg x st:=
 ⟨f,_,Ap l c k,PySem.W.mg_of X G a⟩
def xN{K:Qdf}{h:Heap}{mg:Aaf}(X:K.In h)(G:h.Ns mainGlobals mg){i:Int}{t:Tok}(a:PySem.W.nsIn K mainGlobals x=some (some$ .int i t)):Glob K mg x (.int i):=
 ⟨_, .int i,PySem.W.mg_of X G a,⟨t,rfl⟩,λ_ _=>Rep.int.mpr rfl⟩
def wR{t:FT}{body:FS}:∀(ds:List D) (n:Nat) (P:Nat->ay->Prop) {δ:ay},P n δ->
 (∀i d δ,ds[i]? =some d->P (n+i) δ->∃fg,((t d δ).bind body)= .ok (.nx fg)/\P (n+i+1) fg)->∃fg,uX t body ds δ= .ok (.nx fg)/\P (n+ds.length) fg
 | [],n,P,δ,h0,_=>⟨δ,rfl,h0⟩
 | d ::ds,n,P,δ,h0,hs=>by
   obtain⟨δ1,e1,p1⟩:=hs 0 d δ rfl h0;obtain⟨c_,e2,p2⟩:=wR ds (n+1) P p1 (λi d' fg hi hp=>by
    have:=hs (i+1) d' fg (by simpa using hi) (by rw[show n+(i+1)=n+1+i by omega];exact hp)
    rw[show n+(i+1)+1=n+1+i+1 by omega] at this
    exact this)
   refine⟨c_,?_,by rw[Qao,show n+(ds.length+1)=n+1+ds.length by omega];exact p2⟩
   obtain⟨δ0,h1,h2⟩:=R.ao e1;show(t d δ).bind (λδ1=>(body δ1).bind λo=>match o with | .nx c_=>uX t body ds c_ | .rt r=> .ok$ .rt r)=_
   rw[h1,R.aP,h2,R.aP];exact e2
def eg{t:FT}{body:FS}{ds:List D}(P:Nat->ay->Prop){δ:ay}(h0:P 0 δ)
 (hs:∀i d δ,ds[i]? =some d->P i δ->∃fg,((t d δ).bind body)= .ok (.nx fg)/\P (i+1) fg):∃fg,uX t body ds δ= .ok (.nx fg)/\P ds.length fg:=by
 have:=wR (t:=t) (body:=body) ds 0 P h0 (λi d δ hi hp=>by simpa using hs i d δ hi (by simpa using hp))
 simpa using this
def ng{α:Type}{xs:List α}{i:Int}(h0:0<=i)(h:i.toNat<xs.length):yC xs i=some xs[i.toNat]:=by
 unfold yC Eg;rw[QaK h0,QaK$ by omega]
 simp [h]
theorem ints_map:∀ss:List Int,ints? (ss.map D.int)=some ss
 | []=>rfl
 | s ::ss=>by show(ints?$ ss.map D.int).map (s ::·)=_;rw [ints_map ss];rfl
def bx{F G:FS}{δ δ1:ay}{r:R Out}(h:F δ= .ok (.nx δ1))(h2:G δ1=r):du F G δ=r:=by unfold du;rw [h,R.aP];exact h2
def bK{f:ay->R (List D)}{δ:ay}{ds:List D}(h:f δ= .ok ds):eNew f δ= .ok (.lst ds):=by unfold eNew;rw [h];rfl
def vk{c:ay->R Bool}{F G:FS}{δ:ay}{r:R Out}(h:c δ= .ok true)(h2:F δ=r):D2 c F G δ=r:=by unfold D2;rw [h,R.aP,QaK rfl];exact h2
def jS{c:ay->R Bool}{F G:FS}{δ:ay}{r:R Out}(h:c δ= .ok false)(h2:G δ=r):D2 c F G δ=r:=by unfold D2;rw [h,R.aP,QaH$ by decide];exact h2
def iz{it:ay->R (List D)}{F:FS}{δ:ay}{ds:List D}{r:R Out}(h:it δ= .ok ds)(h2:uX t F ds δ=r):q9 it t F δ=r:=by unfold q9;rw [h,R.aP];exact h2
def cv{f:FD}{δ:ay}{d:D}(h:f δ= .ok d):f_ f δ= .ok (.rt d):=by unfold f_;rw [h];rfl
def cL{N:List Str}{F:FS}{ds:List D}{d:D}(h:F (cA N ds)= .ok (.rt d)):qJ N F ds= .ok d:=by unfold qJ;rw [h];rfl
def cm{α:Type}{p:Prop} [Decidable p](r:R α)(h:p):R.bH (decide p) r=r:=by rw[Qat h];rfl
def cT{i:Nat}{f:FD}{δ:ay}{d:D}(h:f δ= .ok d)(hi:i<δ.length):i0 i f δ= .ok (.nx$ δ.set i$ .val d):=by unfold i0;rw [h,R.aP,cm _ hi]
def tm{i:Nat}{f:ay->R (List D)}{δ:ay}{ds:List D}(h:f δ= .ok ds)(hi:i<δ.length):vU i f δ= .ok (.nx$ δ.set i$ .bld ds):=by unfold vU;rw [h,R.aP,cm _ hi]
def AL{i:Nat}{f:FD}{δ:ay}{d:D}{ds:List D}(h:f δ= .ok d)(hb:δ[i]? =some (.bld ds))(hl:ds.length<sizeLine):EL i f δ= .ok (.nx$ δ.set i$ .bld$ ds++[d]):=by unfold EL sI;rw [h,R.aP,hb];show R.bH _ _=_;rw [cm _ hl]
def bF{it:ay->R (List D)}{c:ay->R Bool}{own:List Str}{kp:List Nat}{δ:ay}{ds ys:List D}(h1:it δ= .ok ds)(h2:ds.length<=sizeLine)(h3:qW t c f (t9 own kp δ) ds= .ok ys):bX it t c f own kp δ= .ok ys:=by unfold bX;rw [h1,R.aP,cm _ h2,h3]
def t6{ds:List D}{i:Int}{d:D}(h:yC ds i=some d):bz (.lst ds) (.int i)= .ok d:=by unfold bz;simp only[h]
def BV{ds:List D}{i:Int}{d:D}(h:yC ds i=some d):bz (.tup ds) (.int i)= .ok d:=by unfold bz;simp only[h]
def aj{g:D->D->R D}{fa fb:FD}{δ:ay}{a b:D}{r:R D}(ha:fa δ= .ok a)(hb:fb δ= .ok b)(h:g a b=r):e2 g fa fb δ=r:=by unfold e2;rw [ha,R.aP,hb,R.aP];exact h
def de{g:D->D->R D}{fa fb:FD}{δ:ay}{a b:D}{k:Bool}(ha:fa δ= .ok a)(hb:fb δ= .ok b)(h:g a b= .ok (.bl k)):b2 g fa fb δ= .ok k:=by unfold b2;rw [aj ha hb h];rfl
def aq{f:FD}{g:ay->R (List D)}{δ:ay}{d:D}{ds:List D}(h:f δ= .ok d)(h2:g δ= .ok ds):ah f g δ= .ok (d ::ds):=by unfold ah;rw [h,R.aP,h2];rfl
def au{g:List D->R D}{fs:ay->R (List D)}{δ:ay}{ds:List D}{r:R D}(h:fs δ= .ok ds)(h2:g ds=r):aD g fs δ=r:=by unfold aD;rw [h,R.aP];exact h2
def bM{g:ay->R (List D)}{δ:ay}{ds:List D}(h:g δ= .ok ds)(hl:ds.length<=sizeLine):b_ g δ= .ok (.tup ds):=by unfold b_;rw [h,R.aP,cm _ hl]
def qd{g:ay->R (List D)}{δ:ay}{ds:List D}(h:g δ= .ok ds)(hl:ds.length<=sizeLine):eF g δ= .ok ds:=by unfold eF;rw [h,R.aP,cm _ hl]
def QR{f:FD}{fl fh:FO}{δ:ay}{d:D}{lo hi:Option Int}{r:R D}(h:f δ= .ok d)(h1:fl δ= .ok lo)(h2:fh δ= .ok hi)(h3:UA d lo hi=r):Ve f fl fh δ=r:=by unfold Ve;rw [h,R.aP,h1,R.aP,h2,R.aP];exact h3
def K3{f:FD}{δ:ay}{i:Int}(h:f δ= .ok (.int i)):xC f δ= .ok (some i):=by unfold xC;rw [h];rfl
def As{a b:List D}(h:a.length+b.length<=sizeLine):cI (.lst a) (.lst b)= .ok (.lst$ a++b):=by unfold cI;exact cm _ h
def SG{a b:Int}(h:0<b):fF (.int a) (.int b)= .ok (.int$ a % b):=by unfold fF MF;exact cm _ h
def NN{a b:Int}(h:0<b)(h2:b<1073741824):pL (.int a) (.int b)= .ok (.int$ a / b):=by unfold pL MF;exact cm _ ⟨h,h2⟩
def lN{f:FD}{δ:ay}{n:Nat}(h:f δ= .ok (.int n))(hn:n<1000000):bZ f δ= .ok (jq 0 n):=by
 unfold bZ;rw [h,R.aP];show R.bH (decide (-(2 ^ 62)<=(n:Int)/\(n:Int)<2 ^ 62)) _=_;rw[cm _ ⟨by omega,by omega⟩,Qbg]
def eN{f:FD}{δ:ay}{ds:List D}(h:f δ= .ok (.lst ds)):cb f δ= .ok ds:=by unfold cb;rw [h];rfl
def uj{f:FD}{δ:ay}{ds:List D}(h:f δ= .ok (.tup ds)):cb f δ= .ok ds:=by unfold cb;rw [h];rfl
def xr{f:FD}{δ:ay}{ds:List D}(h:f δ= .ok (.lst ds)):f7 f δ= .ok (er ds):=by unfold f7;rw [h];rfl
def Ra{f:FD}{δ:ay}{b:Bool}(h:f δ= .ok (.bl b)):MM f δ= .ok b:=by unfold MM;rw [h];rfl
def uz(ds:List D):cP [.lst ds]= .ok (.int ds.length):=rfl
end L2
end
section
namespace L3
open PySem PySem.Spec PyProof.Rows L2
inductive V3 where
 | d (x:D) | loc (k:Nat) | lst (vs:List V3) | tup (vs:List V3) | fn (x:Str)
inductive SO where
 | lst (ds:List D) | dct (kvs:List (Key × D)) | ins (c:Nat) (fs:List (Str × V3)) | fm | exc (c:Nat)
abbrev bp:=List SO
inductive R3 (α:Type) where
 | ok (a:α) (S:bp) | ex (c:Nat) (S:bp) | no
noncomputable def R3.bind{α β:Type}:R3 α->(α->bp->R3 β)->R3 β
 | .ok a S,f=>f a S
 | .ex c S,_=> .ex c S
 | .no,_=> .no
def R3.ao{α β:Type}{r:R3 α}{f:α->bp->R3 β}{b:β}{S':bp}(h:r.bind f= .ok b S'):∃a S,r= .ok a S/\f a S= .ok b S':=by
 cases r with
 | ok a S=>exact⟨a,S,rfl,h⟩
 | ex c S=>cases h
 | no=>cases h
@[simp] theorem R3.aP{α β:Type}(a:α)(S:bp)(f:α->bp->R3 β):(R3.ok a S).bind f=f a S:=rfl
noncomputable def R3.bH{α:Type}(c:Bool)(r:R3 α):R3 α:=if c then r else .no
def R3.bj{α:Type}{c:Bool}{r:R3 α}{a:α}{S:bp}(h:R3.bH c r= .ok a S):c=true/\r= .ok a S:=by
 cases c with
 | true=>exact⟨rfl,h⟩
 | false=>cases h
noncomputable def R3.of{α:Type}(r:R α)(S:bp):R3 α:=match r with | .ok a=> .ok a S | _=> .no
def R3.of_ok{α:Type}{r:R α}{S S':bp}{a:α}(h:R3.of r S= .ok a S'):r= .ok a/\S'=S:=by
 cases r with
 | ok b=>cases h;exact⟨rfl,rfl⟩
 | ex c=>cases h
 | no=>cases h
structure P3 where
 r:List Addr
 z:List Addr
 f:List Addr
noncomputable def P3.b(ρ:P3):List Addr:=ρ.r.filter (λa=>!ρ.f.contains a)++ρ.z
def P3.dH{ρ:P3}{a:Addr}:a∈ρ.b↔(a∈ρ.r/\a ∉ ρ.f)\/a∈ρ.z:=by
 unfold P3.b;rw[QaU,Qbb];simp
noncomputable def P3.push(ρ:P3)(a:Addr):P3:=⟨ρ.r++[a],ρ.z,ρ.f⟩
noncomputable def P3.cut(ρ:P3)(n:Nat):P3:=⟨ρ.r.take n,ρ.z,ρ.f⟩
mutual
def bE(K:Qdf)(ρ:P3)(H:Hp):V3->V->Prop
 | .d x,v=>Rep K ρ.b H x v
 | .loc k,v=>∃a,ρ.r[k]? =some a/\v= .ref a
 | .lst vs,v=>∃a xs,v= .ref a/\zM K ρ.b H a xs/\aR K ρ H vs xs
 | .tup vs,v=>∃a xs,v= .ref a/\Ac K ρ.b H a xs/\aR K ρ H vs xs
 | .fn x,v=>∃a,PySem.W.nsIn K mainGlobals x=some (some$ .ref a)/\v= .ref a
def aR(K:Qdf)(ρ:P3)(H:Hp):List V3->List V->Prop
 | [],xs=>xs=[]
 | d ::ds,xs=>∃x r,xs=x ::r/\bE K ρ H d x/\aR K ρ H ds r
end
structure Pre (ρ:P3) (H:Hp) (dw:P3) (H':Hp):Prop where
 bG:dR ρ.b H dw.b H'
 zz:dw.z=ρ.z
 zs:∀(b:Addr) (o:HO),b∈ρ.z->H b=some o->H' b=some o
 ext:∀(k:Nat) (a:Addr),ρ.r[k]? =some a->dw.r[k]? =some a
def Pre.refl(ρ:P3)(H:Hp):Pre ρ H ρ H:=⟨dR.refl ρ.b H,rfl,λ_ _ _ h=>h,λ_ _ h=>h⟩
def Pre.trans(a:Pre ρ H dw H')(b:Pre dw H' Mr qX):Pre ρ H Mr qX:=⟨a.bG.trans b.bG,b.zz.trans a.zz,λc o hc h=>b.zs c o (by rw[a.zz];exact hc)$ a.zs c o hc h,λk x h=>b.ext k x$ a.ext k x h⟩
def Pre.same(s:bo H H'):Pre ρ H ρ H':=⟨dR.same s,rfl,λb o _ h=>s b o h,λ_ _ h=>h⟩
def Ac.bG{K:Qdf}{B B':List Addr}(p:dR B H B' H'){a:Addr}{xs:List V}(l:Ac K B H a xs):Ac K B' H' a xs:=
 l.elim (λz=> .inl ⟨(p.rd z.2 z.1).2,(p.rd z.2 z.1).1⟩) .inr
mutual
theorem bE.pre{K:Qdf}(p:Pre ρ H dw H'):∀{d:V3} {v:V},bE K ρ H d v->bE K dw H' d v
 | .d x,v,h=>by unfold bE at h ⊢;exact h.bG p.bG
 | .loc k,v,h=>by unfold bE at h ⊢;obtain⟨a,h1,h2⟩:=h;exact⟨a,p.ext k a h1,h2⟩
 | .lst vs,v,h=>by unfold bE at h ⊢;obtain⟨a,xs,e,l,r⟩:=h;exact⟨a,xs,e,l.bG p.bG,aR.pre p r⟩
 | .tup vs,v,h=>by unfold bE at h ⊢;obtain⟨a,xs,e,l,r⟩:=h;exact⟨a,xs,e,Ac.bG p.bG l,aR.pre p r⟩
 | .fn x,v,h=>by unfold bE at h ⊢;exact h
theorem aR.pre{K:Qdf}(p:Pre ρ H dw H'):∀{ds:List V3} {xs:List V},aR K ρ H ds xs->aR K dw H' ds xs
 | [],_,h=>by unfold aR at h ⊢;exact h
 | d ::ds,xs,h=>by
   unfold aR at h ⊢;obtain⟨x,r,e,h1,h2⟩:=h;exact⟨x,r,e,bE.pre p h1,aR.pre p h2⟩
end
structure PW (ρ:P3) (H:Hp) (dw:P3) (H':Hp):Prop where
 bG:dR ρ.b H dw.b H'
 ext:∀(k:Nat) (a:Addr),ρ.r[k]? =some a->dw.r[k]? =some a
def Pre.pw(p:Pre ρ H dw H'):PW ρ H dw H':=⟨p.bG,p.ext⟩
def PW.trans(a:PW ρ H dw H')(b:PW dw H' Mr qX):PW ρ H Mr qX:=⟨a.bG.trans b.bG,λk x h=>b.ext k x$ a.ext k x h⟩
mutual
theorem bE.pw{K:Qdf}(p:PW ρ H dw H'):∀{d:V3} {v:V},bE K ρ H d v->bE K dw H' d v
 | .d x,v,h=>by unfold bE at h ⊢;exact h.bG p.bG
 | .loc k,v,h=>by unfold bE at h ⊢;obtain⟨a,h1,h2⟩:=h;exact⟨a,p.ext k a h1,h2⟩
 | .lst vs,v,h=>by unfold bE at h ⊢;obtain⟨a,xs,e,l,r⟩:=h;exact⟨a,xs,e,l.bG p.bG,aR.pw p r⟩
 | .tup vs,v,h=>by unfold bE at h ⊢;obtain⟨a,xs,e,l,r⟩:=h;exact⟨a,xs,e,Ac.bG p.bG l,aR.pw p r⟩
 | .fn x,v,h=>by unfold bE at h ⊢;exact h
theorem aR.pw{K:Qdf}(p:PW ρ H dw H'):∀{ds:List V3} {xs:List V},aR K ρ H ds xs->aR K dw H' ds xs
 | [],_,h=>by unfold aR at h ⊢;exact h
 | d ::ds,xs,h=>by
   unfold aR at h ⊢;obtain⟨x,r,e,h1,h2⟩:=h;exact⟨x,r,e,bE.pw p h1,aR.pw p h2⟩
end
def aR.nil{K:Qdf}:aR K ρ H [] []:=by unfold aR;rfl
def aR.cons{K:Qdf}{d:V3}{ds:List V3}{x:V}{xs:List V}(h:bE K ρ H d x)(t:aR K ρ H ds xs):aR K ρ H (d ::ds) (x ::xs):=by
 unfold aR;exact⟨x,xs,rfl,h,t⟩
def aR.cj{K:Qdf}{d:V3}{ds:List V3}{xs:List V}(h:aR K ρ H (d ::ds) xs):∃x r,xs=x ::r/\bE K ρ H d x/\aR K ρ H ds r:=by
 unfold aR at h;exact h
theorem aR.length{K:Qdf}:∀{ds:List V3} {xs:List V},aR K ρ H ds xs->ds.length=xs.length
 | [],_,h=>by unfold aR at h;rw [h];rfl
 | d ::ds,xs,h=>by
   obtain⟨x,r,rfl,_,h2⟩:=h.cj;simp [h2.length]
theorem aR.of{K:Qdf}{ρ:P3}:∀{ds:List D} {xs:List V},aI K ρ.b H ds xs->aR K ρ H (ds.map .d) xs
 | [],_,h=>by unfold aI at h;subst h;exact aR.nil
 | d ::ds,xs,h=>by
   obtain⟨x,r,rfl,h1,h2⟩:=h.cj;exact aR.cons (by unfold bE;exact h1) (aR.of h2)
theorem aR.to{K:Qdf}{ρ:P3}:∀{ds:List D} {xs:List V},aR K ρ H (ds.map .d) xs->aI K ρ.b H ds xs
 | [],_,h=>by unfold aR at h;subst h;exact aI.nil
 | d ::ds,xs,h=>by
   obtain⟨x,r,rfl,h1,h2⟩:=aR.cj h;unfold bE at h1;exact aI.cons h1$ aR.to h2
def isExc(C b:Addr):Heap->Prop:=λh=>∃o,h.get? b=some o/\o.cls= .ref C
def L5(K:Qdf)(cl:Aag)(ρ:P3)(H:Hp):SO->Option HO->Prop
 | .lst ds,h=>∃xs,h=some (.lst xs)/\aI K ρ.b H ds xs
 | .dct kvs,h=>∃ys,h=some (.dK ys)/\ys.map (·.1)=kvs.map (·.1)/\aI K ρ.b H (kvs.map (·.2)) (ys.map (·.2))
 | .ins c fs,h=>∃dx ys,h=some (.ins (cl c) dx ys)/\ys.map (·.1)=fs.map (·.1)/\aR K ρ H (fs.map (·.2)) (ys.map (·.2))
 | .fm,h=>∃u,h=some u
 | .exc c,h=>∃b,h=some (.ext$ isExc (cl c) b)
def L5.pre{K:Qdf}{cl:Aag}(p:Pre ρ H dw H'){o:SO}{h:Option HO}(r:L5 K cl ρ H o h):L5 K cl dw H' o h:=by
 cases o with
 | lst ds=>obtain⟨xs,e,q⟩:=r;exact⟨xs,e,q.bG p.bG⟩
 | dct kvs=>obtain⟨ys,e,e2,q⟩:=r;exact⟨ys,e,e2,q.bG p.bG⟩
 | ins c fs=>obtain⟨dx,ys,e,e2,q⟩:=r;exact⟨dx,ys,e,e2,q.pre p⟩
 | fm=>exact r
 | exc c=>exact r
def L5.pw{K:Qdf}{cl:Aag}(p:PW ρ H dw H'){o:SO}{h:Option HO}(r:L5 K cl ρ H o h):L5 K cl dw H' o h:=by
 cases o with
 | lst ds=>obtain⟨xs,e,q⟩:=r;exact⟨xs,e,q.bG p.bG⟩
 | dct kvs=>obtain⟨ys,e,e2,q⟩:=r;exact⟨ys,e,e2,q.bG p.bG⟩
 | ins c fs=>obtain⟨dx,ys,e,e2,q⟩:=r;exact⟨dx,ys,e,e2,q.pw p⟩
 | fm=>exact r
 | exc c=>exact r
def L5.some{K:Qdf}{cl:Aag}{o:SO}{h:Option HO}(r:L5 K cl ρ H o h):∃u,h=some u:=by
 cases o with
 | lst ds=>obtain⟨xs,e,q⟩:=r;exact⟨_,e⟩
 | dct kvs=>obtain⟨ys,e,e2,q⟩:=r;exact⟨_,e⟩
 | ins c fs=>obtain⟨dx,ys,e,e2,q⟩:=r;exact⟨_,e⟩
 | fm=>exact r
 | exc c=>obtain⟨b,e⟩:=r;exact⟨_,e⟩
structure SW (K:Qdf) (cl:Aag) (ρ:P3) (H:Hp) (S:bp):Prop where
 len:ρ.r.length=S.length
 nd:∀(i j:Nat) (a:Addr),ρ.r[i]? =some a->ρ.r[j]? =some a->i=j
 ob:∀(k:Nat) (a:Addr) (o:SO),ρ.r[k]? =some a->S[k]? =some o->L5 K cl ρ H o (H a)
 zb:∀b∈ρ.z,(∃xs,H b=some (.lst xs))/\b ∉ ρ.r
 fz:∀(k:Nat) (a:Addr),ρ.r[k]? =some a->S[k]?≠some .fm->a ∉ ρ.f
 ff:∀a∈ρ.f,∃o,H a=some o
 fi:∀(k:Nat) (a:Addr),ρ.r[k]? =some a->S[k]? =some .fm->a∈ρ.f
def SW.rs{K:Qdf}{cl:Aag}{ρ:P3}{H:Hp}{S:bp}(w:SW K cl ρ H S):∀a∈ρ.r,∃o,H a=some o:=λa z=>by
 obtain⟨k,hk⟩:=QbH z;have hl:=(Qae.mp hk).1;exact(w.ob k a _ hk$ Qab$ by rw[<-w.len];exact hl).some
def SW.bs{K:Qdf}{cl:Aag}{ρ:P3}{H:Hp}{S:bp}(w:SW K cl ρ H S):∀a∈ρ.b,∃o,H a=some o:=λa ha=>by
 rcases P3.dH.mp ha with z | z
 .exact w.rs a z.1
 .obtain⟨xs,h⟩:=(w.zb a z).1;exact⟨_,h⟩
def SW.same{K:Qdf}{cl:Aag}{S:bp}(w:SW K cl ρ H S)(s:bo H H'):SW K cl ρ H' S:=
 ⟨w.len,w.nd,λk a o h1 h2=>by
   have r:=w.ob k a o h1 h2;obtain⟨u,hu⟩:=r.some;rw[s a u hu,<-hu];exact r.pre$ Pre.same s,λb hb=>let⟨⟨o,ho⟩,n⟩:=w.zb b hb;⟨⟨o,s b _ ho⟩,n⟩,w.fz,λa ha=>let⟨o,ho⟩:=w.ff a ha;⟨o,s a o ho⟩,w.fi⟩
def P3.mem_push{ρ:P3}{a b:Addr}(h:b∈(ρ.push a).b):b∈ρ.b\/b=a:=by
 rcases P3.dH.mp h with⟨z,n⟩ | z
 .rcases QaU.mp z with y | y
  .exact .inl (P3.dH.mpr$ .inl ⟨y,n⟩)
  .exact .inr (Qa8.mp y)
 .exact .inl (P3.dH.mpr$ .inr z)
def SW.new{K:Qdf}{cl:Aag}{ρ:P3}{H H':Hp}{S:bp}(w:SW K cl ρ H S){a:Addr}{o:SO}(s:bo H H')(n:H a=none)(r:L5 K cl (ρ.push a) H' o (H' a))(zm:o≠SO.fm:=by intro h;cases h) :
 SW K cl (ρ.push a) H' (S++[o])/\Pre ρ H (ρ.push a) H':=by
 have na:a ∉ ρ.b:=λha=>by obtain⟨o,ho⟩:=w.bs a ha;rw [n] at ho;cases ho
 have nr:a ∉ ρ.r:=λha=>by obtain⟨o,ho⟩:=w.rs a ha;rw [n] at ho;cases ho
 have nf:a ∉ ρ.f:=λha=>by obtain⟨o,ho⟩:=w.ff a ha;rw [n] at ho;cases ho
 have p:Pre ρ H (ρ.push a) H':=⟨λb u e nb=>⟨s b u e,λhb=>by
  rcases P3.mem_push hb with z | z
  .exact nb z
  .subst z;rw [n] at e;cases e⟩,rfl,λb o _ h=>s b o h,λk x hx=>by
   show(ρ.r++[a])[k]? =_;rw[Qax (Qae.mp hx).1];exact hx⟩
 have last:∀(i:Nat) (b:Addr),(ρ.push a).r[i]? =some b->(i<ρ.r.length/\ρ.r[i]? =some b)\/(i=ρ.r.length/\b=a):=λi b h=>by
  have h:(ρ.r++[a])[i]? =some b:=h;by_cases q:i<ρ.r.length
  .rw [Qax q] at h;exact .inl ⟨q,h⟩
  .rw [Qaj$ by omega] at h
   have h0:i - ρ.r.length=0:=by
    have:=(Qae.mp h).1;simp at this;omega
   rw[h0] at h;cases h;exact .inr ⟨by omega,rfl⟩
 refine⟨⟨by show(ρ.r++[a]).length=_;rw [Qai,Qai,w.len];rfl,λi j b hi hj=>?_,λk b u hk hu=>?_,λb hb=>?_,λk b hk hu=>?_,λb hb=>?_,λk b hk hu=>?_⟩,p⟩
 .rcases last i b hi with⟨q1,q2⟩ | ⟨q1,rfl⟩
  .rcases last j b hj with⟨z1,z2⟩ | ⟨z1,rfl⟩
   .exact w.nd i j b q2 z2
   .exact absurd (Qap q2) nr
  .rcases last j b hj with⟨z1,z2⟩ | ⟨z1,z3⟩
   .exact absurd (Qap z2) nr
   .omega
 .rcases last k b hk with⟨q1,q2⟩ | ⟨q1,rfl⟩
  .rw [Qax$ by rw[<-w.len];exact q1] at hu
   have r0:=w.ob k b u q2 hu;obtain⟨x,hx⟩:=r0.some;rw[s b x hx,<-hx];exact r0.pre p
  .rw [Qaj (by rw[<-w.len];omega),q1,w.len,Qbe] at hu
   cases hu;exact r
 .obtain⟨⟨o,ho⟩,nb⟩:=w.zb b hb;refine⟨⟨o,s b _ ho⟩,λh=>?_⟩
  rcases QaU.mp h with y | y
  .exact nb y
  .rw [Qa8] at y;subst y;rw [n] at ho;cases ho
 .rcases last k b hk with⟨q1,q2⟩ | ⟨q1,rfl⟩
  .rw [Qax$ by rw[<-w.len];exact q1] at hu
   exact w.fz k b q2 hu
  .exact nf
 .obtain⟨o,ho⟩:=w.ff b hb;exact⟨o,s b o ho⟩
 .rcases last k b hk with⟨q1,q2⟩ | ⟨q1,rfl⟩
  .rw [Qax$ by rw[<-w.len];exact q1] at hu
   exact w.fi k b q2 hu
  .rw [Qaj (by rw[<-w.len];omega),q1,w.len,Qbe] at hu
   cases hu;exact absurd rfl zm
def SW.put{K:Qdf}{cl:Aag}{ρ:P3}{S:bp}(w:SW K cl ρ H S){k:Nat}{a:Addr}{o:SO}{u:HO}(hk:ρ.r[k]? =some a)(hf:a ∉ ρ.f)(r:L5 K cl ρ H o (some u))(zm:o≠SO.fm:=by intro h;cases h) :
 SW K cl ρ (upd H a u) (S.set k o)/\Pre ρ H ρ (upd H a u):=by
 have ha:a∈ρ.r:=Qap hk;have hb:a∈ρ.b:=P3.dH.mpr$ .inl ⟨ha,hf⟩;have nz:∀b∈ρ.z,b≠a:=λb hb z=>(w.zb b hb).2 (by rw[z];exact ha)
 have p:Pre ρ H ρ (upd H a u):=⟨λb x e nb=>⟨by rw[bA$ λ(z:b=a)=>nb$ by rw[z];exact hb];exact e,nb⟩,rfl,λb o hb h=>by rw[bA$ nz b hb];exact h,λ_ _ h=>h⟩
 have hl:k<S.length:=by rw[<-w.len];exact(Qae.mp hk).1
 refine⟨⟨by rw[Qa6];exact w.len,w.nd,λj b x hj hx=>?_,λb hb=>?_,λj b hj hx=>?_,λb hb=>?_,λj b hj hx=>?_⟩,p⟩
 .by_cases q:k=j
  .subst q;rw[hk] at hj;cases hj;rw[Qau hl] at hx;cases hx;rw[bh];exact r.pre p
  .rw [Qav q] at hx;have ne:b≠a:=λz=>by subst z;exact q (w.nd k j b hk hj)
   rw[bA ne];exact(w.ob j b x hj hx).pre p
 .obtain⟨⟨o,ho⟩,nb⟩:=w.zb b hb;exact⟨⟨o,by rw[bA$ nz b hb];exact ho⟩,nb⟩
 .by_cases q:k=j
  .subst q;rw[hk] at hj;cases hj;exact hf
  .rw [Qav q] at hx;exact w.fz j b hj hx
 .obtain⟨o,ho⟩:=w.ff b hb;exact⟨o,by rw[bA$ λz=>hf$ by rw[<-z];exact hb];exact ho⟩
 .by_cases q:k=j
  .subst q;rw[Qau hl] at hx;cases hx;exact absurd rfl zm
  .rw [Qav q] at hx;exact w.fi j b hj hx
def SW.fm{K:Qdf}{cl:Aag}{ρ:P3}{S:bp}(w:SW K cl ρ H S){k:Nat}{a:Addr}{ds:List D}(hk:ρ.r[k]? =some a)(hS:S[k]? =some (.lst ds)) :
 SW K cl ⟨ρ.r,ρ.z,a ::ρ.f⟩ H (S.set k .fm)/\Pre ρ H ⟨ρ.r,ρ.z,a ::ρ.f⟩ H/\Rep K (⟨ρ.r,ρ.z,a ::ρ.f⟩:P3).b H (.lst ds) (.ref a):=by
 have hl:k<S.length:=by rw[<-w.len];exact(Qae.mp hk).1
 have sub:∀b,b∈(⟨ρ.r,ρ.z,a ::ρ.f⟩:P3).b->b∈ρ.b:=λb hb=>by
  rcases P3.dH.mp hb with⟨z,n⟩ | z
  .exact P3.dH.mpr (.inl ⟨z,λh=>n$ Qad _ h⟩)
  .exact P3.dH.mpr (.inr z)
 have p:Pre ρ H ⟨ρ.r,ρ.z,a ::ρ.f⟩ H:=⟨λb o e nb=>⟨e,λhb=>nb$ sub b hb⟩,rfl,λ_ _ _ h=>h,λ_ _ h=>h⟩
 obtain⟨xs,e1,r1⟩:=w.ob k a _ hk hS;refine⟨⟨by rw[Qa6];exact w.len,w.nd,λj b x hj hx=>?_,w.zb,λj b hj hx=>?_,λb hb=>?_,λj b hj hx=>?_⟩,p,?_⟩
 .by_cases q:k=j
  .subst q;rw[Qau hl] at hx;cases hx;rw[hk] at hj;cases hj;exact⟨_,e1⟩
  .rw [Qav q] at hx;exact(w.ob j b x hj hx).pre p
 .by_cases q:k=j
  .subst q;rw[Qau hl] at hx;exact absurd rfl hx
  .rw [Qav q] at hx;intro h;rcases QaE.mp h with z | z
   .subst z;exact q$ w.nd k j b hk hj
   .exact w.fz j b hj hx z
 .rcases QaE.mp hb with z | z
  .subst z;exact⟨_,e1⟩
  .exact w.ff b z
 .by_cases q:k=j
  .subst q;rw[hk] at hj;cases hj;exact Qan
  .rw [Qav q] at hx;exact Qad _$ w.fi j b hj hx
 .refine Rep.lst.mpr ⟨a,xs,rfl, .inl ⟨λhb=>?_, .inl e1⟩,r1.bG p.bG⟩
  rcases P3.dH.mp hb with⟨_,n⟩ | z
  .exact n Qan
  .exact(w.zb a z).2 (Qap hk)
mutual
noncomputable def oM:D->Bool
 | .lst _=>false
 | .dct _ _=>false
 | .tup ds=>jE ds
 | _=>true
noncomputable def jE:List D->Bool
 | []=>true
 | d ::ds=>oM d && jE ds
end
mutual
theorem Rep.zL{K:Qdf}{B:List Addr}(hB:∀b∈B,∀xs,¬Rd H b (.tup xs)):∀{d:D} {v:V},oM d=true->Rep K [] H d v->Rep K B H d v
 | .cY,v,_,r=>Rep.cY.mpr$ Rep.cY.mp r
 | .bl _,v,_,r=>Rep.bl.mpr$ Rep.bl.mp r
 | .int _,v,_,r=>Rep.int.mpr$ Rep.int.mp r
 | .str _,v,_,r=>Rep.str.mpr$ Rep.str.mp r
 | .lst _,v,h,_=>by unfold oM at h;cases h
 | .dct _ _,v,h,_=>by unfold oM at h;cases h
 | .tup ds,v,h,r=>by
   unfold oM at h;obtain⟨a,xs,rfl,l,rs⟩:=Rep.tup.mp r;exact Rep.tup.mpr ⟨a,xs,rfl,l.elim (λz=> .inl ⟨λhb=>hB a hb xs z.2,z.2⟩) .inr,aI.zL hB h rs⟩
theorem aI.zL{K:Qdf}{B:List Addr}(hB:∀b∈B,∀xs,¬Rd H b (.tup xs)):∀{ds:List D} {vs:List V},jE ds=true->aI K [] H ds vs->aI K B H ds vs
 | [],_,_,r=>by unfold aI at r;subst r;exact aI.nil
 | d ::ds,vs,h,r=>by
   unfold jE at h;obtain⟨h1,h2⟩:=Qbc.mp h;obtain⟨x,xs,rfl,r1,r2⟩:=r.cj;exact aI.cons (Rep.zL hB h1 r1)$ aI.zL hB h2 r2
end
def SW.nt{K:Qdf}{cl:Aag}{ρ:P3}{S:bp}(w:SW K cl ρ H S):∀b∈ρ.b,∀xs,¬Rd H b (.tup xs):=λb hb xs h=>by
 have key:∀o,H b=some o->(∀xs,o≠ .tup xs)->(∀ob xs,o≠ .fm ob (.tup xs))->False:=λo e h1 h2=>by
  rcases h with z | ⟨ob,z⟩
  .rw [e] at z;cases z;exact h1 _ rfl
  .rw [e] at z;cases z;exact h2 _ _ rfl
 rcases P3.dH.mp hb with⟨z,n⟩ | z
 .obtain⟨k,hk⟩:=QbH z;have hl:=(Qae.mp hk).1;have hS:S[k]? =some (S[k]'(by rw[<-w.len];exact hl)):=Qab (by rw[<-w.len];exact hl)
  have r:=w.ob k b _ hk hS;generalize S[k]'(by rw[<-w.len];exact hl)=o at r hS
  cases o with
  | lst ds=>obtain⟨ys,e,_⟩:=r;exact key _ e (λ_ q=>by cases q) (λ_ _ q=>by cases q)
  | dct kvs=>obtain⟨ys,e,_⟩:=r;exact key _ e (λ_ q=>by cases q) (λ_ _ q=>by cases q)
  | ins c fs=>obtain⟨dx,ys,e,_⟩:=r;exact key _ e (λ_ q=>by cases q) (λ_ _ q=>by cases q)
  | fm=>exact n$ w.fi k b hk hS
  | exc c=>obtain⟨b',e⟩:=r;exact key _ e (λ_ q=>by cases q) (λ_ _ q=>by cases q)
 .obtain⟨⟨ys,e⟩,_⟩:=w.zb b z;exact key _ e (λ_ q=>by cases q) (λ_ _ q=>by cases q)
abbrev DE:=List$ Option V3
structure gh (K:Qdf) (cl:Aag) (ρ:P3) (H:Hp) (S:bp) (σ:L2.St) (δ:DE):Prop where
 len:δ.length=σ.length
 sw:SW K cl ρ H S
 val:∀(i:Nat) (d:V3),δ[i]? =some (some d)->∃v,σ[i]? =some (some v)/\bE K ρ H d v
def gh.to{K:Qdf}{cl:Aag}{S S':bp}{σ:L2.St}{δ:DE}(E:gh K cl ρ H S σ δ)(p:Pre ρ H dw H')(w:SW K cl dw H' S'):gh K cl dw H' S' σ δ:=
 ⟨E.len,w,λi d e=>let⟨v,h1,h2⟩:=E.val i d e;⟨v,h1,h2.pre p⟩⟩
def gh.set{K:Qdf}{cl:Aag}{S:bp}{σ:L2.St}{δ:DE}(E:gh K cl ρ H S σ δ){i:Nat}{d:V3}{v:V}(hi:i<σ.length)(r:bE K ρ H d v):gh K cl ρ H S (σ.set i$ some v) (δ.set i$ some d):=
 ⟨by rw[Qa6,Qa6];exact E.len,E.sw,λj d' e=>by
   by_cases h:i=j
   .subst h;rw[Qau$ by rw[E.len];exact hi] at e
    cases e;exact⟨v,Qau hi,r⟩
   .rw [Qav h] at e ⊢;exact E.val j d' e⟩
noncomputable def down(δ:DE):ay:=δ.map λx=>match x with | some (.d d)=> .val d | _=> .un
def gh.down{K:Qdf}{cl:Aag}{ρ:P3}{S:bp}{σ:L2.St}{δ:DE}(E:gh K cl ρ H S σ δ):eV K [] ρ.b H σ (down δ) where
 len:=by unfold L3.down;rw [Qaa];exact E.len
 bs:=E.sw.bs
 zb:=λa ha=>by cases ha
 val:=λi d e=>by
  unfold L3.down at e;rw[Qac] at e;cases q:δ[i]? with
  | none=>rw [q] at e;cases e
  | some x=>
    rw[q] at e
    match x,e,q with
    | some (.d y),e,q=>
      cases e;obtain⟨v,h1,h2⟩:=E.val i _ q;unfold bE at h2;exact⟨v,h1,h2⟩
    | some (.loc k),e,q=>cases e
    | some (.lst k),e,q=>cases e
    | some (.tup k),e,q=>cases e
    | none,e,q=>cases e
 bld:=λi ds e=>by
  unfold L3.down at e;rw[Qac] at e;cases q:δ[i]? with
  | none=>rw [q] at e;cases e
  | some x=>
    rw[q] at e
    match x,e with
    | some (.d y),e=>cases e
    | some (.loc k),e=>cases e
    | some (.lst k),e=>cases e
    | some (.tup k),e=>cases e
    | none,e=>cases e
 dis:=λi j a ds es e=>by
  unfold L3.down at e;rw[Qac] at e;cases q:δ[i]? with
  | none=>rw [q] at e;cases e
  | some x=>
    rw[q] at e
    match x,e with
    | some (.d y),e=>cases e
    | some (.loc k),e=>cases e
    | some (.lst k),e=>cases e
    | some (.tup k),e=>cases e
    | none,e=>cases e
mutual
noncomputable def res(S:bp):V3->Option D
 | .d x=>some x
 | .loc k=>(match S[k]? with | some (.lst ds)=>some (.lst ds) | some (.dct kvs)=>some (.dct (kvs.map (·.1))$ kvs.map (·.2)) | _=>none)
 | .lst vs=>(yI S vs).map D.lst
 | .tup vs=>(yI S vs).map D.tup
 | .fn _=>none
noncomputable def yI(S:bp):List V3->Option (List D)
 | []=>some []
 | v ::vs=>(res S v).bind λd=>(yI S vs).map (d ::·)
end
def d8(S:bp)(δ:DE):ay:=δ.map λx=>match x with | some v=>(match res S v with | some d=> .val d | none=> .un) | none=> .un
def fV{α β:Type}{o:Option α}{f:α->β}{b:β}(h:o.map f=some b):∃a,o=some a/\f a=b:=by
 cases o with
 | none=>cases h
 | some a=>cases h;exact⟨a,rfl,rfl⟩
def rA{α β:Type}{o:Option α}{f:α->Option β}{b:β}(h:o.bind f=some b):∃a,o=some a/\f a=some b:=by
 cases o with
 | none=>cases h
 | some a=>exact⟨a,rfl,h⟩
mutual
noncomputable def iA(n:Nat):V3->Bool
 | .d _=>true
 | .loc k=>decide$ n<=k
 | .lst vs=>n_ n vs
 | .tup vs=>n_ n vs
 | .fn _=>true
noncomputable def n_(n:Nat):List V3->Bool
 | []=>true
 | v ::vs=>iA n v && n_ n vs
end
mutual
theorem bE.resB{K:Qdf}{cl:Aag}{ρ:P3}{S:bp}{B':List Addr}{n:Nat}(w:SW K cl ρ H S)(p:dR ρ.b H B' H)(hn:∀(k:Nat) (a:Addr),n<=k->ρ.r[k]? =some a->a ∉ B'):∀{v:V3} {d:D} {x:V},iA n v=true->res S v=some d->bE K ρ H v x->Rep K B' H d x
 | .d y,d,x,_,h,r=>by unfold L3.res at h;cases h;unfold bE at r;exact r.bG p
 | .fn y,d,x,_,h,r=>by unfold L3.res at h;cases h
 | .loc k,d,x,g,h,r=>by
   unfold L3.res at h;unfold bE at r;unfold iA at g;obtain⟨a,h1,rfl⟩:=r;split at h
   .rename_i ds e;cases h;obtain⟨xs,e2,q⟩:=w.ob k a _ h1 e;unfold Rep;exact⟨a,xs,rfl, .inl ⟨hn k a (Qal g) h1, .inl e2⟩,q.bG p⟩
   .rename_i kvs e;cases h;obtain⟨ys,e2,e3,q⟩:=w.ob k a _ h1 e;unfold Rep;exact⟨a,ys,rfl,⟨hn k a (Qal g) h1,e2⟩,e3,q.bG p⟩
   .cases h
 | .lst vs,d,x,g,h,r=>by
   unfold L3.res at h;unfold iA at g;obtain⟨ds,e,rfl⟩:=fV h;unfold bE at r;obtain⟨a,xs,rfl,l,r⟩:=r;unfold Rep;exact⟨a,xs,rfl,l.bG p,aR.resB w p hn g e r⟩
 | .tup vs,d,x,g,h,r=>by
   unfold L3.res at h;unfold iA at g;obtain⟨ds,e,rfl⟩:=fV h;unfold bE at r;obtain⟨a,xs,rfl,l,r⟩:=r;unfold Rep;exact⟨a,xs,rfl,Ac.bG p l,aR.resB w p hn g e r⟩
theorem aR.resB{K:Qdf}{cl:Aag}{ρ:P3}{S:bp}{B':List Addr}{n:Nat}(w:SW K cl ρ H S)(p:dR ρ.b H B' H)(hn:∀(k:Nat) (a:Addr),n<=k->ρ.r[k]? =some a->a ∉ B'):∀{vs:List V3} {ds:List D} {xs:List V},n_ n vs=true->yI S vs=some ds->aR K ρ H vs xs->aI K B' H ds xs
 | [],ds,xs,_,h,r=>by unfold yI at h;cases h;unfold aR at r;subst r;exact aI.nil
 | v ::vs,ds,xs,g,h,r=>by
   unfold yI at h;unfold n_ at g;obtain⟨g1,g2⟩:=Qbc.mp g;obtain⟨d,e1,h2⟩:=rA h;obtain⟨es,e2,rfl⟩:=fV h2;obtain⟨y,ys,rfl,r1,r2⟩:=r.cj;exact aI.cons (bE.resB w p hn g1 e1 r1)$ aR.resB w p hn g2 e2 r2
end
mutual
theorem Ah:∀v:V3,iA 0 v=true
 | .d _=>by unfold iA;rfl
 | .loc k=>by unfold iA;exact Qat$ QbE _
 | .lst vs=>by unfold iA;exact rf vs
 | .tup vs=>by unfold iA;exact rf vs
 | .fn _=>by unfold iA;rfl
theorem rf:∀vs:List V3,n_ 0 vs=true
 | []=>by unfold n_;rfl
 | v ::vs=>by unfold n_;rw [Ah v,rf vs];rfl
end
def bE.res{K:Qdf}{cl:Aag}{S:bp}(w:SW K cl ρ H S){v:V3}{d:D}{x:V}(h:res S v=some d)(r:bE K ρ H v x):Rep K [] H d x:=
 r.resB w (λb o e _=>⟨e,by simp⟩) (n:=0) (λ_ _ _ _=>by simp) (Ah v) h
def uF{S:bp}{δ:DE}{i:Nat}{y:Sl}(e:(d8 S δ)[i]? =some y):(∃v d,δ[i]? =some (some v)/\res S v=some d/\y= .val d)\/y= .un:=by
 unfold d8 at e;rw[Qac] at e;cases q:δ[i]? with
 | none=>rw [q] at e;cases e
 | some x=>
   rw[q] at e;cases x with
   | none=>cases e;exact .inr rfl
   | some v=>
     cases z:res S v with
     | none=>
       have e:some (match res S v with | some d=>Sl.val d | none=> .un)=some y:=e
       rw[z] at e;cases e;exact .inr rfl
     | some d=>
       have e:some (match res S v with | some d=>Sl.val d | none=> .un)=some y:=e
       rw[z] at e;cases e;exact .inl ⟨v,d,rfl,z,rfl⟩
def gh.d8{K:Qdf}{cl:Aag}{S:bp}{σ:L2.St}{δ:DE}(E:gh K cl ρ H S σ δ):eV K [] [] H σ (d8 S δ) where
 len:=by unfold L3.d8;rw [Qaa];exact E.len
 bs:=λa ha=>by cases ha
 zb:=λa ha=>by cases ha
 val:=λi d e=>by
  rcases uF e with⟨v,d',h1,h2,h3⟩ | h
  .cases h3;obtain⟨x,q1,q2⟩:=E.val i v h1;exact⟨x,q1,q2.res E.sw h2⟩
  .cases h
 bld:=λi ds e=>by
  rcases uF e with⟨v,d',h1,h2,h3⟩ | h
  .cases h3
  .cases h
 dis:=λi j a ds es e=>by
  rcases uF e with⟨v,d',h1,h2,h3⟩ | h
  .cases h3
  .cases h
abbrev FX:=DE->bp->R3 V3
abbrev FB:=DE->bp->R3 Bool
abbrev FA:=DE->bp->R3 (List V3)
def tX(K:Qdf)(cl:Aag)(f:FX):TE:=λσ H Q=>∃ρ S δ v S',gh K cl ρ H S σ δ/\f δ S= .ok v S'/\∀u dw H',Pre ρ H dw H'->SW K cl dw H' S'->bE K dw H' v u->Q u H'
def QC(K:Qdf)(cl:Aag)(f:FB):TT:=λσ H Q=>∃ρ S δ b S',gh K cl ρ H S σ δ/\f δ S= .ok b S'/\∀dw H',Pre ρ H dw H'->SW K cl dw H' S'->Q b H'
def tXA(K:Qdf)(cl:Aag)(f:FA):TA:=λσ H Q=>∃ρ S δ vs S',gh K cl ρ H S σ δ/\f δ S= .ok vs S'/\∀us dw H',Pre ρ H dw H'->SW K cl dw H' S'->aR K dw H' vs us->Q us H'
structure PX (X:Cx) (cl:Aag) (e:Expr) (f:FX):Prop where
 go:PE X e (tX X.K cl f)
structure MJ (X:Cx) (cl:Aag) (e:Expr) (f:FB):Prop where
 go:PT X e (QC X.K cl f)
structure NY (X:Cx) (cl:Aag) (es:List Expr) (f:FA):Prop where
 go:PA X es (tXA X.K cl f)
section
variable {X:Cx}{cl:Aag}
def xP(f:FD):FX:=λδ S=>(R3.of (f$ down δ) S).bind λd S=> .ok (.d d) S
def ai(h:QD X e f):PX X cl e (xP f):=⟨h.1.imp λσ H Q ⟨ρ,S,δ,v,S',E,hf,q⟩=>by
 obtain⟨d,S1,h1,h2⟩:=R3.ao hf;obtain⟨h3,e3⟩:=R3.of_ok h1;cases h2;subst e3;exact⟨[],ρ.b,down δ,d,E.down,h3,λv H' s r=>q v ρ H' (Pre.same s) (E.sw.same s)$ by unfold bE;exact r⟩⟩
def xT(f:FD):FX:=λδ S=>(R3.of (f$ d8 S δ) S).bind λd S=>R3.bH (oM d)$ .ok (.d d) S
def lM(h:QD X e f):PX X cl e (xT f):=⟨h.1.imp λσ H Q ⟨ρ,S,δ,v,S',E,hf,q⟩=>by
 obtain⟨d,S1,h1,h2⟩:=R3.ao hf;obtain⟨h4,e3⟩:=R3.of_ok h1;obtain⟨ha,h3⟩:=R3.bj h2;cases h3;subst e3;exact⟨[],[],d8 _ δ,d,E.d8,h4,λv H' s r=>q v ρ H' (Pre.same s) (E.sw.same s)$ by unfold bE;exact Rep.zL (E.sw.same s).nt ha r⟩⟩
def bP(f:ay->R Bool):FB:=λδ S=>R3.of (f$ down δ) S
def dD{f:ay->R Bool}(h:QB X e f):MJ X cl e (bP f):=⟨h.1.imp λσ H Q ⟨ρ,S,δ,v,S',E,hf,q⟩=>by
 obtain⟨h1,e3⟩:=R3.of_ok hf;subst e3;exact⟨[],ρ.b,down δ,v,E.down,h1,λH' s=>q ρ H' (Pre.same s)$ E.sw.same s⟩⟩
def bT(f:ay->R Bool):FB:=λδ S=>R3.of (f$ d8 S δ) S
def xq{f:ay->R Bool}(h:QB X e f):MJ X cl e (bT f):=⟨h.1.imp λσ H Q ⟨ρ,S,δ,v,S',E,hf,q⟩=>by
 obtain⟨h1,e3⟩:=R3.of_ok hf;subst e3;exact⟨[],[],d8 _ δ,v,E.d8,h1,λH' s=>q ρ H' (Pre.same s)$ E.sw.same s⟩⟩
noncomputable def gb(i:Nat):FX:=λδ S=>match δ[i]? with | some (some v)=> .ok v S | _=> .no
def cR(i:Nat){x:Str}{pos:Pos}(hN:X.N[i]? =some x:=by rfl)(hv:Jr X.env.scope x:=by first | exact Or.inl rfl | exact Or.inr Qdc | exact Or.inr (Or.inr rfl))(hd:(x==("__debug__":Str))=false:=by decide)
 (tT:(x==("__classdict__":Str))=false:=by decide):PX X cl (.Name x pos) (gb i):=⟨(q8 hN hv hd tT).imp λσ H Q ⟨ρ,S,δ,v,S',E,hf,q⟩=>by
 unfold gb at hf;split at hf
 .rename_i d' e;cases hf;obtain⟨u,h1,h2⟩:=E.val i _ e;exact⟨u,h1,q u ρ H (Pre.refl ρ H) E.sw h2⟩
 .cases hf⟩
def mQ(f:ay->R (List D)):FX:=λδ S=>(R3.of (f$ down δ) S).bind λds S=> .ok (.loc S.length)$ S++[.lst ds]
def gO{f:ay->R (List D)}(h:QN X e f):PX X cl e (mQ f):=⟨h.1.imp λσ H Q ⟨ρ,S,δ,v,S',E,hf,q⟩=>by
 obtain⟨ds,S1,h1,h2⟩:=R3.ao hf;obtain⟨h3,e3⟩:=R3.of_ok h1;cases h2;subst e3;refine⟨[],ρ.b,down δ,ds,E.down,h3,λa xs H' s n e r=>?_⟩
 have r':aI X.K (ρ.push a).b H' ds xs:=r.bG λb o e nb=>⟨e,λhb=>nb (by
  rcases P3.mem_push hb with z | z
  .exact Qad _ z
  .subst z;exact Qan)⟩
 obtain⟨w,p⟩:=E.sw.new (o:= .lst ds) s n ⟨xs,e,r'⟩;exact q _ _ H' p w$ by unfold bE;exact⟨a,by show(ρ.r++[a])[_]? =_;rw [<-E.sw.len,Qaj (by omega),Qbe];rfl,rfl⟩⟩
end
end L3
end
section
namespace L3
open PySem PySem.Spec PyProof.Rows L2
section
variable {X:Cx}{cl:Aag}
noncomputable def eA:FA:=λ_ S=> .ok [] S
def aZ(f:FX)(g:FA):FA:=λδ S=>(f δ S).bind λv S1=>(g δ S1).bind λvs S2=> .ok (v ::vs) S2
def bO:NY X cl [] eA:=⟨f9.imp λσ H Q ⟨ρ,S,δ,v,S',E,hf,q⟩=>by
 cases hf;exact q [] ρ H (Pre.refl ρ H) E.sw aR.nil⟩
def az(h:PX X cl e f)(t:NY X cl es g)(hs:starEach (e ::es) X.env=(false,eval e X.env) ::starEach es X.env:=by rfl):NY X cl (e ::es) (aZ f g):=
 ⟨(dq h.1 t.1 hs).imp λσ H Q ⟨ρ,S,δ,v,S',E,hf,q⟩=>by
   obtain⟨v1,S1,h1,h2⟩:=R3.ao hf;obtain⟨vs,S2,h3,h4⟩:=R3.ao h2;cases h4;exact⟨ρ,S,δ,v1,S1,E,h1,λu dg H1 p1 w1 r1=>⟨dg,S1,δ,vs,_,E.to p1 w1,h3,λus uL H2 p2 w2 r2=>q _ uL H2 (p1.trans p2) w2$ aR.cons (r1.pre p2) r2⟩⟩⟩
noncomputable def vI:List V3->Option (List D)
 | []=>some []
 | .d x ::r=>(vI r).map (x ::·)
 | _ ::_=>none
theorem mO:∀{vs:List V3} {ds:List D},vI vs=some ds->vs=ds.map .d
 | [],ds,h=>by cases h;rfl
 | .d x ::r,ds,h=>by
   cases e:vI r with
   | none=>have h:(vI r).map (x ::·)=some ds:=h;rw [e] at h;cases h
   | some es=>
     have h:(vI r).map (x ::·)=some ds:=h
     rw[e] at h;cases h;rw[mO e];rfl
 | .loc _ ::_,_,h=>by cases h
 | .lst _ ::_,_,h=>by cases h
 | .tup _ ::_,_,h=>by cases h
 | .fn _ ::_,_,h=>by cases h
theorem xy:∀ds:List D,vI (ds.map .d)=some ds
 | []=>rfl
 | d ::ds=>by show(vI$ ds.map .d).map (d ::·)=_;rw [xy ds];rfl
def GW(vs:List V3):V3:=match vI vs with | some ds=> .d (.tup ds) | none=> .tup vs
def wt(vs:List V3):V3:=match vI vs with | some ds=> .d (.lst ds) | none=> .lst vs
def JN(g:FA):FX:=λδ S=>(g δ S).bind λvs S=>R3.bH (decide$ vs.length<=sizeLine)$ .ok (GW vs) S
def wb{H:Hp}{p:Addr}{o:HO}(hp:H p=none):Pre ρ H ρ (upd H p o):=Pre.same$ aU hp
def Iz{K:Qdf}{ρ:P3}{vs:List V3}{xs:List V}{a:Addr}(l:Ac K ρ.b H a xs)(r:aR K ρ H vs xs):bE K ρ H (GW vs) (.ref a):=by
 unfold GW;split
 .rename_i ds e;rw[mO e] at r;unfold bE Rep;exact⟨a,xs,rfl,l,r.to⟩
 .unfold bE;exact⟨a,xs,rfl,l,r⟩
def zB{K:Qdf}{ρ:P3}{vs:List V3}{xs:List V}{a:Addr}(l:zM K ρ.b H a xs)(r:aR K ρ H vs xs):bE K ρ H (wt vs) (.ref a):=by
 unfold wt;split
 .rename_i ds e;rw[mO e] at r;unfold bE Rep;exact⟨a,xs,rfl,l,r.to⟩
 .unfold bE;exact⟨a,xs,rfl,l,r⟩
def EA{x1 pos}(h:NY X cl es g):PX X cl (.Tuple es x1 pos) (JN g):=⟨(J_ h.1).imp λσ H Q ⟨ρ,S,δ,v,S',E,hf,q⟩=>by
 obtain⟨vs,S1,h1,h2⟩:=R3.ao hf;obtain⟨hl,h3⟩:=R3.bj h2;cases h3;refine⟨ρ,S,δ,vs,_,E,h1,λus dg H1 p1 w1 r1=>⟨by rw[<-r1.length];exact Qal hl,λp hp=>q _ dg _ (p1.trans$ wb hp) (w1.same$ aU hp) ?_⟩⟩
 refine Iz (.inl ⟨λha=>?_, .inl bh⟩)$ r1.pre$ wb hp
 obtain⟨o,ho⟩:=w1.bs p ha;rw[hp] at ho;cases ho⟩
def Oa(g:FA):FX:=λδ S=>(g δ S).bind λvs S=>R3.bH (decide$ vs.length<=sizeLine)$ .ok (wt vs) S
def L1{pos}(h:NY X cl es g):PX X cl (.List es pos) (Oa g):=⟨(La h.1).imp λσ H Q ⟨ρ,S,δ,v,S',E,hf,q⟩=>by
 obtain⟨vs,S1,h1,h2⟩:=R3.ao hf;obtain⟨hl,h3⟩:=R3.bj h2;cases h3;refine⟨ρ,S,δ,vs,_,E,h1,λus dg H1 p1 w1 r1=>⟨by rw[<-r1.length];exact Qal hl,λp hp=>q _ dg _ (p1.trans$ wb hp) (w1.same$ aU hp) ?_⟩⟩
 refine zB (.inl ⟨λha=>?_, .inl bh⟩)$ r1.pre$ wb hp
 obtain⟨o,ho⟩:=w1.bs p ha;rw[hp] at ho;cases ho⟩
def x2(g:D->D->R D)(fa fb:FX):FX:=λδ S=>(fa δ S).bind λa S1=>(fb δ S1).bind λb S2=>match a,b with
 | .d x, .d y=>(R3.of (g x y) S2).bind λd S=> .ok (.d d) S
 | _,_=> .no
def W0{K:Qdf}{g:D->D->R D}{σ:L2.St}{Q:VK}(h:tX K cl (x2 g fa fb) σ H Q) :
 Tw (λx y H Q=>∃B da db d,(∀a∈B,∃o,H a=some o)/\Rep K B H da x/\Rep K B H db y/\g da db= .ok d/\∀z H',bo H H'->Rep K B H' d z->Q z H') (tX K cl fa) (tX K cl fb) σ H Q:=by
 obtain⟨ρ,S,δ,v,S',E,hf,q⟩:=h;obtain⟨a,S1,h1,h2⟩:=R3.ao hf;obtain⟨b,S2,h3,h4⟩:=R3.ao h2
 match a,b,h1,h3,h4 with
 | .d x, .d y,h1,h3,h4=>
   obtain⟨d,S3,h5,h6⟩:=R3.ao h4;obtain⟨h7,e⟩:=R3.of_ok h5;cases h6;subst e;refine⟨ρ,S,δ, .d x,S1,E,h1,λu1 dg H1 p1 w1 r1=>⟨dg,S1,δ, .d y,_,E.to p1 w1,h3,λu2 uL H2 p2 w2 r2=>?_⟩⟩
   have tS:=r1.pre p2;unfold bE at tS r2;exact⟨uL.b,x,y,d,w2.bs,tS,r2,h7,λz H' s r=>q z uL H' (p1.trans$ p2.trans$ Pre.same s) (w2.same s)$ by unfold bE;exact r⟩
 | .d x, .loc _,_,_,h4=>cases h4
 | .d x, .lst _,_,_,h4=>cases h4
 | .d x, .tup _,_,_,h4=>cases h4
 | .d x, .fn _,_,_,h4=>cases h4
 | .loc _,_,_,_,h4=>cases h4
 | .lst _,_,_,_,h4=>cases h4
 | .tup _,_,_,_,h4=>cases h4
 | .fn _,_,_,_,h4=>cases h4
def Vo(g:D->D->R D)(fa fb:FX):FB:=λδ S=>(x2 g fa fb δ S).bind λv S=>match v with | .d (.bl b)=> .ok b S | _=> .no
def A4{op:CmpOp}{g:D->D->R D}(ho:m6 X (compareOp op) g)(ha:PX X cl a fa)(hb:PX X cl b fb)(hm:behindInMarks op b=false):MJ X cl (.Compare a [op] [b] pos) (Vo g fa fb):=
 ⟨(Gx ho.r ha.1 hb.1 hm).imp λσ H Q ⟨ρ,S,δ,b,S',E,hf,q⟩=>by
   obtain⟨v,S1,h1,h2⟩:=R3.ao hf;have hv:v= .d (.bl b)/\S1=S':=by
    match v,h2 with
    | .d (.bl k),h2=>cases h2;exact⟨rfl,rfl⟩
    | .d .cY,h2=>cases h2
    | .d (.int _),h2=>cases h2
    | .d (.str _),h2=>cases h2
    | .d (.lst _),h2=>cases h2
    | .d (.tup _),h2=>cases h2
    | .d (.dct _ _),h2=>cases h2
    | .loc _,h2=>cases h2
    | .lst _,h2=>cases h2
    | .tup _,h2=>cases h2
    | .fn _,h2=>cases h2
   obtain⟨rfl,rfl⟩:=hv;exact W0 (g:=g) (Q:=λx H'=>∃k,x= .bl k/\Q k H') ⟨ρ,S,δ,_,_,E,h1,λu dw H' p w r=>⟨b,by unfold bE Rep at r;exact r,q dw H' p w⟩⟩⟩
inductive Ou where
 | nx (δ:DE) | rt (v:V3)
abbrev FZ:=DE->bp->R3 Ou
def Ob(K:Qdf)(cl:Aag)(ρ:P3)(H:Hp)(D:Ends)(S':bp):Ou->Prop
 | .nx fg=>∀dN dw H',Pre ρ H dw H'->gh K cl dw H' S' dN fg->D.nx dN H'
 | .rt v=>∀u dw H',Pre ρ H dw H'->SW K cl dw H' S'->bE K dw H' v u->D.rt u H'
def Ob.pre{K:Qdf}{D:Ends}{S':bp}{o:Ou}(q:Ob K cl ρ H D S' o)(p:Pre ρ H dg H1):Ob K cl dg H1 D S' o:=by
 cases o with
 | nx fg=>exact λdN dw H' p' E'=>q dN dw H' (p.trans p') E'
 | rt d=>exact λv dw H' p' w r=>q v dw H' (p.trans p') w r
def sX(K:Qdf)(cl:Aag)(F:FZ):TS:=λD σ H=>∃ρ S δ o S',gh K cl ρ H S σ δ/\F δ S= .ok o S'/\Ob K cl ρ H D S' o
structure PZ (X:Cx) (cl:Aag) (st:Stmt) (F:FZ):Prop where
 go:PS X st (sX X.K cl F)
structure G2 (X:Cx) (cl:Aag) (st:List Stmt) (F:FZ):Prop where
 go:Cb X st (sX X.K cl F)
noncomputable def oB:FZ:=λδ S=> .ok (.nx δ) S
def bq(F G:FZ):FZ:=λδ S=>(F δ S).bind λo S1=>match o with | .nx fg=>G fg S1 | .rt d=> .ok (.rt d) S1
def d_:G2 X cl [] oB:=⟨Hh.imp λD σ H ⟨ρ,S,δ,o,S',E,hf,q⟩=>by
 cases hf;exact q σ ρ H (Pre.refl ρ H) E⟩
def ak{st:Stmt}{rest:List Stmt}(h1:PZ X cl st F)(h2:G2 X cl rest G):G2 X cl (st ::rest) (bq F G):=⟨(D5 h1.1 h2.1).imp λD σ H ⟨ρ,S,δ,o,S',E,hf,q⟩=>by
 obtain⟨o1,S1,h1,h2⟩:=R3.ao hf;refine⟨ρ,S,δ,o1,S1,E,h1,?_⟩;cases o1 with
 | nx δ1=>
   intro We dg H1 p1 E1;exact⟨dg,S1,δ1,o,S',E1,h2,q.pre p1⟩
 | rt d=>
   cases h2;exact q⟩
def aK{st:Stmt}(h1:PZ X cl st F):G2 X cl [st] F:=⟨F6 h1.1⟩
def bW(i:Nat)(f:FX):FZ:=λδ S=>(f δ S).bind λv S=>R3.bH (decide$ i<δ.length)$ .ok (.nx$ δ.set i$ some v) S
def aY{i:Nat}{pos pos':Pos}(he:PX X cl e f)(hs:swapsWith e (some$ .Name x pos') pos.line X.env=pure false:=by rfl)(hf:X.fn x=true\/X.env.scope.names.lookup x=some .local:=by first | exact .inl rfl | exact .inr rfl | assumption)(hN:X.N.Nodup:=by first | assumption | exact Pd (by kernel_rfl))(hi:X.N[i]? =some x:=by rfl)(hx:Loc X.env.scope x:=by first | exact Or.inl rfl | exact Or.inr rfl) :
 PZ X cl (.Assign [.Name x pos'] e pos) (bW i f):=⟨(FI hN hi hx he.1 hs hf).imp λD σ H ⟨ρ,S,δ,o,S',E,hf,q⟩=>by
 obtain⟨v,S1,h1,h2⟩:=R3.ao hf;obtain⟨hi,h3⟩:=R3.bj h2;cases h3;refine⟨ρ,S,δ,v,_,E,h1,λu dg H1 p1 w1 r1=>?_⟩
 exact q _ dg H1 p1$ (E.to p1 w1).set (by rw[<-E.len];exact Qal hi) r1⟩
def g8(f:FX):FZ:=λδ S=>(f δ S).bind λv S=> .ok (.rt v) S
def cZ(he:PX X cl e f):PZ X cl (.Return (some e) pos) (g8 f):=⟨(Mg he.1).imp λD σ H ⟨ρ,S,δ,o,S',E,hf,q⟩=>by
 obtain⟨v,S1,h1,h2⟩:=R3.ao hf;cases h2;exact⟨ρ,S,δ,v,_,E,h1,λu dg H1 p1 w1 r1=>q u dg H1 p1 w1 r1⟩⟩
def Bv(c:FB)(F G:FZ):FZ:=λδ S=>(c δ S).bind λb S=>if b then F δ S else G δ S
def jB(hc:MJ X cl c fc)(ha:G2 X cl a F)(hb:G2 X cl b G):PZ X cl (.If c a b pos) (Bv fc F G):=⟨(Qk hc.1 ha.1 hb.1).imp λD σ H ⟨ρ,S,δ,o,S',E,hf,q⟩=>by
 obtain⟨k,S1,h1,h2⟩:=R3.ao hf;refine⟨ρ,S,δ,k,S1,E,h1,λdg H1 p1 w1=>?_⟩
 cases k with
 | true=>rw [QaK rfl] at h2;exact OY ⟨dg,S1,δ,o,S',E.to p1 w1,h2,q.pre p1⟩
 | false=>rw [QaH$ by decide] at h2;exact OI ⟨dg,S1,δ,o,S',E.to p1 w1,h2,q.pre p1⟩⟩
def Ai(f:FX):FZ:=λδ S=>(f δ S).bind λ_ S=> .ok (.nx δ) S
def wd{pos:Pos}(he:PX X cl e f)(yw:swapsWith e none pos.line X.env=pure false:=by rfl):PZ X cl (.Expr e pos) (Ai f):=⟨(tK he.1 yw).imp λD σ H ⟨ρ,S,δ,o,S',E,hf,q⟩=>by
 obtain⟨v,S1,h1,h2⟩:=R3.ao hf;cases h2;exact⟨ρ,S,δ,v,_,E,h1,λu dg H1 p1 w1 r1=>q _ dg H1 p1$ E.to p1 w1⟩⟩
noncomputable def F_(c:FB)(body:FZ):Nat->FZ
 | 0,_,_=> .no
 | n+1,δ,S=>(c δ S).bind λb S=>if b then(body δ S).bind λo S=>match o with | .nx c_=>F_ c body n c_ S | .rt r=> .ok (.rt r) S else .ok (.nx δ) S
def XE(n:Nat)(c:FB)(body:FZ):FZ:=λδ S=>F_ c body n δ S
end
theorem aR.get{K:Qdf}:∀{ds:List V3} {xs:List V} {i:Nat} {d:V3},aR K ρ H ds xs->ds[i]? =some d->∃x,xs[i]? =some x/\bE K ρ H d x
 | [],_,_,_,_,e=>by simp at e
 | d ::ds,xs,0,d',h,e=>by
   obtain⟨x,r,rfl,h1,h2⟩:=h.cj;simp at e;subst e;exact⟨x,rfl,h1⟩
 | d ::ds,xs,i+1,d',h,e=>by
   obtain⟨x,r,rfl,h1,h2⟩:=h.cj;obtain⟨y,e1,e2⟩:=aR.get (i:=i) h2 (by simpa using e)
   exact⟨y,by simpa using e1,e2⟩
def Vh(K:Qdf)(ρ:P3)(H:Hp)(J:It)(vs:List V3):Prop:=∀dw H',PW ρ H dw H'->(∀a∈dw.b,∃o,H' a=some o)->(∀(i:Nat) (d:V3),vs[i]? =some d->J.go i H'/\∀x qX,J.yld i H' x qX->bo H' qX/\bE K dw qX d x)/\J.stop vs.length H'
def Vh.of{K:Qdf}{ρ:P3}{J:It}{ds:List D}(h:JE K ρ.b H J ds):Vh K ρ H J (ds.map .d):=λdw H' p bs=>by
 obtain⟨h1,h2⟩:=h dw.b H' p.bG;refine⟨λi v hv=>?_,by rw[Qaa];exact h2⟩
 rw[Qac] at hv;cases e:ds[i]? with
 | none=>rw [e] at hv;cases hv
 | some d=>
   rw[e] at hv;cases hv;obtain⟨g1,g2⟩:=h1 i d e;exact⟨g1,λx qX y=>let⟨s,r⟩:=g2 x qX y bs;⟨s,by unfold bE;exact r⟩⟩
def Y_(K:Qdf)(cl:Aag)(f:FA):TI:=λσ H R=>∃ρ S δ vs S',gh K cl ρ H S σ δ/\f δ S= .ok vs S'/\∀J dg H1,Pre ρ H dg H1->SW K cl dg H1 S'->Vh K dg H1 J vs->R J H1
structure UE (X:Cx) (cl:Aag) (tg e:Expr) (f:FA):Prop where
 go:PI X tg e (Y_ X.K cl f)
section
variable {X:Cx}{cl:Aag}
def iP(f:ay->R (List D)):FA:=λδ S=>(R3.of (f$ down δ) S).bind λds S=> .ok (ds.map .d) S
def bw{f:ay->R (List D)}(h:Cd X tg e f):UE X cl tg e (iP f):=⟨h.1.imp λσ H Q ⟨ρ,S,δ,vs,S',E,hf,q⟩=>by
 obtain⟨ds,S1,h1,h2⟩:=R3.ao hf;obtain⟨h3,e3⟩:=R3.of_ok h1;cases h2;subst e3;exact⟨[],ρ.b,down δ,ds,E.down,h3,λJ H1 s r=>q J ρ H1 (Pre.same s) (E.sw.same s)$ Vh.of r⟩⟩
def Dx(f:FX):FA:=λδ S=>(f δ S).bind λv S=>match v with | .d (.int j)=>R3.bH (decide (-(2 ^ 62)<=j/\j<2 ^ 62)) (.ok ((jq 0 j.toNat).map .d) S) | _=> .no
def EZ{tg a:Expr}{p pos:Pos}(h:PX X cl a f)(hg:Gl X "range")(hm:X.mg "range"=none)(hs:starEach [a] X.env=[(false,eval a X.env)]:=by rfl):UE X cl tg (.Call (.Name "range" p) [a] [] pos) (Dx f):=
 ⟨(zP hg hm (dq h.1 f9 hs) hs).imp λσ H RR ⟨ρ,S,δ,vs,S',E,hf,q⟩=>by
   obtain⟨v,S1,h1,h2⟩:=R3.ao hf
   match v,h1,h2 with
   | .d (.int j),h1,h2=>
     obtain⟨hb,h3⟩:=R3.bj h2;cases h3;have hb:=Qal hb;refine⟨ρ,S,δ, .d$ .int j,_,E,h1,λu dg H1 p1 w1 r1=>⟨j,?_,hb.1,hb.2,q _ dg H1 p1 w1$ Vh.of$ Fx 0 _⟩⟩
     unfold bE Rep at r1;rw[r1]
   | .d .cY,_,h2=>cases h2
   | .d (.bl _),_,h2=>cases h2
   | .d (.str _),_,h2=>cases h2
   | .d (.lst _),_,h2=>cases h2
   | .d (.tup _),_,h2=>cases h2
   | .d (.dct _ _),_,h2=>cases h2
   | .loc _,_,h2=>cases h2
   | .lst _,_,h2=>cases h2
   | .tup _,_,h2=>cases h2⟩
def aav(f:FX):FA:=λδ S=>(f δ S).bind λv S=>match v with | .d (.lst ds)=> .ok (ds.map .d) S | .lst vs=> .ok vs S | _=> .no
abbrev FG:=V3->DE->Option DE
abbrev NZ:=List V3->DE->Option DE
def gX(K:Qdf)(cl:Aag)(t:FG):TG:=λv σ H Q=>∃ρ S δ x fg,gh K cl ρ H S σ δ/\bE K ρ H x v/\t x δ=some fg/\∀dN H',bo H H'->gh K cl ρ H' S dN fg->Q dN H'
def gXs(K:Qdf)(cl:Aag)(t:NZ):JY:=λv σ H Q=>∃ρ S δ x fg,gh K cl ρ H S σ δ/\aR K ρ H x v/\t x δ=some fg/\∀dN H',bo H H'->gh K cl ρ H' S dN fg->Q dN H'
structure Q9 (X:Cx) (cl:Aag) (tg:Expr) (t:FG):Prop where
 go:PG X tg (gX X.K cl t)
structure O8 (X:Cx) (cl:Aag) (tg:List Expr) (t:NZ):Prop where
 go:OV X tg (gXs X.K cl t)
def gh.same{K:Qdf}{S:bp}{σ:L2.St}{δ:DE}(E:gh K cl ρ H S σ δ)(s:bo H H'):gh K cl ρ H' S σ δ:=E.to (Pre.same s)$ E.sw.same s
noncomputable def fZ(i:Nat):FG:=λd δ=>if i<δ.length then some (δ.set i$ some d) else none
def aH{i:Nat}{pos:Pos}(hf:X.fn x=true\/X.env.scope.names.lookup x=some .local:=by first | exact .inl rfl | exact .inr rfl | assumption)(hN:X.N.Nodup:=by first | assumption | exact Pd (by kernel_rfl))(hi:X.N[i]? =some x:=by rfl)(hx:Loc X.env.scope x:=by first | exact Or.inl rfl | exact Or.inr rfl):Q9 X cl (.Name x pos) (fZ i):=
 ⟨(GA hN hi hx hf).imp λv σ H Q ⟨ρ,S,δ,d,fg,E,r,ht,q⟩=>by
   unfold fZ at ht;split at ht
   .rename_i hi;cases ht;exact q _ H (bo.refl H) (E.set (by rw[<-E.len];exact hi) r)
   .cases ht⟩
noncomputable def z_:NZ:=λds δ=>match ds with | []=>some δ | _=>none
noncomputable def l8(t:FG)(u:NZ):NZ:=λds δ=>match ds with | d ::r=>(t d δ).bind λfg=>u r fg | []=>none
def cN:O8 X cl [] z_:=⟨G1.imp λvs σ H Q ⟨ρ,S,δ,ds,fg,E,r,ht,q⟩=>by
 cases ds with
 | nil=>unfold aR at r;cases ht;exact⟨r,q σ H (bo.refl H) E⟩
 | cons=>cases ht⟩
def aQ{u:NZ}(h1:Q9 X cl e t)(h2:O8 X cl es u)(hs:(assignEach (e ::es) X.env).map (·.2)=assign e X.env ::(assignEach es X.env).map (·.2):=by rfl):O8 X cl (e ::es) (l8 t u):=
 ⟨(D6 h1.1 h2.1 hs).imp λvs σ H Q ⟨ρ,S,δ,ds,fg,E,r,ht,q⟩=>by
   cases ds with
   | nil=>cases ht
   | cons d ds=>
     obtain⟨x,xs,rfl,r1,r2⟩:=r.cj;have ht:(t d δ).bind (λfg=>u ds fg)=some fg:=ht
     cases e1:t d δ with
     | none=>rw [e1] at ht;cases ht
     | some δ1=>
       rw[e1] at ht;exact⟨x,xs,rfl,ρ,S,δ,d,δ1,E,r1,e1,λWe H1 s1 E1=>⟨ρ,S,δ1,ds,fg,E1,r2.pre$ Pre.same s1,ht,λB0 H2 s2 E2=>q B0 H2 (s1.trans s2) E2⟩⟩⟩
noncomputable def zh(n:Nat)(t:NZ):FG:=λd δ=>match d with
 | .d (.tup ds)=>if ds.length=n then t (ds.map .d) δ else none
 | .tup vs=>if vs.length=n then t vs δ else none
 | _=>none
def dm{k:Nat}{t:NZ}{n:Nat}{pos:Pos}(h:O8 X cl es t)(hn:(assignEach es X.env).length=n:=by rfl)(Jl:(assignEach es X.env).findIdx? (·.1)=none:=by rfl)(hc:X.calm=true:=by rfl):Q9 X cl (.Tuple es k pos) (zh n t):=
 ⟨(Lv hc h.1 hn Jl).imp λv σ H Q ⟨ρ,S,δ,d,fg,E,r,ht,q⟩=>by
   have key:∃vs a xs,v= .ref a/\Ac X.K ρ.b H a xs/\aR X.K ρ H vs xs/\vs.length=n/\t vs δ=some fg:=by
    unfold zh at ht;split at ht
    .rename_i ds;split at ht
     .rename_i hl;unfold bE Rep at r;obtain⟨a,xs,e,l,r⟩:=r;exact⟨ds.map .d,a,xs,e,l,aR.of r,by rw[Qaa];exact hl,ht⟩
     .cases ht
    .rename_i vs;split at ht
     .rename_i hl;unfold bE at r;obtain⟨a,xs,e,l,r⟩:=r;exact⟨vs,a,xs,e,l,r,hl,ht⟩
     .cases ht
    .cases ht
   obtain⟨vs,a,xs,rfl,l,r,hl,ht⟩:=key;exact⟨a,xs,rfl,l.sq,by rw[<-r.length];exact hl,ρ,S,δ,vs,fg,E,r,ht,q⟩⟩
def OQ(f:FX)(t:FG):FZ:=λδ S=>(f δ S).bind λd S=>match t d δ with | some fg=> .ok (.nx fg) S | none=> .no
def Kq{tg e:Expr}{f:FX}{t:FG}{pos:Pos}(he:PX X cl e f)(hg:Q9 X cl tg t)(hs:swapsWithSole [tg] e pos.line X.env=pure false:=by rfl)(hw:swappedStores [tg] e X.env=pure none:=by rfl)
 (h1:(assignEach [tg] X.env).map (·.2)=[assign tg X.env]:=by rfl):PZ X cl (.Assign [tg] e pos) (OQ f t):=⟨(Lh he.1 hg.1 hs hw h1).imp λD σ H ⟨ρ,S,δ,o,S',E,hf,q⟩=>by
 obtain⟨d,S1,h1,h2⟩:=R3.ao hf;split at h2
 .rename_i δ1 e1;cases h2;exact⟨ρ,S,δ,d,_,E,h1,λv dg H1 p1 w1 r1=>⟨dg,_,δ,d,δ1,E.to p1 w1,r1,e1,λdN H2 s2 E2=>q dN dg H2 (p1.trans$ Pre.same s2) E2⟩⟩
 .cases h2⟩
noncomputable def pf(t:FG)(body:FZ):List V3->FZ
 | [],δ,S=> .ok (.nx δ) S
 | d ::ds,δ,S=>match t d δ with
   | none=> .no
   | some δ1=>(body δ1 S).bind λo S=>match o with | .nx c_=>pf t body ds c_ S | .rt r=> .ok (.rt r) S
def gP(it:FA)(t:FG)(body:FZ):FZ:=λδ S=>(it δ S).bind λvs S=>pf t body vs δ S
def cJ{pos:Pos}(hi:UE X cl tg iter it)(hg:Q9 X cl tg t)(hb:G2 X cl body F)(hs:∀x,foldedSetIterable iter X.env x=pure x:=by intro _;rfl)(hp:PassesOwn (model X.prog X.w) X.A X.env X.xe:=by exact PassesOwn.never)(hc:X.calm=true:=by rfl):PZ X cl (.For tg iter body [] pos) (gP it t F):=⟨(L4 hp hc hi.1 hg.1 hb.1 hs).imp λD σ H ⟨ρ,S,δ,o,S',E,hf,q⟩=>by
 obtain⟨ds,S0,h1,h2⟩:=R3.ao hf;refine⟨ρ,S,δ,ds,S0,E,h1,λJ dg H1 p1 w1 ir=>?_⟩
 refine⟨λi m dN H'=>m=ds.length - i/\i<=ds.length/\∃dw S1 fg,Pre dg H1 dw H'/\gh X.K cl dw H' S1 dN fg/\pf t F (ds.drop i) fg S1= .ok o S',⟨ds.length,rfl,QbE _,dg,S0,δ,Pre.refl dg H1,E.to p1 w1,by simpa using h2⟩,?_⟩
 rintro i m dN H' ⟨rfl,hi,dw,S1,fg,pv,E',hl⟩;obtain⟨go,stop⟩:=ir dw H' pv.pw E'.sw.bs;by_cases hlt:i<ds.length
 .have hd:ds[i]? =some ds[i]:=Qab hlt;have hdrop:ds.drop i=ds[i] ::ds.drop (i+1):=QbF hlt;rw[hdrop] at hl;unfold pf at hl;split at hl
  .cases hl
  .rename_i δ1 h3;obtain⟨o1,S2,h5,h6⟩:=R3.ao hl;obtain⟨g1,g2⟩:=go i _ hd;refine .inr ⟨g1,λB0 H2=>∃uL S2 c_,Pre dg H1 uL H2/\gh X.K cl uL H2 S2 B0 c_/\pf t F (ds.drop$ i+1) c_ S2= .ok o S',λB0 H2 n=>⟨ds.length - (i+1),by omega,rfl,hlt,n⟩,λx qX y=>?_⟩
   obtain⟨ss,rr⟩:=g2 x qX y;refine⟨dw,S1,fg,ds[i],δ1,E'.same ss,rr,h3,λB0 H2 s2 E2=>⟨dw,S1,δ1,o1,S2,E2,h5,?_⟩⟩
   have pv2:Pre dg H1 dw H2:=pv.trans$ Pre.same$ ss.trans s2;cases o1 with
   | nx c_=>exact λPh Mu H3 p3 E3=>⟨Mu,S2,c_,pv2.trans p3,E3,h6⟩
   | rt d=>
     cases h6;exact λv Mu H3 p3 w r=>q v Mu H3 (p1.trans$ pv2.trans p3) w r
 .have e:i=ds.length:=by omega
  subst e;rw[QcA] at hl;cases hl;exact .inl ⟨stop,q dN dw H' (p1.trans pv) E'⟩⟩
end
mutual
noncomputable def Dp(n:Nat):V3->Bool
 | .d _=>true
 | .loc k=>decide$ k<n
 | .lst vs=>t5 n vs
 | .tup vs=>t5 n vs
 | .fn _=>true
noncomputable def t5(n:Nat):List V3->Bool
 | []=>true
 | v ::vs=>Dp n v && t5 n vs
end
def Dt(n:Nat):SO->Bool
 | .ins _ fs=>t5 n$ fs.map (·.2)
 | _=>true
def OP{ρ:P3}{n:Nat}{b:Addr}(h:b∈(ρ.cut n).b):b∈ρ.b:=by
 rcases P3.dH.mp h with z | z
 .exact P3.dH.mpr (.inl ⟨Qbr z.1,z.2⟩)
 .exact P3.dH.mpr (.inr z)
def ll{ρ:P3}(n:Nat):dR ρ.b H (ρ.cut n).b H:=λb o e nb=>⟨e,λhb=>nb$ OP hb⟩
mutual
theorem bE.cut{K:Qdf}{ρ:P3}{n:Nat}:∀{v:V3} {x:V},Dp n v=true->bE K ρ H v x->bE K (ρ.cut n) H v x
 | .fn y,x,_,h=>by unfold bE at h ⊢;exact h
 | .d y,x,_,h=>by unfold bE at h ⊢;exact h.bG$ ll n
 | .loc k,x,o,h=>by
   unfold bE at h ⊢;unfold Dp at o;obtain⟨a,h1,h2⟩:=h;exact⟨a,by show(ρ.r.take n)[k]? =_;rw [QbG$ Qal o];exact h1,h2⟩
 | .lst vs,x,o,h=>by
   unfold bE at h ⊢;unfold Dp at o;obtain⟨a,xs,e,l,r⟩:=h;exact⟨a,xs,e,l.bG$ ll n,aR.cut o r⟩
 | .tup vs,x,o,h=>by
   unfold bE at h ⊢;unfold Dp at o;obtain⟨a,xs,e,l,r⟩:=h;exact⟨a,xs,e,Ac.bG (ll n) l,aR.cut o r⟩
theorem aR.cut{K:Qdf}{ρ:P3}{n:Nat}:∀{vs:List V3} {xs:List V},t5 n vs=true->aR K ρ H vs xs->aR K (ρ.cut n) H vs xs
 | [],_,_,h=>by unfold aR at h ⊢;exact h
 | v ::vs,xs,o,h=>by
   unfold t5 at o;obtain⟨o1,o2⟩:=Qbc.mp o;obtain⟨x,r,rfl,h1,h2⟩:=h.cj;exact aR.cons (bE.cut o1 h1)$ aR.cut o2 h2
end
def SW.cut{K:Qdf}{cl:Aag}{ρ:P3}{S:bp}(w:SW K cl ρ H S){n:Nat}(ok:(S.take n).all (Dt n)=true):SW K cl (ρ.cut n) H (S.take n):=
 ⟨by show(ρ.r.take n).length=_;rw [QaB,QaB,w.len],λi j a hi hj=>by
   have hi:(ρ.r.take n)[i]? =some a:=hi;have hj:(ρ.r.take n)[j]? =some a:=hj;have gi:ρ.r[i]? =some a:=by
    rw[Qbz] at hi;split at hi
    .exact hi
    .cases hi
   have gj:ρ.r[j]? =some a:=by
    rw[Qbz] at hj;split at hj
    .exact hj
    .cases hj
   exact w.nd i j a gi gj,λk a o hk ho=>by
   have hk:(ρ.r.take n)[k]? =some a:=hk;have gk:ρ.r[k]? =some a:=by
    rw[Qbz] at hk;split at hk
    .exact hk
    .cases hk
   have go:S[k]? =some o:=by
    rw[Qbz] at ho;split at ho
    .exact ho
    .cases ho
   have r:=w.ob k a o gk go;have oo:Dt n o=true:=Qbq.mp ok o$ Qap ho;cases o with
   | lst ds=>obtain⟨xs,e,q⟩:=r;exact⟨xs,e,q.bG$ ll n⟩
   | dct kvs=>obtain⟨ys,e,e2,q⟩:=r;exact⟨ys,e,e2,q.bG$ ll n⟩
   | ins c fs=>obtain⟨dx,ys,e,e2,q⟩:=r;exact⟨dx,ys,e,e2,q.cut oo⟩
   | exc c=>exact r
   | fm=>exact r,λb hb=>let⟨h1,h2⟩:=w.zb b hb;⟨h1,λh=>h2$ Qbr h⟩,(λk a hk ho=>by
   have hk:(ρ.r.take n)[k]? =some a:=hk;rw[Qbz] at hk;split at hk
   .rename_i hlt;rw[QbG hlt] at ho;exact w.fz k a hk ho
   .cases hk),w.ff,(λk a hk ho=>by
   have hk:(ρ.r.take n)[k]? =some a:=hk;rw[Qbz] at hk;split at hk
   .rename_i hlt;rw[QbG hlt] at ho;exact w.fi k a hk ho
   .cases hk)⟩
def SW.RG{K:Qdf}{cl:Aag}{ρ dw:P3}{n:Nat}(hn:ρ.r.length<=n)(p:Pre ρ H dw H'):Pre ρ H (dw.cut n) H':=
 ⟨p.bG.trans$ ll n,p.zz,p.zs,λk a h=>by show(dw.r.take n)[k]? =_;rw [QbG$ QaP (Qae.mp h).1 hn];exact p.ext k a h⟩
section
variable {X:Cx}{cl:Aag}
noncomputable def dz(S:bp)(k:Nat):Option (List D):=match S[k]? with | some (.lst ds)=>some ds | _=>none
def gR{S:bp}{k:Nat}{ds:List D}(h:dz S k=some ds):S[k]? =some (.lst ds):=by
 unfold dz at h;split at h
 .rename_i e;cases h;exact e
 .cases h
noncomputable def iu(δ:DE)(i:Nat):Option Nat:=match δ[i]? with | some (some$ .loc k)=>some k | _=>none
def iU{δ:DE}{i k:Nat}(h:iu δ i=some k):δ[i]? =some (some$ .loc k):=by
 unfold iu at h;split at h
 .rename_i e;cases h;exact e
 .cases h
def jY(i:Nat)(f:FX):FZ:=λδ S=>match iu δ i with
 | none=> .no
 | some k=>match dz S k with
   | none=> .no
   | some _=>(f δ S).bind λv S1=>match v with
     | .d d=>(match dz S1 k with | some ds=>R3.bH (decide$ ds.length<sizeLine) (.ok (.nx δ)$ S1.set k$ .lst$ ds++[d]) | none=> .no)
     | _=> .no
def fq{i:Nat}{x:Str}{e:Expr}{f:FX}{eD apos cH pos:Pos}(he:PX X cl e f)(hd:(x==("__debug__":Str))=false:=by decide)(tT:(x==("__classdict__":Str))=false:=by decide)(hs:starEach [e] X.env=(false,eval e X.env) ::starEach [] X.env:=by rfl)(lz:(apos.endLine==cH.line)=true:=by rfl)(rQ:((backTo cH$ starEach [e] X.env).all (λx=>!x.1) && (backToKw cH$ keywordEach [] X.env).all (λx=>x.1.isSome)
 && decide (([e]:List Expr).length+([]:List Keyword).length+(if([]:List Keyword).isEmpty then 0 else 1)<30))=true:=by rfl) (yw:swapsWith (.Call (.Attribute (.Name x eD) "append" apos) [e] [] cH) none pos.line X.env=pure false:=by rfl) (lC:attributeBase (.Name x eD) "append" X.env (eval (.Name x eD) X.env)=eval (.Name x eD) X.env:=by rfl) (hN:X.N[i]? =some x:=by rfl) (hv:Jr X.env.scope x:=by first | exact Or.inl rfl | exact Or.inr Qdc | exact Or.inr (Or.inr rfl)) :
 PZ X cl (.Expr (.Call (.Attribute (.Name x eD) "append" apos) [e] [] cH) pos) (jY i f):=by
 refine⟨(tK (GP (X:=X) QbZ Qc8 Qc9 ui (q8 hN hv hd tT) (dq he.1 f9 hs) lC rQ lz hs) yw).imp λD σ H ⟨ρ,S,δ,o,S',E,hf,q⟩=>?_⟩
 unfold jY at hf;split at hf
 .cases hf
 .rename_i k hk;split at hf
  .cases hf
  .rename_i ds0 h0;obtain⟨v,S1,h1,h2⟩:=R3.ao hf;split at h2
   .rename_i d;split at h2
    .rename_i ds h3;obtain⟨hl,h4⟩:=R3.bj h2;cases h4;obtain⟨u,u1,u2⟩:=E.val i _$ iU hk;unfold bE at u2;obtain⟨a,a1,rfl⟩:=u2;obtain⟨xs0,x0,_⟩:=E.sw.ob k a _ a1$ gR h0;refine⟨.ref a,u1, .inl ⟨rfl,xs0,qT.of x0⟩,⟨ρ,S,δ, .d d,S1,E,h1,λy dg H1 p1 w1 r1=>?_⟩⟩
     have b1:=p1.ext k a a1;obtain⟨xs,x1,x2⟩:=w1.ob k a _ b1$ gR h3;refine⟨a,xs,y,rfl,rfl,x1,by rw[<-x2.length];exact Qal hl,?_⟩
     unfold bE at r1;obtain⟨w2,p2⟩:=w1.put (o:= .lst$ ds++[d]) (u:= .lst$ xs++[y]) b1 (w1.fz k a b1$ by rw[gR h3];intro h;cases h) ⟨xs++[y],rfl,x2.append$ aI.cons r1 aI.nil⟩
     exact q σ dg _ (p1.trans p2)$ E.to (p1.trans p2) w2
    .cases h2
   .cases h2
def NB(fo fi fe:FX):FZ:=λδ S=>(fe δ S).bind λv S1=>(fo δ S1).bind λo S2=>(fi δ S2).bind λj S3=>match v,o,j with
 | .d d, .loc k, .d (.int n)=>(match dz S3 k with
   | some ds=>(match Eg ds.length n with | some m=> .ok (.nx δ) (S3.set k$ .lst$ ds.set m d) | none=> .no)
   | none=> .no)
 | _,_,_=> .no
def LR(K:Qdf)(cl:Aag)(n:Nat)(g:List V3->bp->R3 V3):Sp:=λvs H Q _=>vs.length=n/\∃ρ S xs v S',SW K cl ρ H S/\aR K ρ H xs vs/\g xs S= .ok v S'/\∀u dw H',Pre ρ H dw H'->SW K cl dw H' S'->bE K dw H' v u->Q u H'
def eW(g:List V3->bp->R3 V3)(fs:FA):FX:=λδ S=>(fs δ S).bind g
def bU(P:Program)(w:World)(K:Qdf)(mg:Aaf)(base:Heap)(cl:Aag)(k:Nat)(x:Str)(n:Nat)(g:List V3->bp->R3 V3):Prop:=
 ∃(f:Addr) (fd:FuncData) (ps:List Str),jW P w K mg base xu k f fd ps (LR K cl n g)/\mg x=some (.ref f)/\PySem.W.keepIn K (.ref f)=true/\Binds K fd ps []
def cM{g:List V3->bp->R3 V3}{k j n:Nat}{p pos:Pos}(C:bU X.prog X.w X.K X.mg X.base cl k x n g)(ha:NY X cl (e ::es) fs)(uQ:(x==("__debug__":Str))=false:=by decide)(he:starEach (e ::es) X.env=(false,eval e X.env) ::starEach es X.env:=by rfl)(j_:(backTo pos$ starEach es X.env).any (·.1)=false:=by rfl)(hr:eU j X.A:=by assumption)(hkj:k<=j:=by decide)(hg:Gl X x:=by rfl)(hn:∀δ S ds S',fs δ S= .ok ds S'->ds.length=n:=by(repeat apply e_);exact lu) :
 PX X cl (.Call (.Name x p) (e ::es) [] pos) (eW g fs):=by
 obtain⟨f,fd,ps,F,hm,hk,hb⟩:=C;refine⟨(BH F (hr.mono hkj) hg hm hk hb .nil C7 ha.1 uQ he j_).imp λσ H Q ⟨ρ,S,δ,v,S',E,hf,q⟩=>?_⟩
 obtain⟨vs,S1,h1,h2⟩:=R3.ao hf;refine⟨ρ,S,δ,vs,S1,E,h1,λus dg H1 p1 w1 r1=>?_⟩
 show LR X.K cl n g (us++[]) H1 Q E0;rw[QaV];exact⟨by rw[<-r1.length];exact hn δ S vs S1 h1,dg,S1,vs,v,S',w1,r1,h2,λz uL H2 p2 w2 r2=>q z uL H2 (p1.trans p2) w2 r2⟩
end
noncomputable def dn(N:List Str)(vs:List V3):DE:=vs.map some++List.replicate (N.length - vs.length) none
def LV{K:Qdf}{cl:Aag}{S:bp}{N:List Str}{ds:List V3}{vs:List V}(w:SW K cl ρ H S)(r:aR K ρ H ds vs):gh K cl ρ H S (L2.start N vs) (dn N ds) where
 len:=by unfold L2.start dn;simp [r.length]
 sw:=w
 val:=λi d e=>by
  unfold dn at e;unfold L2.start;by_cases hi:i<ds.length
  .rw [Qax (by simpa using hi),Qac] at e
   cases q:ds[i]? with
   | none=>rw [q] at e;cases e
   | some d'=>
     rw[q] at e;cases e;obtain⟨x,h1,h2⟩:=r.get q;exact⟨x,by rw[Qax (by rw[Qaa,<-r.length];exact hi),Qac,h1];rfl,h2⟩
  .rw [Qaj (by simpa using hi),Qa5] at e
   split at e <;> cases e
def qw(N:List Str)(F:FZ):List V3->bp->R3 V3:=λvs S=>(F (dn N vs) S).bind λo S'=>match o with | .rt v=> .ok v S' | .nx _=> .ok (.d .cY) S'
def tV(N:List Str)(F:FZ):List V3->bp->R3 V3:=λvs S=>(qw N F vs S).bind λv S'=>match res S' v with
 | some d=>R3.bH ((S'.take S.length).all (Dt S.length) && iA S.length v)$ .ok (.d d)$ S'.take S.length
 | none=> .no
def NI{P:Program}{w:World}{K:Qdf}{mg:Aaf}{base:Heap}{cl:Aag}{x qual:Str}{st:Stmt}{f:Addr}{fd:FuncData}{N ps:List Str}{k:Nat}{F:FZ}(Fn:Gq K x qual st f fd)(S:aW N ps (aF st))
 (jJ:∀(gZ:Value) (A:Around) (outer:List Env) (s:Qdg) (H:Hp) (E:XK),eU k (A.deeper$ envOfC qual (aF st) s.heap.objs.size f gZ)->
   G2 (uI xu P w K mg base N qual (aF st) f gZ A outer s H E).KA cl (aN st) F):jW P w K mg base xu (k+1) f fd ps (LR K cl ps.length$ qw N F):=by
 refine Fn.ok S (λvs H Q E h=>h.1)$ λgZ A outer s H vs Q E hr h=>⟨_,(jJ gZ A outer s H E hr).1,?_⟩
 obtain⟨_,ρ,S,ds,v,S',w,r,hg,q⟩:=h;obtain⟨o,S1,h1,h2⟩:=R3.ao hg;refine⟨ρ,S,dn N ds,o,S1,LV w r,h1,?_⟩;cases o with
 | nx fg=>
   cases h2;exact λdN dw H' p' E'=>q _ dw H' p' E'.sw (by unfold bE Rep;rfl)
 | rt d'=>
   cases h2;exact λu dw H' p' w' r'=>q u dw H' p' w' r'
def EC{K:Qdf}{cl:Aag}{N:List Str}{n:Nat}{vs:List V}{Q:VK}{E:XK}(h:LR K cl n (tV N F) vs H Q E):LR K cl n (qw N F) vs H Q E:=by
 obtain⟨hl,ρ,S,xs,v,S',w,r,hg,q⟩:=h;obtain⟨v1,S1,h1,h2⟩:=R3.ao hg;refine⟨hl,ρ,S,xs,v1,S1,w,r,h1,λu dg H1 p1 w1 r1=>?_⟩
 have pc:Pre ρ H (dg.cut S.length) H1:=SW.RG (K:=K) (cl:=cl) (by rw[w.len];exact Qak _) p1
 split at h2
 .rename_i d e;obtain⟨ok,h3⟩:=R3.bj h2;obtain⟨ok,hk⟩:=Qbc.mp ok;cases h3;refine q u _ H1 pc (w1.cut ok) ?_;unfold bE;refine r1.resB w1 (ll _) (λk a hk a1 ha=>?_) hk e
  rcases P3.dH.mp ha with⟨z,_⟩ | z
  .obtain⟨j,hj⟩:=QbH z;have hj:(dg.r.take S.length)[j]? =some a:=hj;rw[Qbz] at hj;split at hj
   .rename_i hjl;have:=w1.nd j k a hj a1;omega
   .cases hj
  .exact(w1.zb a z).2 (Qap a1)
 .cases h2
end L3
end
section
namespace L3
open PySem PySem.Spec PyProof.Rows L2
theorem aI.setAt{K:Qdf}{ρ:P3}:∀{ds:List D} {xs:List V} {m:Nat} {d:D} {v:V},aI K ρ.b H ds xs->Rep K ρ.b H d v->aI K ρ.b H (ds.set m d) (xs.set m v)
 | [],_,_,_,_,h,_=>by unfold aI at h;subst h;exact aI.nil
 | e ::ds,xs,0,d,v,h,r=>by
   obtain⟨x,r',rfl,h1,h2⟩:=h.cj;exact aI.cons r h2
 | e ::ds,xs,m+1,d,v,h,r=>by
   obtain⟨x,r',rfl,h1,h2⟩:=h.cj;exact aI.cons h1$ aI.setAt h2 r
section
variable {X:Cx}{cl:Aag}
def LM{o i e:Expr}{fo fi fe:FX}{mw pos:Pos}(he:PX X cl e fe)
 (hg:PG X (.Subscript o i mw) (Vx (tX X.K cl fo) (tX X.K cl fi) Pr))
 (hs:swapsWithSole [.Subscript o i mw] e pos.line X.env=pure false:=by rfl) (hw:swappedStores [.Subscript o i mw] e X.env=pure none:=by rfl)
 (h1:(assignEach [.Subscript o i mw] X.env).map (·.2)=[assign (.Subscript o i mw) X.env]:=by rfl):PZ X cl (.Assign [.Subscript o i mw] e pos) (NB fo fi fe):=⟨(Lh he.1 hg hs hw h1).imp λD σ H ⟨ρ,S,δ,ou,S',E,hf,q⟩=>by
 obtain⟨v,S1,h1,h2⟩:=R3.ao hf;obtain⟨vo,S2,h3,h4⟩:=R3.ao h2;obtain⟨vi,S3,h5,h6⟩:=R3.ao h4;split at h6
 .rename_i d k n;split at h6
  .rename_i ds hds;split at h6
   .rename_i m hm;cases h6;refine⟨ρ,S,δ, .d d,S1,E,h1,λu dg H1 p1 w1 r1=>⟨dg,S1,δ, .loc k,S2,E.to p1 w1,h3,λu2 uL H2 p2 w2 r2=>⟨uL,S2,δ, .d$ .int n,S3,(E.to p1 w1).to p2 w2,h5,λu3 Mu H3 p3 w3 r3=>?_⟩⟩⟩
    unfold bE at r2;obtain⟨a,a1,rfl⟩:=r2;have a3:=p3.ext k a a1;obtain⟨xs,x1,x2⟩:=w3.ob k a _ a3$ gR hds;unfold bE Rep at r3;have tS:=r1.pre$ p2.trans p3;unfold bE at tS;obtain⟨w4,p4⟩:=w3.put (o:= .lst$ ds.set m d) (u:= .lst$ xs.set m u) a3 (w3.fz k a a3$ by rw[gR hds];intro h;cases h) ⟨xs.set m u,rfl,aI.setAt x2 tS⟩
    exact⟨a,xs,n,m,rfl,r3,x1,by rw[<-x2.length];exact hm,q σ Mu _ (((p1.trans p2).trans p3).trans p4)$ E.to (((p1.trans p2).trans p3).trans p4) w4⟩
   .cases h6
  .cases h6
 .cases h6⟩
noncomputable def kX(δ:DE)(i:Nat):Option V3:=match δ[i]? with | some (some v)=>some v | _=>none
def o5(own:List Str)(kp:List Nat)(δ:DE):DE:=List.replicate own.length none++kp.map (kX δ)
def MY{K:Qdf}{S S':bp}{σ:L2.St}{δ:DE}{own:List Str}{kp:List Nat}(E:gh K cl ρ H S σ δ)(p:PW ρ H dw H')(w:SW K cl dw H' S'):gh K cl dw H' S' (d5 own kp σ) (o5 own kp δ) where
 len:=by unfold d5 o5;simp
 sw:=w
 val:=λi d e=>by
  unfold o5 at e;unfold d5;by_cases hi:i<own.length
  .rw [Qax (by simpa using hi),Qa5] at e
   split at e <;> cases e
  .rw [Qaj (by simpa using hi),Qba,Qac] at e ⊢
   cases q:kp[i - own.length]? with
   | none=>rw [q] at e;cases e
   | some j=>
     rw[q] at e;have e:kX δ j=some d:=QaW e;unfold kX at e;split at e
     .rename_i d' ed;cases e;obtain⟨v,h1,h2⟩:=E.val j d ed;exact⟨v,by simp [h1],h2.pw p⟩
     .cases e
noncomputable def pP(t:FG)(c:FB)(f:FX)(δ:DE):List V3->bp->R3 (List V3)
 | [],S=> .ok [] S
 | v ::vs,S=>match t v δ with
   | none=> .no
   | some δ1=>(c δ1 S).bind λb S1=>if b then(f δ1 S1).bind λy S2=>(pP t c f δ vs S2).bind λys S3=> .ok (y ::ys) S3 else pP t c f δ vs S1
def jv(it:FA)(t:FG)(c:FB)(f:FX)(own:List Str)(kp:List Nat):FX:=λδ S=>(it δ S).bind λvs S1=>R3.bH (decide$ vs.length<=sizeLine)$ (pP t c f (o5 own kp δ) vs S1).bind λys S2=> .ok (wt ys) S2
theorem aR.append{K:Qdf}:∀{ds es:List V3} {xs ys:List V},aR K ρ H ds xs->aR K ρ H es ys->aR K ρ H (ds++es) (xs++ys)
 | [],_,_,_,h,t=>by unfold aR at h;subst h;exact t
 | d ::ds,es,xs,ys,h,t=>by
   obtain⟨x,r,rfl,h1,h2⟩:=h.cj;exact aR.cons h1$ aR.append h2 t
def He{K:Qdf}{own:List Str}{kp:List Nat}{σ:L2.St}{Q:VK}(h:tX K cl (jv it t c f own kp) σ H Q) :
 Gn (Y_ K cl it) (gX K cl t) (QC K cl c) (tX K cl f) own kp σ H Q:=by
 obtain⟨ρ,S,δ,v,SF,E,hf,q⟩:=h;obtain⟨es,S1,h1,h2⟩:=R3.ao hf;obtain⟨hl,h3⟩:=R3.bj h2;have hl:=Qal hl;obtain⟨vs,S2,h4,h5⟩:=R3.ao h3;cases h5;refine⟨ρ,S,δ,es,S1,E,h1,λJ dg H1 p1 w1 ir Dd hD=>?_⟩
 have nDz:Dd ∉ dg.b:=λhb=>by obtain⟨o,ho⟩:=w1.bs Dd hb;rw [hD] at ho;cases ho
 have nDr:Dd ∉ dg.r:=λhb=>by obtain⟨o,ho⟩:=w1.rs Dd hb;rw [hD] at ho;cases ho
 have toZ:∀{r' f':List Addr} {H':Hp},Pre dg H1 ⟨r',dg.z,f'⟩ H'->PW dg H1 ⟨r',Dd ::dg.z,f'⟩ H':=fun {r' f' H'} p=>⟨λb o e nb=>⟨(p.bG b o e nb).1,λhb=>by
  rcases P3.dH.mp hb with z | z
  .exact(p.bG b o e nb).2 (P3.dH.mpr$ .inl z)
  .rcases QaE.mp z with y | y
   .exact cG e hD y
   .exact(p.bG b o e nb).2 (P3.dH.mpr$ .inr y)⟩,p.ext⟩
 have w0:SW K cl ⟨dg.r,Dd ::dg.z,dg.f⟩ (upd H1 Dd$ .lst []) S1:=by
  have s0:bo H1 (upd H1 Dd$ .lst []):=aU hD;have ws:=w1.same s0;refine⟨ws.len,ws.nd,λk a o hk ho=>?_,λb hb=>?_,ws.fz,ws.ff,ws.fi⟩
  .have r:=w1.ob k a o hk ho;obtain⟨u,hu⟩:=r.some;rw[s0 a u hu,<-hu];exact r.pw$ toZ$ Pre.same s0
  .rcases QaE.mp hb with y | y
   .subst y;exact⟨⟨_,bh⟩,nDr⟩
   .exact ws.zb b y
 refine⟨λi m ys H'=>m=es.length - i/\i<=es.length/\ys.length<=i/\H' Dd=some (.lst ys)/\∃r' f' S' done rest,Pre dg H1 ⟨r',dg.z,f'⟩ H'/\SW K cl ⟨r',Dd ::dg.z,f'⟩ H' S'/\vs=done++rest/\aR K ⟨r',Dd ::dg.z,f'⟩ H' done ys/\pP t c f (o5 own kp δ) (es.drop i) S'= .ok rest SF,
  ⟨es.length,rfl,QbE _,Qak _,bh,dg.r,dg.f,S1,[],vs,Pre.same$ aU hD,w0,rfl,aR.nil,by simpa using h4⟩,?_⟩
 rintro i m ys H' ⟨rfl,hi,hy,hDl,r',f',S',done,rest,pv,w',rfl,rd,hc⟩;obtain⟨go,stop⟩:=ir ⟨r',Dd ::dg.z,f'⟩ H' (toZ pv) w'.bs;have unZ:∀{Qn:P3} {H4:Hp},Pre ⟨r',Dd ::dg.z,f'⟩ H' Qn H4->Pre dg H1 ⟨Qn.r,dg.z,Qn.f⟩ H4:=fun {Qn H4} p4=>⟨λb o e nb=>by
  obtain⟨e1,n1⟩:=(toZ pv).bG b o e nb;obtain⟨fG,n2⟩:=p4.bG b o e1 n1;refine⟨fG,λhb=>n2 ?_⟩
  rcases P3.dH.mp hb with z | z
  .exact P3.dH.mpr (.inl z)
  .exact P3.dH.mpr (.inr$ by rw[p4.zz];exact Qad _ z),rfl,λb o hb h=>p4.zs b o (Qad _ hb)$ pv.zs b o hb h,λk a h=>p4.ext k a$ pv.ext k a h⟩
 by_cases hlt:i<es.length
 .have hd:es[i]? =some es[i]:=Qab hlt;have hdrop:es.drop i=es[i] ::es.drop (i+1):=QbF hlt;rw[hdrop] at hc;unfold pP at hc;split at hc
  .cases hc
  .rename_i δ1 h6;obtain⟨b,T1,h7,h8⟩:=R3.ao hc;obtain⟨g1,g2⟩:=go i _ hd;refine .inr ⟨g1,λx H2 y=>?_⟩
   obtain⟨sy,ry⟩:=g2 x H2 y;have Ec:gh K cl ⟨r',Dd ::dg.z,f'⟩ H2 S' (d5 own kp σ) (o5 own kp δ):=MY E (p1.pw.trans$ (toZ pv).trans (Pre.same sy).pw)$ w'.same sy;refine⟨⟨r',Dd ::dg.z,f'⟩,S',o5 own kp δ,es[i],δ1,Ec,ry,h6,λPh H3 s3 E3=>⟨⟨r',Dd ::dg.z,f'⟩,S',δ1,b,T1,E3,h7,λQn H4 p4 w4=>?_⟩⟩
   have V5:Pre ⟨r',Dd ::dg.z,f'⟩ H' Qn H4:=(Pre.same$ sy.trans s3).trans p4;cases b with
   | true=>
     rw[QaK rfl] at h8;refine OY ?_;obtain⟨yv,T2,h9,YB⟩:=R3.ao h8;obtain⟨rs,T3,Ti,TF⟩:=R3.ao YB;cases TF;refine⟨Qn,T1,δ1,yv,T2,E3.to p4 w4,h9,λv5 ZF H5 p5 w5 r5=>?_⟩
     have pv5:Pre ⟨r',Dd ::dg.z,f'⟩ H' ZF H5:=V5.trans p5;have YH:H5 Dd=some (.lst ys):=pv5.zs Dd _ Qan hDl;have u5:=unZ pv5;obtain⟨WH,z5,f5⟩:=ZF;have ez:z5=Dd ::dg.z:=pv5.zz;subst ez;have nr:Dd ∉ WH:=(w5.zb Dd Qan).2;have pw:PW ⟨WH,Dd ::dg.z,f5⟩ H5 ⟨WH,Dd ::dg.z,f5⟩ (upd H5 Dd$ .lst$ ys++[v5]):=⟨λb o e nb=>⟨by rw[bA$ λ(z:b=Dd)=>nb$ by rw[z];exact P3.dH.mpr$ .inr Qan];exact e,nb⟩,λ_ _ h=>h⟩
     refine⟨YH,by omega,es.length - (i+1),by omega,rfl,hlt,by rw[Qai,Qb7];omega,bh,WH,f5,T2,done++[yv],rs,?_,?_,by simp,aR.append ((rd.pre pv5).pw pw)$ aR.cons (r5.pw pw) aR.nil,Ti⟩
     .refine⟨λb o e nb=>⟨by rw[bA$ cG e hD];exact(u5.bG b o e nb).1,(u5.bG b o e nb).2⟩,rfl,λb o hb h=>?_,u5.ext⟩
      rw[bA$ cG h hD];exact u5.zs b o hb h
     .refine⟨w5.len,w5.nd,λk a o hk ho=>?_,λb hb=>?_,w5.fz,λb hb=>?_,w5.fi⟩
      .have ne:a≠Dd:=λz=>nr (by rw[<-z];exact Qap hk)
       rw[bA ne];exact(w5.ob k a o hk ho).pw pw
      .obtain⟨⟨o,ho⟩,n⟩:=w5.zb b hb;refine⟨?_,n⟩;by_cases z:b=Dd
       .subst z;exact⟨_,bh⟩
       .rw [bA z];exact⟨o,ho⟩
      .obtain⟨o,ho⟩:=w5.ff b hb;by_cases z:b=Dd
       .subst z;exact⟨_,bh⟩
       .rw [bA z];exact⟨o,ho⟩
   | false=>
     rw[QaH$ by decide] at h8
     refine OI ?_;have hD4:H4 Dd=some (.lst ys):=V5.zs Dd _ Qan hDl;have u4:=unZ V5;obtain⟨r4',z4,f4⟩:=Qn;have ez:z4=Dd ::dg.z:=V5.zz;subst ez;exact⟨es.length - (i+1),by omega,rfl,hlt,by omega,hD4,r4',f4,T1,done,rest,u4,w4,rfl,rd.pre V5,h8⟩
 .have e:i=es.length:=by omega
  subst e;rw[QcA] at hc;cases hc;rw[QaV] at q;refine .inl ⟨stop,?_⟩;have back:PW ⟨r',Dd ::dg.z,f'⟩ H' ⟨r',dg.z,f'⟩ H':=⟨λb o e nb=>⟨e,λhb=>nb (by
   rcases P3.dH.mp hb with z | z
   .exact P3.dH.mpr (.inl z)
   .exact P3.dH.mpr (.inr$ Qad _ z))⟩,λ_ _ h=>h⟩
  have wB:SW K cl ⟨r',dg.z,f'⟩ H' _:=⟨w'.len,w'.nd,λk a o hk ho=>(w'.ob k a o hk ho).pw back,λb hb=>w'.zb b$ Qad _ hb,w'.fz,w'.ff,w'.fi⟩
  refine q _ ⟨r',dg.z,f'⟩ H' (p1.trans pv) wB$ zB (.inl ⟨λhb=>?_, .inl hDl⟩)$ rd.pw back
  rcases P3.dH.mp hb with z | z
  .exact(w'.zb Dd Qan).2 z.1
  .exact nDz (P3.dH.mpr$ .inr z)
end
section
variable {X:Cx}{cl:Aag}
def NR{own:List Str}{kp:List Nat}{pos:Pos}(hi:UE X cl tg iter it)(hg:∀fp s H,Q9 (bN X scope (own++(mX kp X.N)) fp s H) cl tg t)(D_:∀fp s H,rX (bN X scope (own++(mX kp X.N)) fp s H) ifs$ QC X.K cl c)(he:∀fp s H,PX (bN X scope (own++(mX kp X.N)) fp s H) cl elt f)(hs:∀x,foldedSetIterable iter X.env x=pure x:=by intro _;rfl)(hc:X.calm=true:=by rfl)(C:f6 X scope own kp (mX kp X.N):=by exact Ui (by kernel_rfl)):PX X cl (.ListComp elt [⟨tg,iter,ifs,0⟩] scope pos) (jv it t c f own kp):=
 ⟨(G0 hc C hi.1 (λfp s H=>(hg fp s H).1) D_ (λfp s H=>(he fp s H).1) hs).imp λσ H Q h=>He h⟩
noncomputable def yL:FB:=λ_ S=> .ok true S
def km:rX X [] (QC X.K cl yL):=λpins s σ H Q I ⟨ρ,S,δ,b,S',E,hf,q⟩=>D4 pins s σ H Q I (by cases hf;exact q ρ H (Pre.refl ρ H) E.sw)
def tO(h:MJ X cl e c):rX X [e] (QC X.K cl c):=D7 h.1
def Li{K:Qdf}{i:Nat}{D:Ends}{σ:L2.St}(h:sX K cl (bW i f) D σ H):Ir (tX K cl f) (xD i) D σ H:=by
 obtain⟨ρ,S,δ,o,S',E,hf,q⟩:=h;obtain⟨v,S1,h1,h2⟩:=R3.ao hf;obtain⟨hi,h3⟩:=R3.bj h2;cases h3;refine⟨ρ,S,δ,v,_,E,h1,λu dg H1 p1 w1 r1=>?_⟩
 exact q _ dg H1 p1 ((E.to p1 w1).set (by rw[<-E.len];exact Qal hi) r1)
def eL{i:Nat}{pos' mw:Pos}{own:List Str}{kp:List Nat}(hi:UE X cl tg iter it)(hg:∀fp s H,Q9 (bN X scope (own++(mX kp X.N)) fp s H) cl tg t)(D_:∀fp s H,rX (bN X scope (own++(mX kp X.N)) fp s H) ifs$ QC X.K cl c)(he:∀fp s H,PX (bN X scope (own++(mX kp X.N)) fp s H) cl elt f)(yw:swapsWith (.ListComp elt [⟨tg,iter,ifs,0⟩] scope pos) (some$ .Name x pos') mw.line X.env=pure true:=by rfl)(hs:∀x,foldedSetIterable iter X.env x=pure x:=by intro _;rfl)(hc:X.calm=true:=by rfl)(hN:X.N.Nodup:=by first | assumption | exact Pd (by kernel_rfl))(hx:X.N[i]? =some x:=by rfl)(Jz:X.env.scope.names.lookup x=some .local:=by rfl)(C:f6 X scope own kp (mX kp X.N):=by exact Ui (by kernel_rfl)):PZ X cl (.Assign [.Name x pos'] (.ListComp elt [⟨tg,iter,ifs,0⟩] scope pos) mw) (bW i$ jv it t c f own kp):=
 ⟨(rj hc hN hx Jz C hi.1 (λfp s H=>(hg fp s H).1) D_ (λfp s H=>(he fp s H).1) yw hs).imp λD σ H h=>He$ Li h⟩
def xAl(g:FA):FX:=λδ S=>(g δ S).bind λvs S1=>match vI vs with
 | some ds=>R3.bH (decide$ ds.length<=sizeLine)$ .ok (.loc S1.length)$ S1++[.lst ds]
 | none=> .no
end
section
def Fg(g:List D->R D)(fs:FA):FX:=λδ S=>(fs δ S).bind λvs S1=>match vI vs with
 | some ds=>(R3.of (g ds) S1).bind λd S=> .ok (.d d) S
 | none=> .no
def xIf(c:FB)(f g:FX):FX:=λδ S=>(c δ S).bind λb S=>if b then f δ S else g δ S
def lu:∀(δ:DE) (S:bp) (ds:List V3) (S':bp),eA δ S= .ok ds S'->ds.length=0:=λδ S ds S' h=>by cases h;rfl
def e_{g:FA}{n:Nat}(h:∀(δ:DE) (S:bp) (ds:List V3) (S':bp),g δ S= .ok ds S'->ds.length=n):∀(δ:DE) (S:bp) (ds:List V3) (S':bp),aZ f g δ S= .ok ds S'->ds.length=n+1:=λδ S ds S' e=>by
 obtain⟨v,S1,h1,h2⟩:=R3.ao e;obtain⟨vs,S2,h3,h4⟩:=R3.ao h2;cases h4;rw[Qao,h δ S1 vs _ h3]
end
def zU{K:Qdf}{ds:List V3}{xs:List V}{i:Int}{d:V3}(r:aR K ρ H ds xs)(h:yC ds i=some d):∃x,yC xs i=some x/\bE K ρ H d x:=by
 unfold yC at h ⊢;rw[<-r.length];cases e:Eg ds.length i with
 | none=>rw [e] at h;cases h
 | some j=>
   rw[e] at h;exact r.get h
section
variable {X:Cx}{cl:Aag}
def VG(fa fb:FX):FX:=λδ S=>(fa δ S).bind λa S1=>(fb δ S1).bind λb S2=>match a,b with
 | .d x, .d y=>(R3.of (bz x y) S2).bind λd S=> .ok (.d d) S
 | .lst vs, .d (.int i)=>(match yC vs i with | some v=> .ok v S2 | none=> .no)
 | .tup vs, .d (.int i)=>(match yC vs i with | some v=> .ok v S2 | none=> .no)
 | _,_=> .no
def Pu(ha:PX X cl a fa)(hb:PX X cl b fb)(hs:wg b):PX X cl (.Subscript a b pos) (VG fa fb):=by
 refine⟨(PM (r:=X6 X.K) Ln ha.1 hb.1 hs).imp λσ H Q ⟨ρ,S,δ,v,S',E,hf,q⟩=>?_⟩
 obtain⟨v1,S1,h1,h2⟩:=R3.ao hf;obtain⟨v2,S2,h3,h4⟩:=R3.ao h2;refine⟨ρ,S,δ,v1,S1,E,h1,λu1 dg H1 p1 w1 r1=>⟨dg,S1,δ,v2,S2,E.to p1 w1,h3,λu2 uL H2 p2 w2 r2=>?_⟩⟩
 have tS:=r1.pre p2;have Wa:=p1.trans p2;split at h4
 .rename_i x y;obtain⟨d,S3,h5,h6⟩:=R3.ao h4;obtain⟨h7,e7⟩:=R3.of_ok h5;cases h6;subst e7;unfold bE at tS r2;unfold bz at h7;split at h7
  .split at h7
   .rename_i e;cases h7;obtain⟨p,xs,rfl,l,rs⟩:=Rep.lst.mp tS;obtain⟨y,e1,e2⟩:=so rs e;exact .inl ⟨p,xs,_,y,rfl,Rep.int.mp r2,l.sq,e1,q y uL H2 Wa w2$ by unfold bE;exact e2⟩
   .cases h7
  .split at h7
   .rename_i e;cases h7;obtain⟨p,xs,rfl,l,rs⟩:=Rep.tup.mp tS;obtain⟨y,e1,e2⟩:=so rs e;exact .inr (.inl ⟨p,xs,_,y,rfl,Rep.int.mp r2,l.sq,e1,q y uL H2 Wa w2$ by unfold bE;exact e2⟩)
   .cases h7
  .obtain⟨hl,h8⟩:=R.bj h7;split at h8
   .rename_i e;cases h8;exact .inr (.inr ⟨_,_,_,Rep.str.mp tS,Rep.int.mp r2,Qal hl,e,q _ uL H2 Wa w2$ by unfold bE;exact Rep.str.mpr rfl⟩)
   .cases h8
  .cases h7
 .split at h4
  .rename_i e;cases h4;unfold bE at tS r2;obtain⟨p,xs,rfl,l,rs⟩:=tS;obtain⟨y,e1,e2⟩:=zU rs e;exact .inl ⟨p,xs,_,y,rfl,Rep.int.mp r2,l.sq,e1,q y uL H2 Wa w2 e2⟩
  .cases h4
 .split at h4
  .rename_i e;cases h4;unfold bE at tS r2;obtain⟨p,xs,rfl,l,rs⟩:=tS;obtain⟨y,e1,e2⟩:=zU rs e;exact .inr$ .inl ⟨p,xs,_,y,rfl,Rep.int.mp r2,l.sq,e1,q y uL H2 Wa w2 e2⟩
  .cases h4
 .cases h4
end
section
variable {X:Cx}{cl:Aag}
structure Tq (X:Cx) (cl:Aag) (e:Expr) (f:FB):Prop where
 go:L2.PW X e (QC X.K cl f)
def Tq.pb(h:Tq X cl e f):MJ X cl e f:=⟨L2.PW.pt h.1⟩
def UZ(f g:FB):FB:=λδ S=>(f δ S).bind λb S=>if b then g δ S else .ok false S
def yOr(f g:FB):FB:=λδ S=>(f δ S).bind λb S=>if b then .ok true S else g δ S
def aaA(f:FB):FB:=λδ S=>(f δ S).bind λb S=> .ok (!b) S
def Ku(h:MJ X cl a f):Tq X cl (.BoolOp .And [a] pos) f:=⟨Gy h.1⟩
def Om{rest:List Expr}(ha:MJ X cl a f)(hb:Tq X cl (.BoolOp .And (b ::rest) pos) g):Tq X cl (.BoolOp .And (a ::b ::rest) pos) (UZ f g):=⟨by
 intro wh pins s σ H Q I ⟨ρ,S,δ,k,S',E,hf,q⟩;refine J7 ha.1 hb.1 wh pins s σ H Q I ?_;obtain⟨c,S1,h1,h2⟩:=R3.ao hf;refine⟨ρ,S,δ,c,S1,E,h1,λdg H1 p1 w1=>?_⟩
 cases c with
 | true=>rw [QaK rfl] at h2 ⊢;exact⟨dg,S1,δ,k,S',E.to p1 w1,h2,λuL H' p2 w2=>q uL H' (p1.trans p2) w2⟩
 | false=>rw [QaH$ by decide] at h2 ⊢;cases h2;exact q dg H1 p1 w1⟩
def Oc(f:FX):FB:=λδ S=>(f δ S).bind λv S=>match v with | .d d=>R3.of (Nz d) S | _=> .no
def Oo(ha:PX X cl a f)(ht:∀{t:TE},PE X a t->PT X a (λσ H Q=>t σ H λx H'=>∃b,Pf X.K x H' b/\Q b H')):MJ X cl a (Oc f):=
 ⟨(ht ha.1).imp λσ H Q ⟨ρ,S,δ,b,S',E,hf,q⟩=>by
   obtain⟨v,S1,h1,h2⟩:=R3.ao hf;split at h2
   .rename_i d;obtain⟨h3,e3⟩:=R3.of_ok h2;subst e3;exact⟨ρ,S,δ, .d d,_,E,h1,λu dg H1 p1 w1 r1=>⟨b,K5 (by unfold bE at r1;exact r1) h3,q dg H1 p1 w1⟩⟩
   .cases h2⟩
abbrev Tx:=DE->bp->R3 (Option Int)
def Z0(K:Qdf)(cl:Aag)(f:Tx):TO:=λσ H Q=>∃ρ S δ o S',gh K cl ρ H S σ δ/\f δ S= .ok o S'/\∀dw H',Pre ρ H dw H'->SW K cl dw H' S'->Q o H'
structure PXO (X:Cx) (cl:Aag) (e:Option Expr) (f:Tx):Prop where
 go:PO X e (Z0 X.K cl f)
noncomputable def X_:Tx:=λ_ S=> .ok none S
def WY(f:FX):Tx:=λδ S=>(f δ S).bind λv S=>match v with | .d (.int i)=> .ok (some i) S | _=> .no
def xSl(f:FX)(fl fh:Tx):FX:=λδ S=>(f δ S).bind λv S1=>(fl δ S1).bind λlo S2=>(fh δ S2).bind λhi S3=>match v with
 | .d d=>(R3.of (UA d lo hi) S3).bind λr S=> .ok (.d r) S
 | _=> .no
end
end L3
end
section
namespace L2
open PySem PySem.Spec PyProof.Rows
section
variable {X:Cx}
noncomputable def QT(t T:String):Bool:=t==T || (t=="bool" && T=="int")
def aaX(T:String)(f:FD):FD:=λδ=>(f δ).bind λd=>match d with | .dct _ _=> .no | _=> .ok$ .bl$ QT (tyName d) T
def nList(f:FD):ay->R (List D):=λδ=>(f δ).bind λd=>match d with | .lst ds=> .ok ds | .tup ds=> .ok ds | _=> .no
def KN{p pos:Pos}{e:Expr}{f:FD}(he:QD X e f)(hg:Gl X "list")(hm:X.mg "list"=none)
 (hs:starEach [e] X.env=(false,eval e X.env) ::starEach [] X.env:=by rfl) (j_:(backTo pos$ starEach [] X.env).any (·.1)=false:=by rfl):QN X (.Call (.Name "list" p) [e] [] pos) (nList f):=by
 refine⟨(zt tw hg hm boot_list (dq he.1 f9 hs) (by decide) (by decide) hs j_).imp λσ H Q ⟨Z,B,δ,ds,E,hf,q⟩=>?_⟩
 obtain⟨d,h1,h2⟩:=R.ao hf;refine⟨Z,B,δ,d,E,h1,λv H1 s1 r1=>?_⟩
 split at h2
 .cases h2;obtain⟨a,ys,rfl,l,r⟩:=Rep.lst.mp r1;exact⟨a,ys,rfl, .inl l.sq,λp hp=>q p ys _ (s1.trans$ aU hp) (s1.free hp) bh$ r.bG$ sd hp⟩
 .cases h2;obtain⟨a,ys,rfl,l,r⟩:=Rep.tup.mp r1;exact⟨a,ys,rfl, .inr l.sq,λp hp=>q p ys _ (s1.trans$ aU hp) (s1.free hp) bh$ r.bG$ sd hp⟩
 .cases h2
end
end L2
namespace L3
open PySem PySem.Spec PyProof.Rows L2
def oI{P:Program}{w:World}{K:Qdf}{mg:Aaf}{base:Heap}{cl:Aag}{x qual:Str}{st:Stmt}{f:Addr}{fd:FuncData}{N ps:List Str}{k:Nat}{F:FZ}{b:List Stmt}{sc:Scope}(hb:aN st=b)(hs:aF st=sc)(Fn:Gq K x qual st f fd)(S:aW N ps sc)
 (jJ:∀(gZ:Value) (A:Around) (outer:List Env) (s:Qdg) (H:Hp) (E:XK),eU k (A.deeper$ envOfC qual sc s.heap.objs.size f gZ)->
   G2 (uI xu P w K mg base N qual sc f gZ A outer s H E).KA cl b F):jW P w K mg base xu (k+1) f fd ps (LR K cl ps.length$ qw N F):=by
 subst hb hs;exact NI Fn S jJ
def Eh{K:Qdf}{mg:Aaf}{cl:Aag}{st:Stmt}{N ps:List Str}{k:Nat}(h:Def K mg x st)(hb:aN st=b)(hs:aF st=sc)(S:aW N ps sc)(jJ:∀(f:Addr) (gZ:Value) (A:Around) (outer:List Env) (s:Qdg) (H:Hp) (E:XK),eU k (A.deeper$ envOfC x sc s.heap.objs.size f gZ)->N.Nodup->G2 (uI xu P w K mg base N x sc f gZ A outer s H E).KA cl b F)(bd:∀(kV doc pm:Value) (an:Option Addr) (gZ ct:Value) (us:List Value),us.length=ps.length->bindArgs (PySem.W.fnOf x x (jk st) (aN st) (aF st) .none kV doc pm an gZ ct) ⟨us,[]⟩=pure (ps.zip us):=by intro _ _ _ _ _ _ us hl;rcases us with _ | ⟨_,_ | ⟨_,_ | ⟨_,_ | ⟨_,_ | ⟨_,_ | ⟨_,_ | ⟨_,_⟩⟩⟩⟩⟩⟩⟩ <;> first | (simp at hl;done) | rfl):bU P w K mg base cl (k+1) x ps.length (qw N F):=by
 obtain⟨f,fd,F,hm⟩:=h;exact⟨f,fd,_,oI hb hs F S (λgZ A outer s H E hr=>jJ f gZ A outer s H E hr S.nd),hm,F.kp,F.binds bd⟩
def bU.p{K:Qdf}{mg:Aaf}{cl:Aag}{k:Nat}{n:Nat}{N:List Str}(C:bU P w K mg base cl k x n (qw N F)):bU P w K mg base cl k x n (tV N F):=
 let⟨f,fd,ps,F,h⟩:=C;⟨f,fd,ps,F.imp λ_ _ _ _ h=>EC h,h⟩
def Xi(N:List Str)(F:FZ):List D->R D:=λds=>match tV N F (ds.map .d) [] with
 | .ok (.d d) []=>R.bH d.atom$ .ok d
 | _=> .no
def R8{K:Qdf}{cl:Aag}{N:List Str}{n:Nat}{vs:List V}{Q:VK}{E:XK}(h:Lx K n (Xi N F) vs H Q E):LR K cl n (qw N F) vs H Q E:=by
 obtain⟨hl,B,ds,d,hb,r,hg,q⟩:=h;unfold Xi at hg;split at hg
 .rename_i d' e;obtain⟨ha,h2⟩:=R.bj hg;cases h2;have r0:aI K (⟨[],[],[]⟩:P3).b H ds vs:=r.bG λb o e _=>⟨e,by simp [P3.b]⟩
  refine EC ⟨hl,⟨[],[],[]⟩,[],ds.map .d, .d d,[],⟨rfl,λi j a hi=>by simp at hi,λk a o hk=>by simp at hk,λb hb=>by simp at hb,λk a hk=>by simp at hk,λb hb=>by simp at hb,λk a hk=>by simp at hk⟩,aR.of r0,e,λu dw H' p w' r'=>q u H' (λb o eb=>?_) ?_⟩
  .exact(p.bG b o eb$ by simp [P3.b]).1
  .unfold bE at r';exact r'.atom ha
 .cases hg
section
variable {X:Cx}{cl:Aag}
def Kx{a:Expr}(ha:PX X cl a f)(he:∀whole,isTrue a X.env whole=(do let v <-whole;standAt a.pos;holding [v] (truthy v)):=by intro _;rfl):MJ X cl a (Oc f):=Oo ha λh=>Dw h he
def LC{g:List D->R D}{k j n:Nat}{x:Str}{p pos:Pos}{e:Expr}{es:List Expr}{fs:FA}(C:Callee X.prog X.w X.K X.mg X.base k x n g)(hr:eU j X.A)(hkj:k<=j)(hg:Gl X x)(ha:NY X cl (e ::es) fs)
 (hn:∀δ S ds S',fs δ S= .ok ds S'->ds.length=n) (uQ:(x==("__debug__":Str))=false:=by decide) (he:starEach (e ::es) X.env=(false,eval e X.env) ::starEach es X.env:=by rfl) (j_:(backTo pos$ starEach es X.env).any (·.1)=false:=by rfl) :
 PX X cl (.Call (.Name x p) (e ::es) [] pos) (Fg g fs):=by
 obtain⟨f,fd,ps,F,hm,hk,hb⟩:=C;refine⟨(BH F (hr.mono hkj) hg hm hk hb .nil C7 ha.1 uQ he j_).imp λσ H Q ⟨ρ,S,δ,v,S',E,hf,q⟩=>?_⟩
 obtain⟨vs,S1,h1,h2⟩:=R3.ao hf;split at h2
 .rename_i ds e;obtain⟨d,S2,h3,h4⟩:=R3.ao h2;obtain⟨h5,e5⟩:=R3.of_ok h3;cases h4;subst e5;refine⟨ρ,S,δ,vs,_,E,h1,λus dg H1 p1 w1 r1=>?_⟩
  have hl:=hn δ S vs _ h1;rw[mO e] at r1;show Lx X.K n g (us++[]) H1 Q E0;rw[QaV];exact⟨by rw[<-r1.length,<-mO e];exact hl,dg.b,ds,d,w1.bs,r1.to,h5,λz H' s r=>q z dg H' (p1.trans$ Pre.same s) (w1.same s)$ by unfold bE;exact r⟩
 .cases h2
def XW(f:FX):FA:=λδ S=>(f δ S).bind λv S=>match v with | .d (.tup ds)=> .ok (ds.map .d) S | .tup vs=> .ok vs S | _=> .no
end
def W3{α:Type}(r:R3 α)(Q:α->bp->Prop):Prop:=∃a S,r= .ok a S/\Q a S
section
variable {α β:Type}{Q Q':α->bp->Prop}{S:bp}
def W3.ok{a:α}(h:Q a S):W3 (.ok a S) Q:=⟨a,S,rfl,h⟩
def W3.bind{Q:β->bp->Prop}{r:R3 α}{f:α->bp->R3 β}(h:W3 r λa S=>W3 (f a S) Q):W3 (r.bind f) Q:=by
 obtain⟨a,S1,e1,b,S2,h2,q⟩:=h;exact⟨b,S2,by rw[e1];exact h2,q⟩
def W3.mono{r:R3 α}(h:W3 r Q)(m:∀a S,Q a S->Q' a S):W3 r Q':=let⟨a,S,e,q⟩:=h;⟨a,S,e,m a S q⟩
def W3.wh{c:Bool}{r:R3 α}(hc:c=true)(h:W3 r Q):W3 (R3.bH c r) Q:=by rw[hc];exact h
def W3.of{r:R α}{a:α}(e:r= .ok a)(h:Q a S):W3 (R3.of r S) Q:=by rw[e];exact⟨a,S,rfl,h⟩
end
section
variable {S:bp}{δ:DE}{QV:V3->bp->Prop}{QB:Bool->bp->Prop}{QA:List V3->bp->Prop}{QO:Ou->bp->Prop}
def cn{f:FD}{d:D}(e:f (down δ)= .ok d)(h:QV (.d d) S):W3 (xP f δ S) QV:=W3.bind$ W3.of e$ W3.ok h
def Py{f:FD}{d:D}(e:f (d8 S δ)= .ok d)(ha:oM d=true)(h:QV (.d d) S):W3 (xT f δ S) QV:=W3.bind$ W3.of e$ W3.wh ha$ W3.ok h
def qo{f:ay->R Bool}{b:Bool}(e:f (down δ)= .ok b)(h:QB b S):W3 (bP f δ S) QB:=W3.of e h
def Se{f:ay->R Bool}{b:Bool}(e:f (d8 S δ)= .ok b)(h:QB b S):W3 (bT f δ S) QB:=W3.of e h
def w_var{i:Nat}{v:V3}(e:δ[i]? =some (some v))(h:QV v S):W3 (gb i δ S) QV:=by unfold gb;rw [e];exact W3.ok h
def jR{f:ay->R (List D)}{ds:List D}(e:f (down δ)= .ok ds)(h:QV (.loc S.length) (S++[.lst ds])):W3 (mQ f δ S) QV:=W3.bind$ W3.of e$ W3.ok h
def di(h:QA [] S):W3 (eA δ S) QA:=W3.ok h
def aM{f:FX}{g:FA}(h:W3 (f δ S) λv S1=>W3 (g δ S1) λvs S2=>QA (v ::vs) S2):W3 (aZ f g δ S) QA:=W3.bind$ h.mono λ_ _ h=>W3.bind$ h.mono λ_ _ h=>W3.ok h
def Kw{g:FA}(h:W3 (g δ S) λvs S1=>vs.length<=sizeLine/\QV (GW vs) S1):W3 (JN g δ S) QV:=W3.bind$ h.mono λ_ _ h=>W3.wh (Qat h.1)$ W3.ok h.2
def P9{g:FA}(h:W3 (g δ S) λvs S1=>vs.length<=sizeLine/\QV (wt vs) S1):W3 (Oa g δ S) QV:=W3.bind$ h.mono λ_ _ h=>W3.wh (Qat h.1)$ W3.ok h.2
def w_2{g:D->D->R D}{fa fb:FX}(h:W3 (fa δ S) λa S1=>W3 (fb δ S1) λb S2=>∃x y d,a= .d x/\b= .d y/\g x y= .ok d/\QV (.d d) S2):W3 (x2 g fa fb δ S) QV:=
 W3.bind (h.mono λ_ _ h=>W3.bind$ h.mono λ_ _ ⟨_,_,_,e1,e2,e3,q⟩=>by subst e1 e2;exact W3.bind$ W3.of e3$ W3.ok q)
def SV{g:D->D->R D}{fa fb:FX}(h:W3 (fa δ S) λa S1=>W3 (fb δ S1) λb S2=>∃x y k,a= .d x/\b= .d y/\g x y= .ok (.bl k)/\QB k S2):W3 (Vo g fa fb δ S) QB:=
 W3.bind (w_2$ h.mono λ_ _ h=>h.mono λ_ _ ⟨x,y,k,e1,e2,e3,q⟩=>⟨x,y, .bl k,e1,e2,e3,W3.ok q⟩)
def W5{fa fb:FX}(h:W3 (fa δ S) λa S1=>W3 (fb δ S1) λb S2=>∃x y d,a= .d x/\b= .d y/\bz x y= .ok d/\QV (.d d) S2):W3 (VG fa fb δ S) QV:=
 W3.bind (h.mono λ_ _ h=>W3.bind$ h.mono λ_ _ ⟨_,_,_,e1,e2,e3,q⟩=>by subst e1 e2;exact W3.bind$ W3.of e3$ W3.ok q)
def dC{g:List V3->bp->R3 V3}{fs:FA}(h:W3 (fs δ S) λvs S1=>W3 (g vs S1) QV):W3 (eW g fs δ S) QV:=W3.bind h
def Np{g:List D->R D}{fs:FA}(h:W3 (fs δ S) λvs S1=>∃ds d,vs=ds.map .d/\g ds= .ok d/\QV (.d d) S1):W3 (Fg g fs δ S) QV:=
 W3.bind (h.mono λ_ _ ⟨ds,_,e1,e2,q⟩=>by subst e1;rw [xy];exact W3.bind$ W3.of e2$ W3.ok q)
def Rt{it:FA}{own:List Str}{kp:List Nat}(h:W3 (it δ S) λvs S1=>vs.length<=sizeLine/\W3 (pP t c f (o5 own kp δ) vs S1) λys S2=>QV (wt ys) S2):W3 (jv it t c f own kp δ S) QV:=
 W3.bind (h.mono λ_ _ h=>W3.wh (Qat h.1)$ W3.bind$ h.2.mono λ_ _ h=>W3.ok h)
def UL{f:FX}(h:W3 (f δ S) λv S1=>∃d b,v= .d d/\Nz d= .ok b/\QB b S1):W3 (Oc f δ S) QB:=W3.bind (h.mono λ_ _ ⟨_,_,e,e2,q⟩=>by subst e;exact W3.of e2 q)
def aJ{F G:FZ}(h:W3 (F δ S) λo S1=>∃δ1,o= .nx δ1/\W3 (G δ1 S1) QO):W3 (bq F G δ S) QO:=W3.bind (h.mono λ_ _ ⟨_,e,h⟩=>by subst e;exact h)
def Sq{F G:FZ}(h:W3 (F δ S) λo S1=>∃v,o= .rt v/\QO (.rt v) S1):W3 (bq F G δ S) QO:=W3.bind (h.mono λ_ _ ⟨_,e,h⟩=>by subst e;exact W3.ok h)
def bu{i:Nat}{f:FX}(hi:i<δ.length)(h:W3 (f δ S) λv S1=>QO (.nx$ δ.set i$ some v) S1):W3 (bW i f δ S) QO:=W3.bind$ h.mono λ_ _ h=>W3.wh (Qat hi)$ W3.ok h
def fM{f:FX}(h:W3 (f δ S) λv S1=>QO (.rt v) S1):W3 (g8 f δ S) QO:=W3.bind$ h.mono λ_ _ h=>W3.ok h
def oH{c:FB}{F G:FZ}(h:W3 (c δ S) λb S1=>if b then W3 (F δ S1) QO else W3 (G δ S1) QO):W3 (Bv c F G δ S) QO:=W3.bind (h.mono λb _ h=>by cases b <;> exact h)
def P0{f:FX}{t:FG}(h:W3 (f δ S) λv S1=>∃δ1,t v δ=some δ1/\QO (.nx δ1) S1):W3 (OQ f t δ S) QO:=W3.bind (h.mono λ_ _ ⟨_,e,q⟩=>by rw[e];exact W3.ok q)
def fI(h:QO (.nx δ) S):W3 (oB δ S) QO:=W3.ok h
def fj{f:ay->R (List D)}{ds:List D}(e:f (down δ)= .ok ds)(h:QA (ds.map .d) S):W3 (iP f δ S) QA:=W3.bind$ W3.of e$ W3.ok h
def Qv{f:FX}(h:W3 (f δ S) λv S1=>∃n:Nat,v= .d (.int n)/\n<1000000/\QA ((jq 0 n).map .d) S1):W3 (Dx f δ S) QA:=W3.bind (h.mono λ_ _ ⟨n,e,hn,q⟩=>by
 subst e;refine W3.wh (Qat ⟨by omega,by omega⟩)$ W3.ok ?_
 rw[Qbg];exact q)
def dS{it:FA}(h:W3 (it δ S) λvs S1=>W3 (pf t F vs δ S1) QO):W3 (gP it t F δ S) QO:=W3.bind h
def iQ{i k:Nat}{f:FX}(hk:δ[i]? =some (some$ .loc k))(h0:∃ds,S[k]? =some (.lst ds))(h:W3 (f δ S) λv S1=>∃d ds,v= .d d/\S1[k]? =some (.lst ds)/\ds.length<sizeLine/\QO (.nx δ) (S1.set k$ .lst$ ds++[d])):W3 (jY i f δ S) QO:=by
 obtain⟨es,h0⟩:=h0;unfold jY;have e1:iu δ i=some k:=by unfold iu;rw [hk]
 have e2:dz S k=some es:=by unfold dz;simp only[h0]
 rw[e1];show W3 (match dz S k with | none=>_ | some _=>_) _
 rw[e2];refine W3.bind$ h.mono λv S1 ⟨d,ds,e,h1,hl,q⟩=>?_
 subst e;have e3:dz S1 k=some ds:=by unfold dz;simp only[h1]
 show W3 (match dz S1 k with | some ds=>_ | none=>_) _
 rw[e3];exact W3.wh (Qat hl)$ W3.ok q
def PF{fo fi fe:FX}(h:W3 (fe δ S) λv S1=>W3 (fo δ S1) λo S2=>W3 (fi δ S2) λj S3=>∃d k n ds m,v= .d d/\o= .loc k/\j= .d (.int n)/\S3[k]? =some (.lst ds)/\Eg ds.length n=some m/\QO (.nx δ) (S3.set k$ .lst$ ds.set m d)):W3 (NB fo fi fe δ S) QO:=
 W3.bind (h.mono λ_ _ h=>W3.bind (h.mono λ_ _ h=>W3.bind (h.mono λ_ S3 ⟨d,k,n,ds,m,e1,e2,e3,h1,h2,q⟩=>by
  subst e1 e2 e3;have e3:dz S3 k=some ds:=by unfold dz;simp only[h1]
  show W3 (match dz S3 k with | some ds=>_ | none=>_) _
  rw[e3];show W3 (match Eg ds.length n with | some m=>_ | none=>_) _
  rw[h2];exact W3.ok q)))
def wW{t:FG}{body:FZ}:∀(vs:List V3) (n:Nat) (P:Nat->DE->bp->Prop) {δ:DE} {S:bp},P n δ S->
 (∀i v δ S,vs[i]? =some v->P (n+i) δ S->∃δ1,t v δ=some δ1/\W3 (body δ1 S) λo S1=>∃c_,o= .nx c_/\P (n+i+1) c_ S1)->W3 (pf t body vs δ S) λo S1=>∃c_,o= .nx c_/\P (n+vs.length) c_ S1
 | [],n,P,δ,S,h0,_=>W3.ok ⟨δ,rfl,h0⟩
 | v ::vs,n,P,δ,S,h0,hs=>by
   obtain⟨δ1,e1,o,S1,e2,c_,rfl,p2⟩:=hs 0 v δ S rfl h0;have ih:=wW vs (n+1) P p2 (λi v' fg S' hi hp=>by
    have:=hs (i+1) v' fg S' (by simpa using hi) (by rw[show n+(i+1)=n+1+i by omega];exact hp)
    rw[show n+(i+1)+1=n+1+i+1 by omega] at this
    exact this)
   rw[show n+1+vs.length=n+(v ::vs).length by rw[Qao];omega] at ih
   unfold pf;rw[e1];refine W3.bind ⟨_,_,e2,?_⟩;exact ih
def bQ{t:FG}{body:FZ}{vs:List V3}(P:Nat->DE->bp->Prop){δ:DE}{S:bp}(h0:P 0 δ S)
 (hs:∀i v δ S,vs[i]? =some v->P i δ S->∃δ1,t v δ=some δ1/\W3 (body δ1 S) λo S1=>∃c_,o= .nx c_/\P (i+1) c_ S1):W3 (pf t body vs δ S) λo S1=>∃c_,o= .nx c_/\P vs.length c_ S1:=by
 have:=wW (t:=t) (body:=body) vs 0 P h0 (λi v δ S hi hp=>by simpa using hs i v δ S hi (by simpa using hp))
 simpa using this
def xm{t:FG}{c:FB}{f:FX}{δ:DE}:∀(vs:List V3) (n:Nat) (P:Nat->List V3->bp->Prop) {ys:List V3} {S:bp},P n ys S->
 (∀i v ys S,vs[i]? =some v->P (n+i) ys S->∃δ1,t v δ=some δ1/\W3 (c δ1 S) λb S1=>if b then W3 (f δ1 S1) λy S2=>P (n+i+1) (ys++[y]) S2 else P (n+i+1) ys S1)->W3 (pP t c f δ vs S) λzs S1=>P (n+vs.length) (ys++zs) S1
 | [],n,P,ys,S,h0,_=>W3.ok (by rw[QaV];exact h0)
 | v ::vs,n,P,ys,S,h0,hs=>by
   obtain⟨δ1,e1,b,S1,e2,h2⟩:=hs 0 v ys S rfl h0;have ih:∀{V7 S'},P (n+1) V7 S'->W3 (pP t c f δ vs S') λzs S1=>P (n+(v ::vs).length) (V7++zs) S1:=fun {V7 S'} p=>by
    have:=xm (t:=t) (c:=c) (f:=f) (δ:=δ) vs (n+1) P p (λi v' V7 S' hi hp=>by
     have:=hs (i+1) v' V7 S' (by simpa using hi) (by rw[show n+(i+1)=n+1+i by omega];exact hp)
     rw[show n+(i+1)+1=n+1+i+1 by omega] at this
     exact this)
    rw[show n+1+vs.length=n+(v ::vs).length by rw[Qao];omega] at this
    exact this
   unfold pP;rw[e1];refine W3.bind ⟨b,S1,e2,?_⟩;cases b with
   | true=>
     rw[QaK rfl] at h2 ⊢;exact W3.bind (h2.mono λy S2 p=>W3.bind$ (ih p).mono λzs S3 q=>W3.ok$ by rw[QaL] at q;exact q)
   | false=>rw [QaH$ by decide] at h2 ⊢;exact ih h2
def Ip{t:FG}{c:FB}{f:FX}{δ:DE}{vs:List V3}(P:Nat->List V3->bp->Prop){S:bp}(h0:P 0 [] S)
 (hs:∀i v ys S,vs[i]? =some v->P i ys S->∃δ1,t v δ=some δ1/\W3 (c δ1 S) λb S1=>if b then W3 (f δ1 S1) λy S2=>P (i+1) (ys++[y]) S2 else P (i+1) ys S1):W3 (pP t c f δ vs S) λzs S1=>P vs.length zs S1:=by
 have:=xm (t:=t) (c:=c) (f:=f) (δ:=δ) vs 0 P h0 (λi v ys S hi hp=>by simpa using hs i v ys S hi (by simpa using hp))
 simpa using this
def D3{QB:Bool->bp->Prop}(h:QB true S):W3 (yL δ S) QB:=W3.ok h
def Cc{N:List Str}{F:FZ}{vs:List V3}{δ:DE}(e:dn N vs=δ)(h:W3 (F δ S) λo S1=>∃v,o= .rt v/\QV v S1):W3 (qw N F vs S) QV:=by
 subst e;exact W3.bind (h.mono λ_ _ ⟨_,e,q⟩=>by subst e;exact W3.ok q)
def Y8(S:bp):Prop:=∀o∈S,∃ds,o=SO.lst ds
end
section
variable {S:bp}{δ:DE}{QV:V3->bp->Prop}
def jZ{it:FA}{t:FG}{c:FB}{f:FX}{own:List Str}{kp:List Nat}(P:Nat->List D->bp->Prop)(h:W3 (it δ S) λvs S1=>vs.length<=sizeLine/\P 0 [] S1/\
 (∀i v ds S2,vs[i]? =some v->P i ds S2->∃δ1,t v (o5 own kp δ)=some δ1/\W3 (c δ1 S2) λb S3=>if b then W3 (f δ1 S3) λy S4=>∃d,y= .d d/\P (i+1) (ds++[d]) S4 else P (i+1) ds S3)/\
 ∀ds S2,P vs.length ds S2->QV (.d$ .lst ds) S2):W3 (jv it t c f own kp δ S) QV:=by
 refine Rt$ h.mono λvs S1 ⟨hl,h0,hs,hq⟩=>⟨hl,?_⟩
 refine(Ip (λi ys S=>∃ds,ys=ds.map V3.d/\P i ds S) ⟨[],rfl,h0⟩ ?_).mono λzs S2 ⟨ds,e,p⟩=>?_
 .rintro i v ys S2 hv ⟨ds,rfl,p⟩;obtain⟨δ1,e1,h1⟩:=hs i v ds S2 hv p;refine⟨δ1,e1,h1.mono λb S3 h3=>?_⟩
  cases b with
  | true=>
    rw[QaK rfl] at h3 ⊢;exact h3.mono λy S4 ⟨d,e,p⟩=>by subst e;exact⟨ds++[d],by simp,p⟩
  | false=>rw [QaH$ by decide] at h3 ⊢;exact⟨ds,rfl,h3⟩
 .subst e;unfold wt;rw[xy];exact hq ds S2 p
structure dO (n:Nat) (d:D):Prop where
 pl:eM d=true
 ly:(toPy d).canLay0=true
 dp:(toPy d).depth<=n
def dO.int(i:Int):dO 0 (.int i):=⟨by unfold eM;rfl,by unfold toPy PyData.canLay0;rfl,by unfold toPy PyData.depth;omega⟩
def dO.bl(b:Bool):dO 0 (.bl b):=⟨by unfold eM;rfl,by unfold toPy PyData.canLay0;rfl,by unfold toPy PyData.depth;omega⟩
def dO.str(h:(PyData.str s).canLay0=true):dO 0 (.str s):=⟨by unfold eM;rfl,by unfold toPy;exact h,by unfold toPy PyData.depth;omega⟩
def dO.mono{n m:Nat}{d:D}(h:dO n d)(hm:n<=m):dO m d:=⟨h.pl,h.ly,QaT h.dp hm⟩
theorem dO.all{n:Nat}:∀{ds:List D},(∀d∈ds,dO n d)->lQ ds=true/\PyData.canLayAll0 (n9 ds)=true/\PyData.depthAll (n9 ds)<=n
 | [],_=>⟨by unfold lQ;rfl,by unfold n9 PyData.canLayAll0;rfl,by unfold n9 PyData.depthAll;omega⟩
 | d ::ds,h=>by
   obtain⟨h1,h2,h3⟩:=dO.all (ds:=ds) λx hx=>h x$ Qad _ hx
   have f:=h d Qan;refine⟨by unfold lQ;rw [f.pl,h1];rfl,by unfold n9 PyData.canLayAll0;rw [f.ly,h2];rfl,?_⟩
   unfold n9 PyData.depthAll;have:=f.dp;omega
def dO.lst{n:Nat}{ds:List D}(h:∀d∈ds,dO n d):dO (n+1) (.lst ds):=by
 obtain⟨h1,h2,h3⟩:=dO.all h;exact⟨by unfold eM;exact h1,by unfold toPy PyData.canLay0;exact h2,by unfold toPy PyData.depth;omega⟩
def dO.tup{n:Nat}{ds:List D}(h:∀d∈ds,dO n d):dO (n+1) (.tup ds):=by
 obtain⟨h1,h2,h3⟩:=dO.all h;exact⟨by unfold eM;exact h1,by unfold toPy PyData.canLay0;exact h2,by unfold toPy PyData.depth;omega⟩
def dO.sh{n:Nat}{d:D}(h:dO n d)(hn:n<=64):SeqAt.shaped (toPy d)=true:=by
 unfold SeqAt.shaped;rw[h.ly,Qat$ QaT h.dp hn];rfl
def AE{d e:List D}:C8 (.lst d) (.lst e)=R.bH (eM (.lst d) && eM (.lst e) && SeqAt.shaped (toPy$ .lst d) && SeqAt.shaped (toPy$ .lst e)) (.ok$ PyData.eqv (toPy$ .lst d)$ toPy$ .lst e):=rfl
def J4{d e:List D}:C8 (.tup d) (.tup e)=R.bH (eM (.tup d) && eM (.tup e) && SeqAt.shaped (toPy$ .tup d) && SeqAt.shaped (toPy$ .tup e)) (.ok$ PyData.eqv (toPy$ .tup d)$ toPy$ .tup e):=rfl
def dO.eqT{n:Nat}{ds:List D}(h:dO n (.tup ds))(hn:n<=64):C8 (.tup ds) (.tup ds)= .ok true:=by
 rw[J4,h.pl,h.sh hn,SeqAt.eqv_refl _ h.ly];rfl
def dO.eqL{n:Nat}{ds:List D}(h:dO n (.lst ds))(hn:n<=64):C8 (.lst ds) (.lst ds)= .ok true:=by
 rw[AE,h.pl,h.sh hn,SeqAt.eqv_refl _ h.ly];rfl
end
end L3
end
section
namespace L2
open PySem PySem.Spec PyProof.Rows
section
variable {X:Cx}
noncomputable def P5:D->Bool | .cY=>true | _=>false
def dIs(d e:D):R D:=match e with | .cY=> .ok (.bl$ P5 d) | _=> .no
def aaa(d e:D):R D:=match e with | .cY=> .ok (.bl$ !P5 d) | _=> .no
def Ib:oq X (.type "int") (λxs H Q=>∃x n,xs=[.str x]/\PySem.intText? x=some n/\x.length<=640/\Q (.int n) H):=by
 intro pins s σ H xs us Q I r h;obtain⟨x,n,rfl,h1,h2,q⟩:=h;obtain⟨u,rfl,ru⟩:=vals1 r;obtain⟨t,rfl⟩:=ru;exact PySem.W.KIN.call_text h1 h2 ⟨.int n,H,I.tok _,⟨_,rfl⟩,q⟩
def J5:List D->R D
 | [.str x]=>R.bH (decide$ x.length<=640)$ match PySem.intText? x with | some n=> .ok (.int n) | none=> .no
 | _=> .no
def QG:cV X (.type "int") J5:=cV.of Ib λB H ds d xs Q _ rs hg q=>by
 unfold J5 at hg;split at hg
 .obtain⟨h1,h2⟩:=R.bj hg;split at h2
  .rename_i e;cases h2;obtain⟨x,rfl,r⟩:=rs.one;exact⟨_,_,by rw[Rep.str.mp r],e,Qal h1,q _ H (bo.refl H)$ Rep.int.mpr rfl⟩
  .cases h2
 .cases hg
def rZ(ds:List D):R D:=match ds with | [.str _]=>J5 ds | _=>cInt ds
def Bd:cV X (.type "int") rZ:=cV.or QG VQ λa d h=>by
 unfold rZ at h;split at h
 .exact .inl h
 .exact .inr h
def aaO(f:FD):FD:=λδ=>(f δ).bind λd=>match d with | .int i=> .ok (.int (-i)) | _=> .no
noncomputable def Zv(d:D)(ds:List D):R D:=match d,ds with
 | .str x,[.str y]=> .ok$ .int$ Txt.find x y
 | _,_=> .no
noncomputable def aaz(kvs:List (Str × Str)):D:= .dct (kvs.map λp=>Sum.inr p.1) (kvs.map λp=> .str p.2)
noncomputable def kvV(kvs:List (Str × Str)):List (Key × V):=kvs.map λp=>((Sum.inr p.1:Key),V.str p.2)
noncomputable def aaQ(d k:D):R D:=match d,k with
 | .dct ks ds, .str x=>(match (ks.zip ds).find? λp=>decide (p.1=Sum.inr x) with | some p=> .ok p.2 | none=> .no)
 | _,_=> .no
theorem vp{K:Qdf}{B:List Addr}{k:Key}{v:Key × D}:∀{kvs:List (Key × V)} {ds:List D},aI K B H ds (kvs.map (·.2))->(((kvs.map (·.1)).zip ds).find? λp=>decide$ p.1=k)=some v->∃x,i4 kvs k=some x/\Rep K B H v.2 x
 | [],ds,r,h=>by simp at h
 | (k1,v1) ::kvs,[],r,h=>by simp at h
 | (k1,v1) ::kvs,d ::ds,r,h=>by
   obtain⟨x,xs,e,r1,r2⟩:=r.cj;cases e;rw[Qaz,Qco,Qbf] at h;unfold i4;rw[Qbf];by_cases hk:k1=k
   .have e1:decide (k1=k)=true:=Qat hk;simp only[e1] at h ⊢;cases h;exact⟨_,rfl,r1⟩
   .have e1:decide (k1=k)=false:=Qaw hk;simp only[e1] at h ⊢;exact vp r2 h
end
def Uv{K:Qdf}{mg:Aaf}{k n:Nat}{f:Addr}{fd:FuncData}{ps:List Str}:jW P w K mg base xu k f fd ps (Lx K n λ_=> .no):=
 ⟨λvs H Q E h=>(by obtain⟨_,_,_,_,_,_,h,_⟩:=h;cases h),λA outer s H args us vs Q E _ _ _ _ h=>(by obtain⟨_,_,_,_,_,_,h,_⟩:=h;cases h)⟩
end L2
namespace L3
open PySem PySem.Spec PyProof.Rows L2
section
variable {X:Cx}{cl:Aag}
def Zf(f:FX):FB:=λδ S=>(f δ S).bind λv S=>match v with | .d (.bl b)=> .ok b S | _=> .no
def aae(f g:FX):FX:=λδ S=>(Zf f δ S).bind λb S=>if b then g δ S else .ok (.d$ .bl false) S
def xOr(f g:FX):FX:=λδ S=>(Zf f δ S).bind λb S=>if b then .ok (.d$ .bl true) S else g δ S
def sx(i:Nat)(F:FZ):FZ:=λδ S=>match iu δ i with
 | some k=>(match dz S k with | some ds=>F (δ.set i$ some$ .d$ .lst ds) (S.set k .fm) | none=> .no)
 | none=> .no
def jm(i:Nat)(h:G2 X cl Mz F):G2 X cl Mz (sx i F):=⟨h.1.imp λD σ H ⟨ρ,S,δ,o,S',E,hf,q⟩=>by
 unfold sx at hf;split at hf
 .rename_i k hk;split at hf
  .rename_i ds hds;obtain⟨v,v1,v2⟩:=E.val i _$ iU hk;unfold bE at v2;obtain⟨a,a1,rfl⟩:=v2;obtain⟨w,p,r⟩:=E.sw.fm a1$ gR hds;have E1:gh X.K cl ⟨ρ.r,ρ.z,a ::ρ.f⟩ H (S.set k .fm) σ (δ.set i$ some$ .d$ .lst ds):=⟨by rw[Qa6];exact E.len,w,λj d e=>by
    by_cases h:i=j
    .subst h;rw[Qau (by obtain⟨h1,_⟩:=Qae.mp$ iU hk;exact h1)] at e
     cases e;exact⟨_,v1,by unfold bE;exact r⟩
    .rw [Qav h] at e;obtain⟨u,u1,u2⟩:=E.val j d e;exact⟨u,u1,u2.pre p⟩⟩
   exact⟨_,_,_,o,S',E1,hf,q.pre p⟩
  .cases hf
 .cases hf⟩
def qS{i k:Nat}{ds:List D}{F:FZ}{δ:DE}{S:bp}{QO:Ou->bp->Prop}(hk:δ[i]? =some (some$ .loc k))(hS:S[k]? =some (.lst ds))(h:W3 (F (δ.set i$ some$ .d$ .lst ds)$ S.set k .fm) QO):W3 (sx i F δ S) QO:=by
 unfold sx;have e1:iu δ i=some k:=by unfold iu;rw [hk]
 have e2:dz S k=some ds:=by unfold dz;simp only[hS]
 simp only[e1,e2];exact h
end
def Flat(S:bp):Prop:=∀o∈S,∀n,Dt n o=true
def Flat.push{S:bp}(h:Flat S){x:SO}(hx:∀n,Dt n x=true):Flat (S++[x]):=λo ho=>by
 rcases QaU.mp ho with z | z
 .exact h o z
 .rw [Qa8.mp z];exact hx
def Flat.nil:Flat []:=λo ho=>by cases ho
end L3
end
section
namespace PySem
open Sem (wp)
open AutoSeq1 (wpAny_loadPart')
end PySem
namespace L2
open PySem PySem.Spec PyProof.Rows
section
def WG(f:FD):FD:=λδ=>(f δ).bind λd=>match d with
 | .int j=>R.bH (decide (-(2 ^ 62)<=j/\j<16777216))$ .ok$ .tup$ jq 0 j.toNat
 | _=> .no
def E_{n:Nat}{acc:Array Value}(h:ItemsOf (λi v=>∃t,v=Value.int (0+(i:Int)*1) t) acc n):Vals ((List.range n).map λ(i:Nat)=>V.int$ 0+(i:Int)) acc.toList:=by
 obtain⟨hl,h⟩:=h;have gen:∀(l:List Value) (m:Nat),(∀j v,l[j]? =some v->∃t,v=Value.int (((m+j:Nat):Int)) t)->Vals ((List.range' m l.length).map λ(i:Nat)=>V.int$ 0+(i:Int)) l:=by
  intro l
  induction l with
  | nil=>intro m _;exact .nil
  | cons x l ih=>
    intro m hv;rw[Qao,List.range'_succ,Qaz];obtain⟨t,e⟩:=hv 0 x rfl;refine .cons ⟨t,by rw[e];simp⟩$ ih (m+1) λj v hj=>?_
    obtain⟨t,e⟩:=hv (j+1) v (by simpa using hj)
    exact⟨t,by rw[e];congr 1;omega⟩
 have:=gen acc.toList 0 λj v hj=>by
  obtain⟨t,e⟩:=h j v (by rw[<-hj];simp)
  exact⟨t,by rw[e];congr 1;omega⟩
 rw[<-hl,List.range_eq_range'];simpa using this
theorem DL{K:Qdf}{B:List Addr}:∀l:List Nat,aI K B H (l.map λ(i:Nat)=>D.int$ 0+(i:Int)) (l.map λ(i:Nat)=>V.int$ 0+(i:Int))
 | []=>aI.nil
 | i ::l=>aI.cons (Rep.int.mpr rfl)$ DL l
end
end L2
end
section
namespace PySem
open Sem (wp)
open AutoSeq1 (wpAny_loadPart')
section
variable {prog:Program}{w:World}{A:Around}{E:Aab}{s:Qdg}
def ot{it l:Addr}{i:Nat}{items:Array Value}{x:Value}{Q:Aab}(hit:s.heap.IsTupleIter it l i)(hl:s.heap.IsTuple l items)(hx:items[i]? =some x)
 (hQ:∀h',h'.IsTupleIter it l (i+1)->Heap.SameBut it s.heap h'->Q x {s with heap:=h'}):wpAny (model prog w) A (Builtin.SmallTypes.nextOf$ .ref it) Q E s:=by
 obtain⟨o,ho,hc,hd⟩:=id hit;obtain⟨ol,hol,_,nl,hdl⟩:=hl;unfold Builtin.SmallTypes.nextOf;refine Qaf$ QbC (name:="__next__") hit.typeIs QbU$ QbO QbU hit.typeIs F.entry_tuple_iterator_next ?_$ F.args_tuple_iterator_next_1 _;show wpAny _ _ (field (.ref it) 0 >>=_) _ _ s;refine Qaf$ Qbl ho hd (x:= .ref l) rfl ?_;show wpAny _ _ (if(Value.ref l==Value.none)=true then _ else _) _ _ s;rw [QaH$ show ¬((Value.ref l==Value.none)=true) from QaJ]
 show wpAny _ _ (field (.ref it) 1 >>=_) _ _ s;refine Qaf$ Qbl ho hd (x:= .int i 0) rfl ?_;show wpAny _ _ (seqItems? (.ref l) >>=_) _ _ s;refine Qaf$ QbQ hol hdl ?_;simp only[Qbg,hx];refine Qaf (wpAny_setField ho hd (by simp)$ QaG ⟨x,rfl,QaG$ hQ _ ⟨_,Heap.get?_update_self _ ho$ Obj.isFreed_of_fields$ Obj.data_mapFields hd _,(Obj.cls_mapFields ..).trans hc,by rw[Obj.data_mapFields hd];simp [rawInt]⟩$ Heap.SameBut.update ..⟩)
def kU{it l:Addr}{i:Nat}{items:Array Value}{Q:Aab}(hh:A.handled=none)(hit:s.heap.IsTupleIter it l i)(hl:s.heap.IsTuple l items)(hx:items[i]? =none)
 (hE:∀h' e,Heap.ExtBut it s.heap h'->(∃o,h'.get? e=some o/\o.cls= .type "StopIteration")->E (.ref e) {s with heap:=h'}):wpAny (model prog w) A (Builtin.SmallTypes.nextOf$ .ref it) Q E s:=by
 obtain⟨o,ho,hc,hd⟩:=id hit;obtain⟨ol,hol,_,nl,hdl⟩:=hl;unfold Builtin.SmallTypes.nextOf;refine Qaf$ QbC (name:="__next__") hit.typeIs QbU$ QbO QbU hit.typeIs F.entry_tuple_iterator_next ?_$ F.args_tuple_iterator_next_1 _;show wpAny _ _ (field (.ref it) 0 >>=_) _ _ s;refine Qaf$ Qbl ho hd (x:= .ref l) rfl ?_;show wpAny _ _ (if(Value.ref l==Value.none)=true then _ else _) _ _ s;rw [QaH$ show ¬((Value.ref l==Value.none)=true) from QaJ]
 show wpAny _ _ (field (.ref it) 1 >>=_) _ _ s;refine Qaf$ Qbl ho hd (x:= .int i 0) rfl ?_;show wpAny _ _ (seqItems? (.ref l) >>=_) _ _ s;refine Qaf$ QbQ hol hdl ?_;simp only[Qbg,hx];refine Qaf (wpAny_rule$ Qaf$ wpAny_setField ho hd (by simp) ?_)
 show wpAny _ _ (newExc (.type "StopIteration") [] >>=_) _ _ _;refine Qaf ?_;simp only[newExc,newTuple];refine Qaf (QbD ?_$ by size_fits)
 refine Qaf (m:=firstArgMember _ _) (wpAny_of_eq (a:=Value.none) (by first | rfl | (simp only[firstArgMember];rfl)) ?_);refine QbD ?_ (by size_fits)
 simp only[raiseNew];refine Qaf$ wpAny_handled ?_
 first | rw[show A.in1.handled=none from hh] | rw[hh]
 exact Qaf$ QaG$ wpAny_throw$ hE _ _ (((Heap.SameBut.update ..).extBut.push _).push _) ⟨_,QaN _ rfl,rfl⟩
end
def Jf{prog:Program}{w:World}{A:Around}(hh:A.handled=none)(it l:Addr)(zm:l≠it)(items:Array Value) :
 Draws prog w A it [it,l] items.size (λi v=>items[i]? =some v) (λi h=>h.IsTupleIter it l i/\h.IsTuple l items) where
 live:=λ_ _ st=>let⟨o,ho,_⟩:=st.1;⟨o,ho⟩
 frame:=λ_ _ _ st hk=>⟨st.1.at λo e=>hk it (by simp) o e,Heap.IsTuple.at st.2 λo e=>hk l (by simp) o e⟩
 item:=λi s Q E hi st hQ=>ot st.1 st.2 (x:=items[i]) (by simp [hi]) λh' YV ZQ=>hQ _ h' s.toks (by simp [hi]) ⟨YV,st.2.extBut ZQ.extBut zm⟩ ZQ
 done:=λs Q E st hE=>kU hh st.1 st.2 (by simp) hE
def vQ(l:Addr)(items:Array Value)(o:Obj)(n:Nat)(hc:o.cls= .type "tuple")(hd:o.data= .seq items n) :
 Meets (Builtin.«enumerate.__new__» ⟨[.type "enumerate", .ref l],[]⟩) (λ_ R s=>s.heap.get? l=some o/\
  R (.ok$ .ret$ .ref (s.heap.push {cls:= .type "tuple_iterator",data:= .fields #[.ref l, .int 0 0]}).objs.size)
   {s with heap:=(s.heap.push {cls:= .type "tuple_iterator",data:= .fields #[.ref l, .int 0 0]}).push {cls:= .type "enumerate",data:= .fields #[.none, .bool false, .ref s.heap.objs.size,rawInt 0, .none, .none]}}):=
 .of_wp λprog w A R s h=>by
   obtain⟨hp,g,d,tk,os⟩:=s;obtain⟨hl,h⟩:=h;have hsub:=sub_enumerate;have hL:Heap.IsTuple (Shared.heap ⟨hp,g,d,tk,os⟩) l items:=⟨_,hl,hc,n,hd⟩
   wp_walk using wpAny_loadPart' hl
   refine wpAny_stack_any λst=>QaG ?_
   split
   .rename_i c _ _ _ _ _;cases(c==Value.type "enumerate") <;> (wp_walk using wpAny_loadPart' hl,Qcr hL;exact⟨_,rfl,h⟩)
   .wp_walk using wpAny_loadPart' hl,Qcr hL
    exact⟨_,rfl,h⟩
def FJ{prog:Program}{w:World}{A:Around}{E:Aab}{s:Qdg}{l:Addr}{items:Array Value}{Q:Aab}(hL:s.heap.IsTuple l items)
 (h:∀h':Heap,IsEnum h' (s.heap.objs.size+1) s.heap.objs.size 0 .none->h'.IsTupleIter s.heap.objs.size l 0->(∀b o,s.heap.get? b=some o->h'.get? b=some o)->Q (.ref$ s.heap.objs.size+1) {s with heap:=h'}) :
 wpAny (model prog w) A (call (.type "enumerate") [.ref l]) Q E s:=by
 obtain⟨o,hl,hc,n,hd⟩:=hL;refine callType_new F.called_enumerate (by decide) (F.typeCall_enumerate_1 _) (F.newCall_enumerate_1 _) (λobj=>F.args_object_init_2 obj _) F.entry_enumerate_new (vQ l items o n hc hd) ⟨hl,?_⟩
 have hz:(s.heap.push {cls:= .type "tuple_iterator",data:= .fields #[.ref l, .int 0 0]}).objs.size=s.heap.objs.size+1:=Qbk ..;show _/\_;rw [hz];have he:IsEnum ((s.heap.push {cls:= .type "tuple_iterator",data:= .fields #[.ref l, .int 0 0]}).push {cls:= .type "enumerate",data:= .fields #[.none, .bool false, .ref s.heap.objs.size,rawInt 0, .none, .none]}) (s.heap.objs.size+1) s.heap.objs.size 0 .none:=by
  have:=QaN (s.heap.push {cls:= .type "tuple_iterator",data:= .fields #[.ref l, .int 0 0]}) (o:={cls:= .type "enumerate",data:= .fields #[.none, .bool false, .ref s.heap.objs.size,rawInt 0, .none, .none]}) rfl;rw[hz] at this;exact this
 exact⟨⟨_,he,rfl⟩,h _ he ⟨_,Qah _$ QaN _ rfl,rfl,rfl⟩ λb o x=>Qah _$ Qah _ x⟩
end PySem
namespace L2
open PySem PySem.Spec PyProof.Rows
def XS(K:Qdf)(a:Addr):It:=
 ⟨λi H=>∃xs x,u9 K H a xs/\xs[i]? =some x,λi H v H'=>∃p x,H p=none/\v= .ref p/\(∀xs,u9 K H a xs->xs[i]? =some x)/\H'=upd H p (.tup [.int i,x]),λi H=>∃xs,u9 K H a xs/\xs.length<=i⟩
def EH{K:Qdf}{k:Nat}(a e it:Addr)(TU:e≠it):Turn P w K (.Tuple elts k pos) (XS K a) [e,it] e (λi h=>(∃old,IsEnum h e it ((i:Nat):Int) old)/\h.IsTupleIter it a i) where
 mem:=by simp
 obj:=λi h st b hb=>by
  obtain⟨⟨old,he⟩,o,ho,c,d⟩:=st;rcases QaE.mp hb with rfl | hb
  .exact⟨_,he,λv z=>by cases z⟩
  .have e:b=it:=by simpa using hb
   subst e;exact⟨o,ho,λv z=>by rw[d] at z;cases z⟩
 keep:=λi h h' st k=>by
  obtain⟨⟨old,he⟩,hi⟩:=st;exact⟨⟨old,k e (by simp) _ he⟩,hi.at λo x=>k it (by simp) o x⟩
 item:=by
  intro X hP hw hK hc i pins s σ H E I hf st hg;subst hP hw hK;obtain⟨xs,x,hq,hx⟩:=hg;obtain⟨its,rv,p,hz⟩:=I.tuple hq;have p':s.heap.IsTuple a its.toArray:=p;obtain⟨u,hu,ru⟩:=rv.get hx;obtain⟨⟨old,he⟩,hit⟩:=st;obtain⟨f0,f1,f2,f3,f4,f5⟩:=hf e (by simp)
  obtain⟨g0,g1,g2,g3,g4,g5⟩:=hf it (by simp)
  have ha_it:a≠it:=λz=>by
   obtain⟨o1,h1,c1,_⟩:=p';obtain⟨o2,h2,c2,_⟩:=hit;rw[z,h2] at h1;cases h1;rw[c2] at c1;exact absurd c1 (by decide)
  have ha_e:e ∉ [it,a]:=λz=>by
   rcases QaE.mp z with q | q
   .exact TU q
   .have q:e=a:=by simpa using q
    obtain⟨o1,h1,c1,_⟩:=p';rw[<-q,he] at h1;cases h1;exact absurd (show Value.type "enumerate"=Value.type "tuple" from c1) (by decide)
  refine wpAny_pyNext_enum_itemD (Jf (A:=X.A.in1) (I.ok.hd hc) it a ha_it its.toArray) he ⟨hit,p'⟩ (by have:=(Qae.mp hu).1;simpa using this) TU ha_e λu2 i7 tk hu2 MO Wc Ms qY Al=>⟨_,rfl,?_⟩
  obtain rfl:u2=u:=by
   have h1:its[i]? =some u2:=by simpa using hu2
   rw[hu] at h1;cases h1;rfl
  obtain⟨FV,_⟩:=Wc;refine wpAny_letOwnedTupleGo_enum MO λgC Mx dj=>?_
  replace dj:Heap.SameBut e i7 gC:=dj
  have hel:e<s.heap.objs.size:=QaD he;have Ed:gC.get? s.heap.objs.size=some {cls:= .type "tuple",data:= .seq #[.int i tk,u2]}:=(dj.2 _$ Qcm hel).trans Ms;have kk:∀b o,b≠e->b≠it->s.heap.get? b=some o->gC.get? b=some o:=λb o h1 h2 q=>(dj.2 b h1).trans$ Al b o h1 h2 q
  have hn:H s.heap.objs.size=none:=I.fresh;have sm:bo H (upd H s.heap.objs.size$ .tup [.int i,x]):=aU hn;have nit:∀b o,H b=some o->b≠e/\b≠it:=λb o q=>⟨λz=>(by rw[z,f0] at q;cases q),λz=>(by rw[z,g0] at q;cases q)⟩
  have hok:ql X.prog X.w (upd H s.heap.objs.size$ .tup [.int i,x]) gC:=λb ob q=>by
   by_cases hb:b=s.heap.objs.size
   .subst hb;rw[bh] at q;cases q;exact⟨by show 2<=sizeLine;decide,[.int i tk,u2], .cons ⟨_,rfl⟩$ .cons ru .nil,⟨_,Ed,rfl,_,rfl⟩⟩
   .rw [bA hb] at q;refine(I.hok b ob q).Aw (λc v hc z=>?_) (λc z=>sm c _ z) λc ys z=>sm c _ z
    rcases hc with rfl | hc
    .exact kk c v (nit c _ q).1 (nit c _ q).2 z
    .exact kk c v (nit c _ hc).1 (nit c _ hc).2 z
  have nch:∀b,b ∉ [e,it]->b≠e/\b≠it:=λb hb=>⟨λz=>hb (by simp [z]),λz=>hb$ by simp [z]⟩
  have I2:Inv X pins σ (upd H s.heap.objs.size$ .tup [.int i,x]) {s with heap:=gC,toks:=tk+1}:=by
   refine I.step (g':=s.gens) (d':=s.drawn) (ch:=[e,it]) (λb hb=>?_) (λb o _ _ hb q _=>kk b o (nch b hb).1 (nch b hb).2 q) (λb o _ _ hb q _=>⟨o.slots,kk b o (nch b hb).1 (nch b hb).2 q⟩)
    (λb o hb q n=>by rw[bA$ QaR$ QaD q];exact n) (λb o hb q=>⟨o,kk b o (nch b hb).1 (nch b hb).2 q⟩) (λb ys z=>sm b _ z) (λb o u z=>sm b _ z) (λb ps z=>⟨#[],by rw[sm b _ z];simp⟩) (λm hm=>?_) hok I.bare
   .rcases QaE.mp hb with rfl | hb
    .exact⟨f3,f1,f4,f5⟩
    .have z:b=it:=by simpa using hb
     subst z;exact⟨g3,g1,g4,g5⟩
   .obtain⟨o,es,ep,ho,r⟩:=hm;exact⟨o,es,ep,kk _ o (QbM f1) (QbM g1) ho,r⟩
  refine⟨.ref s.heap.objs.size,_,I2,rfl,⟨s.heap.objs.size,x,hn,rfl,λys hy=>(by rw[I.uw hy hq];exact hx),rfl⟩,⟨⟨_,by simpa using Mx⟩,FV.at λo q=>(dj.2 it$ QbM TU).trans q⟩,λb hb=>?_⟩
  rcases QaE.mp hb with rfl | hb
  .rw [bA$ QaR hel];exact f0
  .have z:b=it:=by simpa using hb
   subst z;obtain⟨o,ho,_⟩:=hit;rw[bA$ QaR$ QaD ho];exact g0
 done:=by
  intro X hP hw hK hc i pins s σ H E I hf st hg;subst hP hw hK;obtain⟨xs,hq,hx⟩:=hg;obtain⟨its,rv,p,hz⟩:=I.tuple hq;have p':s.heap.IsTuple a its.toArray:=p;obtain⟨⟨old,he⟩,hit⟩:=st;obtain⟨g0,g1,g2,g3,g4,g5⟩:=hf it (by simp)
  have hl:=rv.length;have hT:s.TypeIs (.ref e) "enumerate":=⟨_,he,rfl⟩;unfold pyNext;refine Qaf$ wpAny_attempt$ QbC (name:="__next__") hT F.slot_enumerate_next$ QbO F.slot_enumerate_next hT F.entry_enumerate_next ?_$ F.args_enumerate_next_1 _;show wpAny _ _ (field (.ref e) 2 >>=_) _ _ _;refine Qaf$ Qbl he rfl (x:= .ref it) rfl ?_;refine Qaf (kU (A:=X.A.in1) (I.ok.hd hc) hit p' (by simp;omega) λh' x YQ hx'=>?_)
  obtain⟨o,ho,MA⟩:=hx';refine Qaf$ wpAny_isInstance (T:="StopIteration") (b:=true) ⟨o,ho,MA⟩ isSubtype_stop ?_;exact QaG ⟨rfl,I.turned (t':=s.toks) (λb o hb q=>YQ b o hb q) g0 g1 g3 g4 g5⟩
 self:=λA i s Q E st h=>let⟨⟨_,he⟩,_⟩:=st;Qcx he h
section
variable {X:Cx}
def BZ(f:FD):ay->R (List D):=λδ=>(f δ).bind λd=>match d with | .tup ds=> .ok (er ds) | _=> .no
def Fo{elts:List Expr}{k:Nat}{yB:Pos}{p pos:Pos}(h:QD X a f)(hg:Gl X "enumerate")(hm:X.mg "enumerate"=none)(hs:starEach [a] X.env=[(false,eval a X.env)]:=by rfl):Cd X (.Tuple elts k yB) (.Call (.Name "enumerate" p) [a] [] pos) (BZ f):=by
 refine⟨?_⟩;intro pins s σ H RR I ⟨Z,B,δ,ds,E,hf,q⟩;obtain⟨d,h1,h2⟩:=R.ao hf;have hA:=dq h.1 f9 hs pos pins s σ H (λvs H1=>bo H H1/\∃v,vs=[v]/\Rep X.K B H1 d v) I ⟨Z,B,δ,d,E,h1,λv H1 s1 r1=>⟨s1,v,rfl,r1⟩⟩
 refine Call_$ jK I hg hm boot_enumerate$ QaX (d9 hA λus s1 ⟨vs,H1,I1,r1,ss,v,ev,rr⟩=>?_) hs rfl
 subst ev;obtain⟨u,rfl,ru⟩:=vals1 r1;cases d with
 | tup es=>
   cases h2;obtain⟨b,xs,rfl,l,rs⟩:=Rep.tup.mp rr;cases ru;obtain⟨its,rv,pt,hz⟩:=I1.tuple l.sq;refine FJ (items:=its.toArray) pt λh' he hit kk=>Qcx he ?_
   have I2:Inv X pins σ H1 {s1 with heap:=h'}:=I1.kept (t':=s1.toks) kk
   refine⟨s1.heap.objs.size+1,[s1.heap.objs.size+1,s1.heap.objs.size],_,_,H1,rfl,I2,EH b (s1.heap.objs.size+1) s1.heap.objs.size$ Nat.succ_ne_self _,⟨⟨_,he⟩,hit⟩,λc hc=>?_,q _ H1 ss λB' H' pr=>?_⟩
   .have hle:s1.heap.objs.size<=c:=by
     rcases QaE.mp hc with z | hc
     .rw [z];exact Qce _
     .have z:c=s1.heap.objs.size:=by simpa using hc
      rw[z];exact Qak _
    exact I1.A1 hle$ I1.hok.fresh hle
   .have l':Ac X.K B' H' b xs:=l.elim (λz=> .inl ⟨(pr.rd z.2 z.1).2,(pr.rd z.2 z.1).1⟩) .inr
    have rs':=rs.bG pr;refine⟨λi d hd=>?_,⟨xs,l'.sq,by rw[<-rs.length];unfold er;simp⟩⟩
    unfold er at hd;rw[Qac,Qbd] at hd;cases e:es[i]? with
    | none=>rw [e] at hd;cases hd
    | some d0=>
      rw[e] at hd;have hd:D.tup [.int ((0+i:Nat):Int),d0]=d:=QaW hd;rw[QcI] at hd;obtain⟨x,hx,rx⟩:=rs'.get e;refine⟨⟨xs,x,l'.sq,hx⟩,λv qX y Pg=>?_⟩
      obtain⟨p,y,hp,rfl,hy,rfl⟩:=y;refine⟨aU hp,?_⟩;subst hd;have Jo:=hy xs l'.sq;rw[hx] at Jo;cases Jo;refine Rep.tup.mpr ⟨p,_,rfl, .inl ⟨λha=>?_, .inl bh⟩,aI.cons (Rep.int.mpr rfl)$ aI.cons (rx.same$ aU hp) aI.nil⟩
      obtain⟨o,ho⟩:=Pg p ha;rw[hp] at ho;cases ho
 | _=>cases h2
end
section
variable {X:Cx}
abbrev YY:D->D->R D:=MF (fun _ j=>decide$ 0<j/\j.natAbs.log2<9000) fun i j=>i / j
theorem DO{K:Qdf}{B:List Addr}{ds:List D}{xs:List V}(r:aI K B H ds xs):∀n:Nat,aI K B H (List.replicate n ds).flatten (List.replicate n xs).flatten
 | 0=>aI.nil
 | n+1=>by rw[Qbo,Qbo,QbJ,QbJ];exact r.append$ DO r n
def Ey(f:ay->R (List D))(g:FD):ay->R (List D):=λδ=>(f δ).bind λds=>(g δ).bind λd=>match d with
 | .int k=>R.bH (decide$ 0<=k/\k<1000000/\ds.length*k.toNat<=sizeLine)$ .ok (List.replicate k.toNat ds).flatten
 | _=> .no
def Gp{f:ay->R (List D)}(ha:QN X a f)(hb:QD X b g):QN X (.BinOp a .Mult b pos) (Ey f g):=by
 refine⟨(L6 QZ ha.1 hb.1).imp λσ H Q ⟨Z,B,δ,es,E,hf,q⟩=>?_⟩
 obtain⟨ds,h1,h2⟩:=R.ao hf;obtain⟨d,h3,h4⟩:=R.ao h2;split at h4
 .rename_i k;obtain⟨h5,h6⟩:=R.bj h4;cases h6;obtain⟨k0,k1,k2⟩:=Qal h5;refine⟨Z,B,δ,ds,E,h1,λa xs H1 s1 n1 e1 r1=>⟨Z,B,δ, .int k,E.same s1,h3,λv H2 s2 r2=>⟨a,k,xs,rfl,Rep.int.mp r2,s2 a _ e1,by omega,by omega,by rw[<-r1.length];exact k2,λp hp=>?_⟩⟩⟩
  refine q p _ _ (s1.trans$ s2.trans$ aU hp) ((s1.trans s2).free hp) bh ?_;refine(DO r1 k.toNat).bG λb o e nb=>⟨(s2.trans$ aU hp) b o e,λhm=>?_⟩
  rcases QaE.mp hm with z | z
  .rw [z] at e;rw [s2 p _ e] at hp;cases hp
  .exact nb (Qad _ z)
 .cases h4
noncomputable def Kk(ns:List Int):List Int:=ns.mergeSort λa b=>decide$ a<=b
def Ww:List D->R D
 | [.lst ds]=>(match ints? ds with | some ns=>R.bH (decide$ ns.length<64) (.ok$ .lst$ (Kk ns).map .int) | none=> .no)
 | _=> .no
def getD_in{l:List Int}{i:Nat}(h:i<l.length):l.getD i 0∈l:=by
 have e:l.getD i 0=l[i]:=by simp [h]
 rw[e];exact Qa7 h
theorem fold_min:∀(ns:List Int) (n:Int),ns.foldl min n∈n ::ns/\∀a∈n ::ns,ns.foldl min n<=a
 | [],n=>⟨by simp,λa ha=>by simp at ha;subst ha;exact Int.le_refl _⟩
 | x ::ns,n=>by
   obtain⟨h1,h2⟩:=fold_min ns$ min n x;rw[List.foldl_cons];refine⟨?_,λa ha=>?_⟩
   .rcases QaE.mp h1 with z | z
    .rw [z];by_cases hc:n<=x
     .rw [Int.min_eq_left hc];simp
     .rw [Int.min_eq_right$ by omega];simp
    .exact Qad _ (Qad _ z)
   .have hm:=h2 _ Qan;rcases QaE.mp ha with z | z
    .subst z;omega
    .rcases QaE.mp z with z | z
     .subst z;omega
     .exact h2 a (Qad _ z)
theorem fold_max:∀(ns:List Int) (n:Int),ns.foldl max n∈n ::ns/\∀a∈n ::ns,a<=ns.foldl max n
 | [],n=>⟨by simp,λa ha=>by simp at ha;subst ha;exact Int.le_refl _⟩
 | x ::ns,n=>by
   obtain⟨h1,h2⟩:=fold_max ns$ max n x;rw[List.foldl_cons];refine⟨?_,λa ha=>?_⟩
   .rcases QaE.mp h1 with z | z
    .rw [z];by_cases hc:n<=x
     .rw [Int.max_eq_right hc];simp
     .rw [Int.max_eq_left$ by omega];simp
    .exact Qad _ (Qad _ z)
   .have hm:=h2 _ Qan;rcases QaE.mp ha with z | z
    .subst z;omega
    .rcases QaE.mp z with z | z
     .subst z;omega
     .exact h2 a (Qad _ z)
def sS:List D->R D
 | [.lst ds]=>(match ints? ds with | some (n ::ns)=> .ok (.int$ ns.foldl min n) | _=> .no)
 | ds=>M4 ds
def G7:List D->R D
 | [.lst ds]=>(match ints? ds with | some (n ::ns)=> .ok (.int$ ns.foldl max n) | _=> .no)
 | ds=>QX ds
def Bu(hc:X.calm=true):cV X (.builtin "min") sS:=by
 intro pins s σ H B ds d xs us I hb rx rs hg;unfold sS at hg;split at hg
 .split at hg
  .rename_i es n ns e;cases hg;obtain⟨x,rfl,r⟩:=rs.one;obtain⟨a,ys,rfl,l,r⟩:=Rep.lst.mp r;obtain⟨u,rfl,ru⟩:=vals1 rx;cases ru;obtain⟨its,k,rv,e1,hz⟩:=I.Qi l;rw[dv r e] at rv;obtain⟨ps,rfl,hps⟩:=gp rv;have hl:s.heap.IsList a (intItems ps.toArray):=⟨_,e1,rfl,k,by simp [intItems]⟩
   have hlp:ps.length=ns.length+1:=by have:=Qbh List.length hps;simpa using this
   refine min_intList (I.ok.hd hc) hl (by simp;omega) λv h' tk hv hk=>?_
   obtain⟨t,rfl⟩:=intItems_at hv;obtain⟨b1,b2⟩:=argBest_lt (numAt ps.toArray)$ ps.toArray.size - 1;refine⟨.int _,H,I.kept hk,⟨t,rfl⟩,bo.refl H,Rep.int.mpr ?_⟩;obtain⟨m1,m2⟩:=fold_min ns n;have hge:∀j,j<ps.length->numAt ps.toArray j=(n ::ns).getD j 0:=λj hj=>by rw[numAt_eq,<-hps]
   have hin:numAt ps.toArray (argBest (λi j=>decide$ numAt ps.toArray i<numAt ps.toArray j)$ ps.toArray.size - 1)∈n ::ns:=by
    rw[hge _$ by simp at b1 ⊢;omega];exact getD_in (by simp at b1 ⊢;omega)
   have hle:=m2 _ hin;obtain⟨j,hj,ej⟩:=Qcf m1;have Jn:j<ns.length+1:=by simpa using hj
   have h3:=b2 j (by simp;omega)
   rw[hge j$ by omega] at h3
   have h4:(n ::ns).getD j 0=ns.foldl min n:=by rw[<-ej,Qag,Qab hj];rfl
   rw[h4] at h3;congr 1;omega
  .cases hg
 .exact U9 hc pins s σ H B _ d xs us I hb rx rs hg
def Sy(hc:X.calm=true):cV X (.builtin "max") G7:=by
 intro pins s σ H B ds d xs us I hb rx rs hg;unfold G7 at hg;split at hg
 .split at hg
  .rename_i es n ns e;cases hg;obtain⟨x,rfl,r⟩:=rs.one;obtain⟨a,ys,rfl,l,r⟩:=Rep.lst.mp r;obtain⟨u,rfl,ru⟩:=vals1 rx;cases ru;obtain⟨its,k,rv,e1,hz⟩:=I.Qi l;rw[dv r e] at rv;obtain⟨ps,rfl,hps⟩:=gp rv;have hl:s.heap.IsList a (intItems ps.toArray):=⟨_,e1,rfl,k,by simp [intItems]⟩
   have hlp:ps.length=ns.length+1:=by have:=Qbh List.length hps;simpa using this
   refine max_intList (I.ok.hd hc) hl (by simp;omega) λv h' tk hv hk=>?_
   obtain⟨t,rfl⟩:=intItems_at hv;obtain⟨b1,b2⟩:=argBest_gt (numAt ps.toArray)$ ps.toArray.size - 1;refine⟨.int _,H,I.kept hk,⟨t,rfl⟩,bo.refl H,Rep.int.mpr ?_⟩;obtain⟨m1,m2⟩:=fold_max ns n;have hge:∀j,j<ps.length->numAt ps.toArray j=(n ::ns).getD j 0:=λj hj=>by rw[numAt_eq,<-hps]
   have hin:numAt ps.toArray (argBest (λi j=>decide$ numAt ps.toArray i > numAt ps.toArray j)$ ps.toArray.size - 1)∈n ::ns:=by
    rw[hge _$ by simp at b1 ⊢;omega];exact getD_in (by simp at b1 ⊢;omega)
   have hle:=m2 _ hin;obtain⟨j,hj,ej⟩:=Qcf m1;have Jn:j<ns.length+1:=by simpa using hj
   have h3:=b2 j (by simp;omega)
   rw[hge j$ by omega] at h3
   have h4:(n ::ns).getD j 0=ns.foldl max n:=by rw[<-ej,Qag,Qab hj];rfl
   rw[h4] at h3;congr 1;omega
  .cases hg
 .exact U5 hc pins s σ H B _ d xs us I hb rx rs hg
end
end L2
namespace L3
open PySem PySem.Spec PyProof.Rows L2
def E6(S:bp):V3->Option (List D)
 | .d (.lst ds)=>some ds
 | .loc k=>dz S k
 | _=>none
def JH{K:Qdf}{cl:Aag}{ρ:P3}{S:bp}{v:V3}{x:V}{ds:List D}(w:SW K cl ρ H S)(h:E6 S v=some ds)(r:bE K ρ H v x):∃a xs,x= .ref a/\zM K [] H a xs/\aI K ρ.b H ds xs:=by
 unfold E6 at h;split at h
 .cases h;unfold bE Rep at r;obtain⟨a,xs,e,l,rs⟩:=r;exact⟨a,xs,e,l.bG (λb o e _=>⟨e,by simp⟩),rs⟩
 .unfold bE at r;obtain⟨a,a1,rfl⟩:=r;obtain⟨xs,e,rs⟩:=w.ob _ a _ a1$ gR h;exact⟨a,xs,rfl, .inl ⟨by simp, .inl e⟩,rs⟩
 .cases h
section
variable {X:Cx}{cl:Aag}
def SY(fa fb:FX):FX:=λδ S=>(fa δ S).bind λa S1=>(fb δ S1).bind λb S2=>match E6 S2 a,E6 S2 b with
 | some ds,some es=>R3.bH (decide$ ds.length+es.length<=sizeLine)$ .ok (.loc S2.length)$ S2++[.lst$ ds++es]
 | _,_=> .no
def R4(ha:PX X cl a fa)(hb:PX X cl b fb):PX X cl (.BinOp a .Add b pos) (SY fa fb):=⟨(L6 Hb ha.1 hb.1).imp λσ H Q ⟨ρ,S,δ,v,S',E,hf,q⟩=>by
 obtain⟨a,S1,h1,h2⟩:=R3.ao hf;obtain⟨b,S2,h3,h4⟩:=R3.ao h2;split at h4
 .rename_i ds es e1 fG;obtain⟨hl,h5⟩:=R3.bj h4;cases h5;refine⟨ρ,S,δ,a,S1,E,h1,λu1 dg H1 p1 w1 r1=>⟨dg,S1,δ,b,S2,E.to p1 w1,h3,λu2 uL H2 p2 w2 r2=>?_⟩⟩
  obtain⟨la,xs,rfl,l1,VX⟩:=JH w2 e1$ r1.pre p2;obtain⟨lb,ys,rfl,l2,Ta⟩:=JH w2 fG r2;refine⟨[],la,lb,xs,ys,rfl,rfl,l1,l2,by rw[<-VX.length,<-Ta.length];exact Qal hl,λp hp=>?_⟩
  obtain⟨w3,p3⟩:=w2.new (a:=p) (o:= .lst$ ds++es) (aU (o:= .lst$ xs++ys) hp) hp ⟨xs++ys,bh,(VX.append Ta).bG (λb o e nb=>⟨by rw[bA$ cG e hp];exact e,λhb=>by
   rcases P3.mem_push hb with z | z
   .exact nb z
   .exact cG e hp z⟩)⟩
  exact q _ _ _ (p1.trans$ p2.trans p3) w3 (by unfold bE;exact⟨p,by show(uL.r++[p])[_]? =_;rw [<-w2.len,Qaj$ Qak _,Qbe];rfl,rfl⟩)
 .cases h4⟩
def Vu{fa fb:FX}{δ:DE}{S:bp}{Q:V3->bp->Prop}(h:W3 (fa δ S) λa S1=>W3 (fb δ S1) λb S2=>∃ds es,E6 S2 a=some ds/\E6 S2 b=some es/\ds.length+es.length<=sizeLine/\Q (.loc S2.length) (S2++[.lst$ ds++es])):W3 (SY fa fb δ S) Q:=
 W3.bind (h.mono λ_ _ h=>W3.bind (h.mono λ_ _ ⟨ds,es,e1,fG,hl,q⟩=>by
  simp only[e1,fG];exact W3.wh (Qat hl)$ W3.ok q))
def aab(i:Nat):FZ:=λδ S=>match iu δ i with
 | none=> .no
 | some k=>(match dz S k with | some _=> .ok (.nx δ) (S.set k$ .lst []) | none=> .no)
end
noncomputable def ph(S:bp)(c k:Nat):Option (List$ Str × V3):=match S[k]? with | some (.ins c' fs)=>(if c'=c then some fs else none) | _=>none
def nc{S:bp}{c k:Nat}{fs:List (Str × V3)}(h:ph S c k=some fs):S[k]? =some (.ins c fs):=by
 unfold ph at h;split at h
 .rename_i c' TK e;split at h
  .rename_i hc;cases h;rw [e,hc]
  .cases h
 .cases h
theorem GV{K:Qdf}{v:V3}:∀{fs:List (Str × V3)} {ys:List (Str × V)},ys.map (·.1)=fs.map (·.1)->aR K ρ H (fs.map (·.2)) (ys.map (·.2))->fs.lookup f=some v->∃x,ys.lookup f=some x/\bE K ρ H v x
 | [],ys,_,_,h=>by simp at h
 | (g,w) ::fs,[],e,_,_=>by simp at e
 | (g,w) ::fs,(g',y) ::ys,e,r,h=>by
   obtain⟨e1,fG⟩:=Qcd e;have e1:g'=g:=e1;subst e1;obtain⟨x,xs,ex,r1,r2⟩:=r.cj;cases ex;rw[QaF] at h ⊢;cases hq:f==g' with
   | true=>rw [hq] at h;cases h;exact⟨y,rfl,r1⟩
   | false=>rw [hq] at h;exact GV fG r2 h
theorem Cy:∀{fs:List (Str × V3)} {ys:List (Str × V)},ys.map (·.1)=fs.map (·.1)->fs.lookup f=none->ys.lookup f=none
 | [],[],_,_=>rfl
 | [],_ ::_,e,_=>by simp at e
 | _ ::_,[],e,_=>by simp at e
 | (g,w) ::fs,(g',y) ::ys,e,h=>by
   obtain⟨e1,fG⟩:=Qcd e;have e1:g'=g:=e1;subst e1;rw[QaF] at h ⊢;cases hq:f==g' with
   | true=>rw [hq] at h;cases h
   | false=>rw [hq] at h;exact Cy fG h
noncomputable def CM(f:Str)(v:V3):List (Str × V3)->List (Str × V3)
 | []=>[(f,v)]
 | (g,x) ::r=>if g=f then(g,v) ::r else(g,x) ::CM f v r
def G9{K:Qdf}{f:Str}{v:V3}{u:V}(rv:bE K ρ H v u):∀{fs:List (Str × V3)} {ys:List (Str × V)},ys.map (·.1)=fs.map (·.1)->aR K ρ H (fs.map (·.2)) (ys.map (·.2))->
 (ml f u ys).map (·.1)=(CM f v fs).map (·.1)/\aR K ρ H ((CM f v fs).map (·.2)) ((ml f u ys).map (·.2))
 | [],[],_,_=>⟨rfl,aR.cons rv aR.nil⟩
 | [],_ ::_,e,_=>by simp at e
 | _ ::_,[],e,_=>by simp at e
 | (g,w) ::fs,(g',y) ::ys,e,r=>by
   obtain⟨e1,fG⟩:=Qcd e;have e1:g'=g:=e1;subst e1;obtain⟨x,xs,ex,r1,r2⟩:=r.cj;cases ex;unfold CM ml;by_cases hg:g'=f
   .rw [QaK hg,QaK hg];exact⟨by rw[Qaz,Qaz,fG],aR.cons rv r2⟩
   .rw [QaH hg,QaH hg];obtain⟨h1,h2⟩:=G9 rv fG r2;exact⟨by rw[Qaz,Qaz,h1],aR.cons r1 h2⟩
section
variable {X:Cx}{cl:Aag}
def Fj(c:Nat)(f:Str)(g:FX):FX:=λδ S=>(g δ S).bind λv S1=>match v with
 | .loc k=>(match ph S1 c k with | some fs=>(match fs.lookup f with | some v=> .ok v S1 | none=> .no) | none=> .no)
 | _=> .no
def xJ{c:Nat}{pos:Pos}(hC:Ef X.K (cl c))(hn:fJ X.K (cl c) f)(he:PX X cl e g)(hb:attributeBase e f X.env (eval e X.env)=eval e X.env:=by rfl):PX X cl (.Attribute e f pos) (Fj c f g):=⟨(QL he.1 hb).imp λσ H Q ⟨ρ,S,δ,v,S',E,hf,q⟩=>by
 obtain⟨o,S1,h1,h2⟩:=R3.ao hf;split at h2
 .rename_i k;split at h2
  .rename_i fs e1;split at h2
   .rename_i w fG;cases h2;refine⟨ρ,S,δ, .loc k,_,E,h1,λu dg H1 p1 w1 r1=>?_⟩
    unfold bE at r1;obtain⟨a,a1,rfl⟩:=r1;obtain⟨dx,ys,ey,ek,rs⟩:=w1.ob k a _ a1$ nc e1;obtain⟨x,hx,rx⟩:=GV ek rs fG;exact⟨a,cl c,dx,ys,x,rfl,ey,hC,hn,hx,q x dg H1 p1 w1 rx⟩
   .cases h2
  .cases h2
 .cases h2⟩
def w_fld{c k:Nat}{g:FX}{δ:DE}{S:bp}{Q:V3->bp->Prop}(h:W3 (g δ S) λv S1=>∃fs w,v= .loc k/\S1[k]? =some (.ins c fs)/\fs.lookup f=some w/\Q w S1):W3 (Fj c f g δ S) Q:=
 W3.bind (h.mono λv S1 ⟨fs,w,e1,fG,e3,q⟩=>by
  subst e1;have e4:ph S1 c k=some fs:=by unfold ph;simp only[fG,QbN]
  simp only[e4,e3];exact W3.ok q)
def vd(P:Program)(w:World)(K:Qdf)(mg:Aaf)(base:Heap)(cl:Aag)(k c:Nat)(m:Str)(n:Nat)(g:List V3->bp->R3 V3):Prop:=
 ∃(f:Addr) (fd:FuncData) (ps:List Str),Ef K (cl c)/\Meth K (cl c) m f/\jW P w K mg base xu k f fd ps (LR K cl (n+1) g)/\Binds K fd ps []
def w6(c:Nat)(m:Str)(g:List V3->bp->R3 V3)(fo:FX)(fs:FA):FX:=λδ S=>(fo δ S).bind λo S1=>match o with
 | .loc k=>(match ph S1 c k with | some ys=>(match ys.lookup m with | none=>(fs δ S1).bind λvs S2=>g (.loc k ::vs) S2 | some _=> .no) | none=> .no)
 | _=> .no
def we{g:List V3->bp->R3 V3}{k j n c:Nat}{m:Str}{o e:Expr}{es:List Expr}{fo:FX}{fs:FA}{apos pos:Pos}{pl:Sem Bool}(M:vd X.prog X.w X.K X.mg X.base cl k c m n g)(hr:eU j X.A)(hkj:k<=j)(ho:PX X cl o fo)(ha:NY X cl (e ::es) fs)(hn:∀δ S ds S',fs δ S= .ok ds S'->ds.length=n)
 (Jl:starEach (e ::es) X.env=(false,eval e X.env) ::starEach es X.env:=by rfl) (j_:(backTo pos$ starEach es X.env).any (·.1)=false:=by rfl)
 (ht:eval (.Call (.Attribute o m apos) (e ::es) [] pos) X.env=(do
   let ov <-eval o X.env
   standAt apos.atName
   let(f,first) <-holding [ov] (getMethod ov m pl)
   callWith pos f first (backTo pos$ starEach (e ::es) X.env) (backToKw pos$ keywordEach [] X.env)):=by rfl) :
 PX X cl (.Call (.Attribute o m apos) (e ::es) [] pos) (w6 c m g fo fs):=by
 obtain⟨f,fd,ps,hC,hm,F,hb⟩:=M;refine⟨(Nl ho.1 hC hm F (hr.mono hkj) hb .nil C7 ha.1 Jl j_ ht).imp λσ H Q ⟨ρ,S,δ,v,S',E,hf,q⟩=>?_⟩
 obtain⟨ov,S1,h1,h2⟩:=R3.ao hf;split at h2
 .rename_i kk;split at h2
  .rename_i ys e1;split at h2
   .rename_i fG;obtain⟨vs,S2,h3,h4⟩:=R3.ao h2;refine⟨ρ,S,δ, .loc kk,S1,E,h1,λu dg H1 p1 w1 r1=>?_⟩
    have tS:=r1;unfold bE at r1;obtain⟨a,a1,rfl⟩:=r1;obtain⟨dx,zs,ey,ek,rs⟩:=w1.ob kk a _ a1$ nc e1;refine⟨a,dx,zs,rfl,ey,Cy ek fG,dg,S1,δ,vs,S2,E.to p1 w1,h3,λus uL H2 p2 w2 r2=>?_⟩
    show LR X.K cl (n+1) g (V.ref a ::(us++[])) H2 Q E0;rw[QaV];exact⟨by rw[Qao,<-r2.length,hn δ S1 vs S2 h3],uL,S2, .loc kk ::vs,v,S',w2,aR.cons (tS.pre p2) r2,h4,λz Mu H3 p3 w3 r3=>q z Mu H3 (p1.trans$ p2.trans p3) w3 r3⟩
   .cases h2
  .cases h2
 .cases h2
def Ly(P:Program)(w:World)(K:Qdf)(mg:Aaf)(base:Heap)(cl:Aag)(k c:Nat)(x:Str)(n:Nat)(g:List V3->bp->R3 V3):Prop:=
 ∃(f:Addr) (fd:FuncData) (ps:List Str),Mk K (cl c) f/\jW P w K mg base xu k f fd ps (LR K cl (n+1) g)/\mg x=some (.ref$ cl c)/\Binds K fd ps []
def LH(c:Nat)(g:List V3->bp->R3 V3)(fs:FA):FX:=λδ S=>(fs δ S).bind λvs S1=>(g (.loc S1.length ::vs)$ S1++[.ins c []]).bind λv S2=>match v with
 | .d .cY=> .ok (.loc S1.length) S2
 | _=> .no
def N4{g:List V3->bp->R3 V3}{k j n c:Nat}{x:Str}{p pos:Pos}{e:Expr}{es:List Expr}{fs:FA}(M:Ly X.prog X.w X.K X.mg X.base cl k c x n g)(hr:eU j X.A)(hkj:k+1<=j)(hg:Gl X x)(ha:NY X cl (e ::es) fs)(hn:∀δ S ds S',fs δ S= .ok ds S'->ds.length=n)
 (uQ:(x==("__debug__":Str))=false:=by decide) (he:starEach (e ::es) X.env=(false,eval e X.env) ::starEach es X.env:=by rfl) (j_:(backTo pos$ starEach es X.env).any (·.1)=false:=by rfl) :
 PX X cl (.Call (.Name x p) (e ::es) [] pos) (LH c g fs):=by
 obtain⟨f,fd,ps,M,F,hm,hb⟩:=M;refine⟨(OG M F (hr.mono hkj) hg hm hb .nil C7 ha.1 uQ he j_).imp λσ H Q ⟨ρ,S,δ,v,S',E,hf,q⟩=>?_⟩
 obtain⟨vs,S1,h1,h2⟩:=R3.ao hf;obtain⟨v0,S2,h3,h4⟩:=R3.ao h2;split at h4
 .cases h4;refine⟨ρ,S,δ,vs,S1,E,h1,λus dg H1 p1 w1 r1 xa dx hx hdx zm=>?_⟩
  have hx1:upd H1 dx (.own xa) xa=none:=by rw[bA$ λz=>zm z.symm];exact hx
  have sm:bo H1 (upd (upd H1 dx$ .own xa) xa$ .ins (cl c) dx []):=(aU hdx).trans$ aU hx1;obtain⟨w2,p2⟩:=w1.new (a:=xa) (o:= .ins c []) sm hx ⟨dx,[],bh,rfl,aR.nil⟩;show LR X.K cl (n+1) g (V.ref xa ::(us++[])) _ _ E0;rw[QaV];have rl:bE X.K (dg.push xa) (upd (upd H1 dx$ .own xa) xa$ .ins (cl c) dx []) (.loc S1.length) (.ref xa):=by
   unfold bE;exact⟨xa,by show(dg.r++[xa])[_]? =_;rw [<-w1.len,Qaj$ Qak _,Qbe];rfl,rfl⟩
  exact⟨by rw[Qao,<-r1.length,hn δ S vs S1 h1],_,_, .loc S1.length ::vs, .d .cY,_,w2,aR.cons rl$ r1.pre p2,h3,λz Mu H3 p3 w3 r3=>⟨by unfold bE Rep at r3;exact r3,q _ Mu H3 (p1.trans$ p2.trans p3) w3$ rl.pre p3⟩⟩
 .cases h4
def Ik(c:Nat)(f:Str)(fo fe:FX):FZ:=λδ S=>(fe δ S).bind λv S1=>(fo δ S1).bind λo S2=>match o with
 | .loc k=>(match ph S2 c k with | some fs=>R3.bH (decide$ fs.length<1000) (.ok (.nx δ)$ S2.set k$ .ins c$ CM f v fs) | none=> .no)
 | _=> .no
def Bk{c:Nat}{pos pos':Pos}(hC:Ef X.K (cl c))(hn:fJ X.K (cl c) f)(ho:PX X cl o fo)(he:PX X cl value fe)(hs:swapsWith value (some$ .Attribute o f pos') pos.line X.env=pure false:=by rfl) :
 PZ X cl (.Assign [.Attribute o f pos'] value pos) (Ik c f fo fe):=⟨(Rf ho.1 he.1 hs).imp λD σ H ⟨ρ,S,δ,ou,S',E,hf,q⟩=>by
 obtain⟨v,S1,h1,h2⟩:=R3.ao hf;obtain⟨vo,S2,h3,h4⟩:=R3.ao h2;split at h4
 .rename_i k;split at h4
  .rename_i fs e1;obtain⟨hl,h5⟩:=R3.bj h4;cases h5;refine⟨ρ,S,δ,v,S1,E,h1,λu dg H1 p1 w1 r1=>⟨dg,S1,δ, .loc k,S2,E.to p1 w1,h3,λu2 uL H2 p2 w2 r2=>?_⟩⟩
   unfold bE at r2;obtain⟨a,a1,rfl⟩:=r2;obtain⟨dx,ys,ey,ek,rs⟩:=w2.ob k a _ a1$ nc e1;have hlen:ys.length=fs.length:=by have:=Qbh List.length ek;simpa using this
   obtain⟨k1,k2⟩:=G9 (f:=f) (r1.pre p2) ek rs;obtain⟨w3,p3⟩:=w2.put (o:= .ins c$ CM f v fs) (u:= .ins (cl c) dx$ ml f u ys) a1 (w2.fz k a a1$ by rw[nc e1];intro h;cases h) ⟨dx,_,rfl,k1,k2⟩
   exact⟨a,cl c,dx,ys,rfl,ey,hC,hn,by rw[hlen];exact Qal hl,q σ uL _ (p1.trans$ p2.trans p3)$ E.to (p1.trans$ p2.trans p3) w3⟩
  .cases h4
 .cases h4⟩
def sG{c k:Nat}{fo fe:FX}{δ:DE}{S:bp}{QO:Ou->bp->Prop}(h:W3 (fe δ S) λv S1=>W3 (fo δ S1) λo S2=>∃fs,o= .loc k/\S2[k]? =some (.ins c fs)/\fs.length<1000/\QO (.nx δ) (S2.set k$ .ins c$ CM f v fs)):W3 (Ik c f fo fe δ S) QO:=
 W3.bind (h.mono λv S1 h=>W3.bind (h.mono λo S2 ⟨fs,e1,fG,hl,q⟩=>by
  subst e1;have e4:ph S2 c k=some fs:=by unfold ph;simp only[fG,QbN]
  simp only[e4];exact W3.wh (Qat hl)$ W3.ok q))
def Fp{c k:Nat}{g:List V3->bp->R3 V3}{fo:FX}{fs:FA}{δ:DE}{S:bp}{Q:V3->bp->Prop}(h:W3 (fo δ S) λo S1=>∃ys,o= .loc k/\S1[k]? =some (.ins c ys)/\ys.lookup m=none/\W3 (fs δ S1) λvs S2=>W3 (g (.loc k ::vs) S2) Q):W3 (w6 c m g fo fs δ S) Q:=
 W3.bind (h.mono λo S1 ⟨ys,e1,fG,e3,h⟩=>by
  subst e1;have e4:ph S1 c k=some ys:=by unfold ph;simp only[fG,QbN]
  simp only[e4,e3];exact W3.bind h)
def RV{c:Nat}{g:List V3->bp->R3 V3}{fs:FA}{δ:DE}{S:bp}{Q:V3->bp->Prop}(h:W3 (fs δ S) λvs S1=>W3 (g (.loc S1.length ::vs)$ S1++[.ins c []]) λv S2=>v= .d .cY/\Q (.loc S1.length) S2):W3 (LH c g fs δ S) Q:=
 W3.bind (h.mono λvs S1 h=>W3.bind$ h.mono λv S2 ⟨e,q⟩=>by subst e;exact W3.ok q)
end
end L3
end
section
namespace PySem
open Sem (wp)
def ie(t:Bool)(h:Heap)(i l:Addr)(k:Nat):Prop:=cond t (h.IsTupleIter i l k)$ h.IsListIter i l k
def lH(t:Bool)(h:Heap)(l:Addr)(xs:Array Value):Prop:=cond t (h.IsTuple l xs)$ h.IsList l xs
noncomputable def wx(t:Bool):String:=cond t "tuple_iterator" "list_iterator"
def ie.at{t:Bool}{h h':Heap}{i l:Addr}{k:Nat}(x:ie t h i l k)(e:∀o,h.get? i=some o->h'.get? i=some o):ie t h' i l k:=by
 cases t with
 | true=>exact Heap.IsTupleIter.at x e
 | false=>exact Heap.IsListIter.at x e
def lH.at{t:Bool}{h h':Heap}{l:Addr}{xs:Array Value}(x:lH t h l xs)(e:∀o,h.get? l=some o->h'.get? l=some o):lH t h' l xs:=by
 cases t with
 | true=>exact Heap.IsTuple.at x e
 | false=>exact Heap.IsList.at x e
def ie.xb{t:Bool}{i l b:Addr}{k:Nat}(x:ie t h i l k)(hs:Heap.ExtBut b h h')(YT:i≠b):ie t h' i l k:=x.at λo e=>hs i o YT e
def lH.xb{t:Bool}{l b:Addr}{xs:Array Value}(x:lH t h l xs)(hs:Heap.ExtBut b h h')(YT:l≠b):lH t h' l xs:=x.at λo e=>hs l o YT e
def ie.ob{t:Bool}{h:Heap}{i l:Addr}{k:Nat}(x:ie t h i l k):∃o,h.get? i=some o/\∀v,o.data≠ .cell v:=by
 cases t with
 | true=>obtain⟨o,e,_,d⟩:=x;exact⟨o,e,λv z=>by rw[d] at z;cases z⟩
 | false=>obtain⟨o,e,_,d⟩:=x;exact⟨o,e,λv z=>by rw[d] at z;cases z⟩
def lH.lt{t:Bool}{h:Heap}{l:Addr}{xs:Array Value}(x:lH t h l xs):l<h.objs.size:=by
 cases t with
 | true=>obtain⟨o,e,_⟩:=x;exact QaD e
 | false=>obtain⟨o,e,_⟩:=x;exact QaD e
def ie.lt{t:Bool}{h:Heap}{i l:Addr}{k:Nat}(x:ie t h i l k):i<h.objs.size:=let⟨_,e,_⟩:=x.ob;QaD e
section
variable {prog:Program}{w:World}{A:Around}{E:Aab}{s:Qdg}
def lq{t:Bool}{it l:Addr}{i:Nat}{items:Array Value}{x:Value}{Q:Aab}(hit:ie t s.heap it l i)(hl:lH t s.heap l items)(hx:items[i]? =some x)
 (hQ:∀h',ie t h' it l (i+1)->Heap.SameBut it s.heap h'->Q x {s with heap:=h'}):wpAny (model prog w) A (Builtin.SmallTypes.nextOf$ .ref it) Q E s:=by
 cases t with
 | true=>exact ot hit hl hx hQ
 | false=>exact wpAny_nextOf_list_item hit hl hx hQ
def qC{t:Bool}{it l:Addr}{i:Nat}{items:Array Value}{Q:Aab}(hh:A.handled=none)(hit:ie t s.heap it l i)(hl:lH t s.heap l items)(hx:items[i]? =none)
 (hE:∀h' e,Heap.ExtBut it s.heap h'->(∃o,h'.get? e=some o/\o.cls= .type "StopIteration")->E (.ref e) {s with heap:=h'}):wpAny (model prog w) A (Builtin.SmallTypes.nextOf$ .ref it) Q E s:=by
 cases t with
 | true=>exact kU hh hit hl hx hE
 | false=>exact wpAny_nextOf_list_end hh hit hl hx hE
def zY{t:Bool}{l:Addr}{items:Array Value}{Q:Aab}(hl:lH t s.heap l items)
 (hQ:Q (.ref s.heap.objs.size) {s with heap:=s.heap.push {cls:= .type$ wx t,data:= .fields #[.ref l, .int 0 0]}}):wpAny (model prog w) A (pyIter$ .ref l) Q E s:=by
 cases t with
 | true=>exact Qcr hl hQ
 | false=>exact Qc4 hl hQ
def IZ{t u:Bool}{z TI TO i1 i2 l1 l2:Addr}{k1 k2:Nat}{xs ys:Array Value}{x y a b:Value}{Q:Aab}(D:ZipApart z TI TO i1 i2 l1 l2)(hz:IsZip s.heap z TI TO .none)(F3:IsPair s.heap TI (.ref i1) (.ref i2))
 (Hk:IsPair s.heap TO a b) (h1:ie t s.heap i1 l1 k1) (h2:ie u s.heap i2 l2 k2) (Cg:lH t s.heap l1 xs) (zp:lH u s.heap l2 ys) (hx:xs[k1]? =some x) (hy:ys[k2]? =some y)
 (hQ:∀h',IsZip h' z TI TO (rawInt s.heap.objs.size)->IsPair h' TO x y->ie t h' i1 l1 (k1+1)->ie u h' i2 l2 (k2+1)->IsPair h' s.heap.objs.size x y->h'.objs.size=s.heap.objs.size+1->(∀c o,c≠z->c≠TO->c≠i1->c≠i2->s.heap.get? c=some o->h'.get? c=some o)->Q (.ref s.heap.objs.size) {s with heap:=h'}) :
 wpAny (model prog w) A (Builtin.«zip.__next__» ⟨[.ref z],[]⟩) (λfin s'=>∃v,fin= .done (.ret v)/\Q v s') E s:=by
 show wpAny _ _ (field (.ref z) 2 >>=_) _ _ _;refine Qaf$ Qbl hz rfl (x:= .bool false) rfl ?_;show wpAny _ _ (field (.ref z) 3 >>=_) _ _ _;refine Qaf$ Qbl hz rfl (x:= .ref TI) rfl ?_;refine Qaf$ QbQ F3 rfl ?_;show wpAny _ _ (Builtin.SmallTypes.ownedTupleIsFree (.ref z) >>=_) _ _ _;refine Qaf ?_;unfold Builtin.SmallTypes.ownedTupleIsFree;refine Qaf$ Qbl hz rfl (x:= .none) rfl$ QaG ?_;simp only[QbN];refine Qaf$ wpAny_rule ?_;refine Qaf$ Qbl hz rfl (x:= .ref TO) rfl ?_;refine Qaf (QbS hz (by simp) λi7 qY jH=>?_)
 replace qY:IsZip i7 z TI TO .ellipsis:=qY;refine Qaf ?_;simp only[List.zipIdx_cons,List.zipIdx_nil,List.forIn_cons,List.forIn_nil]
 refine Qaf$ Qaf$ wpAny_onRaise ?_;show wpAny _ _ (Builtin.SmallTypes.nextOf (.ref i1) >>=_) _ _ _;refine Qaf$ lq (h1.xb jH.extBut D.i1z) (Cg.xb jH.extBut D.l1z) hx λgC Ql dj=>QaG ?_
 have hTO₂:IsPair gC TO a b:=dj.extBut _ _ D.TOi1$ jH.extBut _ _ D.TOz Hk;refine Qaf$ QbQ hTO₂ rfl ?_;refine Qaf$ QcJ hTO₂ λJp Ca l6=>?_
 replace Ca:IsPair Jp TO x b:=Ca;refine Qaf$ wpAny_letGo$ QaG ?_;refine Qaf$ Qaf$ wpAny_onRaise ?_;show wpAny _ _ (Builtin.SmallTypes.nextOf (.ref i2) >>=_) _ _ _
 refine Qaf$ lq (((h2.xb jH.extBut D.i2z).xb dj.extBut D.i12.symm).xb l6.extBut D.TOi2.symm) (((zp.xb jH.extBut D.l2z).xb dj.extBut D.l2i1).xb l6.extBut D.l2TO) hy λS_ Wj vz=>QaG ?_
 have hTO₄:IsPair S_ TO x b:=vz.extBut _ _ D.TOi2 Ca;refine Qaf$ QbQ hTO₄ rfl ?_;refine Qaf$ QcJ hTO₄ λqq B8 vy=>?_
 replace B8:IsPair qq TO x y:=B8;refine Qaf$ wpAny_letGo$ QaG$ QaG ?_;refine Qaf$ QbQ B8 rfl ?_;refine Qaf$ wpAny_newTuple ?_
 have hsz:qq.objs.size=s.heap.objs.size:=(vy.1.trans$ vz.1.trans$ l6.1.trans$ dj.1.trans jH.1);have hz₅:IsZip qq z TI TO .ellipsis:=vy.extBut _ _ D.TOz.symm<|vz.extBut _ _ D.i2z.symm<|l6.extBut _ _ D.TOz.symm<|dj.extBut _ _ D.i1z.symm qY
 have hk₅:∀c o,c≠z->c≠TO->c≠i1->c≠i2->s.heap.get? c=some o->qq.get? c=some o:=λc o c1 c2 c3 c4 e=>vy.extBut _ _ c2<|vz.extBut _ _ c4<|l6.extBut _ _ c2<|dj.extBut _ _ c3<|jH.extBut _ _ c1 e
 have h1₅:ie t qq i1 l1 (k1+1):=((Ql.xb l6.extBut D.TOi1.symm).xb vz.extBut D.i12).xb vy.extBut D.TOi1.symm;have h2₅:ie u qq i2 l2 (k2+1):=Wj.xb vy.extBut D.TOi2.symm;have hzlt:=QaD hz₅;show wpAny _ _ (Builtin.SmallTypes.ownedTupleHandOut (.ref z) (.ref qq.objs.size) >>=_) _ _ _;refine Qaf ?_;unfold Builtin.SmallTypes.ownedTupleHandOut;have hz₆:IsZip (qq.push {cls:= .type "tuple",data:= .seq #[x,y]}) z TI TO .ellipsis:=Qah _ hz₅;refine Qaf (QbS hz₆ (by simp) λYL Mo MC=>?_)
 replace Mo:IsZip YL z TI TO (rawInt qq.objs.size):=Mo;refine QbS Mo (by simp) λMy Hl Mw=>?_;replace Hl:IsZip My z TI TO (rawInt qq.objs.size):=Hl
 have up:∀c o,c≠z->qq.get? c=some o->My.get? c=some o:=λc o c1 e=>Mw.extBut _ _ c1<|MC.extBut _ _ c1$ Qah _ e
 have hT₈:IsPair My qq.objs.size x y:=Mw.extBut _ _ (Qcm hzlt)<|MC.extBut _ _ (Qcm hzlt)$ QaN _ rfl
 have hz8:My.objs.size=qq.objs.size+1:=(Mw.1.trans MC.1).trans$ Qbk ..;rw[hsz] at Hl hT₈ hz8;refine QaG ⟨_,rfl,?_⟩;show Q (.ref qq.objs.size) _;rw [hsz];exact hQ My Hl (up _ _ D.TOz B8) (h1₅.at λo e=>up _ o D.i1z e) (h2₅.at λo e=>up _ o D.i2z e) hT₈ hz8 λc o c1 c2 c3 c4 e=>up c o c1$ hk₅ c o c1 c2 c3 c4 e
def KU{t u:Bool}{z TI TO i1 i2 l1 l2:Addr}{k1 k2:Nat}{xs ys:Array Value}{a b:Value}{Q:Fin->Qdg->Prop}(hh:A.handled=none)(D:ZipApart z TI TO i1 i2 l1 l2)(hz:IsZip s.heap z TI TO .none)
 (F3:IsPair s.heap TI (.ref i1) (.ref i2)) (Hk:IsPair s.heap TO a b) (h1:ie t s.heap i1 l1 k1) (h2:ie u s.heap i2 l2 k2) (Cg:lH t s.heap l1 xs) (zp:lH u s.heap l2 ys) (Ye:xs[k1]? =none\/ys[k2]? =none)
 (hE:∀h' e,(∀c o,c≠z->c≠TO->c≠i1->c≠i2->s.heap.get? c=some o->h'.get? c=some o)->(∃o,h'.get? e=some o/\o.cls= .type "StopIteration")->E (.ref e) {s with heap:=h'}):wpAny (model prog w) A (Builtin.«zip.__next__» ⟨[.ref z],[]⟩) Q E s:=by
 show wpAny _ _ (field (.ref z) 2 >>=_) _ _ _;refine Qaf$ Qbl hz rfl (x:= .bool false) rfl ?_;show wpAny _ _ (field (.ref z) 3 >>=_) _ _ _;refine Qaf$ Qbl hz rfl (x:= .ref TI) rfl ?_;refine Qaf$ QbQ F3 rfl ?_;show wpAny _ _ (Builtin.SmallTypes.ownedTupleIsFree (.ref z) >>=_) _ _ _;refine Qaf ?_;unfold Builtin.SmallTypes.ownedTupleIsFree;refine Qaf$ Qbl hz rfl (x:= .none) rfl$ QaG ?_;simp only[QbN];refine Qaf$ wpAny_rule ?_;refine Qaf$ Qbl hz rfl (x:= .ref TO) rfl ?_;refine Qaf (QbS hz (by simp) λi7 qY jH=>?_)
 replace qY:IsZip i7 z TI TO .ellipsis:=qY;refine Qaf ?_;simp only[List.zipIdx_cons,List.zipIdx_nil,List.forIn_cons,List.forIn_nil]
 refine Qaf$ Qaf$ wpAny_onRaise ?_;show wpAny _ _ (Builtin.SmallTypes.nextOf (.ref i1) >>=_) _ _ _;cases hx:xs[k1]? with
 | none=>
   refine Qaf$ qC hh (h1.xb jH.extBut D.i1z) (Cg.xb jH.extBut D.l1z) hx λgC e dj he=>?_
   obtain⟨oe,hoe,hce⟩:=he;have Hn:IsZip gC z TI TO .ellipsis:=dj _ _ D.i1z.symm qY;have hez:e≠z:=λx=>by {subst x;rw [Hn] at hoe;cases hoe;simp at hce}
   exact QbS Hn (by simp) λJp _ l6=>hE Jp e (λc o c1 _ c3 _ x=>l6.extBut _ _ c1<|dj _ _ c3<|jH.extBut _ _ c1 x) ⟨oe,l6.extBut _ _ hez hoe,hce⟩
 | some x=>
   have hy:ys[k2]? =none:=Ye.resolve_left λh=>by {rw [hx] at h;cases h}
   refine Qaf$ lq (h1.xb jH.extBut D.i1z) (Cg.xb jH.extBut D.l1z) hx λgC Ql dj=>QaG ?_
   have hTO₂:IsPair gC TO a b:=dj.extBut _ _ D.TOi1$ jH.extBut _ _ D.TOz Hk;refine Qaf$ QbQ hTO₂ rfl ?_;refine Qaf$ QcJ hTO₂ λJp Ca l6=>?_
   refine Qaf$ wpAny_letGo$ QaG ?_;refine Qaf$ Qaf$ wpAny_onRaise ?_;show wpAny _ _ (Builtin.SmallTypes.nextOf (.ref i2) >>=_) _ _ _;refine Qaf$ qC hh (((h2.xb jH.extBut D.i2z).xb dj.extBut D.i12.symm).xb l6.extBut D.TOi2.symm) (((zp.xb jH.extBut D.l2z).xb dj.extBut D.l2i1).xb l6.extBut D.l2TO) hy λS_ e vz he=>?_
   obtain⟨oe,hoe,hce⟩:=he;have hz₄:IsZip S_ z TI TO .ellipsis:=vz _ _ D.i2z.symm<|l6.extBut _ _ D.TOz.symm<|dj.extBut _ _ D.i1z.symm qY
   have hez:e≠z:=λx=>by {subst x;rw [hz₄] at hoe;cases hoe;simp at hce}
   exact QbS hz₄ (by simp) λqq _ vy=>hE qq e (λc o c1 c2 c3 c4 x=>vy.extBut _ _ c1<|vz _ _ c4<|l6.extBut _ _ c2<|dj.extBut _ _ c3<|jH.extBut _ _ c1 x) ⟨oe,vy.extBut _ _ hez hoe,hce⟩
end
abbrev Wo(t:Bool)(h:Heap)(l1:Addr):Heap:=h.push {cls:= .type$ wx t,data:= .fields #[.ref l1, .int 0 0]}
abbrev WB(t u:Bool)(h:Heap)(l1 l2:Addr):Heap:=(Wo t h l1).push {cls:= .type$ wx u,data:= .fields #[.ref l2, .int 0 0]}
abbrev Wn(t u:Bool)(h:Heap)(l1 l2:Addr):Heap:=(WB t u h l1 l2).push {cls:= .type "tuple",data:= .seq #[.ref h.objs.size, .ref (Wo t h l1).objs.size]}
abbrev WA(t u:Bool)(h:Heap)(l1 l2:Addr):Heap:=(Wn t u h l1 l2).push {cls:= .type "tuple",data:= .seq #[.none, .none]}
abbrev Ts(t u:Bool)(h:Heap)(l1 l2:Addr):Heap:=(WA t u h l1 l2).push {cls:= .type "zip",data:= .fields #[.none, .bool false, .bool false, .ref (WB t u h l1 l2).objs.size, .ref (Wn t u h l1 l2).objs.size]}
def Eo(t u:Bool)(l1 l2:Addr)(xs ys:Array Value):Meets (Builtin.«zip.__new__» ⟨[.type "zip", .ref l1, .ref l2],[]⟩) (λ_ R s=>lH t s.heap l1 xs/\lH u s.heap l2 ys/\R (.ok (.ret (.ref (WA t u s.heap l1 l2).objs.size))) {s with heap:=Ts t u s.heap l1 l2}):=
 .of_wp λprog w A R s h=>by
   obtain⟨hp,g,d,tk,os⟩:=s;obtain⟨Cg,zp,h⟩:=h;have hsub:=sub_zip;have hL1:lH t (Shared.heap ⟨hp,g,d,tk,os⟩) l1 xs:=Cg;have hL2:lH u (Shared.heap ⟨hp.push {cls:= .type$ wx t,data:= .fields #[.ref l1, .int 0 0]},g,d,tk,os⟩) l2 ys:=zp.at λo e=>Qah _ e
   wp_walk using zY hL1,zY hL2
   exact⟨_,rfl,h⟩
def ie.new{t:Bool}{h:Heap}{i l:Addr}(e:h.get? i=some {cls:= .type$ wx t,data:= .fields #[.ref l, .int 0 0]}):ie t h i l 0:=by
 cases t with
 | true=>exact⟨_,e,rfl,rfl⟩
 | false=>exact⟨_,e,rfl,rfl⟩
def IA{prog:Program}{w:World}{A:Around}{E:Aab}{s:Qdg}{t u:Bool}{l1 l2:Addr}{xs ys:Array Value}{Q:Aab}(Cg:lH t s.heap l1 xs)(zp:lH u s.heap l2 ys)
 (h:∀h',IsZip h' (s.heap.objs.size+4) (s.heap.objs.size+2) (s.heap.objs.size+3) .none->IsPair h' (s.heap.objs.size+2) (.ref s.heap.objs.size) (.ref$ s.heap.objs.size+1)->IsPair h' (s.heap.objs.size+3) .none .none->
   ie t h' s.heap.objs.size l1 0->ie u h' (s.heap.objs.size+1) l2 0->(∀c o,s.heap.get? c=some o->h'.get? c=some o)->Q (.ref$ s.heap.objs.size+4) {s with heap:=h'}):wpAny (model prog w) A (call (.type "zip") [.ref l1, .ref l2]) Q E s:=by
 refine callType_new F.called_zip (by decide) (F.typeCall_zip_2 _ _) (F.newCall_zip_2 _ _) (λobj=>F.args_object_init_3 obj _ _) F.entry_zip_new (Eo t u l1 l2 xs ys) ⟨Cg,zp,?_⟩
 have z1:(Wo t s.heap l1).objs.size=s.heap.objs.size+1:=Qbk ..;have z2:(WB t u s.heap l1 l2).objs.size=s.heap.objs.size+2:=(Qbk ..).trans$ Qbh (·+1) z1
 have z3:(Wn t u s.heap l1 l2).objs.size=s.heap.objs.size+3:=(Qbk ..).trans$ Qbh (·+1) z2
 have z4:(WA t u s.heap l1 l2).objs.size=s.heap.objs.size+4:=(Qbk ..).trans$ Qbh (·+1) z3
 have g5:(Ts t u s.heap l1 l2).get? (WA t u s.heap l1 l2).objs.size=some _:=QaN _ rfl;have g4:(Ts t u s.heap l1 l2).get? (Wn t u s.heap l1 l2).objs.size=some _:=Qah _$ QaN _ rfl;have g3:(Ts t u s.heap l1 l2).get? (WB t u s.heap l1 l2).objs.size=some _:=Qah _<|Qah _$ QaN _ rfl
 have g2:(Ts t u s.heap l1 l2).get? (Wo t s.heap l1).objs.size=some _:=Qah _<|Qah _<|Qah _$ QaN _ rfl
 have g1:(Ts t u s.heap l1 l2).get? s.heap.objs.size=some _:=Qah _<|Qah _<|Qah _<|Qah _$ QaN _ rfl
 show _/\_;rw[z2,z3,z4] at g5;rw [z1,z2] at g3;rw [z3] at g4;rw [z1] at g2;rw [z4];exact⟨⟨_,g5,rfl⟩,h _ g5 g3 g4 (ie.new g1) (ie.new g2) λc o x=>Qah _<|Qah _<|Qah _<|Qah _<|Qah _ x⟩
end PySem
namespace L2
open PySem PySem.Spec PyProof.Rows
def Lc(t:Bool)(K:Qdf)(H:Hp)(a:Addr)(xs:List V):Prop:=cond t (u9 K H a xs)$ qT K H a xs
def Inv.HC{X:Cx}{pins:Aaa}{σ:L2.St}{s:Qdg}{t:Bool}{a:Addr}{xs:List V}(I:Inv X pins σ H s)(h:Lc t X.K H a xs):∃its:List Value,Vals xs its/\lH t s.heap a its.toArray:=by
 cases t with
 | true=>obtain⟨its,r,p,_⟩:=I.tuple h;exact⟨its,r,p⟩
 | false=>obtain⟨its,r,p,_⟩:=I.list h;exact⟨its,r,p.isList⟩
def Inv.GJ{X:Cx}{pins:Aaa}{σ:L2.St}{s:Qdg}{t:Bool}{a:Addr}{xs ys:List V}(I:Inv X pins σ H s)(h:Lc t X.K H a xs)(h':Lc t X.K H a ys):xs=ys:=by
 cases t with
 | true=>exact I.uw h h'
 | false=>exact I.sC h h'
def Z7(K:Qdf)(t u:Bool)(a b:Addr):It:=
 ⟨λi H=>∃xs ys x y,Lc t K H a xs/\Lc u K H b ys/\xs[i]? =some x/\ys[i]? =some y,
  λi H v H'=>∃p x y,H p=none/\v= .ref p/\(∀xs,Lc t K H a xs->xs[i]? =some x)/\(∀ys,Lc u K H b ys->ys[i]? =some y)/\H'=upd H p (.tup [x,y]),
  λi H=>∃xs ys,Lc t K H a xs/\Lc u K H b ys/\(xs.length<=i\/ys.length<=i)⟩
def JP{K:Qdf}{k:Nat}{t u:Bool}{z TI TO i1 i2 a b:Addr}(D:ZipApart z TI TO i1 i2 a b):Turn P w K (.Tuple elts k pos) (Z7 K t u a b) [z,TI,TO,i1,i2] z
 (λi h=>IsZip h z TI TO .none/\IsPair h TI (.ref i1) (.ref i2)/\(∃x y,IsPair h TO x y)/\ie t h i1 a i/\ie u h i2 b i) where
 mem:=by simp
 obj:=λi h st c hc=>by
  obtain⟨hz,F3,⟨x,y,Hk⟩,h1,h2⟩:=st;simp only[QaE,List.not_mem_nil,or_false] at hc;rcases hc with rfl | rfl | rfl | rfl | rfl
  .exact⟨_,hz,λv z=>by cases z⟩
  .exact⟨_,F3,λv z=>by cases z⟩
  .exact⟨_,Hk,λv z=>by cases z⟩
  .exact h1.ob
  .exact h2.ob
 keep:=λi h h' st k=>by
  obtain⟨hz,F3,⟨x,y,Hk⟩,h1,h2⟩:=st;exact⟨k z (by simp) _ hz,k TI (by simp) _ F3,⟨x,y,k TO (by simp) _ Hk⟩,h1.at λo e=>k i1 (by simp) o e,h2.at λo e=>k i2 (by simp) o e⟩
 item:=by
  intro X hP hw hK hc i pins s σ H E I hf st hg;subst hP hw hK;obtain⟨xs,ys,x,y,hq,hr,hx,hy⟩:=hg;obtain⟨its,rv,p⟩:=I.HC hq;obtain⟨jts,El,p'⟩:=I.HC hr;obtain⟨ux,hu,ru⟩:=rv.get hx;obtain⟨uy,hu',YO⟩:=El.get hy;obtain⟨hz,F3,⟨a0,b0,Hk⟩,h1,h2⟩:=st;have hT:s.TypeIs (.ref z) "zip":=⟨_,hz,rfl⟩;unfold pyNext;refine Qaf (wpAny_attempt$ QbC (name:="__next__") hT QcK$ QbO QcK hT F.entry_zip_next (IZ D hz F3 Hk h1 h2 p p' (x:=ux) (y:=uy) (by simpa using hu) (by simpa using hu') λi7 a1 a2 a3 a4 a5 a6 Al=>QaG ?_) (F.args_zip_next_1 _))
  refine⟨_,rfl,wpAny_letOwnedTupleGo_zip a1 λgC Hn dj=>?_⟩
  replace dj:Heap.SameBut z i7 gC:=dj
  have hzl:z<s.heap.objs.size:=QaD hz;have Ed:gC.get? s.heap.objs.size=some {cls:= .type "tuple",data:= .seq #[ux,uy]}:=(dj.2 _$ Qcm hzl).trans a5;have kk:∀b o,b≠z->b≠TO->b≠i1->b≠i2->s.heap.get? b=some o->gC.get? b=some o:=λb o c1 c2 c3 c4 q=>(dj.2 b c1).trans$ Al b o c1 c2 c3 c4 q
  have hn:H s.heap.objs.size=none:=I.fresh;have sm:bo H (upd H s.heap.objs.size$ .tup [x,y]):=aU hn;have f0:∀c∈[z,TI,TO,i1,i2],H c=none:=λc hc=>(hf c hc).1
  have nit:∀b o,H b=some o->b≠z/\b≠TO/\b≠i1/\b≠i2:=λb o q=>by
   refine⟨λe=>?_,λe=>?_,λe=>?_,λe=>?_⟩
   .rw [e,f0 z$ by simp] at q;cases q
   .rw [e,f0 TO$ by simp] at q;cases q
   .rw [e,f0 i1$ by simp] at q;cases q
   .rw [e,f0 i2$ by simp] at q;cases q
  have kH:∀b o q,H b=some q->s.heap.get? b=some o->gC.get? b=some o:=λb o q hb e=>let⟨c1,c2,c3,c4⟩:=nit b q hb;kk b o c1 c2 c3 c4 e
  have hok:ql X.prog X.w (upd H s.heap.objs.size$ .tup [x,y]) gC:=λb ob q=>by
   by_cases hb:b=s.heap.objs.size
   .subst hb;rw[bh] at q;cases q;exact⟨by show 2<=sizeLine;decide,[ux,uy], .cons ru$ .cons YO .nil,⟨_,Ed,rfl,_,rfl⟩⟩
   .rw [bA hb] at q;refine(I.hok b ob q).Aw (λc v hc e=>?_) (λc e=>sm c _ e) λc ys e=>sm c _ e
    rcases hc with rfl | hc
    .exact kH c v _ q e
    .exact kH c v _ hc e
  have nch:∀b,b ∉ [z,TI,TO,i1,i2]->b≠z/\b≠TO/\b≠i1/\b≠i2:=λb hb=>⟨λe=>hb (by simp [e]),λe=>hb (by simp [e]),λe=>hb (by simp [e]),λe=>hb$ by simp [e]⟩
  have kc:∀b o,b ∉ [z,TI,TO,i1,i2]->s.heap.get? b=some o->gC.get? b=some o:=λb o hb e=>let⟨c1,c2,c3,c4⟩:=nch b hb;kk b o c1 c2 c3 c4 e
  have I2:Inv X pins σ (upd H s.heap.objs.size$ .tup [x,y]) {s with heap:=gC,toks:=s.toks}:=by
   refine I.step (g':=s.gens) (d':=s.drawn) (ch:=[z,TI,TO,i1,i2]) (λb hb=>?_) (λb o _ _ hb q _=>kc b o hb q) (λb o _ _ hb q _=>⟨o.slots,kc b o hb q⟩)
    (λb o hb q n=>by rw[bA$ QaR$ QaD q];exact n) (λb o hb q=>⟨o,kc b o hb q⟩) (λb ys e=>sm b _ e) (λb o u e=>sm b _ e) (λb ps e=>⟨#[],by rw[sm b _ e];simp⟩) (λm hm=>?_) hok I.bare
   .obtain⟨g0,g1,g2,g3,g4,g5⟩:=hf b hb;exact⟨g3,g1,g4,g5⟩
   .obtain⟨o,es,ep,ho,r⟩:=hm;refine⟨o,es,ep,kc _ o (λhb=>?_) ho,r⟩
    exact(hf _ hb).2.1 rfl
  have up:∀c,c≠z->∀o,i7.get? c=some o->gC.get? c=some o:=λc hc o e=>(dj.2 c hc).trans e
  refine⟨.ref s.heap.objs.size,_,I2,rfl,⟨s.heap.objs.size,x,y,hn,rfl,λzs YD=>(by rw[I.GJ YD hq];exact hx),λzs YD=>(by rw[I.GJ YD hr];exact hy),rfl⟩,
   ⟨Hn,up _ D.TIz _$ Al TI _ D.TIz D.TITO D.TIi1 D.TIi2 F3,⟨_,_,up _ D.TOz _ a2⟩,a3.at λo e=>up _ D.i1z o e,a4.at λo e=>up _ D.i2z o e⟩,λc hc=>?_⟩
  have hlt:c<s.heap.objs.size:=by
   simp only[QaE,List.not_mem_nil,or_false] at hc;rcases hc with rfl | rfl | rfl | rfl | rfl
   .exact hzl
   .exact QaD F3
   .exact QaD Hk
   .exact h1.lt
   .exact h2.lt
  rw[bA$ QaR hlt];exact f0 c hc
 done:=by
  intro X hP hw hK hc i pins s σ H E I hf st hg;subst hP hw hK;obtain⟨xs,ys,hq,hr,hl⟩:=hg;obtain⟨its,rv,p⟩:=I.HC hq;obtain⟨jts,El,p'⟩:=I.HC hr;obtain⟨hz,F3,⟨a0,b0,Hk⟩,h1,h2⟩:=st;have hT:s.TypeIs (.ref z) "zip":=⟨_,hz,rfl⟩;have l1:=rv.length;have l2:=El.length;unfold pyNext;refine Qaf$ wpAny_attempt$ QbC (name:="__next__") hT QcK$ QbO QcK hT F.entry_zip_next (KU (I.ok.hd hc) D hz F3 Hk h1 h2 p p' ?_ λh' e hk he=>?_) (F.args_zip_next_1 _)
  .rcases hl with hl | hl
   .exact .inl (by simp;omega)
   .exact .inr (by simp;omega)
  obtain⟨o,ho,MA⟩:=he;refine Qaf$ wpAny_isInstance (T:="StopIteration") (b:=true) ⟨o,ho,MA⟩ isSubtype_stop ?_;have nch:∀b,b ∉ [z,TI,TO,i1,i2]->b≠z/\b≠TO/\b≠i1/\b≠i2:=λb hb=>⟨λe=>hb (by simp [e]),λe=>hb (by simp [e]),λe=>hb (by simp [e]),λe=>hb$ by simp [e]⟩
  have kc:∀b o,b ∉ [z,TI,TO,i1,i2]->s.heap.get? b=some o->h'.get? b=some o:=λb o hb e=>let⟨c1,c2,c3,c4⟩:=nch b hb;hk b o c1 c2 c3 c4 e
  have f0:∀c∈[z,TI,TO,i1,i2],H c=none:=λc hc=>(hf c hc).1
  have kH:∀b o q,H b=some q->s.heap.get? b=some o->h'.get? b=some o:=λb o q hb e=>kc b o (λz=>by rw[f0 b z] at hb;cases hb) e
  refine QaG ⟨rfl,?_⟩;refine I.step (h':=h') (H':=H) (g':=s.gens) (d':=s.drawn) (t':=s.toks) (ch:=[z,TI,TO,i1,i2]) (λb hb=>?_) (λb o _ _ hb q _=>kc b o hb q) (λb o _ _ hb q _=>⟨o.slots,kc b o hb q⟩)
   (λb o hb q n=>n) (λb o hb q=>⟨o,kc b o hb q⟩) (λb ys e=>e) (λb o u e=>e) (λb ps e=>⟨#[],by rw[e];simp⟩) (λm hm=>?_) (λb ob q=>?_) I.bare
  .obtain⟨g0,g1,g2,g3,g4,g5⟩:=hf b hb;exact⟨g3,g1,g4,g5⟩
  .obtain⟨o,es,ep,ho,r⟩:=hm;refine⟨o,es,ep,kc _ o (λhb=>?_) ho,r⟩
   exact(hf _ hb).2.1 rfl
  .refine(I.hok b ob q).Aw (λc v hc e=>?_) (λc e=>e) λc ys e=>e
   rcases hc with rfl | hc
   .exact kH c v _ q e
   .exact kH c v _ hc e
 self:=λA i s Q E st h=>wpAny_pyIter_zip st.1 h
section
variable {X:Cx}
noncomputable def vD(ds es:List D):List D:=(ds.zip es).map λp=> .tup [p.1,p.2]
noncomputable def seqD?:D->Option (List D)
 | .lst ds=>some ds
 | .tup ds=>some ds
 | _=>none
def D9(f g:FD):ay->R (List D):=λδ=>(f δ).bind λd=>(g δ).bind λe=>match seqD? d,seqD? e with | some ds,some es=> .ok (vD ds es) | _,_=> .no
def Rep.HC{K:Qdf}{B:List Addr}{d:D}{v:V}{ds:List D}(r:Rep K B H d v)(h:seqD? d=some ds):∃t a xs,v= .ref a/\(∀B' H',dR B H B' H'->Lc t K H' a xs/\aI K B' H' ds xs):=by
 cases d with
 | lst es=>
   cases h;obtain⟨a,xs,rfl,l,rs⟩:=Rep.lst.mp r;exact⟨false,a,xs,rfl,λB' H' p=>⟨(l.bG p).sq,rs.bG p⟩⟩
 | tup es=>
   cases h;obtain⟨a,xs,rfl,l,rs⟩:=Rep.tup.mp r;refine⟨true,a,xs,rfl,λB' H' p=>⟨?_,rs.bG p⟩⟩
   have l':Ac K B' H' a xs:=l.elim (λz=> .inl ⟨(p.rd z.2 z.1).2,(p.rd z.2 z.1).1⟩) .inr
   exact l'.sq
 | _=>cases h
def yf{elts:List Expr}{k:Nat}{yB:Pos}{p pos:Pos}(h:QD X a f)(h':QD X b g)(hg:Gl X "zip")(hm:X.mg "zip"=none)(hs:starEach [a,b] X.env=[(false,eval a X.env),(false,eval b X.env)]:=by rfl)(hs2:starEach [b] X.env=[(false,eval b X.env)]:=by rfl) :
 Cd X (.Tuple elts k yB) (.Call (.Name "zip" p) [a,b] [] pos) (D9 f g):=by
 refine⟨?_⟩;intro pins s σ H RR I ⟨Z,B,δ,ds,E,hf,q⟩;obtain⟨d,h1,h2⟩:=R.ao hf;obtain⟨e,h3,h4⟩:=R.ao h2;have hA:=dq h.1 (dq h'.1 f9 hs2) (by rw[hs,hs2]) pos pins s σ H (λvs H1=>bo H H1/\∃v v',vs=[v,v']/\Rep X.K B H1 d v/\Rep X.K B H1 e v') I
  ⟨Z,B,δ,d,E,h1,λv H1 s1 r1=>⟨Z,B,δ,e,E.same s1,h3,λv' H2 s2 r2=>⟨s1.trans s2,v,v',rfl,r1.same s2,r2⟩⟩⟩
 refine Call_ (jK I hg hm boot_zip$ QaX (d9 hA λus s1 ⟨vs,H1,I1,r1,ss,v,v',ev,rr,Wi⟩=>?_) (by rw[hs,hs2]) (by rw[hs2];rfl))
 subst ev;obtain⟨u,u',rfl,ru,YO⟩:=vals2 r1;cases e1:seqD? d with
 | none=>rw [e1] at h4;cases h4
 | some ls=>
   cases e2:seqD? e with
   | none=>rw [e1,e2] at h4;cases h4
   | some ms=>
     rw[e1,e2] at h4;cases h4;obtain⟨t,a,xs,rfl,k1⟩:=rr.HC e1;obtain⟨w,b,ys,rfl,k2⟩:=Wi.HC e2;cases ru;cases YO;obtain⟨its,rv,pp⟩:=I1.HC (k1 B H1$ dR.refl B H1).1;obtain⟨jts,El,ZM⟩:=I1.HC (k2 B H1$ dR.refl B H1).1;have la:=pp.lt;have lb:=ZM.lt;refine IA pp ZM λgC hz F3 Hk ZE ZT kk=>wpAny_pyIter_zip hz ?_
     have I2:Inv X pins σ H1 {s1 with heap:=gC}:=I1.kept (t':=s1.toks) kk
     refine⟨s1.heap.objs.size+4,[s1.heap.objs.size+4,s1.heap.objs.size+2,s1.heap.objs.size+3,s1.heap.objs.size,s1.heap.objs.size+1],_,_,H1,rfl,I2,JP (t:=t) (u:=w)$ zipApart_new la lb,⟨hz,F3,⟨_,_,Hk⟩,ZE,ZT⟩,λc hc=>?_,q _ H1 ss λB' H' pr=>?_⟩
     .have hle:s1.heap.objs.size<=c:=by
       simp only[QaE,List.not_mem_nil,or_false] at hc;rcases hc with rfl | rfl | rfl | rfl | rfl <;> omega
      exact I1.A1 hle$ I1.hok.fresh hle
     .obtain⟨l1,VX⟩:=k1 B' H' pr;obtain⟨l2,Ta⟩:=k2 B' H' pr;refine⟨λi d hd=>?_,⟨xs,ys,l1,l2,?_⟩⟩
      .unfold vD at hd;rw[Qac] at hd;cases ez:(ls.zip ms)[i]? with
       | none=>rw [ez] at hd;cases hd
       | some pr'=>
         rw[ez] at hd;have hd:D.tup [pr'.1,pr'.2]=d:=QaW hd;obtain⟨ea,eb⟩:=Qc6.mp ez;obtain⟨x,hx,rx⟩:=VX.get ea;obtain⟨y,hy,ry⟩:=Ta.get eb;refine⟨⟨xs,ys,x,y,l1,l2,hx,hy⟩,λv qX yl Pg=>?_⟩
         obtain⟨p,x2,y2,hp,rfl,WN,Jo,rfl⟩:=yl;refine⟨aU hp,?_⟩;subst hd;have WN:=WN xs l1;have Jo:=Jo ys l2;rw[hx] at WN;cases WN;rw[hy] at Jo;cases Jo;refine Rep.tup.mpr ⟨p,_,rfl, .inl ⟨λha=>?_, .inl bh⟩,aI.cons (rx.same$ aU hp)$ aI.cons (ry.same$ aU hp) aI.nil⟩
         obtain⟨o,ho⟩:=Pg p ha;rw[hp] at ho;cases ho
      .rw [<-VX.length,<-Ta.length];unfold vD;rw[Qaa,List.length_zip];omega
def Zm(T U:String)(f:FD):FD:=λδ=>(f δ).bind λd=>match d with | .dct _ _=> .no | _=> .ok$ .bl (QT (tyName d) T || QT (tyName d) U)
noncomputable def Itd(lo:Int)(n:Nat):It:=⟨λi _=>i<n,λi H x H'=>H'=H/\x= .int (lo - i),λi _=>n<=i⟩
noncomputable def XY(lo:Int)(n:Nat):List D:=(List.range n).map λ(i:Nat)=>D.int$ lo - i
def Y0(f g h:FD):ay->R (List D):=λδ=>(f δ).bind λd=>(g δ).bind λe=>(h δ).bind λk=>match d,e,k with
 | .int i, .int j, .int m=>R.bH (decide$ m= -1/\ -(2 ^ 60)<=i/\i<2 ^ 60/\ -(2 ^ 60)<=j/\j<2 ^ 60) (.ok$ XY i (i - j).toNat) | _,_,_=> .no
noncomputable def bls?:List D->Option (List Bool)
 | []=>some []
 | .bl b ::ds=>(bls? ds).map (b ::·)
 | _ ::_=>none
theorem Dy{K:Qdf}{B:List Addr}:∀{ds:List D} {xs:List V} {bs:List Bool},aI K B H ds xs->bls? ds=some bs->xs=bs.map V.bl
 | [],xs,bs,r,h=>by unfold aI at r;subst r;cases h;rfl
 | d ::ds,xs,bs,r,h=>by
   obtain⟨x,q,rfl,r1,r2⟩:=r.cj;cases d with
   | bl b=>
     have h:(bls? ds).map (b ::·)=some bs:=h
     cases e:bls? ds with
     | none=>rw [e] at h;cases h
     | some cs=>
       rw[e] at h;cases h;rw[Rep.bl.mp r1,Dy r2 e];rfl
   | _=>cases h
theorem G3:∀bs:List Bool,bls? (bs.map D.bl)=some bs
 | []=>rfl
 | b ::bs=>by show(bls?$ bs.map D.bl).map (b ::·)=_;rw [G3 bs];rfl
theorem yh:∀{bs:List Bool} {us:List Value},Vals (bs.map V.bl) us->us=bs.map Value.bool
 | [],us,h=>by cases h;rfl
 | b ::bs,us,h=>by
   cases h with
   | cons r t=>rw [yh t,show _=Value.bool b from r];rfl
def range_all(bs:List Bool):(List.range bs.length).all (λi=>bs.getD i false)=bs.all id:=by
 rw[Qbi];simp only[Qbq,QaM,id];constructor
 .intro h b hb;obtain⟨i,hi,rfl⟩:=Qcf hb;have:=h i hi;rw[Qag,Qab hi] at this;exact this
 .intro h i hi;rw[Qag,Qab hi];exact h _$ Qa7 hi
def KY:List D->R D
 | [.lst ds]=>(match bls? ds with | some bs=> .ok (.bl$ bs.all id) | none=> .no)
 | _=> .no
def aa7:List D->R D
 | [.lst ds]=>(match bls? ds with | some bs=> .ok (.bl$ bs.any id) | none=> .no)
 | _=> .no
def Va{bs:List Bool}{i:Nat}{v:Value}(h:((bs.map Value.bool).toArray)[i]? =some v):v= .bool (bs.getD i false):=by
 rw[List.getElem?_toArray,Qac] at h;rw[Qag];cases e:bs[i]? with
 | none=>rw [e] at h;cases h
 | some b=>rw [e] at h;cases h;rfl
def Qb(hc:X.calm=true):cV X (.builtin "all") KY:=by
 intro pins s σ H B ds d xs us I hb rx rs hg;unfold KY at hg;split at hg
 .split at hg
  .rename_i es bs e;cases hg;obtain⟨x,rfl,r⟩:=rs.one;obtain⟨a,ys,rfl,l,r⟩:=Rep.lst.mp r;obtain⟨u,rfl,ru⟩:=vals1 rx;cases ru;obtain⟨its,n,rv,e1,hz⟩:=I.Qi l;rw[Dy r e] at rv;obtain rfl:=yh rv;have hl:s.heap.IsList a (bs.map Value.bool).toArray:=⟨_,e1,rfl,n,rfl⟩;have hlt:a<s.heap.objs.size:=QaD e1;refine call_all_walk$ Qc4 hl ?_;refine⟨_,_,_,_,_,_,λi=>bs.getD i false,rfl,Walks.list (A:=X.A.in1) (I.ok.hd hc) _ a (QaR hlt) _,⟨⟨_,QaN _ rfl,rfl,rfl⟩,hl.push _⟩,?_,λh' tk hk=>?_⟩
   .intro i v s Q E hP hQ;rw[Va hP];exact Qb5 hQ
   .refine⟨.bl$ bs.all id,H,I.kept$ old_kept hk,?_,bo.refl H,Rep.bl.mpr rfl⟩;show Value.bool _=Value.bool _;rw[<-range_all];simp
  .cases hg
 .cases hg
end
section
variable {X:Cx}
noncomputable def Yb:FS:=λ_=> .no
def Gr{st:Stmt}:Js X st Yb:=⟨λpins s σ H D I ⟨Z,B,δ,o,E,hf,q⟩=>by cases hf⟩
def ZC(f:FD):FS:=λδ=>(f δ).bind λ_=> .ok$ .nx δ
end
end L2
namespace L3
open PySem PySem.Spec PyProof.Rows L2
section
variable {X:Cx}{cl:Aag}
noncomputable def Wr:FZ:=λ_ _=> .no
def LB{st:Stmt}:PZ X cl st Wr:=⟨λpins s σ H D I ⟨ρ,S,δ,o,S',E,hf,q⟩=>by cases hf⟩
def RK{K:Qdf}{f:ay->R (List D)}{σ:L2.St}{Q:V->Hp->Prop}(h:tX K cl (mQ f) σ H Q):tN K f σ H Q:=by
 obtain⟨ρ,S,δ,v,S',E,hf,q⟩:=h;obtain⟨ds,S1,h1,h2⟩:=R3.ao hf;obtain⟨h3,e3⟩:=R3.of_ok h1;cases h2;subst e3;refine⟨[],ρ.b,down δ,ds,E.down,h3,λa xs H' s n e r=>?_⟩
 have r':aI K (ρ.push a).b H' ds xs:=r.bG λb o e nb=>⟨e,λhb=>nb (by
  rcases P3.mem_push hb with z | z
  .exact Qad _ z
  .subst z;exact Qan)⟩
 obtain⟨w,p⟩:=E.sw.new (o:= .lst ds) s n ⟨xs,e,r'⟩;exact q _ _ H' p w (by unfold bE;exact⟨a,by show(ρ.r++[a])[_]? =_;rw [<-E.sw.len,Qaj (by omega),Qbe];rfl,rfl⟩)
def GD(f:ay->R (List D)):FX:=λδ S=>(R3.of (f$ d8 S δ) S).bind λds S=>R3.bH (jE ds)$ .ok (.loc S.length)$ S++[.lst ds]
def Nu{K:Qdf}{f:ay->R (List D)}{σ:L2.St}{Q:V->Hp->Prop}(h:tX K cl (GD f) σ H Q):tN K f σ H Q:=by
 obtain⟨ρ,S,δ,v,S',E,hf,q⟩:=h;obtain⟨ds,S1,h1,h2⟩:=R3.ao hf;obtain⟨h3,e3⟩:=R3.of_ok h1;obtain⟨ht,h4⟩:=R3.bj h2;cases h4;subst e3;refine⟨[],[],d8 _ δ,ds,E.d8,h3,λa xs H' s n e r=>?_⟩
 have r0:aI K [] H' ds xs:=r.bG λb o e nb=>⟨e,by simp⟩
 have r':aI K (ρ.push a).b H' ds xs:=aI.zL (λb hb ys hr=>by
  rcases P3.mem_push hb with z | z
  .exact(E.sw.same s).nt b z ys hr
  .subst z;rcases hr with y | ⟨ob,y⟩
   .rw [e] at y;cases y
   .rw [e] at y;cases y) ht r0
 obtain⟨w,p⟩:=E.sw.new (o:= .lst ds) s n ⟨xs,e,r'⟩;exact q _ _ H' p w (by unfold bE;exact⟨a,by show(ρ.r++[a])[_]? =_;rw [<-E.sw.len,Qaj (by omega),Qbe];rfl,rfl⟩)
def Oe{f:ay->R (List D)}(h:QN X e f):PX X cl e (GD f):=⟨h.1.imp λσ H Q h=>Nu h⟩
def CS{i:Nat}{pos' mw:Pos}{own:List Str}{kp:List Nat}{it:ay->R (List D)}{c:ay->R Bool}(hi:Cd X tg iter it)(hg:∀fp s H,SA (bN X scope (own++(mX kp X.N)) fp s H) tg t)(D_:∀fp s H,Lp (bN X scope (own++(mX kp X.N)) fp s H) ifs c)(he:∀fp s H,QD (bN X scope (own++(mX kp X.N)) fp s H) elt f)(yw:swapsWith (.ListComp elt [⟨tg,iter,ifs,0⟩] scope pos) (some$ .Name x pos') mw.line X.env=pure true:=by rfl)(hs:∀x,foldedSetIterable iter X.env x=pure x:=by intro _;rfl)(hc:X.calm=true:=by rfl)(hN:X.N.Nodup:=by first | assumption | exact Pd (by kernel_rfl))(hx:X.N[i]? =some x:=by rfl)(Jz:X.env.scope.names.lookup x=some .local:=by rfl)(C:f6 X scope own kp (mX kp X.N):=by exact Ui (by kernel_rfl)):PZ X cl (.Assign [.Name x pos'] (.ListComp elt [⟨tg,iter,ifs,0⟩] scope pos) mw) (bW i$ mQ$ bX it t c f own kp):=
 ⟨(rj hc hN hx Jz C hi.1 (λfp s H=>(hg fp s H).1) (λfp s H=>(D_ fp s H).1) (λfp s H=>(he fp s H).1) yw hs).imp λD σ H h=>BE$ RK$ Li h⟩
def Q_{f:ay->R (List D)}{ds:List D}{δ:DE}{S:bp}{QV:V3->bp->Prop}(e:f (d8 S δ)= .ok ds)(ht:jE ds=true)(h:QV (.loc S.length) (S++[.lst ds])):W3 (GD f δ S) QV:=W3.bind$ W3.of e$ W3.wh ht$ W3.ok h
def aaZ(i:Nat)(f:FX):FZ:=λδ S=>match iu δ i with
 | none=> .no
 | some k=>match dz S k with
   | none=> .no
   | some _=>(f δ S).bind λv S1=>match v with
     | .d (.lst es)=>(match dz S1 k with
       | some ds=>R3.bH (decide$ ds.length+es.length<=sizeLine)$ .ok (.nx δ)$ S1.set k$ .lst$ ds++es
       | none=> .no)
     | _=> .no
def BM{f:FX}{δ:DE}{S:bp}{QO:Ou->bp->Prop}(h:W3 (f δ S) λ_ S1=>QO (.nx δ) S1):W3 (Ai f δ S) QO:=W3.bind$ h.mono λ_ _ h=>W3.ok h
end
end L3
end
section
namespace L2
open PySem PySem.Spec PyProof.Rows
section
variable {X:Cx}
def LN{prog:Program}{w:World}{A:Around}{E:Aab}{s:Qdg}{t b:Addr}{vs ws:List Value}{Q:Aab}(ht:IsTup s.heap t vs.toArray)(hb:IsTup s.heap b ws.toArray)
 (h0:vs=[]->Q (.ref b) s) (h1:vs≠[]->ws=[]->Q (.ref t) s) (h2:vs≠[]->ws≠[]->Q (.ref s.heap.objs.size) {s with heap:=s.heap.push {cls:= .type "tuple",data:= .seq (vs++ws).toArray}})
 (hsz:vs.length+ws.length<=sizeLine):wpAny (model prog w) A (binaryOp .Add (.ref t)$ .ref b) Q E s:=by
 by_cases hv:vs=[]
 .obtain⟨⟨cls,dd,data,sl⟩,ho,hc,n,hd⟩:=id ht;obtain⟨⟨Wl,Qm,data2,MV⟩,Jm,Ei,n2,hd2⟩:=id hb;simp only at hc hd Ei hd2;subst hc hd Ei hd2;exact concat_meets ⟨_,ho,rfl⟩ ⟨_,Jm,rfl⟩ noFill_tuple_add seq_tuple_add Qcz Qct (Qcp _ _) (tuple_addW0 t b vs.toArray ws.toArray n n2 dd Qm sl MV$ by simp [hv]) ⟨ho,Jm,h0 hv⟩
 .exact HT.Pc ht hb hv (h1 hv) (h2 hv) hsz
def gr(d e:D):R D:=match d,e with
 | .tup a, .tup b=>R.bH (decide$ a.length+b.length<=sizeLine)$ .ok$ .tup$ a++b
 | d,e=>cI d e
def Ac.fresh{K:Qdf}{B:List Addr}{H:Hp}{p:Addr}{xs:List V}(hb:∀a∈B,∃o,H a=some o)(hp:H p=none):Ac K B (upd H p$ .tup xs) p xs:= .inl ⟨λha=>(by obtain⟨o,ho⟩:=hb p ha;rw [hp] at ho;cases ho), .inl bh⟩
def ig:m6 X (binaryOp .Add) gr:=by
 intro pins s σ H B da db d x y v u I hb rx ry ra rb hg;by_cases ht:∃a b,da= .tup a/\db= .tup b
 .obtain⟨a,b,rfl,rfl⟩:=ht;have hg:R.bH (decide$ a.length+b.length<=sizeLine) (.ok$ .tup$ a++b)= .ok d:=hg;obtain⟨h1,h2⟩:=R.bj hg;cases h2;have h1:=Qal h1;have ra':=ra;have rb':=rb;obtain⟨a1,YF,rfl,l1,r1⟩:=Rep.tup.mp ra;obtain⟨a2,Yp,rfl,l2,r2⟩:=Rep.tup.mp rb;cases rx;cases ry;obtain⟨its,ZY,p1,_⟩:=I.tuple l1.sq;obtain⟨p9,Te,p2,_⟩:=I.tuple l2.sq;have e1:=ZY.length;have e2:=Te.length;have e3:=r1.length;have e4:=r2.length;refine LN p1 p2 (λz=>⟨.ref a2,H,I,rfl,bo.refl H,?_⟩) (λ_ z=>⟨.ref a1,H,I,rfl,bo.refl H,?_⟩) (λ_ _=>?_) (by omega)
  .obtain rfl:a=[]:=QcN (by rw[e3,e1,z];rfl)
   exact rb'
  .obtain rfl:b=[]:=QcN (by rw[e4,e2,z];rfl)
   rw[QaV];exact ra'
  .have hp:H s.heap.objs.size=none:=I.hok.fresh$ Qak _;refine⟨.ref s.heap.objs.size,_,I.laid (t':=s.toks) (o:= .tup$ YF++Yp) (λb ob q=>Qah _ q) (Qak _) ⟨by rw[Qai];omega,_,ZY.append Te,IsTup.new _ _⟩,rfl,aU hp,Rep.tup.mpr ⟨_,_,rfl,Ac.fresh hb hp,(r1.append r2).same$ aU hp⟩⟩
 .have hg:cI da db= .ok d:=by
   unfold gr at hg;split at hg
   .exact absurd ⟨_,_,rfl,rfl⟩ ht
   .exact hg
  exact cD pins s σ H B da db d x y v u I hb rx ry ra rb hg
def Cd.or{F F1 F2:ay->R (List D)}(h1:Cd X tg e F1)(h2:Cd X tg e F2)(h:∀δ ds,F δ= .ok ds->F1 δ= .ok ds\/F2 δ= .ok ds):Cd X tg e F:=
 ⟨λpins s σ H R I ⟨Z,B,δ,ds,E,hf,q⟩=>(h δ ds hf).elim (λz=>h1.1 pins s σ H R I ⟨Z,B,δ,ds,E,z,q⟩) λz=>h2.1 pins s σ H R I ⟨Z,B,δ,ds,E,z,q⟩⟩
def G6(f:FD):ay->R (List D):=λδ=>(f δ).bind λd=>match d with | .lst ds=> .ok (er ds) | .tup ds=> .ok (er ds) | _=> .no
def EU{elts:List Expr}{k:Nat}{yB:Pos}{p pos:Pos}(h:QD X a f)(hg:Gl X "enumerate")(hm:X.mg "enumerate"=none)(hs:starEach [a] X.env=[(false,eval a X.env)]:=by rfl):Cd X (.Tuple elts k yB) (.Call (.Name "enumerate" p) [a] [] pos) (G6 f):=
 Cd.or (F1:=f7 f) (F2:=BZ f) ⟨C1 h.1 hg hm hs⟩ (Fo h hg hm hs) λδ ds hf=>by
  obtain⟨d,h1,h2⟩:=R.ao hf;cases d with
  | lst es=>cases h2;exact .inl (by unfold f7;rw [h1];rfl)
  | tup es=>cases h2;exact .inr (by unfold BZ;rw [h1];rfl)
  | _=>cases h2
noncomputable def Itv(K:Qdf)(a:Addr)(n:Nat):It:=
 ⟨λi H=>∃xs x,qT K H a xs/\xs.length=n/\i<n/\xs[n - 1 - i]? =some x,λi H v H'=>H'=H/\∀xs,qT K H a xs->xs[n - 1 - i]? =some v,λi H=>(∃xs,qT K H a xs)/\i=n⟩
def KS{K:Qdf}(a it:Addr)(n:Nat):Turn P w K tg (Itv K a n) [it] it (λi h=>h.IsRevIter it a$ (n:Int) - 1 - (i:Int)) where
 mem:=by simp
 obj:=λi h st b hb=>by
  have e:b=it:=by simpa using hb
  subst e;obtain⟨o,e,c,d⟩:=st;exact⟨o,e,λv z=>by rw[d] at z;cases z⟩
 keep:=λi h h' st k=>st.at λo e=>k it (by simp) o e
 item:=by
  intro X hP hw hK hc i pins s σ H E I hf st hg;subst hP hw hK;obtain⟨xs,x,hq,hn,hi,hx⟩:=hg;obtain⟨its,rv,p,hz⟩:=I.list hq;obtain⟨u,hu,ru⟩:=rv.get hx;obtain⟨f0,f1,f2,f3,f4,f5⟩:=hf it (by simp)
  have e0:(n:Int) - 1 - (i:Int)=((n - 1 - i:Nat):Int):=by omega
  rw[e0] at st;refine wpAny_pyNext_rev_item st p.isList (x:=u) (by simpa using hu) λh' Ej sb=>?_
  have I1:Inv X pins σ H {s with heap:=h'}:=I.turned (t':=s.toks) (λb o hb e=>(sb.2 b hb).trans e) f0 f1 f3 f4 f5
  have MQ:h'.IsRevIter it a ((n:Int) - 1 - ((i+1:Nat):Int)):=by
   rw[show((n - 1 - i:Nat):Int) - 1=(n:Int) - 1 - ((i+1:Nat):Int) by omega] at Ej;exact Ej
  obtain⟨o,e,c,d⟩:=id MQ;exact⟨u,rfl,Gk (s:={s with heap:=h'}) e c d (by decide) ⟨x,H,I1,ru,⟨rfl,λys hy=>by rw[I.sC hy hq];exact hx⟩,MQ,λb hb=>(hf b hb).1⟩⟩
 done:=by
  intro X hP hw hK hc i pins s σ H E I hf st hg;subst hP hw hK;obtain⟨_,rfl⟩:=hg;obtain⟨f0,f1,f2,f3,f4,f5⟩:=hf it (by simp)
  rw[show(i:Int) - 1 - (i:Int)= -1 by omega] at st
  exact wpAny_pyNext_rev_end (I.ok.hd hc) st λh' eb=>⟨rfl,I.turned (t':=s.toks) (λb o hb e=>eb b o hb e) f0 f1 f3 f4 f5⟩
 self:=λ_ _ _ _ _ st h=>wpAny_pyIter_revIter st h
def Px(f:FD):ay->R (List D):=λδ=>(f δ).bind λd=>match d with | .lst ds=> .ok ds.reverse | _=> .no
def JK{tg a:Expr}{p pos:Pos}(h:QD X a f)(hg:Gl X "reversed")(hm:X.mg "reversed"=none)(hs:starEach [a] X.env=[(false,eval a X.env)]:=by rfl):Cd X tg (.Call (.Name "reversed" p) [a] [] pos) (Px f):=by
 refine⟨?_⟩;intro pins s σ H RR I ⟨Z,B,δ,ds,E,hf,q⟩;obtain⟨d,h1,h2⟩:=R.ao hf;have hA:=dq h.1 f9 hs pos pins s σ H (λvs H1=>bo H H1/\∃v,vs=[v]/\Rep X.K B H1 d v) I ⟨Z,B,δ,d,E,h1,λv H1 s1 r1=>⟨s1,v,rfl,r1⟩⟩
 refine Call_$ jK I hg hm boot_reversed$ QaX (d9 hA λus s1 ⟨vs,H1,I1,r1,ss,v,ev,rr⟩=>?_) hs rfl
 subst ev;obtain⟨u,rfl,ru⟩:=vals1 r1;cases d with
 | lst es=>
   cases h2;obtain⟨b,xs,rfl,l,rs⟩:=Rep.lst.mp rr;cases ru;obtain⟨its,rv,pl,hz⟩:=I1.list l.sq;have e1:=rv.length;have e2:=rs.length;refine call_reversed_list pl.isList$ wpAny_pyIter_revIter (i:=(its.toArray.size:Int) - 1) ⟨_,QaN _ rfl,rfl,rfl⟩ ?_;refine⟨s1.heap.objs.size,[s1.heap.objs.size],_,_,H1,rfl,I1.kept (t':=s1.toks) λb o e=>Qah _ e,KS b _ es.length,?_,λc hc=>?_,q _ H1 ss λB' H' pr=>?_⟩
   .refine⟨_,QaN _ rfl,rfl,?_⟩;show Data.fields #[.ref b,rawInt$ (its.toArray.size:Int) - 1]=Data.fields #[.ref b,rawInt$ (es.length:Int) - 1 - ((0:Nat):Int)];rw[Qay,<-e1,<-e2,show((es.length:Nat):Int) - 1 - ((0:Nat):Int)=(es.length:Int) - 1 by omega]
   .have e:c=s1.heap.objs.size:=by simpa using hc
    subst e;exact I1.A1 (Qak _)$ I1.hok.fresh$ Qak _
   .have l':zM X.K B' H' b xs:=l.bG pr;have rs':=rs.bG pr;refine⟨λi d hd=>?_,⟨xs,l'.sq⟩,by rw[Qcg]⟩
    have hi:i<es.length:=by have:=(Qae.mp hd).1;rwa [Qcg] at this
    rw[List.getElem?_reverse hi] at hd;obtain⟨x,hx,rx⟩:=rs'.get hd;refine⟨⟨xs,x,l'.sq,e2.symm,hi,hx⟩,λv qX yl Pg=>?_⟩
    obtain⟨rfl,hy⟩:=yl;have Jo:=hy xs l'.sq;rw[hx] at Jo;cases Jo;exact⟨bo.refl _,rx⟩
 | _=>cases h2
def Jj(K:Qdf)(C:Addr)(m qual:Str)(st:Stmt):Prop:=∃f fd,Gq K m qual st f fd/\Meth K C m f
def RW(K:Qdf)(C:Addr)(m qual:Str)(st:Stmt):Prop:=∃f fd,Gq K m qual st f fd/\Mk K C f
end
end L2
namespace L3
open PySem PySem.Spec PyProof.Rows L2
section
variable {cl:Aag}
def vd.p{K:Qdf}{mg:Aaf}{cl:Aag}{k c:Nat}{n:Nat}{N:List Str}(C:vd P w K mg base cl k c m n (qw N F)):vd P w K mg base cl k c m n (tV N F):=
 let⟨f,fd,ps,c1,c2,F,h⟩:=C;⟨f,fd,ps,c1,c2,F.imp λ_ _ _ _ h=>EC h,h⟩
end
end L3
end
section
namespace L2
open PySem PySem.Spec PyProof.Rows
section
variable {X:Cx}
def Ny(f:FD):ay->R (List D):=λδ=>(f δ).bind λd=>match d with | .int j=>R.bH (decide (-(2 ^ 62)<=j/\j<16777216)) (.ok$ jq 0 j.toNat) | _=> .no
def Oh{a:Expr}{f:FD}{p p2 pos zo:Pos}(hc:X.calm=true)(h:QD X a f)(hg:Gl X "list")(hm:X.mg "list"=none)(Jy:Gl X "range")(S7:X.mg "range"=none)(hs:starEach [a] X.env=[(false,eval a X.env)]:=by rfl)
 (hs2:starEach [.Call (.Name "range" p2) [a] [] zo] X.env=(false,eval (.Call (.Name "range" p2) [a] [] zo) X.env) ::starEach [] X.env:=by rfl) (j_:(backTo pos$ starEach [] X.env).any (·.1)=false:=by rfl) :
 QN X (.Call (.Name "list" p) [.Call (.Name "range" p2) [a] [] zo] [] pos) (Ny f):=by
 refine⟨?_⟩;intro pins s σ H Q I ⟨Z,B,δ,ds,E,hf,q⟩;obtain⟨d1,h1,h2⟩:=R.ao hf;have key:∃j:Int,d1= .int j/\ -(2 ^ 62)<=j/\j<16777216/\ds=jq 0 j.toNat:=by
  split at h2
  .obtain⟨h3,h4⟩:=R.bj h2;cases h4;have h3:=Qal h3;exact⟨_,rfl,h3.1,h3.2,rfl⟩
  .cases h2
 obtain⟨j,rfl,WQ,Yo,rfl⟩:=key;refine QbR (jK I hg hm boot_list ?_ (by decide)$ by decide)
 refine QaX ?_ hs2 j_;rw[hs2];show wpAny _ _ (spliced ((false,eval (.Call (.Name "range" p2) [a] [] zo) X.env) ::backTo pos (starEach [] X.env))) _ _ s;refine Qb2 ?_;have hA:=dq h.1 f9 hs zo pins s σ H (λvs H1=>bo H H1/\vs=[.int j]) I ⟨Z,B,δ, .int j,E,h1,λv H1 s1 r1=>⟨s1,by rw[Rep.int.mp r1]⟩⟩
 refine Call_$ jK I Jy S7 boot_range$ QaX (d9 hA λus s1 ⟨vs,H1,I1,r1,ss,ev⟩=>?_) hs rfl
 subst ev;obtain⟨u,rfl,ru⟩:=vals1 r1;obtain⟨t,rfl⟩:=ru;refine call_range_1 ?_;have I2:Inv X pins σ H1 {s1 with heap:=s1.heap.push {cls:= .type "range",data:= .fields #[.int 0 s1.toks, .int j t, .int 1$ s1.toks+1]},toks:=s1.toks+1+1}:=I1.kept λb o e=>Qah _ e
 refine Qcv ?_;have hsz:Builtin.Range.rangeSize 0 j 1=(j.toNat:Nat):=by rw[rangeSize_one];split <;> omega
 have hz:=Qas;refine call_list_range (n:=j.toNat) (I2.ok.hd hc) (IsRange.new ..) (small_one (by omega) (by omega) (by omega)$ by omega) hsz (by omega) λh' tk acc c' hk MB B4=>?_
 have rv:=E_ B4;have hle:((List.range j.toNat).map λ(i:Nat)=>V.int$ 0+(i:Int)).length<=sizeLine:=by rw[Qaa,Qaq];omega
 have hf':H1 (s1.heap.push {cls:= .type "range",data:= .fields #[.int 0 s1.toks, .int j t, .int 1$ s1.toks+1]}).objs.size=none:=I2.hok.fresh$ Qak _;have I4:=I2.laid (o:= .lst$ (List.range j.toNat).map λ(i:Nat)=>V.int$ 0+(i:Int)) (h':=h') (t':=tk) hk (Qak _) (show e8 X.prog X.w _ _ _ (.lst _) from⟨hle,acc.toList,c',rv,by simpa using MB⟩)
 exact⟨.ref _,_,I4,rfl,q _ _ _ (ss.trans$ aU hf') (ss.free hf') bh$ DL _⟩
def aax(f:FD):FD:=λδ=>(f δ).bind λd=>match d with | .lst ds=> .ok (.lst ds.reverse) | _=> .no
end
section
def aaj(K:Qdf)(n:Nat)(t:JY):TG:=λv σ H Q=>∃a xs,v= .ref a/\qT K H a xs/\xs.length=n/\t xs σ H Q
end
end L2
namespace L3
open PySem PySem.Spec PyProof.Rows L2
section
noncomputable def gLs(n:Nat)(t:NZ):FG:=λd δ=>match d with
 | .d (.lst ds)=>if ds.length=n then t (ds.map .d) δ else none
 | .lst vs=>if vs.length=n then t vs δ else none
 | _=>none
def aan(f g:FX):FA:=λδ S=>(aZ f (aZ g eA) δ S).bind λvs S1=>match vs with
 | [.d d, .d e]=>(match seqD? d,seqD? e with | some ds,some es=> .ok ((vD ds es).map .d) S1 | _,_=> .no)
 | _=> .no
def yO(S:bp):Prop:=∀o∈S,Dt S.length o=true
def Flat.clo{S:bp}(h:Flat S):yO S:=λo ho=>h o ho _
def Ua{N:List Str}{vs:List V3}{S:bp}{QV:V3->bp->Prop}(h:W3 (qw N F vs S) λv S1=>(∀o∈S1.take S.length,Dt S.length o=true)/\iA S.length v=true/\∃d,res S1 v=some d/\QV (.d d) (S1.take S.length)):W3 (tV N F vs S) QV:=
 W3.bind (h.mono λv S1 ⟨hl,hg,d,e,q⟩=>by
  rw[e];exact W3.wh (by rw[Qbq.mpr hl,hg];rfl)$ W3.ok q)
def iR{N:List Str}{vs:List V3}{S:bp}{QV:V3->bp->Prop}(hS:yO S)(h:W3 (qw N F vs S) λv S1=>iA S.length v=true/\(∃T,S1=S++T)/\∃d,res S1 v=some d/\QV (.d d) S):W3 (tV N F vs S) QV:=
 Ua (h.mono λv S1 ⟨hg,⟨T,e1⟩,d,e,q⟩=>by
  subst e1;rw[List.take_append_of_le_length$ Qak _,QaY];exact⟨hS,hg,d,e,q⟩)
end
end L3
end
section
namespace L2
open PySem PySem.Spec PyProof.Rows
section
noncomputable def ois?:List D->Option (List$ Option Int)
 | []=>some []
 | .int i ::ds=>(ois? ds).map (some i ::·)
 | .cY ::ds=>(ois? ds).map (none ::·)
 | _ ::_=>none
noncomputable def oiV:Option Int->V | some i=> .int i | none=> .cY
def inN(d e:D):R Bool:=match d,e with
 | .cY, .lst ds=>(match ois? ds with | some ss=> .ok (ss.any (·.isNone)) | none=> .no)
 | _,_=> .no
def aa3(d e:D):R D:=(inN d e).bind λb=> .ok$ .bl b
end
section
def Xp(d:D)(ds:List D):R D:=match d,ds with
 | .lst es,[.int k]=>(match ints? es with | some ss=> .ok (.int (ss.count k:Nat)) | none=> .no)
 | _,_=> .no
end
section
variable {X:Cx}
abbrev QS:D->D->R D:=MF (fun i j=>decide$ 0<=j/\j<1000/\ -1000<i/\i<1000) fun i j=>i*2 ^ j.toNat
def Vi:m6 X (binaryOp .LShift) QS:=Dv Rh λi j h=>by
 have:=Qal h;exact⟨this.1,by omega,by omega⟩
noncomputable def Zc(d e:D):R D:=match d,e with | .bl a, .bl b=> .ok (.bl$ a !=b) | _,_=> .no
end
end L2
namespace L3
open PySem PySem.Spec PyProof.Rows L2
section
def Zz(fo f:FX):FZ:=λδ S=>(fo δ S).bind λo S0=>match o with
 | .loc k=>(match dz S0 k with
   | none=> .no
   | some _=>(f δ S0).bind λv S1=>match v with
     | .d d=>(match dz S1 k with | some ds=>R3.bH (decide$ ds.length<sizeLine) (.ok (.nx δ)$ S1.set k$ .lst$ ds++[d]) | none=> .no)
     | _=> .no)
 | _=> .no
def Zk(f:FX):FA:=λδ S=>(aZ f eA δ S).bind λvs S1=>match vs with
 | [.d (.lst ds)]=> .ok ((er ds).map .d) S1
 | _=> .no
end
end L3
end
section
namespace L2
open PySem PySem.Spec PyProof.Rows
end L2
end
section
namespace L3
open PySem PySem.Spec PyProof.Rows L2
section
def X7(it:FA)(t:FG)(c:FB)(f:FX)(own:List Str)(kp:List Nat):FX:=λδ S=>(it δ S).bind λvs S1=>R3.bH (decide$ vs.length<=sizeLine)$ (pP t c f (o5 own kp δ) vs S1).bind λys S2=>match vI ys with | some ds=> .ok (.loc S2.length) (S2++[.lst ds]) | none=> .no
end
section
def W6(g:List D->R D)(fs:FA):FX:=λδ S=>(fs δ S).bind λvs S1=>match yI S1 vs with
 | some ds=>(R3.of (g ds) S1).bind λd S=>R3.bH (oM d)$ .ok (.d d) S
 | none=> .no
end
end L3
end
section
namespace L2
open PySem PySem.Spec PyProof.Rows
section
variable {X:Cx}
def aaK(f:FD):FD:=λδ=>(f δ).bind λd=>match d with | .int i=> .ok (.int (-i - 1)) | _=> .no
def WE(d:D)(lo hi:Option Int):R D:=match d with
 | .tup ds=>R.bH (decide (¬(HT.g7 ds.length 0 lo=0/\HT.g7 ds.length ds.length hi=ds.length)))$ .ok$ .tup$ cutD ds lo hi
 | _=> .no
def Sa(f:FD)(fl fh:FO):FD:=λδ=>(f δ).bind λd=>(fl δ).bind λlo=>(fh δ).bind λhi=>WE d lo hi
def Gg{lo hi:Option Expr}{fl fh:FO}(he:QD X e f)(hl:QP X lo fl)(hh:QP X hi fh):QD X (.Subscript e (.Slice lo hi none p2) pos) (Sa f fl fh):=by
 refine⟨(DJ RE he.1 hl.1 hh.1).imp λσ H Q ⟨Z,B,δ,d,E,hf,q⟩=>?_⟩
 obtain⟨d1,h1,h2⟩:=R.ao hf;obtain⟨l,h3,h4⟩:=R.ao h2;obtain⟨h,h5,h6⟩:=R.ao h4;refine⟨Z,B,δ,d1,E,h1,λv1 H1 s1 r1=>⟨Z,B,δ,l,E.same s1,h3,λH2 s2=>⟨Z,B,δ,h,(E.same s1).same s2,h5,λH3 s3=>?_⟩⟩⟩
 have sA:bo H H3:=s1.trans$ s2.trans s3;have tS:=r1.same$ s2.trans s3;unfold WE at h6;split at h6
 .obtain⟨hz,h7⟩:=R.bj h6;cases h7;obtain⟨a,xs,rfl,ls,rs⟩:=Rep.tup.mp tS;have hz:=Qal hz;rw[rs.length] at hz;refine⟨a,xs,rfl,ls.sq,hz,λp hp=>q _ _ (sA.trans$ aU hp)$ Rep.tup.mpr ⟨p,_,rfl, .inl ⟨λha=>?_,?_⟩,(CG rs l h).same$ aU hp⟩⟩
  .obtain⟨o,ho⟩:=(E.same sA).bs p ha;rw[hp] at ho;cases ho
  .exact .of bh
 .cases h6
end
end L2
namespace L3
open PySem PySem.Spec PyProof.Rows L2
section
variable {X:Cx}{cl:Aag}
structure PZc (X:Cx) (cl:Aag) (st:List Stmt) (F:FZ):Prop where
 go:Cb X st (fun D σ H=>D.ct=D.nx/\sX X.K cl F D σ H)
end
end L3
end
section
namespace L2
open PySem PySem.Spec PyProof.Rows
end L2
namespace L3
open PySem PySem.Spec PyProof.Rows L2
section
def aao(i:Nat)(f:FX):FX:=λδ S=>match iu δ i with
 | none=> .no
 | some k=>match dz S k with
   | none=> .no
   | some _=>(f δ S).bind λv S1=>match v with
     | .d (.int j)=>(match dz S1 k with
       | some ds=>(match Eg ds.length j with
         | some p=>(match ds[p]? with | some d=>R3.bH (decide (-(2 ^ 63)<=j/\j<2 ^ 63)) (.ok (.d d)$ S1.set k$ .lst$ ds.eraseIdx p) | none=> .no)
         | none=> .no)
       | none=> .no)
     | _=> .no
end
section
def aa2(f:FX)(fl fh:Tx):FX:=λδ S=>(f δ S).bind λv S1=>(fl δ S1).bind λlo S2=>(fh δ S2).bind λhi S3=>match v with
 | .lst vs=> .ok (.lst$ L2.cutD vs lo hi) S3
 | _=> .no
end
end L3
end
section
namespace L2
open PySem PySem.Spec PyProof.Rows
section
def Xz:List V->Hp->VK->Prop:=λxs H Q=>∃a kvs ns,xs=[V.ref a]/\H a=some (.dK kvs)/\kvs.map (·.1)=ns.map Sum.inl/\ns.length<64/\∀p,H p=none->Q (.ref p) (upd H p$ .lst$ (Kk ns).map V.int)
end
end L2
end
section
namespace L3
open PySem PySem.Spec PyProof.Rows L2
section
variable {X:Cx}{cl:Aag}
noncomputable def vV(kvs:List (Key × D))(k:Key)(d:D):List (Key × D):=if(kvs.any λkv=>decide$ kv.1=k)=true then kvs.map (λkv=>if kv.1=k then(kv.1,d) else kv) else kvs++[(k,d)]
noncomputable def pF(S:bp)(k:Nat):Option (List$ Key × D):=match S[k]? with | some (.dct kvs)=>some kvs | _=>none
def rF{S:bp}{k:Nat}{kvs:List (Key × D)}(h:pF S k=some kvs):S[k]? =some (.dct kvs):=by
 unfold pF at h;split at h
 .rename_i e;cases h;exact e
 .cases h
theorem Gu{α β:Type}(k:Key):∀{a:List (Key × α)} {b:List (Key × β)},a.map (·.1)=b.map (·.1)->(a.any λkv=>decide$ kv.1=k)=b.any λkv=>decide (kv.1=k)
 | [],[],_=>rfl
 | [],_ ::_,h=>by simp at h
 | _ ::_,[],h=>by simp at h
 | x ::a,y ::b,h=>by
   rw[Qaz,Qaz] at h;obtain⟨h1,h2⟩:=Qcd h;rw[Qbt,Qbt,Gu k h2,h1]
def GY{K:Qdf}{B:List Addr}{k:Key}{d:D}{v:V}(rv:Rep K B H d v):∀{kvs:List (Key × D)} {ys:List (Key × V)},ys.map (·.1)=kvs.map (·.1)->aI K B H (kvs.map (·.2)) (ys.map (·.2))->
 (ys.map λkv=>if kv.1=k then(kv.1,v) else kv).map (·.1)=(kvs.map λkv=>if kv.1=k then(kv.1,d) else kv).map (·.1)/\aI K B H ((kvs.map λkv=>if kv.1=k then(kv.1,d) else kv).map (·.2)) ((ys.map λkv=>if kv.1=k then(kv.1,v) else kv).map (·.2))
 | [],[],_,_=>⟨rfl,aI.nil⟩
 | [],_ ::_,h,_=>by simp at h
 | _ ::_,[],h,_=>by simp at h
 | (k1,d1) ::kvs,(k2,v2) ::ys,h,r=>by
   obtain⟨h1,h2⟩:=Qcd h;have h1:k2=k1:=h1;subst h1;obtain⟨x,r',e,q1,q2⟩:=aI.cj r;cases e;obtain⟨i1,i2⟩:=GY rv h2 q2;simp only[Qaz];by_cases hk:k2=k
   .rw [QaK hk,QaK hk];exact⟨by rw[i1],aI.cons rv i2⟩
   .rw [QaH hk,QaH hk];exact⟨by rw[i1],aI.cons q1 i2⟩
def Pt{K:Qdf}{B:List Addr}{k:Key}{d:D}{v:V}(rv:Rep K B H d v){kvs:List (Key × D)}{ys:List (Key × V)}(h:ys.map (·.1)=kvs.map (·.1))(r:aI K B H (kvs.map (·.2)) (ys.map (·.2))) :
 (putK ys k v).map (·.1)=(vV kvs k d).map (·.1)/\aI K B H ((vV kvs k d).map (·.2)) ((putK ys k v).map (·.2)):=by
 unfold putK vV;rw[Gu k h];split
 .exact GY rv h r
 .rw [Qam,Qam,Qam,Qam,h];exact⟨rfl,r.append$ aI.cons rv aI.nil⟩
noncomputable def D8:FX:=λδ S=> .ok (.loc S.length)$ S++[.dct []]
def A9:PX X cl (.Dict [] [] pos) D8:=⟨L8.imp λσ H Q ⟨ρ,S,δ,v,S',E,hf,q⟩=>by
 cases hf;intro p hp;obtain⟨w,pr⟩:=E.sw.new (a:=p) (o:= .dct []) (aU (o:= .dK []) hp) hp ⟨[],bh,rfl,aI.nil⟩;exact q _ _ _ pr w$ by unfold bE;exact⟨p,by show(ρ.r++[p])[_]? =_;rw [<-E.sw.len,Qaj (by omega),Qbe];rfl,rfl⟩⟩
def YZ(fo fi fe:FX):FZ:=λδ S=>(fe δ S).bind λv S1=>(fo δ S1).bind λo S2=>(fi δ S2).bind λj S3=>match v,o,j with
 | .d d, .loc k, .d (.int n)=>(match pF S3 k with | some kvs=>R3.bH (decide$ kvs.length<sizeLine) (.ok (.nx δ)$ S3.set k$ .dct$ vV kvs (Sum.inl n) d) | none=> .no)
 | _,_,_=> .no
def aaW(fa fo:FX):FX:=λδ S=>(fa δ S).bind λj S1=>(fo δ S1).bind λo S2=>match j,o with
 | .d (.int n), .loc k=>(match pF S2 k with | some kvs=> .ok (.d$ .bl$ kvs.any λkv=>decide$ kv.1=Sum.inl n) S2 | none=> .no)
 | _,_=> .no
noncomputable def intK?:List Key->Option (List Int)
 | []=>some []
 | .inl n ::ks=>(intK? ks).map (n ::·)
 | .inr _ ::_=>none
def Xf(f:FX):FX:=λδ S=>(f δ S).bind λo S1=>match o with
 | .loc k=>(match pF S1 k with
   | some kvs=>(match intK? (kvs.map (·.1)) with | some ns=>R3.bH (decide$ ns.length<64) (.ok (.d$ .lst$ (Kk ns).map .int) S1) | none=> .no)
   | none=> .no)
 | _=> .no
def FQ{δ:DE}{S:bp}{QV:V3->bp->Prop}(h:QV (.loc S.length) (S++[.dct []])):W3 (D8 δ S) QV:=W3.ok h
end
end L3
end
section
namespace L2
open PySem PySem.Spec PyProof.Rows
section
def Wz:V->List V->Hp->VK->Prop:=λx vs H Q=>∃(l:Addr) (xs:List V) (j:Int) (i:Nat) (y:V),x= .ref l/\vs=[.int j,y]/\H l=some (.lst xs)/\j=i/\i<=xs.length/\xs.length<sizeLine/\Q .cY (upd H l$ .lst (xs.take i++y ::xs.drop i))
end
end L2
namespace L3
open PySem PySem.Spec PyProof.Rows L2
section
def aaE(i:Nat)(f g:FX):FZ:=λδ S=>match iu δ i with
 | none=> .no
 | some k=>match dz S k with
   | none=> .no
   | some _=>(f δ S).bind λv S1=>match v with
     | .d (.int j)=>(g δ S1).bind λw S2=>(match w with
       | .d d=>(match dz S2 k with
         | some ds=>R3.bH (decide$ 0<=j/\j.toNat<=ds.length/\ds.length<sizeLine)$ .ok (.nx δ)$ S2.set k$ .lst (ds.take j.toNat++d ::ds.drop j.toNat)
         | none=> .no)
       | _=> .no)
     | _=> .no
end
section
variable {X:Cx}{cl:Aag}
structure Ws (X:Cx) (pos:Pos) (keys:List (Option Expr)) (values:List Expr) (ks:List Str) (g:ay->R (List D)):Prop where
 h:∃Hj,T_ X pos keys values Hj/\∀(σ:L2.St) (H:Hp) (Q:List (V × V)->Hp->Prop),(∃Z B δ ds,eV X.K Z B H σ δ/\g δ= .ok ds/\∀vs H',bo H H'->aI X.K B H' ds vs->Q ((ks.zip vs).map fun p=>(V.str p.1,p.2)) H')->AS Hj σ H Q
def N8:Ws X pos [] [] [] ax:=⟨[],Oj,λσ H Q ⟨Z,B,δ,ds,E,hf,q⟩=>by
 cases hf;exact q [] H (λ_ _ e=>e) aI.nil⟩
def r6{keys:List (Option Expr)}{ks:List Str}{g:ay->R (List D)}(hk:QD X ke (eC$ .str k))(hv:QD X ve f)(hr:Ws X pos keys values ks g):Ws X pos (some ke ::keys) (ve ::values) (k ::ks) (ah f g):=by
 obtain⟨Hj,h1,h2⟩:=hr.h;refine⟨_,LJ hk.1 hv.1 h1,λσ H Q ⟨Z,B,δ,ds,E,hf,q⟩=>?_⟩
 obtain⟨d1,e1,e2⟩:=R.ao hf;obtain⟨ds',e3,e4⟩:=R.ao e2;cases e4;refine⟨Z,B,δ, .str k,E,rfl,λx H1 s1 r1=>⟨Z,B,δ,d1,E.same s1,e1,λy H2 s2 r2=>h2 σ H2 _ ⟨Z,B,δ,ds',(E.same s1).same s2,e3,λvs H3 s3 r3=>?_⟩⟩⟩
 rw[Rep.str.mp r1];exact q (y ::vs) H3 (s1.trans$ s2.trans s3)$ aI.cons (r2.same s3) r3
def xI(ks:List Str)(ns:List Int):List (Key × D):=(ks.zip ns).foldl (λacc p=>vV acc (Sum.inr p.1)$ .int p.2) []
def BU(ks:List Str)(g:ay->R (List D)):FX:=λδ S=>(R3.of (g$ down δ) S).bind λds S=>match ints? ds with
 | some ns=>R3.bH (decide$ ns.length=ks.length/\ks.length<=15)$ .ok (.loc S.length)$ S++[.dct$ xI ks ns]
 | none=> .no
theorem dv{K:Qdf}{B:List Addr}:∀{ds:List D} {ns:List Int} {vs:List V},ints? ds=some ns->aI K B H ds vs->vs=ns.map V.int
 | [],ns,vs,h,r=>by
   unfold aI at r;subst r;cases h;rfl
 | d ::ds,ns,vs,h,r=>by
   obtain⟨x,r',rfl,h1,h2⟩:=r.cj
   match d,h,h1 with
   | .int n,h,h1=>
     obtain⟨ms,e1,rfl⟩:=fV$ show(ints? ds).map (n ::·)=some ns from h
     rw[Rep.int.mp h1,dv e1 h2];rfl
def Hc{K:Qdf}{B:List Addr}:∀(ps:List (Str × Int)) {kvs:List (Key × D)} {ys:List (Key × V)},ys.map (·.1)=kvs.map (·.1)->aI K B H (kvs.map (·.2)) (ys.map (·.2))->
 (mm ys$ ps.map λp=>((Sum.inr p.1:Key),V.int p.2)).map (·.1)=(ps.foldl (λacc p=>vV acc (Sum.inr p.1)$ .int p.2) kvs).map (·.1)/\aI K B H ((ps.foldl (λacc p=>vV acc (Sum.inr p.1)$ .int p.2) kvs).map (·.2)) ((mm ys$ ps.map λp=>((Sum.inr p.1:Key),V.int p.2)).map (·.2))
 | [],_,_,h,r=>⟨h,r⟩
 | p ::ps,kvs,ys,h,r=>by
   obtain⟨a,b⟩:=Pt (k:=Sum.inr p.1) (d:= .int p.2) (v:=V.int p.2) (Rep.int.mpr rfl) h r;exact Hc ps a b
def Lz{keys:List (Option Expr)}{values:List Expr}{ks:List Str}{g:ay->R (List D)}(h:Ws X pos keys values ks g)(Mn:keys.all (·.isSome)=true)(hl:keys.length=values.length)(h0:keys≠[])(YR:keys.length<=15):PX X cl (.Dict keys values pos) (BU ks g):=by
 obtain⟨Hj,h1,h2⟩:=h.h;refine⟨(N9 h1 Mn hl h0 YR).imp λσ H Q ⟨ρ,S,δ,v,S',E,hf,q⟩=>?_⟩
 obtain⟨ds,S1,e1,e2⟩:=R3.ao hf;obtain⟨e3,rfl⟩:=R3.of_ok e1;split at e2
 .rename_i ns WS;obtain⟨hc,e4⟩:=R3.bj e2;cases e4;obtain⟨Qr,Ei⟩:=Qal hc;intro p hp;refine h2 σ _ _ ⟨[],ρ.b,down δ,ds,E.down.same$ aU hp,e3,λvs H2 s2 r2=>?_⟩
  have hv:=dv WS r2;subst hv;have TL:H2 p=some (.dK []):=s2 p _ bh;have ez:(ks.zip$ ns.map V.int).map (λp=>(V.str p.1,p.2))=((ks.zip ns).map λp=>((Sum.inr p.1:Key),V.int p.2)).map (λkv=>(kV kv.1,kv.2)):=by
   rw[List.zip_map_right,Qar,Qar];rfl
  refine⟨TL,(ks.zip ns).map λp=>((Sum.inr p.1:Key),V.int p.2),ez,by rw[Qaa,List.length_zip];omega,?_⟩
  have sA:bo H (upd H2 p$ .dK$ mm []$ (ks.zip ns).map λp=>((Sum.inr p.1:Key),V.int p.2)):=λb u e=>by
   have hb:b≠p:=λz=>by subst z;rw [hp] at e;cases e
   rw[bA hb];exact s2 b u (by rw[bA hb];exact e)
  obtain⟨m1,m2⟩:=Hc (K:=X.K) (B:=(ρ.push p).b) (H:=upd H2 p$ .dK$ mm []$ (ks.zip ns).map λp=>((Sum.inr p.1:Key),V.int p.2)) (ks.zip ns) (kvs:=[]) (ys:=[]) rfl aI.nil
  obtain⟨w,pr⟩:=E.sw.new (a:=p) (o:= .dct$ xI ks ns) sA hp ⟨_,bh,m1,m2⟩;exact q _ _ _ pr w (by unfold bE;exact⟨p,by show(ρ.r++[p])[_]? =_;rw [<-E.sw.len,Qaj (by omega),Qbe];rfl,rfl⟩)
 .cases e2
noncomputable def A7(kvs:List (Key × D))(k:Key):Option D:=(kvs.find? λkv=>decide$ kv.1=k).map (·.2)
def DD(i:Nat)(f g:FD):FX:=λδ S=>match iu δ i with
 | none=> .no
 | some k=>match pF S k with
   | none=> .no
   | some kvs=>(R3.of (f$ down δ) S).bind λkd S=>(R3.of (g$ down δ) S).bind λd S=>match kd with
     | .str x=> .ok (.d$ (A7 kvs$ Sum.inr x).getD d) S
     | _=> .no
def PQ{K:Qdf}{B:List Addr}{k:Key}:∀{kvs:List (Key × D)} {ys:List (Key × V)},ys.map (·.1)=kvs.map (·.1)->aI K B H (kvs.map (·.2)) (ys.map (·.2))->
 (A7 kvs k=none/\i4 ys k=none)\/∃d v,A7 kvs k=some d/\i4 ys k=some v/\Rep K B H d v
 | [],[],_,_=> .inl ⟨rfl,rfl⟩
 | [],_ ::_,h,_=>by simp at h
 | _ ::_,[],h,_=>by simp at h
 | (k1,d1) ::kvs,(k2,v2) ::ys,h,r=>by
   obtain⟨h1,h2⟩:=Qcd h;have h1:k2=k1:=h1;subst h1;obtain⟨x,r',e,q1,q2⟩:=aI.cj r;cases e;by_cases hk:k2=k
   .refine .inr ⟨d1,v2,?_,?_,q1⟩
    .unfold A7;rw [Qbf,Qat hk];rfl
    .unfold i4;simp [hk]
   .have ih:=PQ (k:=k) h2 q2;have a1:A7 ((k2,d1) ::kvs) k=A7 kvs k:=by unfold A7;rw [Qbf,Qaw hk]
    have a2:i4 ((k2,v2) ::ys) k=i4 ys k:=by unfold i4;simp [hk]
    rw[a1,a2];exact ih
def NK{i:Nat}{x:Str}{e e':Expr}{f g:FD}{eD apos cH:Pos}(hu:X.A.units+1<cLine)(hN:X.N[i]? =some x)(hv:Jr X.env.scope x)(he:QD X e f)(YQ:QD X e' g)
 (hd:(x==("__debug__":Str))=false:=by decide) (tT:(x==("__classdict__":Str))=false:=by decide)
 (lC:attributeBase (.Name x eD) "get" X.env (eval (.Name x eD) X.env)=eval (.Name x eD) X.env:=by rfl)
 (rQ:((backTo cH$ starEach [e,e'] X.env).all (λx=>!x.1) && (backToKw cH$ keywordEach [] X.env).all (λx=>x.1.isSome)
   && decide (([e,e']:List Expr).length+([]:List Keyword).length+(if([]:List Keyword).isEmpty then 0 else 1)<30))=true:=by rfl)
 (lz:(apos.endLine==cH.line)=true:=by rfl) (htr:backTo cH (starEach [e,e'] X.env)=[(false,eval e X.env),(false,eval e' X.env)]:=by rfl) :
 PX X cl (.Call (.Attribute (.Name x eD) "get" apos) [e,e'] [] cH) (DD i f g):=by
 refine⟨(JZ hu (q8 hN hv hd tT) he.1 YQ.1 ⟨lC,rQ,lz,htr⟩).imp λσ H Q ⟨ρ,S,δ,v,S',E,hf,q⟩=>?_⟩
 unfold DD at hf;split at hf
 .cases hf
 .rename_i k hk;split at hf
  .cases hf
  .rename_i kvs Wk;obtain⟨kd,S1,e1,e2⟩:=R3.ao hf;obtain⟨e3,rfl⟩:=R3.of_ok e1;obtain⟨dd,S2,e4,e5⟩:=R3.ao e2;obtain⟨e6,rfl⟩:=R3.of_ok e4;split at e5
   .rename_i xk;cases e5;obtain⟨u,u1,u2⟩:=E.val i _$ iU hk;unfold bE at u2;obtain⟨a,a1,rfl⟩:=u2;obtain⟨ys,y1,y2,y3⟩:=E.sw.ob k a _ a1$ rF Wk;refine⟨.ref a,u1,a,rfl, .inl ⟨_, .inl y1⟩,[],ρ.b,down δ, .str xk,E.down,e3,λv1 H1 s1 r1=>⟨[],ρ.b,down δ,dd,E.down.same s1,e6,λv2 H2 s2 r2=>?_⟩⟩
    have sA:bo H H2:=s1.trans s2;refine⟨i4 ys$ Sum.inr xk,by rw[Rep.str.mp r1];exact pk.k (k:=Sum.inr xk)$ sA a _ y1,q _ ρ H2 (Pre.same sA) (E.sw.same sA) ?_⟩
    unfold bE;rcases PQ (k:=Sum.inr xk) y2 y3 with⟨b1,b2⟩ | ⟨d,v',b1,b2,b3⟩
    .rw [b1,b2];exact r2
    .rw [b1,b2];exact b3.same sA
   .cases e5
def O5{ks:List Str}{g:ay->R (List D)}{ns:List Int}{δ:DE}{S:bp}{QV:V3->bp->Prop}(e:g (down δ)= .ok (ns.map .int))(h1:ns.length=ks.length)(h2:ks.length<=15)(h:QV (.loc S.length) (S++[.dct$ xI ks ns])):W3 (BU ks g δ S) QV:=by
 unfold BU;refine W3.bind$ W3.of e ?_;simp only[L2.ints_map];exact W3.wh (Qat ⟨h1,h2⟩)$ W3.ok h
def SI{i k:Nat}{f g:FD}{d:D}{kvs:List (Key × D)}{δ:DE}{S:bp}{QV:V3->bp->Prop}(hk:δ[i]? =some (some$ .loc k))(hS:S[k]? =some (.dct kvs))(e1:f (down δ)= .ok (.str x))(e2:g (down δ)= .ok d)(h:QV (.d$ (A7 kvs$ Sum.inr x).getD d) S):W3 (DD i f g δ S) QV:=by
 unfold DD;have l1:iu δ i=some k:=by unfold iu;rw [hk]
 have l2:pF S k=some kvs:=by unfold pF;simp only[hS]
 simp only[l1,l2];exact W3.bind$ W3.of e1$ W3.bind$ W3.of e2$ W3.ok h
end
end L3
end
section
namespace L2
open PySem PySem.Spec PyProof.Rows
section
variable {X:Cx}
def tQ:List D->R D
 | [.tup ds]=>(match ints? ds with | some ns=> .ok (.int ns.sum) | none=> .no)
 | ds=>RT ds
def EE(hc:X.calm=true):cV X (.builtin "sum") tQ:=by
 intro pins s σ H B ds d xs us I hb rx rs hg;unfold tQ at hg;split at hg
 .split at hg
  .rename_i es ns e;cases hg;obtain⟨x,rfl,r⟩:=rs.one;obtain⟨a,ys,rfl,l,r⟩:=Rep.tup.mp r;obtain⟨u,rfl,ru⟩:=vals1 rx;cases ru;obtain⟨its,rv,ht,hz⟩:=I.tuple l.sq;rw[dv r e] at rv;obtain⟨ps,rfl,rfl⟩:=gp rv;have hl:s.heap.IsTuple a (intItems ps.toArray):=by
    have ht:s.heap.IsTuple a (ps.map λp=>Value.int p.1 p.2).toArray:=ht
    simpa [intItems] using ht
   refine PySem.W.ktm_sumG (I.ok.hd hc) hl λh' tk t' k=>⟨.int _,H,I.kept k,⟨t',rfl⟩,bo.refl H,Rep.int.mpr ?_⟩
   rw[preSum_eq,QaQ$ by simp]
  .cases hg
 .exact U4 hc pins s σ H B ds d xs us I hb rx rs hg
end
section
def Zl(d e:D):R D:=match d,e with
 | .tup a, .int k=>R.bH (decide$ 2<=k/\k<1000/\a≠[]/\a.length*k.toNat<=sizeLine)$ .ok$ .tup (List.replicate k.toNat a).flatten
 | d,e=>lJ d e
end
end L2
end
section
namespace HT
open PySem PySem.Spec PyProof.Rows
end HT
namespace L2
open PySem PySem.Spec PyProof.Rows
noncomputable def Iv:D->Option Key
 | .int n=>some$ Sum.inl n
 | .str x=>some$ Sum.inr x
 | _=>none
def sO{K:Qdf}{B:List Addr}{d:D}{k:Key}{v:V}(h:Iv d=some k)(r:Rep K B H d v):v=kV k:=by
 cases d with
 | int n=>cases h;exact Rep.int.mp r
 | str x=>cases h;exact Rep.str.mp r
 | cY=>cases h
 | bl b=>cases h
 | lst ds=>cases h
 | tup ds=>cases h
 | dct ks ds=>cases h
noncomputable def qp(ks:List Key)(k:Key):Bool:=ks.any λx=>decide$ x=k
noncomputable def Nf(ks:List Key)(ds:List D)(k:Key):Option D:=((ks.zip ds).find? λp=>decide$ p.1=k).map (·.2)
def Gm(kvs:List (Key × V))(k:Key):(i4 kvs k).isSome=qp (kvs.map (·.1)) k:=by
 unfold i4 qp;rw[Qcw,Qbi,List.find?_isSome,List.any_eq_true];constructor
 .rintro⟨x,h1,h2⟩;exact⟨x.1,Qch h1,h2⟩
 .rintro⟨x,h1,h2⟩;obtain⟨y,y1,rfl⟩:=QaC.mp h1;exact⟨y,y1,h2⟩
def CT(a b:D):R D:=match b with
 | .dct ks _=>(match Iv a with | some k=> .ok (.bl$ qp ks k) | none=> .no)
 | _=> .no
def LI(a b:D):R D:=match b with
 | .dct ks _=>(match Iv a with | some k=> .ok (.bl$ !qp ks k) | none=> .no)
 | _=> .no
def CL(d k:D):R D:=match d with
 | .dct ks ds=>(match Iv k with | some k=>(match Nf ks ds k with | some x=> .ok x | none=> .no) | none=> .no)
 | _=> .no
section
variable {X:Cx}
def GF(hu:X.A.units+1<cLine):m6 X (compareOp .In) CT:=by
 intro pins s σ H B da db d x y v u I hb rx ry ra rb hg;unfold CT at hg;split at hg
 .split at hg
  .rename_i ks ds k hk;cases hg;obtain⟨a,kvs,rfl,⟨_,hH⟩,rfl,rs⟩:=rb;have:=sO hk ra;subst this;obtain rfl:u=Value.ref a:=ry;refine Xn hu I (pk.k hH) rx λs3 I3=>⟨.bl$ qp (kvs.map (·.1)) k,H,I3,?_,bo.refl H,Rep.bl.mpr rfl⟩
   rw[Gm];rfl
  .cases hg
 .cases hg
def PR(hu:X.A.units+1<cLine):m6 X (compareOp .NotIn) LI:=by
 intro pins s σ H B da db d x y v u I hb rx ry ra rb hg;unfold LI at hg;split at hg
 .split at hg
  .rename_i ks ds k hk;cases hg;obtain⟨a,kvs,rfl,⟨_,hH⟩,rfl,rs⟩:=rb;have:=sO hk ra;subst this;obtain rfl:u=Value.ref a:=ry;refine OE hu I (pk.k hH) rx λs3 I3=>⟨.bl$ !qp (kvs.map (·.1)) k,H,I3,?_,bo.refl H,Rep.bl.mpr rfl⟩
   rw[Gm];rfl
  .cases hg
 .cases hg
def z8(hu:X.A.units+1<cLine)(ho:QD X o f)(hi:QD X i g)(hs:Sx i):QD X (.Subscript o i pos) (e2 CL f g):=by
 refine⟨(Nv hu ho.1 hi.1 hs).imp λσ H Q ⟨Z,B,δ,d,E,hf,q⟩=>?_⟩
 obtain⟨d1,h1,h2⟩:=R.ao hf;obtain⟨d2,h3,h4⟩:=R.ao h2;refine⟨Z,B,δ,d1,E,h1,λv1 H1 s1 r1=>⟨Z,B,δ,d2,E.same s1,h3,λv2 H2 s2 r2=>?_⟩⟩
 unfold CL at h4;split at h4
 .split at h4
  .rename_i ks ds k hk;split at h4
   .rename_i x e;cases h4;have tS:=r1.same s2;obtain⟨a,kvs,rfl,⟨_,hH⟩,rfl,rs⟩:=tS;obtain⟨p,e1,e2⟩:=L3.fV e;obtain⟨y,ey,ry⟩:=vp rs e1;have ry:Rep X.K B H2 _ y:=e2▸ry;refine⟨a,y,rfl,?_,q _ H2 (s1.trans s2) ry⟩;rw[sO hk r2,<-ey];exact pk.k hH
   .cases h4
  .cases h4
 .cases h4
def Y7(f:FD):FD:=λδ=>(f δ).bind λd=>match d with | .tup ds=> .ok (.tup ds.reverse) | _=> .no
def AW(l:Addr)(items:Array Value)(n:Nat)(b:Addr)(dM:Array Value)(n2:Nat)(o:Obj)(MA:o.cls= .type "tuple")(YJ:o.data= .seq dM n2)(hs0:¬(!items.isEmpty && Builtin.List.listTooLong (items.size+dM.size))=true)(WK:items.size<=sizeLine)(hs2:items.size+dM.size<=sizeLine+1) :
 Meets (Builtin.«list.extend» ⟨[.ref l, .ref b],[]⟩) (λ_ R s=>s.heap.get? l=some {cls:= .type "list",dict:=none,data:= .seq items n,slots:=#[]}/\s.heap.get? b=some o/\R (.ok (.ret Value.none)) {s with heap:=s.heap.update l (Obj.mapSeq λx=>x++dM),toks:=s.toks}):=
 .of_wp λprog w A R s h=>by
   obtain⟨cls,dct,data,slots⟩:=o;subst MA YJ;obtain⟨hp,g,d,tk,os⟩:=s;obtain⟨hl,hb,h⟩:=h;have vx:(items++dM).size<=sizeLine+1:=by rw[Array.size_append];exact hs2
   wp_walk using(wpAny_updateSeq hl rfl),QbV hl,QbV hb;exact⟨_,rfl,h⟩
def extend_list(l:Addr)(items:Array Value)(n:Nat)(b:Addr)(dM:Array Value)(n2:Nat)(o:Obj)(MA:o.cls= .type "list")(YJ:o.data= .seq dM n2)(hs0:¬(!items.isEmpty && Builtin.List.listTooLong (items.size+dM.size))=true)(WK:items.size<=sizeLine)(hs2:items.size+dM.size<=sizeLine+1) :
 Meets (Builtin.«list.extend» ⟨[.ref l, .ref b],[]⟩) (λ_ R s=>s.heap.get? l=some {cls:= .type "list",dict:=none,data:= .seq items n,slots:=#[]}/\s.heap.get? b=some o/\R (.ok (.ret Value.none)) {s with heap:=s.heap.update l (Obj.mapSeq λx=>x++dM),toks:=s.toks}):=
 .of_wp λprog w A R s h=>by
   obtain⟨cls,dct,data,slots⟩:=o;subst MA YJ;obtain⟨hp,g,d,tk,os⟩:=s;obtain⟨hl,hb,h⟩:=h;have vx:(items++dM).size<=sizeLine+1:=by rw[Array.size_append];exact hs2
   wp_walk using(wpAny_updateSeq hl rfl),QbV hl,QbV hb;exact⟨_,rfl,h⟩
def ED:W7 X "list.extend" (λx vs H Q=>∃l b xs zs,x= .ref l/\vs=[.ref b]/\H l=some (.lst xs)/\(∃t,Lc t X.K H b zs)/\xs.length+zs.length<=sizeLine/\Q .cY (upd H l$ .lst$ xs++zs)):=by
 intro pins s σ H x vs v us Q I rx rv h;obtain⟨l,b,xs,zs,rfl,rfl,hH,⟨t,hB⟩,hz,q⟩:=h;cases rx;obtain⟨u,rfl,ru⟩:=rv.one;cases ru;obtain⟨z,its,n,r,hl,e⟩:=I.JF hH;obtain⟨p9,r2,e2⟩:=I.HC hB;have zp:=r2.length;have hsz:its.toArray.size+p9.toArray.size<=sizeLine:=by rw[Qay,Qay];omega
 have hlong:¬(!its.toArray.isEmpty && Builtin.List.listTooLong (its.toArray.size+p9.toArray.size))=true:=by
  rw[wX hsz,Bool.and_false];exact QaJ
 cases t with
 | true=>
   obtain⟨o,o1,o2,n2,o3⟩:=(show s.heap.IsTuple b p9.toArray from e2)
   refine QcF QcV ⟨_,e,rfl⟩ QcQ (QcG _ _)
    (AW l its.toArray n b p9.toArray n2 o o2 o3 hlong (by rw[Qay];omega)$ by omega) ⟨e,o1,?_⟩
   refine⟨.cY,_,I.M_ hH e (by simp) (r.append r2) ?_,rfl,q⟩
   rw[Qai];omega
 | false=>
   obtain⟨o,o1,o2,n2,o3⟩:=(show s.heap.IsList b p9.toArray from e2)
   refine QcF QcV ⟨_,e,rfl⟩ QcQ (QcG _ _)
    (extend_list l its.toArray n b p9.toArray n2 o o2 o3 hlong (by rw[Qay];omega)$ by omega) ⟨e,o1,?_⟩
   refine⟨.cY,_,I.M_ hH e (by simp) (r.append r2) ?_,rfl,q⟩
   rw[Qai];omega
def zR(i:Nat)(f:FD):FS:=λδ=>(f δ).bind λd=>match seqD? d with
 | some es=>(sI δ i).bind λds=>R.bH (decide$ ds.length+es.length<=sizeLine)$ .ok$ .nx$ δ.set i$ .bld$ ds++es
 | none=> .no
def tY{i:Nat}{x:Str}{e:Expr}{f:FD}{eD apos cH pos:Pos}(he:QD X e f)(hd:(x==("__debug__":Str))=false:=by decide)(tT:(x==("__classdict__":Str))=false:=by decide)(hs:starEach [e] X.env=(false,eval e X.env) ::starEach [] X.env:=by rfl)(lz:(apos.endLine==cH.line)=true:=by rfl)(rQ:((backTo cH$ starEach [e] X.env).all (λx=>!x.1) && (backToKw cH$ keywordEach [] X.env).all (λx=>x.1.isSome)
 && decide (([e]:List Expr).length+([]:List Keyword).length+(if([]:List Keyword).isEmpty then 0 else 1)<30))=true:=by rfl) (yw:swapsWith (.Call (.Attribute (.Name x eD) "extend" apos) [e] [] cH) none pos.line X.env=pure false:=by rfl) (lC:attributeBase (.Name x eD) "extend" X.env (eval (.Name x eD) X.env)=eval (.Name x eD) X.env:=by rfl) (hN:X.N[i]? =some x:=by rfl) (hv:Jr X.env.scope x:=by first | exact Or.inl rfl | exact Or.inr Qdc | exact Or.inr (Or.inr rfl)) :
 Js X (.Expr (.Call (.Attribute (.Name x eD) "extend" apos) [e] [] cH) pos) (zR i f):=by
 refine⟨(tK (GP QbZ Qda Qdb ED (q8 hN hv hd tT) (dq he.1 f9 hs) lC rQ lz hs) yw).imp λD σ H ⟨Z,B,δ,o,E,hf,q⟩=>?_⟩
 obtain⟨d,h1,h2⟩:=R.ao hf;split at h2
 .rename_i es he;obtain⟨ds,h3,h4⟩:=R.ao h2;obtain⟨hl,h5⟩:=R.bj h4;cases h5;have hb:=wZ h3;obtain⟨a,xs,q1,q2,q3,q4,q5⟩:=E.bld i ds hb;refine⟨.ref a,q1, .inl ⟨rfl,xs,qT.of q4⟩,⟨Z,B,δ,d,E,h1,λv H1 s1 r1=>?_⟩⟩
  have E1:=E.same s1;obtain⟨t,b,ys,rfl,k1⟩:=r1.HC he;obtain⟨l,r'⟩:=k1 B H1$ dR.refl B H1;refine⟨a,b,xs,ys,rfl,rfl,s1 a _ q4,⟨_,l⟩,by rw[<-q5.length,<-r'.length];exact Qal hl,?_⟩
  obtain⟨E2,p2⟩:=E1.grow hb q1 q2 (s1 a _ q4)$ (q5.same s1).append r';exact q σ B _ ((Ev.same E.zb s1).trans$ Ev.grow E.zb q3 p2) E2
 .cases h2
def DP{lo:Int}{n:Nat}{acc:Array Value}(h:ItemsOf (λi v=>∃t,v=Value.int (lo+(i:Int)*1) t) acc n):Vals ((List.range n).map λ(i:Nat)=>V.int$ lo+(i:Int)) acc.toList:=by
 obtain⟨hl,h⟩:=h;have gen:∀(l:List Value) (m:Nat),(∀j v,l[j]? =some v->∃t,v=Value.int (lo+((m+j:Nat):Int)) t)->Vals ((List.range' m l.length).map λ(i:Nat)=>V.int$ lo+(i:Int)) l:=by
  intro l
  induction l with
  | nil=>intro m _;exact .nil
  | cons v l ih=>
    intro m hm;obtain⟨t,ht⟩:=hm 0 v rfl;refine .cons ⟨t,by rw[ht];simp⟩$ ih (m+1) λj w hw=>?_
    obtain⟨t,ht⟩:=hm (j+1) w (by simpa using hw)
    exact⟨t,by rw[ht];congr 2;omega⟩
 have:=gen acc.toList 0 λj v hv=>by
  obtain⟨t,ht⟩:=h j v (by simpa using hv)
  exact⟨t,by rw[ht];simp⟩
 rw[QbW,hl] at this;rw[List.range_eq_range'];exact this
theorem zw{K:Qdf}{B:List Addr}{lo:Int}:∀l:List Nat,aI K B H (l.map λ(i:Nat)=>D.int$ lo+(i:Int)) (l.map λ(i:Nat)=>V.int$ lo+(i:Int))
 | []=>aI.nil
 | i ::l=>aI.cons (Rep.int.mpr rfl)$ zw l
def Dl(f g:FD):ay->R (List D):=λδ=>(f δ).bind λd=>(g δ).bind λe=>match d,e with
 | .int i, .int j=>R.bH (decide (-(2 ^ 62)<=i/\i<2 ^ 62/\ -(2 ^ 62)<=j/\j<2 ^ 62/\j - i<16777216))$ .ok$ jq i (j - i).toNat
 | _,_=> .no
def Dq{a b:Expr}{f g:FD}{p p2 pos zo:Pos}(hc:X.calm=true)(h:QD X a f)(h':QD X b g)(hg:Gl X "list")(hm:X.mg "list"=none)(Jy:Gl X "range")(S7:X.mg "range"=none)(hs:starEach [a,b] X.env=(false,eval a X.env) ::starEach [b] X.env:=by rfl)(WK:starEach [b] X.env=[(false,eval b X.env)]:=by rfl)
 (hs2:starEach [.Call (.Name "range" p2) [a,b] [] zo] X.env=(false,eval (.Call (.Name "range" p2) [a,b] [] zo) X.env) ::starEach [] X.env:=by rfl) (j_:(backTo pos$ starEach [] X.env).any (·.1)=false:=by rfl) :
 QN X (.Call (.Name "list" p) [.Call (.Name "range" p2) [a,b] [] zo] [] pos) (Dl f g):=by
 refine⟨?_⟩;intro pins s σ H Q I ⟨Z,B,δ,ds,E,hf,q⟩;obtain⟨d1,h1,h2⟩:=R.ao hf;obtain⟨d2,h3,h4⟩:=R.ao h2;have key:∃i j:Int,d1= .int i/\d2= .int j/\(-(2 ^ 62)<=i/\i<2 ^ 62/\ -(2 ^ 62)<=j/\j<2 ^ 62/\j - i<16777216)/\ds=jq i (j - i).toNat:=by
  split at h4
  .obtain⟨h5,h6⟩:=R.bj h4;cases h6;exact⟨_,_,rfl,rfl,Qal h5,rfl⟩
  .cases h4
 obtain⟨i,j,rfl,rfl,⟨WQ,Yo,hj3,hj4,hj5⟩,rfl⟩:=key;refine QbR (jK I hg hm boot_list ?_ (by decide)$ by decide)
 refine QaX ?_ hs2 j_;refine Qb2 ?_;have hA:=dq h.1 (dq h'.1 f9 WK) hs zo pins s σ H (λvs H1=>bo H H1/\vs=[.int i, .int j]) I ⟨Z,B,δ, .int i,E,h1,λv H1 s1 r1=>⟨Z,B,δ, .int j,E.same s1,h3,λv2 H2 s2 r2=>⟨s1.trans s2,by rw[Rep.int.mp r1,Rep.int.mp r2]⟩⟩⟩
 refine Call_ (jK I Jy S7 boot_range$ QaX (d9 hA λus s1 ⟨vs,H1,I1,r1,ss,ev⟩=>?_) (by rw[hs]) (by rw[WK];rfl))
 subst ev;cases r1 with
 | cons r rr=>
 cases rr with
 | cons r' rr=>
 cases rr;obtain⟨t,rfl⟩:=r;obtain⟨t',rfl⟩:=r';refine call_range_2 ?_;have I2:Inv X pins σ H1 {s1 with heap:=s1.heap.push {cls:= .type "range",data:= .fields #[.int i t, .int j t', .int 1 s1.toks]},toks:=s1.toks+1}:=I1.kept λb o e=>Qah _ e
 refine Qcv ?_;have hsz:Builtin.Range.rangeSize i j 1=((j - i).toNat:Nat):=by rw[rangeSize_one];split <;> omega
 have hz:=Qas;refine call_list_range (I2.ok.hd hc) (IsRange.new ..) (small_one WQ Yo hj3 hj4) hsz (by omega) λh' tk acc c' hk MB B4=>?_
 have rv:=DP B4;have hle:((List.range (j - i).toNat).map λ(k:Nat)=>V.int$ i+(k:Int)).length<=sizeLine:=by rw[Qaa,Qaq];omega
 have hf':H1 (s1.heap.push {cls:= .type "range",data:= .fields #[.int i t, .int j t', .int 1 s1.toks]}).objs.size=none:=I2.hok.fresh$ Qak _;have I4:=I2.laid (t':=tk) hk (Qak _) (show e8 X.prog X.w _ _ _ (.lst _) from⟨hle,acc.toList,c',rv,by simpa using MB⟩)
 exact⟨.ref _,_,I4,rfl,q _ _ _ (ss.trans$ aU hf') (ss.free hf') bh$ zw _⟩
end
end L2
namespace L3
open PySem PySem.Spec PyProof.Rows L2
section
variable {X:Cx}{cl:Aag}
def ZA(i:Nat)(f:FX):FZ:=λδ S=>match iu δ i with
 | none=> .no
 | some k=>match dz S k with
   | none=> .no
   | some _=>(f δ S).bind λv S1=>match v with
     | .d d=>(match seqD? d with
       | some es=>(match dz S1 k with
         | some ds=>R3.bH (decide$ ds.length+es.length<=sizeLine)$ .ok (.nx δ)$ S1.set k$ .lst$ ds++es
         | none=> .no)
       | none=> .no)
     | _=> .no
def yb(fo fi fe:FX):FZ:=λδ S=>(fe δ S).bind λv S1=>(fo δ S1).bind λo S2=>(fi δ S2).bind λj S3=>match v,o,j with
 | .d d, .loc k, .d n=>(match pF S3 k,Iv n with | some kvs,some key=>R3.bH (decide$ kvs.length<sizeLine) (.ok (.nx δ)$ S3.set k$ .dct$ vV kvs key d) | _,_=> .no)
 | _,_,_=> .no
def xh{pos pos':Pos}(hu:X.A.units+1<cLine)(hv:PX X cl value fe)(ho:PX X cl o fo)(hi:PX X cl i fi)(hs:swapsWith value (some$ .Subscript o i pos') pos.line X.env=pure false:=by rfl):PZ X cl (.Assign [.Subscript o i pos'] value pos) (yb fo fi fe):=
 ⟨(Ol hu ho.1 hi.1 hv.1 hs).imp λD σ H ⟨ρ,S,δ,ou,S',E,hf,q⟩=>by
   obtain⟨v,S1,h1,h2⟩:=R3.ao hf;obtain⟨o,S2,h3,h4⟩:=R3.ao h2;obtain⟨j,S3,h5,h6⟩:=R3.ao h4;refine⟨ρ,S,δ,v,S1,E,h1,λu1 dg H1 p1 w1 r1=>⟨dg,S1,δ,o,S2,E.to p1 w1,h3,λu2 uL H2 p2 w2 r2=>⟨uL,S2,δ,j,S3,(E.to p1 w1).to p2 w2,h5,λu3 Mu H3 p3 w3 r3=>?_⟩⟩⟩
   split at h6
   .rename_i d k n;split at h6
    .rename_i kvs key hd hn;obtain⟨hl,h7⟩:=R3.bj h6;cases h7;have r2':=r2.pre p3;obtain⟨a,a1,rfl⟩:=r2';have:=sO hn r3;subst this;obtain⟨ys,y1,y2,y3⟩:=w3.ob k a _ a1$ rF hd;have tS:=(r1.pre p2).pre p3;obtain⟨e1,fG⟩:=Pt tS y2 y3;have hll:ys.length=kvs.length:=by have:=Qbh List.length y2;simpa using this
     refine⟨a,_,rfl,HG.k y1 (by rw[hll];exact Qal hl),?_⟩
     obtain⟨w4,p4⟩:=w3.put (o:= .dct$ vV kvs key d) a1 (w3.fz k a a1$ by rw[rF hd];intro h;cases h) ⟨_,rfl,e1,fG⟩
     exact q σ Mu _ (p1.trans$ p2.trans$ p3.trans p4)$ E.to (p1.trans$ p2.trans$ p3.trans p4) w4
    .cases h6
   .cases h6⟩
def Bx{fo fi fe:FX}{δ:DE}{S:bp}{QO:Ou->bp->Prop}(h:W3 (fe δ S) λv S1=>W3 (fo δ S1) λo S2=>W3 (fi δ S2) λj S3=>∃d k n key kvs,v= .d d/\o= .loc k/\j= .d n/\Iv n=some key/\S3[k]? =some (.dct kvs)/\kvs.length<sizeLine/\QO (.nx δ) (S3.set k$ .dct$ vV kvs key d)):W3 (yb fo fi fe δ S) QO:=
 W3.bind (h.mono λ_ _ h=>W3.bind (h.mono λ_ _ h=>W3.bind (h.mono λ_ S3 ⟨d,k,n,key,kvs,e1,e2,e3,e6,e4,hl,q⟩=>by
  subst e1 e2 e3;have e5:pF S3 k=some kvs:=by unfold pF;simp only[e4]
  simp only[e5,e6];exact W3.wh (Qat hl)$ W3.ok q)))
end
end L3
end
section
namespace PySem.W
open PySem PySem.Calls PyProof.Rows
noncomputable def zJ{α:Type}(n:Nat)(lt:Nat->Nat->Bool):KasT α->Option α
 | .ret a=>some a
 | .ask i j k=>if i<n/\j<n then zJ n lt (k$ lt i j) else none
def CV{α:Type}{cmp:Nat->Nat->(Bool->Qdg->Prop)->Qdg->Prop}{n:Nat}{lt:Nat->Nat->Bool}{s:Qdg}(hc:∀i j C,i<n->j<n->C (lt i j) s->cmp i j C s){Q:α->Qdg->Prop} :
 ∀(t:KasT α) (a:α),zJ n lt t=some a->Q a s->t.kasWp cmp Q s
 | .ret b,a,h,q=>by cases h;exact q
 | .ask i j k,a,h,q=>by
   unfold zJ at h;split at h
   .rename_i hij;exact hc i j _ hij.1 hij.2$ CV hc (k$ lt i j) a h q
   .cases h
section
variable {prog:Program}{w:World}{A:Around}{E:Aab}{s:Qdg}{a:Addr}{vs:List Value}{κ:SortKind}
noncomputable abbrev vS(h:Heap)(a:Addr)(vs:List Value):Heap:=((h.update a$ Obj.mapSeq fun _=>(#[]:Array Value)).push (seqObj "tuple" vs.toArray 0)).push (seqObj "list" #[] 0)
def vO{n:Nat}{P:PySem.Fin->Qdg->Prop}{lt:Nat->Nat->Bool}{p:Array Nat}(ho:s.heap.get? a=some (seqObj "list" vs.toArray n))(h2:2<=vs.length)(TV:vs.length<64)(VY:zJ vs.length lt (kas_sort vs.length)=some p)
 (hk:∀Q:SortKind->Qdg->Prop,Q κ {s with heap:=vS s.heap a vs}->wpAny (model prog w) A (keyKind' vs.toArray) Q (λ_ _=>False) {s with heap:=vS s.heap a vs})
 (hc:∀i j C,i<vs.length->j<vs.length->C (lt i j) {s with heap:=vS s.heap a vs}->kas_ask prog w A κ vs i j C {s with heap:=vS s.heap a vs})
 (h:∀c2,((vS s.heap a vs).update a$ Obj.mapSeq λ_=>List.toArray$ p.toList.map λi=>vs.getD i Value.none).get? a=some (seqObj "list" (List.toArray$ p.toList.map λi=>vs.getD i Value.none) c2)->P (.done$ .ret .none) {s with heap:=(vS s.heap a vs).update a$ Obj.mapSeq λ_=>List.toArray$ p.toList.map λi=>vs.getD i Value.none}) :
 wpAny (model prog w) A (Builtin.«list.sort» ⟨[.ref a],[]⟩) P E s:=by
 obtain⟨e1,Yr⟩:∃e1,(s.heap.update a$ Obj.mapSeq λ_=>(#[]:Array Value)).get? a=some (seqObj "list" #[] e1):=⟨_,get?_update_seq ho λ_=>#[]⟩
 have na:(vS s.heap a vs).get? a=some (seqObj "list" #[] e1):=Qah _$ Qah _ Yr;rw[list_sort_plain];refine Qaf$ listItems_at ho rfl ?_;refine Qaf (listUpdate_at ho rfl ?_ (by rw[Qay,Qas];omega)$ QbE _)
 refine Qaf$ seqEpoch_at Yr rfl ?_;refine Qaf (wpAny_newTuple ?_$ by show vs.length<=_;rw [Qas];omega)
 refine Qaf$ wpAny_newList ?_$ QbE _;refine Qcc ?_;have S9:¬vs.toArray.size<2:=by rw[Qay];omega
 rw[QaH S9,QaH S9];refine Qaf$ Qb1 (hk (λZR s0=>ZR=κ/\s0={s with heap:=vS s.heap a vs}) ⟨rfl,rfl⟩) (λZR s0 hk'=>?_) λ_ _ x=>x.elim
 obtain⟨rfl,rfl⟩:=hk';have hrun:=CV (Q:=λp' s'=>p'=p/\s'={s with heap:=vS s.heap a vs}) hc (kas_sort vs.length) p VY ⟨rfl,rfl⟩
 refine Qaf (Qb1 (kat_run (Q:=λEj s'=>p.size=vs.length/\arrOf Ej=p.map (kas_item$ vs.toArray.zip vs.toArray)/\failedOf Ej=none/\s'={s with heap:=vS s.heap a vs})
  rfl h2 TV (λp' Ej s' a1 a2 a3 a4=>by obtain⟨rfl,rfl⟩:=a4;exact⟨a1,a2,a3,rfl⟩) hrun) ?_ λ_ _ e=>e)
 rintro⟨⟨⟩,Ej⟩ s' ⟨hp,har,hf,rfl⟩;dsimp only;have hout:=kat_snds rfl har;have hsz:(List.toArray$ p.toList.map λi=>vs.getD i Value.none).size=vs.length:=by rw[Qay,Qaa,QbW,hp]
 rw[hout];obtain⟨c2,Ei⟩:∃c2,((vS s.heap a vs).update a$ Obj.mapSeq λ_=>List.toArray$ p.toList.map λi=>vs.getD i Value.none).get? a=some (seqObj "list" (List.toArray$ p.toList.map λi=>vs.getD i Value.none) c2):=⟨_,get?_update_seq na λ_=>List.toArray$ p.toList.map λi=>vs.getD i Value.none⟩
 refine Qaf$ seqEpoch_at na rfl ?_;refine Qaf (listUpdate_at na rfl ?_ (QbE _)$ QaT (Nat.le_of_eq hsz)$ by rw[Qas];omega)
 rw[hf];simp;exact QaG$ h c2 Ei
def tG{l:Addr}{Q:Aab}{lt:Nat->Nat->Bool}{p:Array Nat}(hl:s.heap.IsList l vs.toArray)(h2:2<=vs.length)(TV:vs.length<64)(VY:zJ vs.length lt (kas_sort vs.length)=some p)
 (hk:∀s0:Qdg,(∀b o,s.heap.get? b=some o->s0.heap.get? b=some o)->∀Q:SortKind->Qdg->Prop,Q κ s0->wpAny (model prog w) A.in1.in1 (keyKind' vs.toArray) Q (λ_ _=>False) s0)
 (hc:∀s0:Qdg,(∀b o,s.heap.get? b=some o->s0.heap.get? b=some o)->∀i j C,i<vs.length->j<vs.length->C (lt i j) s0->kas_ask prog w A.in1.in1 κ vs i j C s0)
 (h:∀h' c,(∀b o,s.heap.get? b=some o->h'.get? b=some o)->h'.get? (s.heap.objs.size+1)=some (seqObj "list" (List.toArray$ p.toList.map λi=>vs.getD i Value.none) c)->Q (.ref$ s.heap.objs.size+1) {s with heap:=h'}) :
 wpAny (model prog w) A (call (.builtin "sorted") [.ref l]) Q E s:=by
 refine Calls.call_function_entry kind_sorted plain_sorted entry_sorted (args_sorted1 _) ?_;refine Qaf$ QaG ?_;refine Qaf (collect_list hl ?_$ by rw[Qas];omega)
 refine Qaf (wpAny_newList ?_$ by rw[Qas];omega)
 have hsz:((s.heap.push$ seqObj "list" #[] 0).update s.heap.objs.size$ Obj.mapSeq (·++vs.toArray)).objs.size=s.heap.objs.size+1:=by
  rw[Heap.size_update,size_push']
 have hoL:(((s.heap.push$ seqObj "list" #[] 0).update s.heap.objs.size$ Obj.mapSeq (·++vs.toArray)).push$ seqObj "list" vs.toArray 0).get? (s.heap.objs.size+1)=some (seqObj "list" vs.toArray 0):=by
  rw[<-hsz];exact QaN _ rfl
 have keep:∀b o,s.heap.get? b=some o->(((s.heap.push$ seqObj "list" #[] 0).update s.heap.objs.size$ Obj.mapSeq (·++vs.toArray)).push$ seqObj "list" vs.toArray 0).get? b=some o:=λb o q=>by
  have hlt:b<s.heap.objs.size:=QaD q;rw[Heap.get?_push_ne _ _ _ (by rw[hsz];exact QaR$ Qc5 hlt),QcR _ _ _ _$ QaR hlt,Heap.get?_push_ne _ _ _$ QaR hlt]
  exact q
 rw[hsz];have keep2:∀(h0:Heap),(∀b o,s.heap.get? b=some o->h0.get? b=some o)->∀b o,s.heap.get? b=some o->(vS h0 (s.heap.objs.size+1) vs).get? b=some o:=λh0 hk b o q=>by
  have hlt:b<s.heap.objs.size:=QaD q;refine Qah _$ Qah _ ?_;rw[QcR _ _ _ _$ QaR$ Qc5 hlt];exact hk b o q
 refine Qaf$ Qcc$ QbO slot_list_sort ⟨_,hoL,rfl⟩ entry_list_sort ?body$ args_list_sort _
 case body=>
  refine vO (κ:=κ) hoL h2 TV VY (hk _$ keep2 _ keep) (hc _$ keep2 _ keep) λc2 Ei=>?_
  refine⟨_,rfl,QaG ⟨_,rfl,h _ c2 (λb o q=>?_) Ei⟩⟩
  have hlt:b<s.heap.objs.size:=QaD q;rw[QcR _ _ _ _$ QaR$ Qc5 hlt];exact keep2 _ keep b o q
end
end PySem.W
namespace L2
open PySem PySem.Spec PyProof.Rows
def Vw:D->Option (Int × List Int)
 | .tup [.int a, .tup zs]=>(ints? zs).map λns=>(a,ns)
 | _=>none
noncomputable def IX:List D->Option (List$ Int × List Int)
 | []=>some []
 | d ::ds=>(Vw d).bind λp=>(IX ds).map (p ::·)
def Qc(x y:Int × List Int):Bool:=if x.1=y.1 then(if x.2=y.2 then false else HT.lexLt x.2 y.2) else decide (x.1<y.1)
def KR(ps:List (Int × List Int)):Option (Array Nat):=PySem.W.zJ ps.length (λi j=>Qc (ps.getD i (0,[]))$ ps.getD j (0,[]))$ PySem.W.kas_sort ps.length
def BY:List D->R D
 | [.lst ds]=>(match IX ds with
   | some ps=>R.bH (decide$ 2<=ps.length/\ps.length<64)$ match KR ps with | some p=>R.bH (p.toList.all (λi=>decide$ i<ps.length) && decide (p.toList.length<64)) (.ok$ .lst$ p.toList.map λi=>ds.getD i .cY) | none=> .no
   | none=> .no)
 | _=> .no
def CJ(h:Heap)(v:Value)(p:Int × List Int):Prop:=
 ∃(x b:Addr) (t:Tok) (n:Nat) (o:Obj) (its:Array Value),v= .ref x/\h.get? x=some o/\o.cls= .type "tuple"/\o.data= .seq #[.int p.1 t, .ref b] n/\IsTup h b its/\IntsAre its.toList p.2
def CJ.keeps{h h':Heap}{v:Value}{p:Int × List Int}(k:∀b o,h.get? b=some o->h'.get? b=some o)(x:CJ h v p):CJ h' v p:=by
 obtain⟨x,b,t,n,o,its,e,h1,h2,h3,⟨o2,g1,g2,g3⟩,h5⟩:=x;exact⟨x,b,t,n,o,its,e,k _ _ h1,h2,h3,⟨o2,k _ _ g1,g2,g3⟩,h5⟩
section
variable {X:Cx}
def OR{pins:Aaa}{s:Qdg}{B:List Addr}(I:Inv X pins σ H s){d:D}{x:V}{v:Value}{p:Int × List Int}(hp:Vw d=some p)(r:Rep X.K B H d x)(rx:RelV x v):CJ s.heap v p:=by
 unfold Vw at hp;split at hp
 .rename_i a zs;obtain⟨ns,e1,rfl⟩:=L3.fV hp;obtain⟨ad,xs,rfl,l,rs⟩:=Rep.tup.mp r;cases rx;obtain⟨x1,r1,rfl,q1,q2⟩:=rs.cj;obtain⟨x2,r2,rfl,q3,q4⟩:=q2.cj;subst q4;have:=Rep.int.mp q1;subst this;obtain⟨bd,ys,rfl,l2,Ta⟩:=Rep.tup.mp q3;obtain⟨its,rv,⟨o,o1,o2,n,o3⟩,_⟩:=I.tuple l.sq;obtain⟨p9,Te,tp2,_⟩:=I.tuple l2.sq;rw[dv Ta e1] at Te;cases rv with
  | cons u1 rv=>
    cases rv with
    | cons u2 rv=>
      cases rv;obtain⟨t,rfl⟩:=u1;cases u2;exact⟨ad,bd,t,n,o,p9.toArray,rfl,o1,o2,o3,tp2,by simpa using intsAre_of Te⟩
 .cases hp
def P2{pins:Aaa}{s:Qdg}{B:List Addr}(I:Inv X pins σ H s):∀{ds:List D} {ps:List (Int × List Int)} {xs:List V} {vs:List Value},IX ds=some ps->aI X.K B H ds xs->Vals xs vs->
 vs.length=ps.length/\∀i (hi:i<ps.length),CJ s.heap (vs.getD i Value.none)$ ps.getD i (0,[])
 | [],ps,xs,vs,hp,r,rv=>by
   cases hp;subst r;cases rv;exact⟨rfl,λi hi=>by simp at hi⟩
 | d ::ds,ps,xs,vs,hp,r,rv=>by
   obtain⟨p,e1,h2⟩:=L3.rA hp;obtain⟨ps',e2,rfl⟩:=L3.fV h2;obtain⟨x,xs',rfl,r1,r2⟩:=r.cj;cases rv with
   | cons u rv=>
     obtain⟨a,b⟩:=P2 I e2 r2 rv;refine⟨by rw[Qao,Qao,a],λi hi=>?_⟩
     cases i with
     | zero=>exact OR I e1 r1 u
     | succ i=>exact b i (by simpa using hi)
theorem Cr:∀{ds:List D} {ps:List (Int × List Int)},IX ds=some ps->ds.length=ps.length
 | [],ps,hp=>by cases hp;rfl
 | d ::ds,ps,hp=>by
   obtain⟨p,e1,h2⟩:=L3.rA hp;obtain⟨ps',e2,rfl⟩:=L3.fV h2;rw[Qao,Qao,Cr e2]
theorem md:∀{vs:List Value} {ns:List Int},IntsAre vs ns->ItemsAre (intKind prog w) ns vs
 | _,_, .nil=> .nil
 | _,_, .cons n t hr=> .cons (intKind_is _ _ _ _)$ md hr
theorem zH:∀{xs:List V} {vs:List Value},Vals xs vs->∀i,i<xs.length->RelV (xs.getD i .cY) (vs.getD i Value.none)
 | _,_, .nil,i,h=>by simp at h
 | _,_, .cons r t,0,h=>r
 | _,_, .cons r t,i+1,h=>by
   have:=zH t i (by simpa using h)
   simpa using this
theorem zI{K:Qdf}{B:List Addr}:∀{ds:List D} {xs:List V},aI K B H ds xs->∀i,i<ds.length->Rep K B H (ds.getD i .cY) (xs.getD i .cY)
 | [],xs,r,i,h=>by simp at h
 | d ::ds,xs,r,i,h=>by
   obtain⟨x,r',rfl,r1,r2⟩:=r.cj;cases i with
   | zero=>exact r1
   | succ i=>
     have:=zI r2 i (by simpa using h)
     simpa using this
theorem zu{K:Qdf}{B:List Addr}{ds:List D}{xs:List V}(r:aI K B H ds xs):∀l:List Nat,(∀i∈l,i<ds.length)->aI K B H (l.map λi=>ds.getD i .cY) (l.map λi=>xs.getD i .cY)
 | [],_=>aI.nil
 | i ::l,hi=>aI.cons (zI r i$ hi i Qan)$ zu r l λj hj=>hi j$ Qad _ hj
def Nm{prog:Program}{w:World}{A:Around}{s:Qdg}{u v:Value}{p q:Int × List Int}{C:Bool->Qdg->Prop}(hu:A.units<cLine)(hp:CJ s.heap u p)(hq:CJ s.heap v q)(h:C (Qc p q) s) :
 wpAny (model prog w) A (keyLt' (tuples' true) u v) C (λ_ _=>False) s:=by
 obtain⟨x,b,t,n,o,its,rfl,h1,h2,h3,tb,ib⟩:=hp;obtain⟨y,c,t',n',o',its',rfl,g1,g2,g3,tc,ic⟩:=hq;refine PySem.W.kat_lt h1 h3 g1 g3 ?_;refine PySem.W.kat_cons$ wpAny_eqBool_int ?_;by_cases e:p.1=q.1
 .rw [show(p.1==q.1)=true from Qbj.mpr e]
  refine PySem.W.kat_yes$ PySem.W.kat_cons ?_;have kb:IsTupleKey (intKind prog w) s.heap p.2 b:=by
   obtain⟨o,o1,o2,n,o3⟩:=tb;exact⟨o,its,n,o1,o2,o3,md ib⟩
  have kc:IsTupleKey (intKind prog w) s.heap q.2 c:=by
   obtain⟨o,o1,o2,n,o3⟩:=tc;exact⟨o,its',n,o1,o2,o3,md ic⟩
  refine wpAny_eqBool_tuple hu kb kc ?_;by_cases e2:p.2=q.2
  .rw [Qat e2];refine PySem.W.kat_yes$ PySem.W.kat_nil ?_;have:Qc p q=false:=by unfold Qc;rw [QaK e,QaK e2]
   rw[this] at h;exact h
  .rw [Qaw e2];refine PySem.W.kat_no$ PySem.W.kat_one _ _ ?_;have:Qc p q=HT.lexLt p.2 q.2:=by unfold Qc;rw [QaK e,QaH e2]
   rw[this] at h;exact HT.Fv tb tc ib ic hu h
 .rw [show(p.1==q.1)=false from QaZ.mpr e]
  refine PySem.W.kat_no ?_;have:Qc p q=decide (p.1<q.1):=by unfold Qc;rw [QaH e]
  rw[this] at h;exact oneLt_int h
def NV(hu:X.A.units+64<cLine):cV X (.builtin "sorted") BY:=by
 intro pins s σ H B ds d xs us I hb rx rs hg;unfold BY at hg;split at hg
 .split at hg
  .rename_i es ps e;obtain⟨TV,h2⟩:=R.bj hg;obtain⟨zp,TV⟩:=Qal TV;split at h2
   .rename_i p hp;obtain⟨hal,h3⟩:=R.bj h2;cases h3;obtain⟨hpi,Qo⟩:=Qbc.mp hal;have hpi:∀i∈p.toList,i<ps.length:=λi hi=>Qal (Qbq.mp hpi i hi)
    have Qo:=Qal Qo;obtain⟨x,rfl,r⟩:=rs.one;obtain⟨a,ys,rfl,l,r⟩:=Rep.lst.mp r;obtain⟨u,rfl,ru⟩:=vals1 rx;cases ru;obtain⟨its,n,rv,e1,hz⟩:=I.Qi l;obtain⟨q1,q2⟩:=P2 I e r rv;have hl:s.heap.IsList a its.toArray:=⟨_,e1,rfl,n,rfl⟩;have j_:=Cr e;refine PySem.W.tG (κ:=tuples' true) hl (by omega) (by omega) (by rw[q1];exact hp) (λs0 k Q q=>?_) (λs0 k i j C hi hj q=>?_) λh' c k MB=>?_
    .have kt:∀(vs:List Value) (ps:List (Int × List Int)),vs.length=ps.length->(∀i,i<ps.length->CJ s.heap (vs.getD i Value.none) (ps.getD i (0,[])))->∃fs:List Value,fs.length=ps.length/\PySem.W.KatTups s0.heap vs fs/\∀f∈fs,∃z t,f=Value.int z t:=by
      intro vs
      induction vs with
      | nil=>intro ps hl _;cases ps with
        | nil=>exact⟨[],rfl,PySem.W.KatTups.nil,λf hf=>by cases hf⟩
        | cons _ _=>simp at hl
      | cons v vs ih=>intro ps hl hps;cases ps with
        | nil=>simp at hl
        | cons p0 ps=>
          obtain⟨fs,f1,f2,f3⟩:=ih ps (by simpa using hl) λi hi=>by have:=hps (i+1) (by simpa using hi);simpa using this
          obtain⟨x,b,t,n,o,its,ev,h1,h2,h3,tb,ib⟩:=(hps 0$ by simp).keeps k
          subst ev;refine⟨.int p0.1 t ::fs,by simp [f1],PySem.W.KatTups.cons h1 h2 h3 rfl f2,λf hf=>?_⟩
          rcases QaE.mp hf with rfl | hf
          .exact⟨_,_,rfl⟩
          .exact f3 f hf
     obtain⟨fs,f1,f2,f3⟩:=kt its ps q1 q2;exact PySem.W.kat_kind (T:= .type "int") f2 (by omega) (λv hv=>by obtain⟨z,t,rfl⟩:=f3 v hv;exact PySem.W.Looks.of_pure rfl) rfl q
    .show wpAny _ _ (keyLt' _ (its.getD i Value.none)$ its.getD j Value.none) C _ s0;exact Nm (show X.A.units+1+1<cLine by omega) ((q2 i$ by omega).keeps k) ((q2 j$ by omega).keeps k) q
    .have hle:(p.toList.map λi=>ys.getD i .cY).length<=sizeLine:=by
      have hzz:sizeLine=16777216:=Qas;rw[Qaa];omega
     have hrl:=r.length;have Te:∀l:List Nat,(∀i∈l,i<ps.length)->Vals (l.map λi=>ys.getD i .cY) (l.map λi=>its.getD i Value.none):=by
      intro l
      induction l with
      | nil=>intro _;exact .nil
      | cons i l ih=>intro hi;exact .cons (zH rv i (by have:=hi i Qan;omega))$ ih λj hj=>hi j$ Qad _ hj
     have hn:H (s.heap.objs.size+1)=none:=I.hok.fresh$ Qce _;have I2:=I.laid (t':=s.toks) k (Qce _)$ show e8 X.prog X.w _ _ _ (.lst _) from⟨hle,_,c,Te _ hpi,MB⟩
     refine⟨.ref$ s.heap.objs.size+1,_,I2,rfl,aU hn,Rep.lst.mpr ⟨_,_,rfl, .xE bh λha=>?_,(zu r p.toList λi hi=>by rw[j_];exact hpi i hi).same (aU hn)⟩⟩
     obtain⟨o,ho⟩:=hb _ ha;rw[hn] at ho;cases ho
   .cases h2
  .cases hg
 .cases hg
end
def OF(d a:D):Bool:=PyData.eqv (toPy d)$ toPy a
def Vc(d:D):Bool:=eM d && (toPy d).canLay0 && decide ((toPy d).depth<=8)
def X1(a b:D):R Bool:=match seqD? b with
 | some ds=>R.bH (Vc a && ds.all Vc)$ .ok$ ds.any λd=>OF d a
 | none=> .no
def aap(a b:D):R D:=(X1 a b).bind λx=> .ok$ .bl x
def Mb(a b:D):R D:=(X1 a b).bind λx=> .ok$ .bl$ !x
section
variable {X:Cx}
open Classical in
def MK(h:Heap)(a:D)(y:Value):Bool:=decide (∃d as,Reads h y (toPy d) as/\(toPy d).canLay0=true/\OF d a=true)
open Classical in
def SE{a d:D}{y:Value}{as:List Addr}(r:Reads h y (toPy d) as)(hl:(toPy d).canLay0=true):MK h a y=OF d a:=by
 unfold MK;cases q:OF d a with
 | true=>exact Qat ⟨d,as,r,hl,q⟩
 | false=>
   refine Qaw λ⟨d',ZG,r',hl',q'⟩=>?_
   have:=SeqAt.Reads.unique _ _ y as ZG hl r r';unfold OF at q q';rw[<-this,q] at q';cases q'
def uv{d:D}(h:Vc d=true):eM d=true/\(toPy d).canLay0=true/\(toPy d).depth<=8:=by
 obtain⟨h1,h2⟩:=Qbc.mp h;obtain⟨h3,h4⟩:=Qbc.mp h1;exact⟨h3,h4,Qal h2⟩
def GX{pins:Aaa}{s:Qdg}{B:List Addr}(I:Inv X pins σ H s){a:D}:∀{ds:List D} {xs:List V} {us:List Value},ds.all Vc=true->aI X.K B H ds xs->Vals xs us->
 us.any (MK s.heap a)=ds.any (λd=>OF d a)/\∀u∈us,∃d as,Vc d=true/\Reads s.heap u (toPy d) as/\MK s.heap a u=OF d a
 | [],xs,us,_,r,rv=>by
   subst r;cases rv;exact⟨rfl,λu hu=>by cases hu⟩
 | d ::ds,xs,us,hk,r,rv=>by
   rw[List.all_cons,Qbn] at hk;obtain⟨x,xs',rfl,r1,r2⟩:=r.cj;cases rv with
   | cons u rv=>
     obtain⟨i1,i2⟩:=GX I hk.2 r2 rv;obtain⟨p1,p2,p3⟩:=uv hk.1;obtain⟨as,ra⟩:=r1.reads I p1 u;have e:=SE (a:=a) ra p2;refine⟨by rw[Qbt,Qbt,e,i1],λu' hu=>?_⟩
     rcases QaE.mp hu with rfl | hu
     .exact⟨d,as,hk.1,ra,e⟩
     .exact i2 u' hu
def Vy(hu:X.A.units+64<cLine):m6 X (compareOp .NotIn) Mb:=by
 intro pins s σ H B da db d x y v u I hb rx ry ra rb hg;obtain⟨b,h1,h2⟩:=R.ao hg;cases h2;unfold X1 at h1;split at h1
 .rename_i ds hs;obtain⟨hk,h3⟩:=R.bj h1;cases h3;obtain⟨WT,TN⟩:=Qbc.mp hk;obtain⟨p1,p2,p3⟩:=uv WT;obtain⟨as,rda⟩:=ra.reads I p1 rx;obtain⟨t,p,xs,rfl,k1⟩:=rb.HC hs;obtain⟨sq,rs⟩:=k1 B H$ dR.refl B H;cases ry;obtain⟨its,rv,e2⟩:=I.HC sq;obtain⟨q1,q2⟩:=GX I TN rs rv;have he:∀w,w∈its.toArray->SeqAt.EqAt X.A.in1 s w v (MK s.heap da w):=λw hw=>by
   obtain⟨d',ZG,o1,o2,o3⟩:=q2 w (by simpa using hw)
   rw[o3];obtain⟨z1,z2,z3⟩:=uv o1;refine SeqAt.eqAt_reads _ _ _ _ _ _ _ _ o2 rda z2 p2 ?_;show X.A.units+1+_<cLine;omega
  have fin:EP X pins σ (λz H'=>bo H H'/\Rep X.K B H' (.bl$ !(ds.any λd=>OF d da)) z) (.bool$ !its.toArray.any (MK s.heap da)) s:=by
   refine⟨.bl (!(ds.any λd=>OF d da)),H,I,?_,bo.refl H,Rep.bl.mpr rfl⟩
   rw[show its.toArray.any (MK s.heap da)=its.any (MK s.heap da) by simp,q1];rfl
  cases t with
  | true=>exact SeqAt.notIn_tupleAt (MK s.heap da) (show s.heap.IsTuple p its.toArray from e2) he fin
  | false=>exact SeqAt.notIn_listAt (MK s.heap da) (show s.heap.IsList p its.toArray from e2) he fin
 .cases h1
end
end L2
end
section
set_option maxHeartbeats 1000000
namespace L3
open PySem PySem.Spec PyProof.Rows L2
def SW.Xm{K:Qdf}{cl:Aag}{ρ:P3}{S:bp}(w:SW K cl ρ H S){k:Nat}{a:Addr}{kvs:List (Key × D)}(hk:ρ.r[k]? =some a)(hS:S[k]? =some (.dct kvs)) :
 SW K cl ⟨ρ.r,ρ.z,a ::ρ.f⟩ H (S.set k .fm)/\Pre ρ H ⟨ρ.r,ρ.z,a ::ρ.f⟩ H/\Rep K (⟨ρ.r,ρ.z,a ::ρ.f⟩:P3).b H (.dct (kvs.map (·.1))$ kvs.map (·.2)) (.ref a):=by
 have hl:k<S.length:=by rw[<-w.len];exact(Qae.mp hk).1
 have sub:∀b,b∈(⟨ρ.r,ρ.z,a ::ρ.f⟩:P3).b->b∈ρ.b:=λb hb=>by
  rcases P3.dH.mp hb with⟨z,n⟩ | z
  .exact P3.dH.mpr (.inl ⟨z,λh=>n$ Qad _ h⟩)
  .exact P3.dH.mpr (.inr z)
 have p:Pre ρ H ⟨ρ.r,ρ.z,a ::ρ.f⟩ H:=⟨λb o e nb=>⟨e,λhb=>nb$ sub b hb⟩,rfl,λ_ _ _ h=>h,λ_ _ h=>h⟩
 obtain⟨ys,e1,ek,r1⟩:=w.ob k a _ hk hS;refine⟨⟨by rw[Qa6];exact w.len,w.nd,λj b x hj hx=>?_,w.zb,λj b hj hx=>?_,λb hb=>?_,λj b hj hx=>?_⟩,p,?_⟩
 .by_cases q:k=j
  .subst q;rw[Qau hl] at hx;cases hx;rw[hk] at hj;cases hj;exact⟨_,e1⟩
  .rw [Qav q] at hx;exact(w.ob j b x hj hx).pre p
 .by_cases q:k=j
  .subst q;rw[Qau hl] at hx;exact absurd rfl hx
  .rw [Qav q] at hx;intro h;rcases QaE.mp h with z | z
   .subst z;exact q$ w.nd k j b hk hj
   .exact w.fz j b hj hx z
 .rcases QaE.mp hb with z | z
  .subst z;exact⟨_,e1⟩
  .exact w.ff b z
 .by_cases q:k=j
  .subst q;rw[hk] at hj;cases hj;exact Qan
  .rw [Qav q] at hx;exact Qad _$ w.fi j b hj hx
 .unfold Rep;refine⟨a,ys,rfl,⟨λhb=>?_,e1⟩,ek,r1.bG p.bG⟩
  rcases P3.dH.mp hb with⟨_,n⟩ | z
  .exact n Qan
  .exact(w.zb a z).2 (Qap hk)
section
variable {X:Cx}{cl:Aag}
def Ct(i:Nat)(F:FZ):FZ:=λδ S=>match iu δ i with
 | some k=>(match S[k]? with | some (.dct kvs)=>F (δ.set i$ some$ .d$ .dct (kvs.map (·.1))$ kvs.map (·.2)) (S.set k .fm) | _=> .no)
 | none=> .no
def JD(i:Nat)(h:G2 X cl Mz F):G2 X cl Mz (Ct i F):=⟨h.1.imp λD σ H ⟨ρ,S,δ,o,S',E,hf,q⟩=>by
 unfold Ct at hf;split at hf
 .rename_i k hk;split at hf
  .rename_i kvs hds;obtain⟨v,v1,v2⟩:=E.val i _$ iU hk;obtain⟨a,a1,rfl⟩:=v2;obtain⟨w,p,r⟩:=E.sw.Xm a1 hds;have E1:gh X.K cl ⟨ρ.r,ρ.z,a ::ρ.f⟩ H (S.set k .fm) σ (δ.set i$ some$ .d$ .dct (kvs.map (·.1))$ kvs.map (·.2)):=⟨by rw[Qa6];exact E.len,w,λj d e=>by
    by_cases h:i=j
    .subst h;rw[Qau (by obtain⟨h1,_⟩:=Qae.mp$ iU hk;exact h1)] at e
     cases e;exact⟨_,v1,by unfold bE;exact r⟩
    .rw [Qav h] at e;obtain⟨u,u1,u2⟩:=E.val j d e;exact⟨u,u1,u2.pre p⟩⟩
   exact⟨_,_,_,o,S',E1,hf,q.pre p⟩
  .cases hf
 .cases hf⟩
def QF{i k:Nat}{kvs:List (Key × D)}{F:FZ}{δ:DE}{S:bp}{QO:Ou->bp->Prop}(hk:δ[i]? =some (some$ .loc k))(hS:S[k]? =some (.dct kvs))(h:W3 (F (δ.set i$ some$ .d$ .dct (kvs.map (·.1))$ kvs.map (·.2))$ S.set k .fm) QO):W3 (Ct i F δ S) QO:=by
 unfold Ct;have e1:iu δ i=some k:=by unfold iu;rw [hk]
 simp only[e1,hS];exact h
end
end L3
end
section
set_option maxHeartbeats 4000000
namespace NT
noncomputable def mx(f:Nat->Nat)(w:List Nat):Nat:=(w.map f).foldl max 0
structure BA (f:Nat->Nat) (M:Nat) (bs:List Int):Prop where
 a:∀(z:Nat) (v:Int),bs[z]? =some v->v= -1\/(0<=v/\v+f z<=M)
def BB(f:Nat->Nat)(M:Nat)(bs:List Int)(n:Nat):Prop:=∃(z:Nat) (v:Int),z<n/\bs[z]? =some v/\0<=v/\(M:Int)<=v+f z
def Up(bs ZD:List Int):Prop:=ZD.length=bs.length/\∀(z:Nat) (v:Int),bs[z]? =some v->∃v',ZD[z]? =some v'/\v<=v'
end NT
namespace NT
open PySem PySem.Spec PyProof.Rows L2 L3
structure Gt where
 k:Str
 w:List Nat
 s:Bool
noncomputable def nN(z:Nat):D:= .int z
def wN(w:List Nat):D:= .tup$ w.map nN
def gN(g:Gt):D:= .tup [.str g.k,wN g.w, .bl g.s]
noncomputable def iN(x:Str × Nat):D:= .tup [.str x.1, .int x.2]
def oN(x:Str × List Nat):D:= .tup [.str x.1,wN x.2]
structure Net where
 i:Aac
 g:List Gt
 o:Aad
def Net.d(n:Net):D:= .tup [.lst$ n.i.map iN, .lst$ n.g.map gN, .lst$ n.o.map oN]
noncomputable def Net.first(n:Net):Nat:=(n.i.map (·.2)).sum
structure Zn (n:Nat) (w:List Nat):Prop where
 ne:w≠[]
 le:w.length<=3
 lt:∀z∈w,z<n
structure Net.Ok (n:Net):Prop where
 i1:1<=n.i.length
 i6:n.i.length<=6
 iw:∀x∈n.i,1<=x.2/\x.2<=3
 is:∀x∈n.i,dO 0 (.str x.1)
 g60:n.g.length<=60
 gw:∀(p:Nat) (g:Gt),n.g[p]? =some g->Zn (n.first+p) g.w
 gs:∀g∈n.g,dO 0 (.str g.k)
 o1:1<=n.o.length
 o6:n.o.length<=6
 ow:∀x∈n.o,Zn (n.first+n.g.length) x.2
 os:∀x∈n.o,dO 0 (.str x.1)
inductive Sm:Nat->D->Prop where
 | int (n:Nat) (i:Int):Sm n (.int i)
 | bl (n:Nat) (b:Bool):Sm n (.bl b)
 | str (n:Nat) (s:Str):Sm n (.str s)
 | lst {n:Nat} {ds:List D} (h:∀d∈ds,Sm n d) (hl:ds.length<=1000000):Sm (n+1) (.lst ds)
 | tup {n:Nat} {ds:List D} (h:∀d∈ds,Sm n d) (hl:ds.length<=1000000):Sm (n+1) (.tup ds)
def su{F G:FS}{δ:ay}{d:D}(h:F δ= .ok (.rt d)):du F G δ= .ok (.rt d):=by unfold du;rw [h];rfl
def RQ{m i:Nat}{v:V3}(h:((jq 0 m).map V3.d)[i]? =some v):i<m/\v= .d (.int i):=by
 rw[Qac,jq,Qac] at h;cases q:(List.range m)[i]? with
 | none=>rw [q] at h;cases h
 | some j=>
   rw[q] at h;cases h;obtain⟨q1,q2⟩:=Qae.mp q;rw[Qaq] at q1;subst q2;exact⟨q1,by simp⟩
def cQ{α:Type}{l:List α}{f:α->D}{i:Nat}{v:V3}(h:((l.map f).map V3.d)[i]? =some v):∃x,l[i]? =some x/\v= .d (f x):=by
 rw[Qac,Qac] at h;cases q:l[i]? with
 | none=>rw [q] at h;cases h
 | some x=>rw [q] at h;cases h;exact⟨x,rfl,rfl⟩
def lW{α:Type}{l:List α}{f:α->D}{i:Nat}{v:D}(h:(l.map f)[i]? =some v):∃x,l[i]? =some x/\v=f x:=by
 rw[Qac] at h;cases q:l[i]? with
 | none=>rw [q] at h;cases h
 | some x=>rw [q] at h;cases h;exact⟨x,rfl,rfl⟩
theorem bc{α:Type}{t:FT}{c:ay->R Bool}{f:FD}{δ:ay}(a b:α->D):∀{xs:List α},(∀x∈xs,∃δ1,t (a x) δ= .ok δ1/\c δ1= .ok true/\f δ1= .ok (b x))->qW t c f δ (xs.map a)= .ok (xs.map b)
 | [],_=>rfl
 | x ::xs,h=>by
   obtain⟨δ1,h1,h2,h3⟩:=h x Qan;have ih:=bc (δ:=δ) a b λy hy=>h y$ Qad _ hy
   rw[Qaz];unfold qW;rw[h1,R.aP,h2,R.aP,QaK rfl,h3,R.aP,ih];rfl
theorem nH{α:Type}{t:FT}{c:ay->R Bool}{f:FD}{δ:ay}(p:α->Bool)(a b:α->D):∀{xs:List α},(∀x∈xs,∃δ1,t (a x) δ= .ok δ1/\c δ1= .ok (p x)/\(p x=true->f δ1= .ok (b x)))->qW t c f δ (xs.map a)= .ok ((xs.filter p).map b)
 | [],_=>rfl
 | x ::xs,h=>by
   obtain⟨δ1,h1,h2,h3⟩:=h x Qan;have ih:=nH (δ:=δ) p a b λy hy=>h y$ Qad _ hy
   rw[Qaz];unfold qW;rw[h1,R.aP,h2,R.aP];cases e:p x with
   | true=>rw [QaK rfl,h3 e,R.aP,ih,Qbs,QaK e];rfl
   | false=>rw [QaH (by decide),ih,Qbs,QaH$ by rw[e];decide]
def OZ{n z:Nat}(h:z<n):Eg n (z:Int)=some z:=by
 unfold Eg;rw[QaK (by omega),QaK$ by omega]
 simp
def Kl{α:Type}{xs:List α}{z:Nat}{x:α}(h:xs[z]? =some x):yC xs (z:Int)=some x:=by
 have hl:=(Qae.mp h).1;unfold yC;rw[OZ hl];exact h
def dP{ds:List D}{z:Nat}{x:D}(h:ds[z]? =some x):bz (.lst ds) (.int z)= .ok x:=t6$ Kl h
end NT
end
section
namespace MT
open PySem PySem.Spec PyProof.Rows L2 L3
abbrev M:=Nat->Bool
def Vl{N:List Str}{F:FZ}{vs:List V3}{δ:DE}{S:bp}{QV:V3->bp->Prop}(e:dn N vs=δ)(h:W3 (F δ S) λo S1=>∃fg,o= .nx fg/\QV (.d .cY) S1):W3 (qw N F vs S) QV:=by
 subst e;exact W3.bind (h.mono λ_ _ ⟨_,e,q⟩=>by subst e;exact W3.ok q)
noncomputable def lD:Nat->M->Nat
 | 0,_=>0
 | N+1,f=>(if f 0 then 1 else 0)+2*lD N (λi=>f$ i+1)
theorem jf:∀(N:Nat) (f:M) (i:Nat),(lD N f).testBit i=(decide (i<N) && f i)
 | 0,f,i=>by unfold lD;simp
 | N+1,f,0=>by
   unfold lD;cases f 0 <;> simp <;> omega
 | N+1,f,i+1=>by
   unfold lD;rw[Nat.testBit_succ];have:((if f 0=true then 1 else 0)+2*lD N λi=>f$ i+1) / 2=lD N λi=>f (i+1):=by split <;> omega
   rw[this,jf N _ i];simp
theorem qk:∀{N:Nat} {f g:M},(∀i,i<N->f i=g i)->lD N f=lD N g
 | 0,_,_,_=>rfl
 | N+1,f,g,h=>by
   unfold lD;rw[h 0 (by omega),qk λi hi=>h (i+1)$ by omega]
def F4(N:Nat)(f g:M):lD N f &&& lD N g=lD N λi=>f i && g i:=by
 refine QcL λi=>?_
 rw[Nat.testBit_and,jf,jf,jf];cases decide (i<N) <;> simp
def J0(N:Nat)(f g:M):lD N f ||| lD N g=lD N λi=>f i || g i:=by
 refine QcL λi=>?_
 rw[Nat.testBit_or,jf,jf,jf];cases decide (i<N) <;> simp
theorem Gj:∀(N:Nat) (f g:M),((lD N λi=>f i || g i:Nat):Int) - (lD N λi=>f i && g i:Nat)=(lD N λi=>f i !=g i:Nat)
 | 0,f,g=>rfl
 | N+1,f,g=>by
   have ih:=Gj N (λi=>f$ i+1)$ λi=>g$ i+1
   have e:∀h:M,lD (N+1) h=(if h 0 then 1 else 0)+2*lD N (λi=>h$ i+1):=λ_=>rfl
   rw[e,e,e];generalize lD N (λi=>f (i+1) || g (i+1))=a at ih ⊢
   generalize lD N (λi=>f (i+1) && g (i+1))=b at ih ⊢
   generalize lD N (λi=>f (i+1) !=g (i+1))=c at ih ⊢
   cases f 0 <;> cases g 0 <;> simp <;> omega
def r9(x y:Nat):Builtin.bitAnd (x:Int) (y:Int)=((x &&& y:Nat):Int):=by
 unfold Builtin.bitAnd;simp
def F9(x y:Nat):Builtin.bitOr (x:Int) (y:Int)=((x ||| y:Nat):Int):=by
 unfold Builtin.bitOr Builtin.bitAnd Builtin.bitNot;rw[Qaw (by omega:¬(0:Int)<= -(x:Int) - 1),Qaw (by omega:¬(0:Int)<= -(y:Int) - 1)]
 show -(-(((-(-(x:Int) - 1) - 1).toNat ||| (-(-(y:Int) - 1) - 1).toNat:Nat):Int) - 1) - 1=_
 rw[show(-(-(x:Int) - 1) - 1).toNat=x by omega,show(-(-(y:Int) - 1) - 1).toNat=y by omega]
 omega
def mI(N:Nat)(f:M):D:= .int (lD N f:Nat)
def r_{N:Nat}{f g:M}(h:∀i,i<N->f i=g i):mI N f=mI N g:=by unfold mI;rw [qk h]
def xH(N:Nat)(f g:M):MD (mI N f) (mI N g)= .ok (mI N λi=>f i && g i):=by
 show R.ok (D.int$ Builtin.bitAnd (lD N f:Int) (lD N g:Int))=_;rw[r9,F4];rfl
def Dk(N:Nat)(f g:M):P_ (mI N f) (mI N g)= .ok (mI N λi=>f i || g i):=by
 show R.ok (D.int$ Builtin.bitOr (lD N f:Int) (lD N g:Int))=_;rw[F9,J0];rfl
def yc(N:Nat)(f g:M):Hu (mI N f) (mI N g)= .ok (mI N λi=>f i !=g i):=by
 show R.ok (D.int$ Builtin.bitOr (lD N f:Int) (lD N g:Int) - Builtin.bitAnd (lD N f:Int) (lD N g:Int))=_;rw[F9,r9,J0,F4,Gj];rfl
noncomputable def one:M:=λ_=>true
def Qh(N:Nat)(f:M):Hu (mI N one) (mI N f)= .ok (mI N λi=>!f i):=by
 rw[yc];have:(λi=>one i !=f i)=λi=>!f i:=by funext i;unfold one;simp
 rw[this]
def Kz(N:Nat)(f:M)(c:Bool):(if c then Hu (mI N one) (mI N f) else .ok (mI N f))= .ok (mI N λi=>f i !=c):=by
 cases c with
 | true=>
   rw[QaK rfl,Qh];have:(λi=>!f i)=λi=>f i !=true:=by funext i;cases f i <;> rfl
   rw[this]
 | false=>
   rw[QaH$ by decide]
   have:f=λi=>f i !=false:=by funext i;cases f i <;> rfl
   rw[<-this]
def C2{N:Nat}{f:M}:lD N f=0↔∀i,i<N->f i=false:=by
 constructor
 .intro h i hi;have:=jf N f i;rw[h,Nat.zero_testBit,Qat hi,Bool.true_and] at this;exact this.symm
 .intro h;refine QcL λi=>?_
  rw[jf,Nat.zero_testBit];by_cases q:i<N
  .rw [h i q];simp
  .rw [Qaw q];rfl
def VS(N:Nat)(f:M)(n:Nat):(IB (mI N f)$ .int n).bind (λd=>MD d$ .int 1)= .ok (.int$ if decide (n<N) && f n then 1 else 0):=by
 have h1:IB (mI N f) (.int n)= .ok (.int ((lD N f / 2 ^ n:Nat):Int)):=by
  show R.bH (decide$ (0:Int)<=n) (.ok$ D.int$ (lD N f:Int) / 2 ^ ((n:Int)).toNat)=_;congr 2
 show R.ok (D.int$ Builtin.bitAnd ((lD N f / 2 ^ n:Nat):Int) ((1:Nat):Int))=_;rw[r9,Nat.and_one_is_mod,<-jf];congr 2;unfold Nat.testBit;rw[Nat.shiftRight_eq_div_pow,Nat.one_and_eq_mod_two];have:lD N f / 2 ^ n % 2=0\/lD N f / 2 ^ n % 2=1:=by omega
 rcases this with q | q <;> rw[q] <;> rfl
noncomputable def bI(b:Bool):D:= .int$ if b then 1 else 0
noncomputable def MG:List Bool->Nat
 | []=>0
 | b ::bs=>(if b then 1 else 0)+2*MG bs
theorem JS:∀bs:List Bool,MG bs=lD bs.length λi=>bs.getD i false
 | []=>rfl
 | b ::bs=>by
   unfold MG;rw[JS bs];rfl
noncomputable def nI(n:Nat):D:= .int (n:Int)
noncomputable def kS:Nat->Str | 0=>"not" | 1=>"and" | 2=>"or" | 3=>"xor" | _=>"vote"
noncomputable def ar:Nat->Nat | 0=>1 | 4=>3 | _=>2
def sP(k:Nat):ar k<=3:=by unfold ar;split <;> omega
noncomputable def gv:Nat->List Bool->Bool
 | 0,[a]=>!a
 | 1,[a,b]=>a && b
 | 2,[a,b]=>a || b
 | 3,[a,b]=>a !=b
 | 4,[a,b,c]=>(a && b) || (a && c) || (b && c)
 | _,_=>false
noncomputable def lF(ws:List M)(n:Nat):M:=ws.getD n λ_=>false
abbrev Gt:=Nat × List Nat × Bool
def gS(g:Gt):D:= .tup [.str$ kS g.1, .tup$ g.2.1.map nI, .bl g.2.2]
def An(n:Nat)(g:Gt):Prop:=g.1<=4/\g.2.1.length=ar g.1/\∀w∈g.2.1,w<n
def inD(x:Str × Nat):D:= .tup [.str x.1,nI x.2]
def oz(x:Str × List Nat):D:= .tup [.str x.1, .tup$ x.2.map nI]
def a_(ins:Aac)(gs:List Gt)(os:Aad):D:= .tup [.lst$ ins.map inD, .lst$ gs.map gS, .lst$ os.map oz]
noncomputable def dk(ins:Aac):Nat:=(ins.map (·.2)).sum
def gF(g:Gt)(ws:List M):M:=λp=>gv g.1$ g.2.1.map λn=>lF ws n p
noncomputable def qu(bad:List Int)(b:M):Nat->List M->List M
 | 0,ws=>ws
 | n+1,ws=>qu bad b n ws++[λp=>b p !=bad.contains ((qu bad b n ws).length:Int)]
theorem mK(bad:List Int)(b:M):∀n ws,(qu bad b n ws).length=ws.length+n
 | 0,ws=>rfl
 | n+1,ws=>by unfold qu;rw [Qai,mK bad b n ws];rfl
noncomputable def mj(ins:Aac)(bits:List M)(bad:List Int):Nat->List M
 | 0=>[]
 | i+1=>match ins[i]?,bits[i]? with | some x,some b=>qu bad b x.2 (mj ins bits bad i) | _,_=>mj ins bits bad i
theorem tu{ins:Aac}{bits:List M}{bad:List Int}(hb:bits.length=ins.length):∀i,i<=ins.length->(mj ins bits bad i).length=dk (ins.take i)
 | 0,_=>rfl
 | i+1,hi=>by
   have h1:ins[i]? =some ins[i]:=Qab (by omega)
   have h2:bits[i]? =some bits[i]:=Qab (by omega)
   unfold mj;rw[h1,h2];rw[mK,tu hb i (by omega),QaI,h1]
   unfold dk;simp only[QcX,Qam,List.sum_append,Qaz,Qcn,Qbu,List.sum_nil];omega
noncomputable def EB(gs:List Gt)(turned:List Int)(w0:List M):Nat->List M
 | 0=>w0
 | i+1=>match gs[i]? with | some g=>EB gs turned w0 i++[λp=>gF g (EB gs turned w0 i) p !=turned.contains (i:Int)] | none=>EB gs turned w0 i
theorem AJ{gs:List Gt}{turned:List Int}{w0:List M}:∀i,i<=gs.length->(EB gs turned w0 i).length=w0.length+i
 | 0,_=>rfl
 | i+1,hi=>by
   have h1:gs[i]? =some gs[i]:=Qab (by omega)
   unfold EB;rw[h1];rw[Qai,AJ i$ by omega]
   rfl
structure iM (ins:Aac) (gs:List Gt) (os:Aad):Prop where
 hi:ins.length<100
 hw:∀x∈ins,x.2<100
 hg:gs.length<1000
 g:∀(i:Nat) (x:Gt),gs[i]? =some x->An (dk ins+i) x
 ho:os.length<1000
 o:∀x∈os,x.2.length<1000/\∀w∈x.2,w<dk ins+gs.length
def HY(ins:Aac)(gs:List Gt)(bits:List M)(turned bad:List Int):List M:=EB gs turned (mj ins bits bad ins.length) gs.length
theorem ud:∀{l:Aac},(∀x∈l,x.2<100)->dk l<=100*l.length
 | [],_=>by simp [dk]
 | x ::l,h=>by
   have ih:=ud λy hy=>h y$ Qad _ hy
   have:=h x Qan;unfold dk at ih ⊢;rw[Qaz,Qbu,Qao];omega
def JV{ins:Aac}{gs:List Gt}{bits:List M}{turned bad:List Int}(hb:bits.length=ins.length):(HY ins gs bits turned bad).length=dk ins+gs.length:=by unfold HY;rw [AJ _$ Qak _,tu hb _$ Qak _,QaY]
def tell(ws:List M)(x:Str × List Nat):List M:=x.2.map$ lF ws
noncomputable def rd2:List Bool->Bool × Bool
 | [a]=>(!a,a)
 | [a,b]=>(!(a || b),a && b)
 | [a,b,c]=>let v:=(a && b) || (a && c) || (b && c);(!v,v)
 | _=>(false,false)
noncomputable def brk(safe:Bool)(x y:Bool × Bool):Bool:=if safe then(x.1 && y.2) || (x.2 && y.1) else(x.1 !=y.1) || (x.2 !=y.2)
def BX(i:Int)(ps:List Int):PY (.int i) (.tup$ ps.map .int)= .ok (.bl$ ps.contains i):=by
 show((match ints? (ps.map D.int) with | some ss=>R.ok (ss.contains i) | none=> .no)).bind (λb=>R.ok$ D.bl b)=_
 rw[L2.ints_map];rfl
def A3{ds:List D}{i:Nat}{v:V3}(h:((er ds).map V3.d)[i]? =some v):∃d,ds[i]? =some d/\v= .d (.tup [.int i,d]):=by
 rw[Qac,er,Qac,Qbd] at h;cases q:ds[i]? with
 | none=>rw [q] at h;cases h
 | some d=>
   rw[q] at h;simp at h;exact⟨d,rfl,h.symm⟩
def Mf{c:ay->R Bool}{δ:ay}{b:Bool}{r:R D}(h:c δ= .ok b)(h2:(if b then f δ else g δ)=r):Tt c f g δ=r:=by unfold Tt;rw [h,R.aP];exact h2
def cc(S:bp)(x y:SO):(S++[x]).set S.length y=S++[y]:=by
 rw[Qbx _ _$ Qak _,Qbe];rfl
def aO(S:bp)(x:SO):(S++[x])[S.length]? =some x:=by rw[Qaj$ Qak _,Qbe];rfl
def SK{N:Nat}{ws:List M}{n:Nat}(h:n<ws.length):bz (.lst$ ws.map$ mI N) (nI n)= .ok (mI N$ lF ws n):=by
 refine NT.dP ?_;rw[Qac,Qab h];unfold lF;rw[Qag,Qab h];rfl
def iZ{α:Type}{t:FG}{body:FZ}{S:bp}(g:α->V3)(f:α->Option V3)(E:DE->Prop):∀{xs:List α} {δ:DE},E δ->
 (∀x∈xs,∀δ,E δ->∃δ1,t (g x) δ=some δ1/\W3 (body δ1 S) λo S1=>S1=S/\(match f x with | some v=>o= .rt v | none=>∃c_,o= .nx c_/\E c_))->
 W3 (pf t body (xs.map g) δ S) λo S1=>S1=S/\(match xs.findSome? f with | some v=>o= .rt v | none=>∃c_,o= .nx c_/\E c_)
 | [],δ,h0,_=>W3.ok ⟨rfl,δ,rfl,h0⟩
 | x ::xs,δ,h0,hs=>by
   obtain⟨δ1,e1,o,S1,e2,rfl,h2⟩:=hs x Qan δ h0;rw[Qaz];unfold pf;rw[e1];refine W3.bind ⟨_,_,e2,?_⟩;rw[QcS];cases hf:f x with
   | some v=>rw [hf] at h2;subst h2;exact W3.ok ⟨rfl,rfl⟩
   | none=>
     rw[hf] at h2;obtain⟨c_,rfl,h2⟩:=h2;exact iZ g f E h2 λy hy=>hs y$ Qad _ hy
noncomputable def chs:List Nat->Nat->Aae
 | _,0=>[[]]
 | ps,s+1=>(List.range ps.length).flatMap λa=>(chs (ps.drop$ a+1) s).map (ps.getD a 0 ::·)
theorem wq:∀{l:List Nat} {m:Nat},(∀x∈l,x<=m)->l.sum<=l.length*m
 | [],_,_=>by simp
 | x ::l,m,h=>by
   have:=wq λy hy=>h y$ Qad _ hy
   have h0:=h x Qan;rw[Qbu,Qao,Nat.add_mul];omega
def AN{F G:FZ}{δ:DE}{S:bp}{QO:Ou->bp->Prop}(h:W3 (F δ S) λo S1=>match o with | .nx δ1=>W3 (G δ1 S1) QO | .rt v=>QO (.rt v) S1):W3 (bq F G δ S) QO:=
 W3.bind (h.mono λo S1 q=>by cases o with | nx δ1=>exact q | rt v=>exact W3.ok q)
end MT
end
section
set_option maxHeartbeats 1000000
namespace JT
open PySem PySem.Spec PyProof.Rows L2 L3 MT
def gB(g:Gt)(ws:List Bool):Bool:=gv g.1$ g.2.1.map λn=>ws.getD n false
noncomputable def cu:List Gt->(Nat->Bool)->List Bool->List Bool
 | [],_,ws=>ws
 | g ::gs,T,ws=>cu gs (λi=>T$ i+1)$ ws++[gB g ws !=T 0]
def zE(g:Gt)(gs:List Gt)(T:Nat->Bool)(ws:List Bool):cu (g ::gs) T ws=cu gs (λi=>T$ i+1) (ws++[gB g ws !=T 0]):=rfl
theorem jt:∀(gs:List Gt) (T:Nat->Bool) (ws:List Bool),(cu gs T ws).length=ws.length+gs.length
 | [],_,_=>rfl
 | g ::gs,T,ws=>by
   unfold cu;rw[jt gs,Qai];simp;omega
theorem tL:∀(a b:List Gt) (T:Nat->Bool) (ws:List Bool),cu (a++b) T ws=cu b (λi=>T$ a.length+i) (cu a T ws)
 | [],b,T,ws=>by simp [cu]
 | g ::a,b,T,ws=>by
   rw[QaO,zE,zE,tL a b];have:(λi=>T$ a.length+i+1)=λi=>T ((g ::a).length+i):=by
    funext i;rw[Qao];congr 1;omega
   rw[this]
theorem nv:∀(gs:List Gt) {T U:Nat->Bool} (ws:List Bool),(∀i,i<gs.length->T i=U i)->cu gs T ws=cu gs U ws
 | [],_,_,_,_=>rfl
 | g ::gs,T,U,ws,h=>by
   unfold cu;rw[h 0$ by simp]
   exact nv gs _ λi hi=>h (i+1) (by simpa using hi)
def nD{l r:List Bool}{n:Nat}(h:n<l.length):(l++r).getD n false=l.getD n false:=by
 rw[Qag,Qax h,Qag]
def rH{l r:List Bool}{n:Nat}:(l++r).getD (l.length+n) false=r.getD n false:=by
 rw[Qag,Qaj (by omega),Qcu,Qag]
theorem tW:∀(gs:List Gt) (T:Nat->Bool) (ws:List Bool) {n:Nat},n<ws.length->(cu gs T ws).getD n false=ws.getD n false
 | [],_,_,_,_=>rfl
 | g ::gs,T,ws,n,h=>by
   unfold cu;rw[tW gs _ _ (by rw[Qai];omega),nD h]
noncomputable def js(f:Nat->Nat)(g:Gt):Gt:=(g.1,g.2.1.map f,g.2.2)
noncomputable def l7(f:Nat->Nat)(x:Str × List Nat):Str × List Nat:=(x.1,x.2.map f)
def Sh(f:Nat->Nat)(v ws:List Bool):Prop:=∀w,w<v.length->f w<ws.length/\ws.getD (f w) false=v.getD w false
def Rl{f:Nat->Nat}{v ws:List Bool}{g:Gt}(h:Sh f v ws)(hg:∀w∈g.2.1,w<v.length):gB (js f g) ws=gB g v:=by
 unfold gB js;simp;congr 1;refine QaS λw hw=>?_
 exact(h w$ hg w hw).2
def AV:∀(gs:List Gt) (T:Nat->Bool) (f:Nat->Nat) (v ws:List Bool),Sh f v ws->(∀i,i<gs.length->f (v.length+i)=ws.length+i)->(∀i g,gs[i]? =some g->∀w∈g.2.1,w<v.length+i)->
 Sh f (cu gs T v) (cu (gs.map$ js f) T ws)
 | [],_,_,_,_,h,_,_=>h
 | g ::gs,T,f,v,ws,h,hf,hg=>by
   rw[Qaz];unfold cu;rw[Rl h λw hw=>by have:=hg 0 g rfl w hw;omega]
   refine AV gs _ f _ _ (λw hw=>?_) (λi hi=>?_)$ λi x hx w hw=>?_
   .rw [Qai];by_cases q:w<v.length
    .obtain⟨h1,h2⟩:=h w q;exact⟨by omega,by rw[nD h1,nD q,h2]⟩
    .rw [Qai,Qao,Qbw] at hw;have e:w=v.length+0:=by omega
     subst e;rw[hf 0$ by simp]
     exact⟨by simp,by rw[rH,rH]⟩
   .rw [Qai,Qai,Qao,Qbw];have:=hf (i+1) (by simpa using hi)
    rw[show v.length+(0+1)+i=v.length+(i+1) by omega,this]
    omega
   .have:=hg (i+1) x (by simpa using hx) w hw
    rw[Qai,Qao,Qbw];omega
noncomputable def lI(p:Nat)(ws:List M):List Bool:=ws.map (· p)
def v_{p:Nat}{ws:List M}{n:Nat}:(lI p ws).getD n false=lF ws n p:=by
 unfold lI lF;rw[Qag,Qac,Qag];cases ws[n]? <;> rfl
def UG{p:Nat}{g:Gt}{ws:List M}:gF g ws p=gB g (lI p ws):=by
 unfold gF gB;congr 1;exact QaS λn _=>v_.symm
theorem LU{p:Nat}{gs:List Gt}{turned:List Int}{w0:List M}:∀i,i<=gs.length->lI p (EB gs turned w0 i)=cu (gs.take i) (λj=>turned.contains (j:Int)) (lI p w0)
 | 0,_=>by simp [EB,cu]
 | i+1,h=>by
   have h1:gs[i]? =some gs[i]:=Qab (by omega)
   unfold EB;rw[h1];rw[QaI,h1,tL,<-LU i (by omega),QaB,Qcl$ by omega]
   unfold lI;rw[Qam];show _++[gF gs[i] (EB gs turned w0 i) p !=turned.contains (i:Int)]=_;rw[UG];rfl
noncomputable def Ce:List (Str × Nat)->List Bool->List Bool
 | x ::ins,b ::bits=>List.replicate x.2 b++Ce ins bits
 | _,_=>[]
def wm(i:Str × Nat)(b:Bool)(a:Aac)(x:List Bool):Ce (i ::a) (b ::x)=List.replicate i.2 b++Ce a x:=rfl
noncomputable def cW(k:Nat)(bad:Nat->Bool):List Bool->List Bool
 | []=>[]
 | b ::bs=>(b !=bad k) ::cW (k+1) bad bs
def kO(bad:Nat->Bool)(k:Nat)(b:Bool)(bs:List Bool):cW k bad (b ::bs)=(b !=bad k) ::cW (k+1) bad bs:=rfl
theorem uk(bad:Nat->Bool):∀(k:Nat) (bs:List Bool),(cW k bad bs).length=bs.length
 | _,[]=>rfl
 | k,b ::bs=>by unfold cW;rw [Qao,uk bad (k+1) bs,Qao]
theorem uu(bad:Nat->Bool):∀(k:Nat) (a b:List Bool),cW k bad (a++b)=cW k bad a++cW (k+a.length) bad b
 | k,[],b=>by simp [cW]
 | k,x ::a,b=>by
   rw[QaO,kO,kO,uu bad (k+1) a b,Qao,QaO,show k+1+a.length=k+(a.length+1) by omega]
theorem wI{bad:Nat->Bool}:∀(k:Nat) (bs:List Bool),(∀n,n<bs.length->bad (k+n)=false)->cW k bad bs=bs
 | _,[],_=>rfl
 | k,b ::bs,h=>by
   unfold cW;rw[wI (k+1) bs λn hn=>by have:=h (n+1) (by simpa using hn);rw [show k+1+n=k+(n+1) by omega];exact this]
   have:=h 0 (by simp)
   rw[QcM] at this;rw[this];cases b <;> rfl
theorem pd{bad V9:Nat->Bool}:∀(k k':Nat) (bs:List Bool),(∀n,n<bs.length->bad (k+n)=V9 (k'+n))->cW k bad bs=cW k' V9 bs
 | _,_,[],_=>rfl
 | k,k',b ::bs,h=>by
   unfold cW;have h0:=h 0 (by simp)
   rw[QcM,QcM] at h0;rw[h0,pd (k+1) (k'+1) bs λn hn=>by
    have:=h (n+1) (by simpa using hn)
    rw[show k+1+n=k+(n+1) by omega,show k'+1+n=k'+(n+1) by omega];exact this]
theorem Bw:∀{a:Aac} {x:List Bool} (b:Aac) (y:List Bool),a.length=x.length->Ce (a++b) (x++y)=Ce a x++Ce b y
 | [],[],b,y,_=>rfl
 | [],_ ::_,_,_,h=>by simp at h
 | _ ::_,[],_,_,h=>by simp at h
 | i ::a,b0 ::x,b,y,h=>by
   rw[QaO,QaO,wm,wm,Bw b y (by simpa using h),QaL]
theorem sk:∀{a:Aac} {x:List Bool},a.length=x.length->(Ce a x).length=dk a
 | [],[],_=>rfl
 | [],_ ::_,h=>by simp at h
 | _ ::_,[],h=>by simp at h
 | i ::a,b ::x,h=>by
   unfold Ce;rw[Qai,Qba,sk$ by simpa using h]
   unfold dk;rw[Qaz,Qbu]
theorem DS{p:Nat}{bad:List Int}{b:M}:∀(n:Nat) (ws:List M),lI p (qu bad b n ws)=lI p ws++cW ws.length (λk=>bad.contains (k:Int)) (List.replicate n$ b p)
 | 0,ws=>by simp [qu,cW]
 | n+1,ws=>by
   unfold qu lI;rw[Qam];have ih:=DS (p:=p) (bad:=bad) (b:=b) n ws;unfold lI at ih;rw[ih,QaL,List.replicate_succ',uu,Qba,mK];rfl
theorem Hd{p:Nat}{ins:Aac}{bits:List M}{bad:List Int}(hb:bits.length=ins.length):∀i,i<=ins.length->lI p (mj ins bits bad i)=cW 0 (λk=>bad.contains (k:Int)) (Ce (ins.take i)$ (lI p bits).take i)
 | 0,_=>by simp [mj,Ce,cW,lI]
 | i+1,h=>by
   have h1:ins[i]? =some ins[i]:=Qab (by omega)
   have h2:bits[i]? =some bits[i]:=Qab (by omega)
   unfold mj;rw[h1,h2];have h3:(lI p bits)[i]? =some (bits[i] p):=by unfold lI;rw [Qac,h2];rfl
   have hl:(ins.take i).length=((lI p bits).take i).length:=by unfold lI;rw [QaB,QaB,Qaa,hb]
   rw[DS,Hd hb i (by omega),QaI,QaI,h1,h3,tu hb i$ by omega]
   rw[Bw _ _ hl,uu,sk hl,QcI];congr 2;simp [Ce]
def lp(ins:Aac)(gs:List Gt)(bits:List Bool)(T bad:Nat->Bool):List Bool:=cu gs T$ cW 0 bad$ Ce ins bits
def N3{p:Nat}{ins:Aac}{gs:List Gt}{bits:List M}{turned bad:List Int}(hb:bits.length=ins.length):lI p (HY ins gs bits turned bad)=lp ins gs (lI p bits) (λi=>turned.contains (i:Int)) (λi=>bad.contains (i:Int)):=by
 unfold HY lp;rw[LU _$ Qak _,QaY,Hd hb _$ Qak _,QaY];congr 3;unfold lI;rw[QaQ$ by rw[Qaa];omega]
noncomputable def bJ(ws:List Bool)(ns:List Nat):List Bool:=ns.map λn=>ws.getD n false
noncomputable def eK(f:Nat->List Bool):List (Option Nat × Nat)->List Bool->List Bool
 | [],_=>[]
 | (some o,_) ::r,l=>f o++eK f r l
 | (none,w) ::r,l=>l.take w++eK f r (l.drop w)
noncomputable def dc(f1:Nat->Nat)(os:Nat->List Nat):List (Option Nat × Nat)->Nat->List Nat
 | [],_=>[]
 | (some o,_) ::r,free=>(os o).map f1++dc f1 os r free
 | (none,w) ::r,free=>List.range' free w++dc f1 os r (free+w)
noncomputable def bf:List (Option Nat × Nat)->Nat
 | []=>0
 | (some _,_) ::r=>bf r
 | (none,w) ::r=>w+bf r
def xg{f1:Nat->Nat}{os:Nat->List Nat}{W V:List Bool}:∀(φ:List (Option Nat × Nat)) (free:Nat) (l:List Bool),(∀o w,(some o,w)∈φ->∀n∈os o,f1 n<W.length/\W.getD (f1 n) false=V.getD n false)->(∀j,j<l.length->free+j<W.length/\W.getD (free+j) false=l.getD j false)->bf φ<=l.length->
 (∀n∈dc f1 os φ free,n<W.length)/\bJ W (dc f1 os φ free)=eK (λo=>bJ V$ os o) φ l
 | [],_,_,_,_,_=>⟨by simp [dc],rfl⟩
 | (some o,w) ::r,free,l,h1,h2,h3=>by
   obtain⟨i1,i2⟩:=xg r free l (λo w h=>h1 o w$ Qad _ h) h2 h3
   have h0:=h1 o w Qan;unfold dc eK;refine⟨λn hn=>?_,?_⟩
   .rcases QaU.mp hn with z | z
    .obtain⟨m,hm,rfl⟩:=QaC.mp z;exact(h0 m hm).1
    .exact i1 n z
   .unfold bJ at i2 ⊢;rw[Qam,i2,Qar];congr 1;exact QaS λn hn=>(h0 n hn).2
 | (none,w) ::r,free,l,h1,h2,h3=>by
   unfold bf at h3;obtain⟨i1,i2⟩:=xg r (free+w) (l.drop w) (λo w h=>h1 o w$ Qad _ h) (λj hj=>by
    rw[Qbm] at hj;have:=h2 (w+j) (by omega)
    rw[show free+w+j=free+(w+j) by omega]
    refine⟨this.1,this.2.trans ?_⟩;rw[Qag,Qag,List.getElem?_drop]) (by rw[Qbm];omega)
   unfold dc eK;refine⟨λn hn=>?_,?_⟩
   .rcases QaU.mp hn with z | z
    .obtain⟨j,hj,rfl⟩:=QbI.mp z;rw[Nat.one_mul];exact(h2 j$ by omega).1
    .exact i1 n z
   .unfold bJ at i2 ⊢;rw[Qam,i2];congr 1;refine List.ext_getElem (by rw[Qaa,Qa3,QaB];omega) λj WQ Yo=>?_
    rw[Qaa,Qa3] at WQ;rw[QcB,List.getElem_range',Nat.one_mul,(h2 j$ by omega).2,List.getElem_take,Qag,Qab$ by omega]
    rfl
theorem kI{f1:Nat->Nat}{os:Nat->List Nat}:∀(φ:List (Option Nat × Nat)) (free:Nat),(∀o w,(some o,w)∈φ->(os o).length=w)->(dc f1 os φ free).length=(φ.map (·.2)).sum
 | [],_,_=>rfl
 | (some o,w) ::r,free,h=>by
   unfold dc;rw[Qai,Qaa,h o w Qan,kI r free λo w hh=>h o w$ Qad _ hh,Qaz,Qbu]
 | (none,w) ::r,free,h=>by
   unfold dc;rw[Qai,Qa3,kI r (free+w) λo w hh=>h o w$ Qad _ hh,Qaz,Qbu]
noncomputable def rD(n1 l w:Nat):Nat:=if w<n1 then w else w+l
noncomputable def Ga(L:List Nat)(top w:Nat):Nat:=if w<L.length then L.getD w 0 else top+(w - L.length)
section
variable {gs1 cC:List Gt}{φ:List (Option Nat × Nat)}{os:Nat->List Nat}{n1:Nat}{r1 rl:List Bool}{T:Nat->Bool}
def gJ(gs1 cC:List Gt)(φ:List (Option Nat × Nat))(os:Nat->List Nat)(n1:Nat):List Gt:=
 gs1.map (js$ rD n1$ bf φ)++cC.map (js$ Ga (dc (rD n1$ bf φ) os φ n1)$ n1+bf φ+gs1.length)
def Fz(h1:r1.length=n1)(hl:rl.length=bf φ)(Qq:∀i g,gs1[i]? =some g->∀w∈g.2.1,w<n1+i)(ho:∀o w,(some o,w)∈φ->(os o).length=w/\∀n∈os o,n<n1+gs1.length)
 (Jy:∀i g,cC[i]? =some g->∀w∈g.2.1,w<(φ.map (·.2)).sum+i) :
 let W:=cu (gJ gs1 cC φ os n1) T$ r1++rl
 let W1:=cu gs1 T r1
 Sh (rD n1$ bf φ) W1 W/\Sh (Ga (dc (rD n1$ bf φ) os φ n1)$ n1+bf φ+gs1.length) (cu cC (λi=>T$ gs1.length+i)$ eK (λo=>bJ W1$ os o) φ rl) W:=by
 intro W W1;have e:W=cu (cC.map$ js$ Ga (dc (rD n1$ bf φ) os φ n1)$ n1+bf φ+gs1.length) (λi=>T$ gs1.length+i) (cu (gs1.map$ js$ rD n1$ bf φ) T$ r1++rl):=by
  show cu (gs1.map _++cC.map _) T (r1++rl)=_;rw[tL,Qaa]
 have s1:Sh (rD n1$ bf φ) W1 (cu (gs1.map$ js$ rD n1$ bf φ) T$ r1++rl):=by
  refine AV gs1 T _ r1 (r1++rl) (λw hw=>?_) (λi hi=>?_) λi g hx w hw=>by rw[h1];exact Qq i g hx w hw
  .unfold rD;rw[QaK$ by omega]
   exact⟨by rw[Qai];omega,nD hw⟩
  .unfold rD;rw[QaH (by omega),Qai]
   omega
 have hW1:W1.length=n1+gs1.length:=by rw[jt,h1]
 generalize hV:cu (gs1.map$ js$ rD n1$ bf φ) T (r1++rl)=V at s1 e;have hVl:V.length=n1+bf φ+gs1.length:=by rw[<-hV,jt,Qai,Qaa,h1,hl]
 obtain⟨a1,a2⟩:=xg φ n1 rl (λo w h n hn=>s1 n$ by rw[hW1];exact(ho o w h).2 n hn) (λj hj=>by
  refine⟨by rw[hVl];omega,?_⟩
  rw[<-hV,tW _ _ _ (by rw[Qai];omega),<-h1,rH]) (by omega)
 have hL:=kI (f1:=rD n1$ bf φ) φ n1 λo w h=>(ho o w h).1
 generalize dc (rD n1$ bf φ) os φ n1=L at a1 a2 hL e ⊢;have hm:(eK (λo=>bJ W1$ os o) φ rl).length=L.length:=by rw[<-a2];unfold bJ;rw [Qaa]
 have s2:Sh (Ga L$ n1+bf φ+gs1.length) (eK (λo=>bJ W1$ os o) φ rl) V:=λw hw=>by
  rw[hm] at hw;unfold Ga;rw[QaK hw];have e1:L.getD w 0=L[w]:=by rw[Qag,Qab hw];rfl
  refine⟨by rw[e1];exact a1 _$ Qa7 hw,?_⟩
  rw[<-a2,e1];unfold bJ;rw[Qag (l:=L.map _),Qac,Qab hw];rfl
 have s3:=AV cC (λi=>T$ gs1.length+i) _ _ V s2 (λi hi=>by
  unfold Ga;rw[hm,QaH (by omega),hVl]
  omega) λi g hx w hw=>by rw[hm,hL];exact Jy i g hx w hw
 rw[<-e] at s3;refine⟨λw hw=>?_,s3⟩
 obtain⟨q1,q2⟩:=s1 w hw;rw[e];exact⟨by rw[jt];omega,by rw[tW _ _ _ q1,q2]⟩
def DU{f:Nat->Nat}{v ws:List Bool}{ns:List Nat}(h:Sh f v ws)(hn:∀n∈ns,n<v.length):bJ ws (ns.map f)=bJ v ns:=by
 unfold bJ;rw[Qar];exact QaS λn Tb=>(h n$ hn n Tb).2
end
noncomputable def jX(bits:List Bool):List Bool:=bits.flatMap$ List.replicate 3
noncomputable def XA:List Bool->Bool
 | [a,b,c]=>(a && b) || (a && c) || (b && c)
 | _=>false
noncomputable def A5:List Bool->Bool
 | [a,b,c]=>(a !=b) || (a !=c)
 | _=>false
noncomputable def Zh(xs ys:List Bool):List Bool:=List.zipWith (· !=·) xs ys
def lst(xs ys:List Bool):Bool:=XA$ Zh xs ys
def nB:List Bool->List Bool->Prop
 | [],r=>r=[]
 | b ::bs,r=>∃x y z r',r=x ::y ::z ::r'/\XA [b !=x,b !=y,b !=z]=false/\nB bs r'
noncomputable def no:Nat->Bool:=λ_=>false
structure yF (c:Nat) (gs:List Gt) (os:Aad):Prop where
 a:∀bits:List Bool,bits.length=c->∀x∈os,A5 (bJ (cu gs no (jX bits)) x.2)=false
 b:∀bits:List Bool,bits.length=c->∀i g,gs[i]? =some g->g.2.2=false->∀x∈os,lst (bJ (cu gs no (jX bits)) x.2) (bJ (cu gs (fun j=>j==i) (jX bits)) x.2)=false
 c:∀bits row:List Bool,bits.length=c->nB bits row->∀x∈os,lst (bJ (cu gs no (jX bits)) x.2) (bJ (cu gs no row) x.2)=false
theorem lj:∀bits:List Bool,nB bits (jX bits)
 | []=>rfl
 | b ::bs=>⟨b,b,b,jX bs,rfl,by cases b <;> rfl,lj bs⟩
theorem pB:∀{bits row:List Bool},nB bits row->row.length=3*bits.length
 | [],r,h=>by rw[show r=[] from h];rfl
 | b ::bs,r,⟨x,y,z,r',e,_,h⟩=>by rw[e];simp;rw [pB h];omega
theorem DK:∀{a b r s:List Bool},nB a r->nB b s->nB (a++b) (r++s)
 | [],b,r,s,h,h2=>by rw[show r=[] from h];exact h2
 | x0 ::a,b,r,s,⟨x,y,z,r',e,m,h⟩,h2=>⟨x,y,z,r'++s,by rw[e];rfl,m,DK h h2⟩
def G_(a b:List Bool):jX (a++b)=jX a++jX b:=by unfold jX;rw [QbX]
def sJ(a:List Bool):(jX a).length=3*a.length:=pB$ lj a
def HW{xs:List Bool}(hl:xs.length=3)(h:A5 xs=false):∃v,xs=[v,v,v]:=by
 match xs,hl with
 | [a,b,c],_=>
   unfold A5 at h;refine⟨a,?_⟩
   revert h
   cases a <;> cases b <;> cases c <;> simp
def wV{xs:List Bool}(hl:xs.length=3):lst xs xs=false:=by
 match xs,hl with
 | [a,b,c],_=>cases a <;> cases b <;> cases c <;> rfl
noncomputable def fB(v:Nat->Bool):List (Option Nat × Nat)->List Bool->List Bool
 | [],_=>[]
 | (some o,_) ::r,l=>v o ::fB v r l
 | (none,_) ::r,l=>l.headD false ::fB v r l.tail
noncomputable def many:List (Option Nat × Nat)->Nat
 | []=>0
 | (some _,_) ::r=>many r
 | (none,_) ::r=>many r+1
theorem pC{v:Nat->Bool}{f:Nat->List Bool}:∀(φ:List (Option Nat × Nat)) {l r:List Bool},(∀x∈φ,x.2=3)->l.length=many φ->nB l r->(∀o w,(some o,w)∈φ->nB [v o] (f o))->nB (fB v φ l) (eK f φ r)/\(fB v φ l).length=φ.length
 | [],l,r,_,_,_,_=>⟨rfl,rfl⟩
 | (some o,w) ::φ,l,r,h3,hl,hn,hf=>by
   obtain⟨a,b⟩:=pC φ (λx hx=>h3 x$ Qad _ hx) hl hn λo w h=>hf o w$ Qad _ h
   unfold fB eK;exact⟨DK (hf o w Qan) a,by rw[Qao,b,Qao]⟩
 | (none,w) ::φ,l,r,h3,hl,hn,hf=>by
   have hw:w=3:=h3 (none,w) Qan;subst hw;cases l with
   | nil=>unfold many at hl;simp at hl
   | cons b0 l=>
     obtain⟨x,y,z,r',rfl,m,Tb⟩:=hn;unfold many at hl;obtain⟨a,b⟩:=pC φ (λx hx=>h3 x$ Qad _ hx) (by simpa using hl) Tb λo w h=>hf o w$ Qad _ h
     unfold fB eK;exact⟨⟨x,y,z,_,rfl,m,a⟩,by rw[Qao,Qao];exact Qbh (·+1) b⟩
theorem wc{v:Nat->Bool}{f:Nat->List Bool}:∀(φ:List (Option Nat × Nat)) {l:List Bool},(∀x∈φ,x.2=3)->l.length=many φ->(∀o w,(some o,w)∈φ->f o=[v o,v o,v o])->eK f φ (jX l)=jX (fB v φ l)
 | [],l,_,_,_=>rfl
 | (some o,w) ::φ,l,h3,hl,hf=>by
   unfold fB eK;rw[wc φ (λx hx=>h3 x$ Qad _ hx) hl λo w h=>hf o w$ Qad _ h,hf o w Qan]
   rfl
 | (none,w) ::φ,l,h3,hl,hf=>by
   have hw:w=3:=h3 (none,w) Qan;subst hw;cases l with
   | nil=>unfold many at hl;simp at hl
   | cons b0 l=>
     unfold many at hl;have:=wc φ (λx hx=>h3 x$ Qad _ hx) (by simpa using hl) λo w h=>hf o w$ Qad _ h
     show [b0,b0,b0]++eK f φ (jX l)=jX (b0 ::fB v φ l);rw[this];rfl
theorem wG:∀{a b r:List Bool},nB (a++b) r->∃r1 rl,r=r1++rl/\nB a r1/\nB b rl
 | [],b,r,h=>⟨[],r,rfl,rfl,h⟩
 | x0 ::a,b,r,⟨x,y,z,r',e,m,h⟩=>by
   obtain⟨r1,rl,e2,h1,h2⟩:=wG h;exact⟨x ::y ::z ::r1,rl,by rw[e,e2];rfl,⟨x,y,z,r1,rfl,m,h1⟩,h2⟩
def JX{v:Bool}{ys:List Bool}(hl:ys.length=3)(h:lst [v,v,v] ys=false):nB [v] ys:=by
 match ys,hl with
 | [a,b,c],_=>exact⟨a,b,c,[],rfl,h,rfl⟩
theorem pJ:∀{φ:List (Option Nat × Nat)},(∀x∈φ,x.2=3)->bf φ=3*many φ
 | [],_=>rfl
 | (some o,w) ::φ,h=>by unfold bf many;exact pJ λx hx=>h x$ Qad _ hx
 | (none,w) ::φ,h=>by
   unfold bf many;rw[pJ λx hx=>h x$ Qad _ hx,show w=3 from h (none,w) Qan]
   omega
theorem ua:∀{φ:List (Option Nat × Nat)},(∀x∈φ,x.2=3)->(φ.map (·.2)).sum=3*φ.length
 | [],_=>rfl
 | (o,w) ::φ,h=>by
   rw[Qaz,Qbu,ua λx hx=>h x$ Qad _ hx,show w=3 from h (o,w) Qan,Qao]
   omega
structure WC (c1:Nat) (gs1 cC:List Gt) (bC dG:Aad) (φ:List (Option Nat × Nat)) (os:Nat->List Nat):Prop where
 h3:∀x∈φ,x.2=3
 g1:∀i g,gs1[i]? =some g->∀w∈g.2.1,w<3*c1+i
 g2:∀i g,cC[i]? =some g->∀w∈g.2.1,w<3*φ.length+i
 o1:∀x∈bC,x.2.length=3/\∀n∈x.2,n<3*c1+gs1.length
 o2:∀x∈dG,x.2.length=3/\∀n∈x.2,n<3*φ.length+cC.length
 ho:∀o w,(some o,w)∈φ->∃x∈bC,x.2=os o
section
variable {c1:Nat}{gs1 cC:List Gt}{bC dG osJ:Aad}{φ:List (Option Nat × Nat)}{os:Nat->List Nat}
abbrev Wy(c1:Nat)(φ:List (Option Nat × Nat)):Nat->Nat:=rD (3*c1)$ bf φ
abbrev Yc(c1:Nat)(gs1:List Gt)(φ:List (Option Nat × Nat))(os:Nat->List Nat):Nat->Nat:=Ga (dc (Wy c1 φ) os φ$ 3*c1)$ 3*c1+bf φ+gs1.length
def WC.run(J:WC c1 gs1 cC bC dG φ os){r1 rl:List Bool}{T:Nat->Bool}(h1:r1.length=3*c1)(hl:rl.length=3*many φ) :
 (∀y∈bC,bJ (cu (gJ gs1 cC φ os$ 3*c1) T$ r1++rl) (y.2.map$ Wy c1 φ)=bJ (cu gs1 T r1) y.2)/\
 (∀y∈dG,bJ (cu (gJ gs1 cC φ os$ 3*c1) T$ r1++rl) (y.2.map$ Yc c1 gs1 φ os)=bJ (cu cC (λi=>T$ gs1.length+i)$ eK (λo=>bJ (cu gs1 T r1)$ os o) φ rl) y.2):=by
 have hm:∀{f:Nat->List Bool} {r:List Bool},(∀o w,(some o,w)∈φ->(f o).length=3)->r.length=3*many φ->(eK f φ r).length=3*φ.length:=by
  have h3:=J.h3;intro f
  clear hl J
  induction φ with
  | nil=>intro r _ _;rfl
  | cons x φ ih=>
    intro r hf hr;obtain⟨o,w⟩:=x;have hw:w=3:=h3 (o,w) Qan;subst hw;cases o with
    | none=>
      unfold many at hr;unfold eK;rw[Qai,ih (λx hx=>h3 x$ Qad _ hx) (λo w h=>hf o w$ Qad _ h) (by rw[Qbm];omega),QaB,Qao]
      omega
    | some o=>
      unfold eK;rw[Qai,ih (λx hx=>h3 x$ Qad _ hx) (λo w h=>hf o w$ Qad _ h) hr,hf o 3 Qan,Qao]
      omega
 have hlen:∀o w,(some o,w)∈φ->(os o).length=w/\∀n∈os o,n<3*c1+gs1.length:=λo w h=>by
  obtain⟨x,hx,e⟩:=J.ho o w h;rw[<-e,show w=3 from J.h3 _ h]
  exact J.o1 x hx
 obtain⟨s1,s2⟩:=Fz (φ:=φ) h1 (by rw[hl,pJ J.h3]) J.g1 hlen λi g hx w hw=>by rw[ua J.h3];exact J.g2 i g hx w hw
 refine⟨λy hy=>DU s1 λn hn=>?_,λy hy=>DU s2 λn hn=>?_⟩
 .rw [jt,h1];exact(J.o1 y hy).2 n hn
 .rw [jt,hm (λo w h=>by unfold bJ;rw [Qaa,(hlen o w h).1];exact J.h3 _ h) hl]
  exact(J.o2 y hy).2 n hn
def VP(c1:Nat)(gs1:List Gt)(bC dG osJ:Aad)(φ:List (Option Nat × Nat))(os:Nat->List Nat):Prop:=
 ∀x∈osJ,(∃y∈bC,x.2=y.2.map (Wy c1 φ))\/∃y∈dG,x.2=y.2.map (Yc c1 gs1 φ os)
def mP(ws:List Bool)(ns:List Nat):(bJ ws ns).length=ns.length:=by unfold bJ;rw [Qaa]
def HD(J:WC c1 gs1 cC bC dG φ os)(K1:yF c1 gs1 bC)(K2:yF φ.length cC dG)(hO:VP c1 gs1 bC dG osJ φ os):yF (c1+many φ) (gJ gs1 cC φ os$ 3*c1) osJ:=by
 have split:∀bits:List Bool,bits.length=c1+many φ->∃b1 bl,bits=b1++bl/\b1.length=c1/\bl.length=many φ:=λbits h=>⟨bits.take c1,bits.drop c1,(List.take_append_drop c1 bits).symm,by rw[QaB];omega,by rw[Qbm];omega⟩
 have os3:∀o w,(some o,w)∈φ->(os o).length=3:=λo w h=>by
  obtain⟨x,hx,e⟩:=J.ho o w h;rw[<-e];exact(J.o1 x hx).1
 have val:∀b1:List Bool,b1.length=c1->∃v:Nat->Bool,∀o w,(some o,w)∈φ->bJ (cu gs1 no$ jX b1) (os o)=[v o,v o,v o]:=λb1 h=>by
  refine⟨λo=>(bJ (cu gs1 no$ jX b1)$ os o).headD false,λo w ho=>?_⟩
  obtain⟨x,hx,e⟩:=J.ho o w ho;obtain⟨v,hv⟩:=HW ((mP _ _).trans$ os3 o w ho) (by rw[<-e];exact K1.a b1 h x hx)
  show bJ (cu gs1 no$ jX b1) (os o)=[(bJ (cu gs1 no$ jX b1)$ os o).headD false,(bJ (cu gs1 no$ jX b1)$ os o).headD false,(bJ (cu gs1 no$ jX b1)$ os o).headD false];rw[hv];rfl
 have noS:(λi=>no$ gs1.length+i)=no:=rfl
 have clean:∀b1 bl:List Bool,b1.length=c1->bl.length=many φ->∀v:Nat->Bool,(∀o w,(some o,w)∈φ->bJ (cu gs1 no$ jX b1) (os o)=[v o,v o,v o])->
  (∀y∈bC,bJ (cu (gJ gs1 cC φ os$ 3*c1) no$ jX$ b1++bl) (y.2.map$ Wy c1 φ)=bJ (cu gs1 no$ jX b1) y.2)/\
  (∀y∈dG,bJ (cu (gJ gs1 cC φ os$ 3*c1) no$ jX$ b1++bl) (y.2.map$ Yc c1 gs1 φ os)=bJ (cu cC no$ jX$ fB v φ bl) y.2):=λb1 bl h1 hl v hv=>by
  obtain⟨a1,a2⟩:=J.run (by rw[sJ,h1]) (by rw[sJ,hl])
  rw[G_];refine⟨a1,λy hy=>?_⟩
  rw[a2 y hy,noS,wc φ J.h3 hl hv]
 have far:∀b1 bl r1 rl:List Bool,∀T:Nat->Bool,b1.length=c1->bl.length=many φ->r1.length=3*c1->nB bl rl->∀v:Nat->Bool,(∀o w,(some o,w)∈φ->bJ (cu gs1 no$ jX b1) (os o)=[v o,v o,v o])->
  (∀y∈bC,lst (bJ (cu gs1 no$ jX b1) y.2) (bJ (cu gs1 T r1) y.2)=false)->nB (fB v φ bl) (eK (λo=>bJ (cu gs1 T r1)$ os o) φ rl)/\(fB v φ bl).length=φ.length:=λb1 bl r1 rl T h1 hl hr hn v hv hk=>by
  refine pC φ J.h3 hl hn λo w ho=>?_
  obtain⟨x,hx,e⟩:=J.ho o w ho;have:=hk x hx;rw[e,hv o w ho] at this;exact JX (by rw[mP,os3 o w ho]) this
 refine⟨λbits hb x hx=>?_,λbits hb i g hg hs x hx=>?_,λbits row hb hn x hx=>?_⟩
 .obtain⟨b1,bl,rfl,h1,hl⟩:=split bits hb;obtain⟨v,hv⟩:=val b1 h1;obtain⟨q1,q2⟩:=clean b1 bl h1 hl v hv;have hbl:(fB v φ bl).length=φ.length:=(pC φ J.h3 hl (lj bl) λo w _=>lj [v o]).2
  rcases hO x hx with⟨y,hy,e⟩ | ⟨y,hy,e⟩
  .rw [e,q1 y hy];exact K1.a b1 h1 y hy
  .rw [e,q2 y hy];exact K2.a _ hbl y hy
 .obtain⟨b1,bl,rfl,h1,hl⟩:=split bits hb;obtain⟨v,hv⟩:=val b1 h1;obtain⟨q1,q2⟩:=clean b1 bl h1 hl v hv;have hbl:(fB v φ bl).length=φ.length:=(pC φ J.h3 hl (lj bl) λo w _=>lj [v o]).2
  obtain⟨a1,a2⟩:=J.run (by rw[sJ,h1]) (by rw[sJ,hl])
  rw[<-G_] at a1 a2;unfold gJ at hg;by_cases hi:i<gs1.length
  .rw [Qax (by rw[Qaa];exact hi),Qac] at hg
   cases Qq:gs1[i]? with
   | none=>rw [Qq] at hg;cases hg
   | some g1=>
     rw[Qq] at hg;cases hg;have k1:=K1.b b1 h1 i g1 Qq hs;rcases hO x hx with⟨y,hy,e⟩ | ⟨y,hy,e⟩
     .rw [e,q1 y hy,a1 y hy];exact k1 y hy
     .rw [e,q2 y hy,a2 y hy];have eT:cu cC (λj=>gs1.length+j==i)=cu cC no:=by
       funext ws;exact nv cC ws λj _=>by show(gs1.length+j==i)=false;exact QaZ.mpr (by omega)
      rw[eT];obtain⟨n1,n2⟩:=far b1 bl (jX b1) (jX bl) (λj=>j==i) h1 hl (by rw[sJ,h1]) (lj bl) v hv k1
      exact K2.c _ _ n2 n1 y hy
  .rw [Qaj (by rw[Qaa];omega),Qaa,Qac] at hg
   cases Jy:cC[i - gs1.length]? with
   | none=>rw [Jy] at hg;cases hg
   | some g2=>
     rw[Jy] at hg;cases hg;have eT1:cu gs1 (λj=>j==i) (jX b1)=cu gs1 no (jX b1):=nv gs1 _ λj hj=>by show(j==i)=false;exact QaZ.mpr (by omega)
     rcases hO x hx with⟨y,hy,e⟩ | ⟨y,hy,e⟩
     .rw [e,q1 y hy,a1 y hy,eT1];exact wV (by rw[mP,(J.o1 y hy).1])
     .rw [e,q2 y hy,a2 y hy,eT1,wc φ J.h3 hl hv];have eT:cu cC (λj=>gs1.length+j==i)=cu cC λj=>j==i - gs1.length:=by
       funext ws;exact nv cC ws λj _=>by
        by_cases z:j=i - gs1.length
        .rw [Qbj.mpr z,Qbj.mpr$ by omega]
        .rw [QaZ.mpr z,QaZ.mpr$ by omega]
      rw[eT];exact K2.b _ hbl _ g2 Jy hs y hy
 .obtain⟨b1,bl,rfl,h1,hl⟩:=split bits hb;obtain⟨v,hv⟩:=val b1 h1;obtain⟨q1,q2⟩:=clean b1 bl h1 hl v hv;obtain⟨r1,rl,rfl,n1,nl⟩:=wG hn;obtain⟨a1,a2⟩:=J.run (by rw[pB n1,h1]) (by rw[pB nl,hl])
  have k1:=K1.c b1 r1 h1 n1;rcases hO x hx with⟨y,hy,e⟩ | ⟨y,hy,e⟩
  .rw [e,q1 y hy,a1 y hy];exact k1 y hy
  .rw [e,q2 y hy,a2 y hy,noS];obtain⟨m1,m2⟩:=far b1 bl r1 rl no h1 hl (by rw[pB n1,h1]) nl v hv k1
   exact K2.c _ _ m2 m1 y hy
end
noncomputable def dJ:Nat->List (List Bool)
 | 0=>[[]]
 | c+1=>(dJ c).flatMap λb=>[b++[false],b++[true]]
theorem cO:∀c,(dJ c).length=2 ^ c
 | 0=>rfl
 | c+1=>by
   unfold dJ;rw[QbL];have:(dJ c).map (λb=>[b++[false],b++[true]].length)=(dJ c).map λ_=>2:=rfl
   rw[this,List.map_const',List.sum_replicate_nat,cO c];omega
theorem iV:∀c,∀b∈dJ c,b.length=c
 | 0,b,h=>by unfold dJ at h;rw [Qa8.mp h];rfl
 | c+1,b,h=>by
   obtain⟨a,ha,hb⟩:=Qca.mp h;have:=iV c a ha;simp at hb;rcases hb with rfl | rfl <;> simp [this]
theorem zV:∀c (b:List Bool),b.length=c->b∈dJ c
 | 0,b,h=>by rw[List.length_eq_zero_iff.mp h];unfold dJ;simp
 | c+1,b,h=>by
   have zm:b≠[]:=λe=>by rw[e] at h;cases h
   refine Qca.mpr ⟨b.dropLast,zV c _ (by rw[List.length_dropLast];omega),?_⟩
   have e:=List.dropLast_concat_getLast zm;cases q:b.getLast zm with
   | false=>rw [q] at e;rw [e];simp
   | true=>rw [q] at e;rw [e];simp
def Tn(c j:Nat):M:=λp=>((dJ c).getD p []).getD j false
def uE(c:Nat):List M:=(List.range c).map$ Tn c
def o4{c:Nat}:(uE c).length=c:=by unfold uE;simp
def iO(c p:Nat):List Bool:=(dJ c).getD p []
def eh{c p:Nat}(h:p<2 ^ c):(iO c p).length=c:=by
 unfold iO;rw[Qag,Qab$ by rw[cO];exact h]
 exact iV c _$ Qa7 _
def JM{c p:Nat}(h:p<2 ^ c):lI p (uE c)=iO c p:=by
 unfold lI uE;rw[Qar];refine List.ext_getElem (by rw[Qaa,Qaq,eh h]) λj h1 h2=>?_
 rw[QcB,Qbp];show(iO c p).getD j false=_;rw[Qag,Qab h2];rfl
def t_{c:Nat}{b:List Bool}(h:b.length=c):∃p,p<2 ^ c/\iO c p=b:=by
 obtain⟨p,hp,e⟩:=Qcf$ zV c b h;refine⟨p,by rw[<-cO];exact hp,?_⟩
 unfold iO;rw[Qag,Qab hp,e];rfl
noncomputable def tU(f e:Nat):Nat->Aae
 | 0=>[[]]
 | m+1=>(List.range' f$ e - f).flatMap λw=>(tU ((w / 3+1)*3) e m).map (w ::·)
def II(f e:Nat):List Nat->Prop
 | []=>True
 | w ::B=>f<=w/\w<e/\II ((w / 3+1)*3) e B
theorem sj{e:Nat}:∀{m f:Nat} {B:List Nat},B∈tU f e m↔B.length=m/\II f e B
 | 0,f,B=>by
   unfold tU;rw[Qa8];constructor
   .rintro rfl;exact⟨rfl,trivial⟩
   .rintro⟨h,_⟩;exact List.length_eq_zero_iff.mp h
 | m+1,f,B=>by
   unfold tU;rw[Qca];constructor
   .rintro⟨w,hw,h⟩;obtain⟨B',hB,rfl⟩:=QaC.mp h;obtain⟨h1,h2⟩:=sj.mp hB;obtain⟨i,hi,rfl⟩:=QbI.mp hw;exact⟨by rw[Qao,h1],by omega,by omega,h2⟩
   .rintro⟨h,hk⟩;cases B with
    | nil=>simp at h
    | cons w B=>
      obtain⟨h1,h2,h3⟩:=hk;exact⟨w,QbI.mpr ⟨w - f,by omega,by omega⟩,QaC.mpr ⟨B,sj.mpr ⟨by simpa using h,h3⟩,rfl⟩⟩
theorem II.mono{e f f':Nat}(h:f<=f'):∀{B:List Nat},II f' e B->II f e B
 | [],_=>trivial
 | w ::B,⟨h1,h2,h3⟩=>⟨by omega,h2,h3⟩
theorem II.ge{e:Nat}:∀{B:List Nat} {f:Nat},II f e B->∀w∈B,f<=w/\w<e
 | [],_,_,w,h=>by cases h
 | v ::B,f,⟨h1,h2,h3⟩,w,h=>by
   rcases QaE.mp h with rfl | h
   .exact⟨h1,h2⟩
   .have:=II.ge h3 w h;omega
def j6{B:List Nat}{n:Nat}(h:∀w∈B,w≠n):B.contains n=false:=by
 cases q:B.contains n with
 | false=>rfl
 | true=>exact absurd rfl (h n$ by simpa using q)
def gU{B:List Nat}{w n:Nat}:(w ::B).contains n=(decide (w=n) || B.contains n):=by
 rw[Qb4];congr 1;by_cases h:w=n
 .rw [Qat h,Qbj.mpr h.symm]
 .rw [Qaw h,QaZ.mpr λz=>h z.symm]
def vP{k:Nat}{b:Bool}{bad:Nat->Bool}{bs:List Bool}:cW (3*k) bad (jX (b ::bs))=(b !=bad (3*k)) ::(b !=bad (3*k+1)) ::(b !=bad (3*k+2)) ::cW (3*(k+1)) bad (jX bs):=by
 show cW (3*k) bad (b ::b ::b ::jX bs)=_;rw[kO,kO,kO,show 3*k+1+1+1=3*(k+1) by omega]
theorem Cm:∀{bits row:List Bool} (k:Nat),nB bits row->∃B:List Nat,B.length<=bits.length/\II (3*k) (3*(k+bits.length)) B/\cW (3*k) (λn=>B.contains n) (jX bits)=row
 | [],row,k,h=>⟨[],Qak _,trivial,by rw[show row=[] from h];rfl⟩
 | b ::bs,row,k,⟨x,y,z,r',e,m,h⟩=>by
   obtain⟨B,h1,h2,h3⟩:=Cm (k+1) h;have he:3*(k+1+bs.length)=3*(k+(b ::bs).length):=by rw[Qao];omega
   rw[he] at h2;have ge:=h2.ge;have n0:B.contains (3*k)=false:=j6 λw hw z=>by have:=ge w hw;omega
   have n1:B.contains (3*k+1)=false:=j6 λw hw z=>by have:=ge w hw;omega
   have n2:B.contains (3*k+2)=false:=j6 λw hw z=>by have:=ge w hw;omega
   have put:∀j,j<3->II (3*k) (3*(k+(b ::bs).length)) ((3*k+j) ::B)/\cW (3*(k+1)) (λn=>((3*k+j) ::B).contains n) (jX bs)=r':=λj hj=>by
    refine⟨⟨by omega,by rw[Qao];omega,?_⟩,?_⟩
    .rw [show(3*k+j) / 3+1=k+1 by omega,Nat.mul_comm];exact h2
    .rw [<-h3];refine pd _ _ _ λn _=>?_
     rw[gU,Qaw (by omega),Bool.false_or]
   have fin:∀j,j<3->[b !=decide (j=0),b !=decide (j=1),b !=decide (j=2)]=[x,y,z]->∃B:List Nat,B.length<=(b ::bs).length/\II (3*k) (3*(k+(b ::bs).length)) B/\cW (3*k) (λn=>B.contains n) (jX (b ::bs))=row:=λj hj YG=>by
    obtain⟨p1,p2⟩:=put j hj;refine⟨(3*k+j) ::B,by simp;omega,p1,?_⟩
    rw[vP,p2,e];rw[gU,gU,gU,n0,n1,n2,QbA,QbA,QbA];have d0:decide (3*k+j=3*k)=decide (j=0):=by congr 1;exact propext ⟨λ_=>by omega,λ_=>by omega⟩
    have d1:decide (3*k+j=3*k+1)=decide (j=1):=by congr 1;exact propext ⟨λ_=>by omega,λ_=>by omega⟩
    have d2:decide (3*k+j=3*k+2)=decide (j=2):=by congr 1;exact propext ⟨λ_=>by omega,λ_=>by omega⟩
    rw[d0,d1,d2];injection YG with q0 q
    injection q with q1 q
    injection q with q2 q
    rw[q0,q1,q2]
   by_cases hn:x=b/\y=b/\z=b
   .obtain⟨rfl,rfl,rfl⟩:=hn;refine⟨B,by rw[Qao];omega,h2.mono (by omega),?_⟩
    rw[vP,h3,e];rw[n0,n1,n2];cases z <;> rfl
   .have:∃j,j<3/\[b !=decide (j=0),b !=decide (j=1),b !=decide (j=2)]=[x,y,z]:=by
     revert m hn
     cases b <;> cases x <;> cases y <;> cases z <;> intro m hn <;> first | (exact absurd ⟨rfl,rfl,rfl⟩ hn) | (exact⟨0,by decide,rfl⟩) | (exact⟨1,by decide,rfl⟩) | (exact⟨2,by decide,rfl⟩) | (exact absurd m$ by decide)
    obtain⟨j,hj,hx⟩:=this;exact fin j hj hx
theorem wu:∀{bits:List Bool} {B:List Nat} (k:Nat),II (3*k) (3*(k+bits.length)) B->nB bits (cW (3*k) (λn=>B.contains n)$ jX bits)
 | [],B,k,h=>rfl
 | b ::bs,B,k,h=>by
   have he:3*(k+(b ::bs).length)=3*(k+1+bs.length):=by rw[Qao];omega
   rw[he] at h;rw[vP];have far:II (3*(k+1)) (3*(k+1+bs.length)) B->nB (b ::bs) ((b !=B.contains (3*k)) ::(b !=B.contains (3*k+1)) ::(b !=B.contains (3*k+2)) ::cW (3*(k+1)) (λn=>B.contains n) (jX bs)):=λh=>by
    have ge:=h.ge;have n0:B.contains (3*k)=false:=j6 λw hw z=>by have:=ge w hw;omega
    have n1:B.contains (3*k+1)=false:=j6 λw hw z=>by have:=ge w hw;omega
    have n2:B.contains (3*k+2)=false:=j6 λw hw z=>by have:=ge w hw;omega
    refine⟨_,_,_,_,rfl,?_,wu (k+1) h⟩;rw[n0,n1,n2];cases b <;> rfl
   cases B with
   | nil=>exact far trivial
   | cons w B=>
     by_cases hw:3*(k+1)<=w
     .exact far ⟨hw,h.2.1,h.2.2⟩
     .obtain⟨w1,w2,w3⟩:=h;have e1:(w / 3+1)*3=3*(k+1):=by omega
      rw[e1] at w3;have ge:=w3.ge;have n0:B.contains (3*k)=false:=j6 λw hw z=>by have:=ge w hw;omega
      have n1:B.contains (3*k+1)=false:=j6 λw hw z=>by have:=ge w hw;omega
      have n2:B.contains (3*k+2)=false:=j6 λw hw z=>by have:=ge w hw;omega
      have et:cW (3*(k+1)) (λn=>(w ::B).contains n) (jX bs)=cW (3*(k+1)) (λn=>B.contains n) (jX bs):=pd _ _ _ λn _=>by
       rw[gU,Qaw (by omega),Bool.false_or]
      refine⟨_,_,_,_,rfl,?_,?_⟩
      .rw [gU,gU,gU,n0,n1,n2,QbA,QbA,QbA];have:w=3*k\/w=3*k+1\/w=3*k+2:=by omega
       rcases this with rfl | rfl | rfl
       .rw [Qat rfl,Qaw (by omega),Qaw$ by omega];cases b <;> rfl
       .rw [Qaw (by omega),Qat rfl,Qaw$ by omega];cases b <;> rfl
       .rw [Qaw (by omega),Qaw (by omega),Qat rfl];cases b <;> rfl
      .rw [et];exact wu (k+1) w3
def za(c:Nat)(gs:List Gt):List (List Nat × List Nat):=
 (gs.zipIdx.filter$ λx=>!x.1.2.2).map (λx=>(([]:List Nat),[x.2]))++(List.range' 1 c).flatMap λm=>(tU 0 (3*c) m).map λB=>(B,([]:List Nat))
def ma(c:Nat)(gs:List Gt)(p:Nat):List Bool:=cu gs no$ jX$ iO c p
def gT(c:Nat)(gs:List Gt)(f:List Nat × List Nat)(p:Nat):List Bool:=cu gs (λi=>f.2.contains i)$ cW 0 (λn=>f.1.contains n)$ jX$ iO c p
def xY(c:Nat)(gs:List Gt)(os:Aad)(p:Nat):Bool:=os.any λx=>A5$ bJ (ma c gs p) x.2
def lr(c:Nat)(gs:List Gt)(os:Aad)(f:List Nat × List Nat)(p:Nat):Bool:=os.any λx=>lst (bJ (ma c gs p) x.2)$ bJ (gT c gs f p) x.2
def fu(c:Nat)(gs:List Gt)(os:Aad):Option (List Nat × List Nat × Nat):=
 match (List.range$ 2 ^ c).find? (xY c gs os) with
 | some p=>some ([],[],p)
 | none=>(za c gs).findSome? λf=>((List.range$ 2 ^ c).find?$ lr c gs os f).map λp=>(f.1,f.2,p)
def find_none{c:Nat}{f:Nat->Bool}:(List.range$ 2 ^ c).find? f=none↔∀p,p<2 ^ c->f p=false:=by
 rw[QcY];constructor
 .intro h p hp;exact Bool.eq_false_iff.mpr$ h p$ QaM.mpr hp
 .intro h p hp;rw[h p$ QaM.mp hp];exact QaJ
def ug{α:Type}{l:List α}{f:α->Bool}:l.any f=false↔∀x∈l,f x=false:=by
 rw[Qc3];exact⟨λh x hx=>Bool.eq_false_iff.mpr$ h x hx,λh x hx=>by rw[h x hx];exact QaJ⟩
def Og{c:Nat}{gs:List Gt}{os:Aad}:fu c gs os=none↔yF c gs os:=by
 have noT:∀{B:List Nat} {ws:List Bool},cW 0 (λn=>([]:List Nat).contains n) ws=ws:=fun {B ws}=>wI _ _ λ_ _=>rfl
 have none1:fu c gs os=none↔(∀p,p<2 ^ c->xY c gs os p=false)/\∀f∈za c gs,∀p,p<2 ^ c->lr c gs os f p=false:=by
  unfold fu;constructor
  .intro h;split at h
   .cases h
   .rename_i e;refine⟨find_none.mp e,λf hf=>?_⟩
    have:=Qc2.mp h f hf;exact find_none.mp$ Option.map_eq_none_iff.mp this
  .rintro⟨h1,h2⟩;rw[find_none.mpr h1];exact Qc2.mpr λf hf=>Option.map_eq_none_iff.mpr$ find_none.mpr$ h2 f hf
 rw[none1];constructor
 .rintro⟨h1,h2⟩;refine⟨λbits hb x hx=>?_,λbits hb i g hg hs x hx=>?_,λbits row hb hn x hx=>?_⟩
  .obtain⟨p,hp,rfl⟩:=t_ hb;exact ug.mp (h1 p hp) x hx
  .obtain⟨p,hp,rfl⟩:=t_ hb;have hm:(([]:List Nat),[i])∈za c gs:=by
    refine QcE _ (QaC.mpr ⟨(g,i),Qbb.mpr ⟨Qa0.mpr hg,by rw[hs];rfl⟩,rfl⟩)
   have:=ug.mp (h2 _ hm p hp) x hx;unfold gT at this;rw[noT (B:=[])] at this;have eT:(λj=>[i].contains j)=λj=>j==i:=by
    funext j;rw[Qb4,List.contains_nil,QbA]
   rw[eT] at this;exact this
  .obtain⟨p,hp,rfl⟩:=t_ hb;obtain⟨B,b1,b2,b3⟩:=Cm 0 hn;rw[Nat.mul_zero,QcI,hb] at b2;cases B with
   | nil=>
     rw[noT (B:=[])] at b3;rw[<-b3];by_cases hx3:x.2.length=3
     .exact wV (by rw[mP,hx3])
     .unfold lst Zh;have:(List.zipWith (λa b=>a !=b) (bJ (cu gs no$ jX$ iO c p) x.2)$ bJ (cu gs no$ jX$ iO c p) x.2).length≠3:=by rw[List.length_zipWith,mP,Nat.min_self];exact hx3
      generalize List.zipWith (λa b=>a !=b) (bJ (cu gs no$ jX$ iO c p) x.2) (bJ (cu gs no$ jX$ iO c p) x.2)=l at this
      unfold XA;split
      .exact absurd rfl this
      .rfl
   | cons w B=>
     have hm:((w ::B,[]):List Nat × List Nat)∈za c gs:=by
      refine Qa9 _ (Qca.mpr ⟨(w ::B).length,QbI.mpr ⟨B.length,by rw[Qao] at b1;omega,by rw[Qao];omega⟩,QaC.mpr ⟨w ::B,sj.mpr ⟨rfl,b2⟩,rfl⟩⟩)
     have:=ug.mp (h2 _ hm p hp) x hx;rw[<-b3];exact this
 .intro K;refine⟨λp hp=>ug.mpr λx hx=>K.a _ (eh hp) x hx,λf hf p hp=>ug.mpr λx hx=>?_⟩
  rcases QaU.mp hf with z | z
  .obtain⟨⟨g,i⟩,hg,rfl⟩:=QaC.mp z;obtain⟨Qq,Jy⟩:=Qbb.mp hg;have:=K.b _ (eh hp) i g (Qa0.mp Qq) (by simpa using Jy) x hx
   unfold gT;rw[noT (B:=[])];have eT:(λj=>[i].contains j)=λj=>j==i:=by
    funext j;rw[Qb4,List.contains_nil,QbA]
   rw[eT];exact this
  .obtain⟨m,hm,z⟩:=Qca.mp z;obtain⟨B,hB,rfl⟩:=QaC.mp z;obtain⟨q1,q2⟩:=sj.mp hB;have hn:=wu 0 (by rw[Nat.mul_zero,QcI,eh hp];exact q2)
   exact K.c _ _ (eh hp) hn x hx
def mU{a b:Nat}(h:0<b):fF (nI a) (nI b)= .ok (nI$ a % b):=by
 show fF (.int a) (.int b)=_;rw[SG$ by omega];rfl
def jT(a b:Nat):cI (nI a) (nI b)= .ok (nI$ a+b):=rfl
def wD{a b:Nat}(h:b<=a):rB (nI a) (nI b)= .ok (nI$ a - b):=by
 show R.ok (D.int$ (a:Int) - b)=R.ok (D.int ((a - b:Nat):Int));rw[Int.ofNat_sub h]
def yn{a b:Nat}(h:b<1000000\/a<1000000):lJ (nI a) (nI b)= .ok (nI$ a*b):=by
 show R.bH (decide _) (R.ok$ D.int$ (a:Int)*b)=_;have hc:(-(2 ^ 64)<(a:Int)/\(a:Int)<2 ^ 64)\/(-(2 ^ 64)<(b:Int)/\(b:Int)<2 ^ 64):=by
  rcases h with h | h
  .exact .inr ⟨by omega,by omega⟩
  .exact .inl ⟨by omega,by omega⟩
 rw[cm _ hc];rfl
def Sv(a b:Nat):xK (nI a) (nI b)= .ok (.bl$ decide$ a=b):=by
 show R.ok (D.bl$ (a:Int)==(b:Int))=_;congr 2;by_cases h:a=b
 .rw [Qat h];exact Qbj.mpr (by omega)
 .rw [Qaw h];exact QaZ.mpr (by omega)
def XI(a b:Nat):Tu (nI a) (nI b)= .ok (.bl$ decide$ a<b):=by
 show R.ok (D.bl$ decide$ (a:Int)<(b:Int))=_;congr 2;by_cases h:a<b
 .rw [Qat h,Qat$ by omega]
 .rw [Qaw h,Qaw$ by omega]
def XJ(a b:Nat):U7 (nI a) (nI b)= .ok (.bl$ decide$ b<=a):=by
 show R.ok (D.bl$ decide$ (a:Int)>=(b:Int))=_;congr 2;by_cases h:b<=a
 .rw [Qat h,Qat$ by omega]
 .rw [Qaw h,Qaw$ by omega]
def Qj{a b:Nat}:sS [nI a,nI b]= .ok (nI$ min a b):=by
 show M4 [.int a, .int b]=_;show R.ok (D.int$ if(b:Int)<a then b else a)=_
 congr 2;split <;> omega
def c7{ds:List D}:cP [.lst ds]= .ok (nI ds.length):=rfl
def fY{f:FD}{δ:ay}{n:Nat}(h:f δ= .ok (nI n))(hn:n<1000000):bZ f δ= .ok ((List.range n).map nI):=by
 rw[lN h hn];congr 1;refine QaS λi _=>?_
 show D.int (0+(i:Int))=D.int (i:Int);rw[Int.zero_add]
def tpN(T:List Nat):D:= .tup$ T.map nI
noncomputable def kdN(r:Nat):Nat:=[1,2,3,4,0].getD (r % 5) 0
def HB:∀c∈List.range 5,∀p∈List.range (2 ^ c),∀k∈List.range c,(iO c p).getD k false=decide (p / 2 ^ (c - 1 - k) % 2=1):=by decide+kernel
def K4{c p k:Nat}(hc:c<=4)(hp:p<2 ^ c)(hk:k<c):(iO c p).getD k false=decide (p / 2 ^ (c - 1 - k) % 2=1):=HB c (QaM.mpr$ by omega) p (QaM.mpr hp) k$ QaM.mpr hk
def Uq(p s:Nat):IB (nI p) (nI s)= .ok (nI$ p / 2 ^ s):=by
 show R.bH (decide$ (0:Int)<=s) (.ok$ D.int$ (p:Int) / 2 ^ ((s:Int)).toNat)=_;rfl
def SS(x:Nat):MD (nI x) (nI 1)= .ok (bI$ decide$ x % 2=1):=by
 show R.ok (D.int$ Builtin.bitAnd (x:Int) ((1:Nat):Int))=_;rw[r9,Nat.and_one_is_mod];have:x % 2=0\/x % 2=1:=by omega
 rcases this with q | q <;> rw[q] <;> rfl
def Ja{c p:Nat}(hc:c<=4)(hp:p<2 ^ c):(iO c p).map bI=(List.range c).map λk=>bI (decide$ p / 2 ^ (c - 1 - k) % 2=1):=by
 refine List.ext_getElem (by rw[Qaa,Qaa,Qaq,eh hp]) λk h1 h2=>?_
 rw[Qaa,Qaq] at h2;rw[QcB,QcB,Qbp,<-K4 hc hp h2,Qag,Qab$ by rw[eh hp];exact h2]
 rfl
def Ul{n:Nat}(h:n<=10):QS (.int 1) (nI n)= .ok (nI$ 2 ^ n):=by
 show R.bH (decide$ (0:Int)<=n/\(n:Int)<1000/\ -1000<(1:Int)/\(1:Int)<1000) (.ok$ D.int$ 1*2 ^ ((n:Int)).toNat)=_;rw[cm _ ⟨by omega,by omega,by omega,by omega⟩,Qbg,Int.one_mul]
 congr 2
def uZ{S:bp}{q:Nat}{ds:List D}(e:S[q]? =some (.lst ds)):res S (.loc q)=some (.lst ds):=by unfold res;rw [e]
def qG{δ:DE}{S:bp}{i:Nat}{v:V3}{d:D}(h:δ[i]? =some (some v))(hr:res S v=some d):af i (d8 S δ)= .ok d:=by
 unfold af d8;rw[Qac,h];show(match (some$ match res S v with | some d=>Sl.val d | none=> .un) with | some (.val d)=>R.ok d | _=> .no)=_
 rw[hr]
def KI{δ:DE}{S:bp}{i:Nat}{v:V3}{d:D}(h:δ[i]? =some (some v))(hr:res S v=some d):(d8 S δ)[i]? =some (.val d):=by
 unfold d8;rw[Qac,h];show some (match res S v with | some d=>Sl.val d | none=> .un)=_
 rw[hr]
theorem Ki:∀l:List Nat,jE (l.map nI)=true
 | []=>by unfold jE;rfl
 | x ::l=>by
   rw[Qaz];unfold jE;rw[Ki l,show oM (nI x)=true from by unfold nI oM;rfl];rfl
def EG(l:List Nat):oM (.tup$ l.map nI)=true:=by unfold oM;exact Ki l
def Vm(g:Gt):oM (gS g)=true:=by
 unfold gS oM jE;unfold jE;rw[EG];unfold jE;rfl
def UY(b:Bool):oM (bI b)=true:=by cases b <;> rfl
theorem Qg:∀bs:List Bool,jE (bs.map bI)=true
 | []=>by unfold jE;rfl
 | b ::bs=>by
   rw[Qaz];unfold jE;rw[UY,Qg bs];rfl
def Sj{S:bp}{q:Nat}{ds:List D}(h:S[q]? =some (.lst ds)):E6 S (.loc q)=some ds:=by
 show dz S q=some ds;unfold dz;simp only[h]
def Ks{S Y:bp}{q:Nat}{x:SO}(h:S[q]? =some x):(S++Y)[q]? =some x:=by
 rw[Qax (Qae.mp h).1];exact h
def SD(S X:bp)(x:SO):(S++x ::X)[S.length]? =some x:=by rw[Qaj$ Qak _,Qbe];rfl
def UB(S X:bp)(x y:SO):(S++x ::X).set S.length y=S++y ::X:=by rw[Qbx _ _$ Qak _,Qbe];rfl
def RA(S X:bp)(x y:SO):(S++x ::(X++[y]))[S.length+1+X.length]? =some y:=by
 rw[Qaj (by omega),show S.length+1+X.length - S.length=X.length+1 by omega,List.getElem?_cons_succ,Qaj$ Qak _,Qbe];rfl
def XF(S X:bp)(x y z:SO):(S++x ::(X++[y])).set (S.length+1+X.length) z=S++x ::(X++[z]):=by
 rw[Qbx _ _ (by omega),show S.length+1+X.length - S.length=X.length+1 by omega,List.set_cons_succ,Qbx _ _$ Qak _,Qbe];rfl
def Pz{f:ay->R (List D)}{g:FD}{δ:ay}{ds:List D}{n:Nat}(h1:f δ= .ok ds)(h2:g δ= .ok (nI n))(hn:n<1000000)(hl:ds.length*n<=sizeLine):Ey f g δ= .ok (List.replicate n ds).flatten:=by
 unfold Ey;rw[h1,R.aP,h2,R.aP];show R.bH (decide$ 0<=(n:Int)/\(n:Int)<1000000/\ds.length*(n:Int).toNat<=sizeLine) _=_;rw[cm _ ⟨by omega,by omega,by rw[Qbg];exact hl⟩,Qbg]
def Qx(d:D)(n:Nat):(List.replicate n [d]).flatten=List.replicate n d:=by
 induction n with
 | zero=>rfl
 | succ n ih=>rw [Qbo,QbJ,ih,Qbo];rfl
def T9(i:Nat)(T:List Nat):PY (nI i) (.tup$ T.map nI)= .ok (.bl$ T.contains i):=by
 have e:T.map nI=(T.map λ(n:Nat)=>(n:Int)).map D.int:=(Qar).symm
 rw[e];show PY (.int (i:Int)) _=_;rw[BX];congr 2;rw[Qbi];simp;constructor
 .rintro⟨a,ha,e⟩;rw[<-Int.ofNat_inj.mp e];exact ha
 .exact λh=>⟨i,h,rfl⟩
def oG{ms:List Nat}{n x:Nat}(h:ms[n]? =some x):bz (.lst$ ms.map nI) (nI n)= .ok (nI x):=NT.dP (by rw[Qac,h];rfl)
def Pw{ws:List Bool}{n:Nat}(h:n<ws.length):bz (.lst$ ws.map bI) (nI n)= .ok (bI$ ws.getD n false):=by
 refine NT.dP ?_;rw[Qac,Qab h];rw[Qag,Qab h];rfl
def Ue{α β:Type}{xs:List α}{ys:List β}{f:α->D}{g:β->D}:vD (xs.map f) (ys.map g)=(xs.zip ys).map λq=>D.tup [f q.1,g q.2]:=by
 unfold vD;rw[List.zip_map,Qar];rfl
def J9{α:Type}{xs:List α}{f:α->D}:er (xs.map f)=xs.zipIdx.map λx=>D.tup [nI x.2,f x.1]:=by
 unfold er;rw[List.zipIdx_map,Qar];rfl
end JT
end
section
set_option maxHeartbeats 4000000
namespace K44
open PySem PySem.Spec PyProof.Rows L2 L3
variable {P:Program}{w:World}{K:Qdf}{mg:Aaf}{base:Heap}{cl:Aag}
noncomputable def top(i:Nat):Stmt:=PySem.Challenge.pw_bearfaults_k44_whole_keeping_joined.main.body.getD i$ .Pass ⟨0,0,0,0⟩
noncomputable def iY:D:=(.int 6)
noncomputable def fS:D:=(.int 60)
noncomputable def gW:D:=(.int 6)
structure Tp (K:Qdf) (mg:Aaf) (cl:Aag):Prop where
 z_all:mg "all"=none
 z_len:mg "len"=none
 z_enumerate:mg "enumerate"=none
 z_range:mg "range"=none
 z_tuple:mg "tuple"=none
 z_reversed:mg "reversed"=none
 z_zip:mg "zip"=none
 z_sum:mg "sum"=none
 z_list:mg "list"=none
 z_abs:mg "abs"=none
 z_min:mg "min"=none
 z_int:mg "int"=none
 z_max:mg "max"=none
 z_sorted:mg "sorted"=none
 iY:Glob K mg "MOST_INS" iY
 fS:Glob K mg "MOST_GATES" fS
 gW:Glob K mg "MOST_OUTS" gW
 C_Bench:Ef K (cl 0)
 N_Bench_net:fJ K (cl 0) "net"
 N_Bench_many_inputs:fJ K (cl 0) "many_inputs"
 N_Bench_full:fJ K (cl 0) "full"
 N_Bench_in_masks:fJ K (cl 0) "in_masks"
 M_Bench:mg "Bench"=some (.ref (cl 0))
abbrev g9:Stmt:=top 11
noncomputable abbrev m7:List Str:=["net","width","ins_fit"]
abbrev Qdd(s:Stmt):={b:List Stmt//aN s=b}
abbrev Qde(s:Stmt):={b:Scope//aF s=b}
noncomputable def yM:Qdd g9:=⟨_,by conv=>lhs;whnf⟩
noncomputable def qR:Qde g9:=⟨_,by conv=>lhs;whnf⟩
def A6:aW m7 ["net","width"] qR.1:={}
def AK:FS:=(du (i0 2$ aD KY$ ah (eNew$ bX (cb$ e2 bz (af 0)$ eC$ .int 0) (aC 0) eB (e2 xK (e2 bz (af 0)$ eC$ .int 1)$ af 1) ["told"] [1]) ax)$ f_$ Ow (af 2)$ aD KY$ ah (eNew$ bX (cb$ e2 bz (af 0)$ eC$ .int 2) (fD 2$ bL (aC 0)$ bL (aC 1) fA) eB (e2 xK (aD cP$ ah (af 1) ax)$ af 2) ["name","wires"] [1]) ax)
def ip:List D->R D:=qJ m7 AK
def Bh(T:Tp K mg cl)(h:Def K mg "has_widths" g9):Callee P w K mg base 1 "has_widths" 2 ip:=
 wF h yM.2 qR.2 A6 λ_ _ _ _ _ _ _ hr nd=>(aV (cx$ aG (Qb rfl) rfl T.z_all PyProof.Rows.boot_all$ ab (bt$ bB (bg$ av (aa 0) ag) (λ_ _ _=>aA) (λ_ _ _=>br)$ λ_ _ _=>(j7 (uH hr.units) (av (aa 0) ag)$ aa 1)) ae)$ aT$ bR$ M3 (aa 2)$ GS$ aG (Qb rfl) rfl T.z_all PyProof.Rows.boot_all$ ab (bt$ bB (bg$ av (aa 0) ag) (λ_ _ _=>(dA$ bb aA$ bb aA cU)) (λ_ _ _=>br)$ λ_ _ _=>(j7 (uH hr.units) (aG cz rfl T.z_len QaA$ ab (aa 1) ae)$ aa 2)) ae)
abbrev m4:Stmt:=top 13
noncomputable abbrev zN:List Str:=["masks"]
noncomputable def Fc:Qdd m4:=⟨_,by conv=>lhs;whnf⟩
noncomputable def yt:Qde m4:=⟨_,by conv=>lhs;whnf⟩
def IL:aW zN ["masks"] yt.1:={}
def HU:FS:=(f_$ e2 P_ (e2 P_ (e2 MD (e2 bz (af 0)$ eC$ .int 0)$ e2 bz (af 0)$ eC$ .int 1)$ e2 MD (e2 bz (af 0)$ eC$ .int 0)$ e2 bz (af 0)$ eC$ .int 2)$ e2 MD (e2 bz (af 0)$ eC$ .int 1)$ e2 bz (af 0)$ eC$ .int 2)
def iT:List D->R D:=qJ zN HU
def HA(T:Tp K mg cl)(h:Def K mg "vote_of" m4):Callee P w K mg base 1 "vote_of" 1 iT:=
 wF h Fc.2 yt.2 IL λ_ _ _ _ _ _ _ hr nd=>(aT$ bR$ aw IU (aw IU (aw Je (av (aa 0) ag)$ av (aa 0) ag)$ aw Je (av (aa 0) ag)$ av (aa 0) ag)$ aw Je (av (aa 0) ag)$ av (aa 0) ag)
abbrev ju:Stmt:=top 14
noncomputable abbrev oY:List Str:=["kind","masks","full"]
noncomputable def Av:Qdd ju:=⟨_,by conv=>lhs;whnf⟩
noncomputable def tj:Qde ju:=⟨_,by conv=>lhs;whnf⟩
def Dn:aW oY ["kind","masks","full"] tj.1:={}
def C_:FS:=(du (D2 (b2 xK (af 0)$ eC$ .str "not") (f_$ e2 Hu (af 2)$ e2 bz (af 1)$ eC$ .int 0) yk)$ du (D2 (b2 xK (af 0)$ eC$ .str "and") (f_$ e2 MD (e2 bz (af 1)$ eC$ .int 0)$ e2 bz (af 1)$ eC$ .int 1) yk)$ du (D2 (b2 xK (af 0)$ eC$ .str "or") (f_$ e2 P_ (e2 bz (af 1)$ eC$ .int 0)$ e2 bz (af 1)$ eC$ .int 1) yk)$ du (D2 (b2 xK (af 0)$ eC$ .str "xor") (f_$ e2 Hu (e2 bz (af 1)$ eC$ .int 0)$ e2 bz (af 1)$ eC$ .int 1) yk)$ f_$ aD iT$ ah (af 1) ax)
def lP:List D->R D:=qJ oY C_
def DX(T:Tp K mg cl)(h:Def K mg "gate_mask" ju)(kq:Callee P w K mg base 1 "vote_of" 1 iT):Callee P w K mg base 2 "gate_mask" 3 lP:=
 wF h Av.2 tj.2 Dn λ_ _ _ _ _ _ _ hr nd=>(aV (jj (bS (uH hr.units) (aa 0) bY) (aT$ bR$ aw FE (aa 2)$ av (aa 1) ag) jx)$ aV (jj (bS (uH hr.units) (aa 0) bY) (aT$ bR$ aw Je (av (aa 1) ag)$ av (aa 1) ag) jx)$ aV (jj (bS (uH hr.units) (aa 0) bY) (aT$ bR$ aw IU (av (aa 1) ag)$ av (aa 1) ag) jx)$ aV (jj (bS (uH hr.units) (aa 0) bY) (aT$ bR$ aw FE (av (aa 1) ag)$ av (aa 1) ag) jx)$ aT$ bR$ aX kq$ ab (aa 1) ae)
abbrev eZ:Stmt:=top 15
noncomputable abbrev gK:List Str:=["ins","in_masks","full","bad","wires","place","mask","figure"]
noncomputable def uG:Qdd eZ:=⟨_,by conv=>lhs;whnf⟩
noncomputable def m5:Qde eZ:=⟨_,by conv=>lhs;whnf⟩
def vC:aW gK ["ins","in_masks","full","bad"] m5.1:={}
def lU:FZ:=(jY 4$ xT$ Tt (b2 PY (aD cP$ ah (af 4) ax)$ af 3) (e2 Hu (af 2)$ af 6)$ af 6)
def sU:FZ:=(gP (iP$ bZ$ e2 bz (e2 bz (af 0)$ af 5)$ eC$ .int 1) (fZ 7) lU)
def oj:FZ:=(bq (bW 4$ mQ$ eF ax)$ bq (gP (iP$ G6$ af 1) (zh 2$ l8 (fZ 5)$ l8 (fZ 6) z_) sU)$ g8$ gb 4)
def fP:List V3->bp->R3 V3:=qw gK oj
def Hx:List V3->bp->R3 V3:=tV gK oj
def vK(T:Tp K mg cl)(h:Def K mg "in_wire_masks" eZ):bU P w K mg base cl 1 "in_wire_masks" 4 fP:=
 Eh h uG.2 m5.2 vC λ_ _ _ _ _ _ _ hr nd=>(ak (aY$ gO$ cf ae)$ ak (cJ (bw$ EU (aa 1) rfl T.z_enumerate) (dm$ aQ aH$ aQ aH cN)$ aK$ cJ (bw$ aS (av (av (aa 0)$ aa 5) ag) rfl T.z_range) aH$ aK$ fq$ lM$ LK (bS Nk (aG cz rfl T.z_len QaA$ ab (aa 4) ae)$ aa 3) (aw FE (aa 2)$ aa 6)$ aa 6)$ aK$ cZ$ cR 4)
abbrev kz:Stmt:=top 16
noncomputable abbrev ye:List Str:=["wires","numbers"]
noncomputable def DG:Qdd kz:=⟨_,by conv=>lhs;whnf⟩
noncomputable def vt:Qde kz:=⟨_,by conv=>lhs;whnf⟩
def Ff:aW ye ["wires","numbers"] vt.1:={}
def FF:FS:=(f_$ aD h_$ ah (eNew$ bX (cb$ af 1) (aC 0) eB (e2 bz (af 1)$ af 0) ["number"] [0]) ax)
def iX:List D->R D:=qJ ye FF
def Es(T:Tp K mg cl)(h:Def K mg "masks_at" kz):Callee P w K mg base 1 "masks_at" 2 iX:=
 wF h DG.2 vt.2 Ff λ_ _ _ _ _ _ _ hr nd=>(aT$ bR$ cg gI rfl T.z_tuple Qa1$ ab (bt$ bB (bg$ aa 1) (λ_ _ _=>aA) (λ_ _ _=>br)$ λ_ _ _=>(av (aa 1)$ aa 0)) ae)
abbrev il:Stmt:=top 17
noncomputable abbrev j0:List Str:=["net","in_masks","full","turned","bad","wires","place","gate","mask"]
noncomputable def ze:Qdd il:=⟨_,by conv=>lhs;whnf⟩
noncomputable def qK:Qde il:=⟨_,by conv=>lhs;whnf⟩
def Be:aW j0 ["net","in_masks","full","turned","bad"] qK.1:={}
def pN:FZ:=(bq (bW 8$ xT$ aD lP$ ah (e2 bz (af 7)$ eC$ .int 0)$ ah (aD iX$ ah (af 5)$ ah (e2 bz (af 7)$ eC$ .int 1) ax)$ ah (af 2) ax)$ jY 5$ xP$ Tt (b2 PY (af 6)$ af 3) (e2 Hu (af 2)$ af 8)$ af 8)
def tp:FZ:=(bq (bW 5$ eW fP$ aZ (xP$ e2 bz (af 0)$ eC$ .int 0)$ aZ (xP$ af 1)$ aZ (xP$ af 2)$ aZ (xP$ af 4) eA)$ bq (gP (iP$ f7$ e2 bz (af 0)$ eC$ .int 1) (zh 2$ l8 (fZ 6)$ l8 (fZ 7) z_) pN)$ g8$ gb 5)
def y7:List V3->bp->R3 V3:=qw j0 tp
def mi:List V3->bp->R3 V3:=tV j0 tp
def Az(T:Tp K mg cl)(h:Def K mg "wire_masks" il)(ja:Callee P w K mg base 1 "masks_at" 2 iX)(p8:Callee P w K mg base 2 "gate_mask" 3 lP)(fX:bU P w K mg base cl 1 "in_wire_masks" 4 fP):bU P w K mg base cl 3 "wire_masks" 5 y7:=
 Eh h ze.2 qK.2 Be λ_ _ _ _ _ _ _ hr nd=>(ak (aY$ cM fX$ az (ai$ av (aa 0) ag)$ az (ai$ aa 1)$ az (ai$ aa 2)$ az (ai$ aa 4) bO)$ ak (cJ (bw$ iW (av (aa 0) ag) rfl T.z_enumerate) (dm$ aQ aH$ aQ aH cN)$ ak (aY$ lM$ aX p8$ ab (av (aa 7) ag)$ ab (aX ja$ ab (aa 5)$ ab (av (aa 7) ag) ae)$ ab (aa 2) ae)$ aK$ fq$ ai$ LK (bS Nk (aa 6)$ aa 3) (aw FE (aa 2)$ aa 8)$ aa 8)$ aK$ cZ$ cR 5)
abbrev jC:Stmt:=top 18
noncomputable abbrev oP:List Str:=["net","wires"]
noncomputable def Bs:Qdd jC:=⟨_,by conv=>lhs;whnf⟩
noncomputable def sN:Qde jC:=⟨_,by conv=>lhs;whnf⟩
def Cn:aW oP ["net","wires"] sN.1:={}
def va:FZ:=(g8$ mQ$ bX (cb$ e2 bz (af 0)$ eC$ .int 2) (fD 2$ bL (aC 0)$ bL (aC 1) fA) eB (aD iX$ ah (af 2)$ ah (af 1) ax) ["name","numbers"] [1])
def Ay:List V3->bp->R3 V3:=qw oP va
def nM:List V3->bp->R3 V3:=tV oP va
def CU(T:Tp K mg cl)(h:Def K mg "out_masks" jC)(ja:Callee P w K mg base 1 "masks_at" 2 iX):bU P w K mg base cl 2 "out_masks" 2 Ay:=
 Eh h Bs.2 sN.2 Cn λ_ _ _ _ _ _ _ hr nd=>(aK$ cZ$ gO$ bB (bg$ av (aa 0) ag) (λ_ _ _=>(dA$ bb aA$ bb aA cU)) (λ_ _ _=>br)$ λ_ _ _=>(aX ja$ ab (aa 2)$ ab (aa 1) ae))
abbrev oW:Stmt:=top 19
noncomputable abbrev Dg:List Str:=["mask","number"]
noncomputable def Iw:Qdd oW:=⟨_,by conv=>lhs;whnf⟩
noncomputable def Ad:Qde oW:=⟨_,by conv=>lhs;whnf⟩
def Ka:aW Dg ["mask","number"] Ad.1:={}
def KH:FS:=(f_$ e2 MD (e2 IB (af 0)$ af 1)$ eC$ .int 1)
def rY:List D->R D:=qJ Dg KH
def KP(T:Tp K mg cl)(h:Def K mg "bit_at" oW):Callee P w K mg base 1 "bit_at" 2 rY:=
 wF h Iw.2 Ad.2 Ka λ_ _ _ _ _ _ _ hr nd=>(aT$ bR$ aw Je (aw PV (aa 0)$ aa 1) ag)
abbrev hW:Stmt:=top 20
noncomputable abbrev j8:List Str:=["count","inputs","place","longer","bits"]
noncomputable def yY:Qdd hW:=⟨_,by conv=>lhs;whnf⟩
noncomputable def qt:Qde hW:=⟨_,by conv=>lhs;whnf⟩
def BW:aW j8 ["count"] qt.1:={}
def ym:FZ:=(bq (jY 3$ xP$ e2 gr (af 4)$ b_$ ah (eC$ .int 0) ax)$ jY 3$ xP$ e2 gr (af 4)$ b_$ ah (eC$ .int 1) ax)
def o8:FZ:=(sx 1$ bq (bW 3$ mQ$ eF ax)$ bq (gP (iP$ cb$ af 1) (fZ 4) ym)$ bW 1$ gb 3)
def sf:FZ:=(bq (bW 1$ mQ$ eF$ ah (b_ ax) ax)$ bq (gP (iP$ bZ$ af 0) (fZ 2) o8)$ g8$ gb 1)
def yX:List V3->bp->R3 V3:=qw j8 sf
def me:List V3->bp->R3 V3:=tV j8 sf
def Am(T:Tp K mg cl)(h:Def K mg "all_inputs" hW):bU P w K mg base cl 1 "all_inputs" 1 yX:=
 Eh h yY.2 qt.2 BW λ_ _ _ _ _ _ _ hr nd=>(ak (aY$ gO$ cf$ ab (aL ae) ae)$ ak (cJ (bw$ aS (aa 0) rfl T.z_range) aH$ jm 1$ ak (aY$ gO$ cf ae)$ ak (cJ (bw$ bg$ aa 1) aH$ ak (fq$ ai$ aw ig (aa 4)$ aL$ ab ag ae)$ aK$ fq$ ai$ aw ig (aa 4)$ aL$ ab ag ae)$ aK$ aY$ cR 3)$ aK$ cZ$ cR 1)
abbrev mN:Stmt:=top 21
noncomputable abbrev t4:List Str:=["bits","mask","bit"]
noncomputable def E5:Qdd mN:=⟨_,by conv=>lhs;whnf⟩
noncomputable def yj:Qde mN:=⟨_,by conv=>lhs;whnf⟩
def Iy:aW t4 ["bits"] yj.1:={}
def uU:FS:=(i0 1$ e2 cI (e2 lJ (af 1)$ eC$ .int 2)$ af 2)
def Io:FS:=(du (i0 1$ eC$ .int 0)$ du (q9 (Px$ af 0) (aC 2) uU)$ f_$ af 1)
def kh:List D->R D:=qJ t4 Io
def IP(T:Tp K mg cl)(h:Def K mg "mask_of" mN):Callee P w K mg base 1 "mask_of" 1 kh:=
 wF h E5.2 yj.2 Iy λ_ _ _ _ _ _ _ hr nd=>(aV (cx ag)$ aV (fN (JK (aa 0) rfl T.z_reversed) aA$ aT$ cx$ aw cD (aw lh (aa 1) ag)$ aa 2)$ aT$ bR$ aa 1)
abbrev mY:Stmt:=top 22
noncomputable abbrev z0:List Str:=["inputs","place"]
noncomputable def Fq:Qdd mY:=⟨_,by conv=>lhs;whnf⟩
noncomputable def xO:Qde mY:=⟨_,by conv=>lhs;whnf⟩
def Iq:aW z0 ["inputs","place"] xO.1:={}
def IG:FS:=(f_$ aD kh$ ah (eNew$ bX (cb$ af 0) (aC 0) eB (e2 bz (af 0)$ af 1) ["bits"] [1]) ax)
def qf:List D->R D:=qJ z0 IG
def IY(T:Tp K mg cl)(h:Def K mg "in_mask" mY)(kr:Callee P w K mg base 1 "mask_of" 1 kh):Callee P w K mg base 2 "in_mask" 2 qf:=
 wF h Fq.2 xO.2 Iq λ_ _ _ _ _ _ _ hr nd=>(aT$ bR$ aX kr$ ab (bt$ bB (bg$ aa 0) (λ_ _ _=>aA) (λ_ _ _=>br)$ λ_ _ _=>(av (aa 0)$ aa 1)) ae)
abbrev jz:Stmt:=top 25
noncomputable abbrev o7:List Str:=["outs","mask","masks"]
noncomputable def AI:Qdd jz:=⟨_,by conv=>lhs;whnf⟩
noncomputable def tf:Qde jz:=⟨_,by conv=>lhs;whnf⟩
def DN:aW o7 ["outs"] tf.1:={}
def qB:FS:=(i0 1$ e2 P_ (e2 P_ (af 1)$ e2 Hu (e2 bz (af 2)$ eC$ .int 0)$ e2 bz (af 2)$ eC$ .int 1)$ e2 Hu (e2 bz (af 2)$ eC$ .int 0)$ e2 bz (af 2)$ eC$ .int 2)
def DA:FS:=(du (i0 1$ eC$ .int 0)$ du (q9 (cb$ af 0) (aC 2) qB)$ f_$ af 1)
def lZ:List D->R D:=qJ o7 DA
def C5(T:Tp K mg cl)(h:Def K mg "unlike_at" jz):Callee P w K mg base 1 "unlike_at" 1 lZ:=
 wF h AI.2 tf.2 DN λ_ _ _ _ _ _ _ hr nd=>(aV (cx ag)$ aV (fN (bg$ aa 0) aA$ aT$ cx$ aw IU (aw IU (aa 1)$ aw FE (av (aa 2) ag)$ av (aa 2) ag)$ aw FE (av (aa 2) ag)$ av (aa 2) ag)$ aT$ bR$ aa 1)
abbrev mZ:Stmt:=top 26
noncomputable abbrev uq:List Str:=["before","after","mask","masks","others"]
noncomputable def EF:Qdd mZ:=⟨_,by conv=>lhs;whnf⟩
noncomputable def xx:Qde mZ:=⟨_,by conv=>lhs;whnf⟩
def Im:aW uq ["before","after"] xx.1:={}
def vq:FS:=(i0 2$ e2 P_ (af 2)$ aD iT$ ah (eNew$ bX (bZ$ eC$ .int 3) (aC 0) eB (e2 Hu (e2 bz (af 1)$ af 0)$ e2 bz (af 2)$ af 0) ["place"] [3,4]) ax)
def HP:FS:=(du (i0 2$ eC$ .int 0)$ du (q9 (D9 (af 0)$ af 1) (fD 2$ bL (aC 3)$ bL (aC 4) fA) vq)$ f_$ af 2)
def qe:List D->R D:=qJ uq HP
def HM(T:Tp K mg cl)(h:Def K mg "lost_at" mZ)(kq:Callee P w K mg base 1 "vote_of" 1 iT):Callee P w K mg base 2 "lost_at" 2 qe:=
 wF h EF.2 xx.2 Im λ_ _ _ _ _ _ _ hr nd=>(aV (cx ag)$ aV (fN (yf (aa 0) (aa 1) rfl T.z_zip) (dA$ bb aA$ bb aA cU)$ aT$ cx$ aw IU (aa 2)$ aX kq$ ab (bt$ bB (aS ag rfl T.z_range) (λ_ _ _=>aA) (λ_ _ _=>br)$ λ_ _ _=>(aw FE (av (aa 1)$ aa 0)$ av (aa 2)$ aa 0)) ae)$ aT$ bR$ aa 2)
abbrev ky:Stmt:=top 27
noncomputable abbrev rE:List Str:=["first","end","many","found","wire","next_three","rest"]
noncomputable def DB:Qdd ky:=⟨_,by conv=>lhs;whnf⟩
noncomputable def u0:Qde ky:=⟨_,by conv=>lhs;whnf⟩
def xf:aW rE ["first","end","many"] u0.1:={}
def nK(self:List D->R D):FS:=(EL 3$ e2 gr (b_$ ah (af 4) ax)$ af 6)
def sE(self:List D->R D):FS:=(du (i0 5$ e2 lJ (e2 gr (e2 pL (af 4)$ eC$ .int 3)$ eC$ .int 1)$ eC$ .int 3)$ q9 (cb$ aD self$ ah (af 5)$ ah (af 1)$ ah (e2 rB (af 2)$ eC$ .int 1) ax) (aC 6)$ nK self)
def EX(self:List D->R D):FS:=(du (D2 (b2 xK (af 2)$ eC$ .int 0) (f_$ eNew$ eF$ ah (b_ ax) ax) yk)$ du (vU 3$ eF ax)$ du (q9 (tZ (af 0)$ af 1) (aC 4)$ sE self)$ CZ 3$ f_$ af 3)
def fK:Nat->List D->R D
 | 0=>λ_=> .no
 | n+1=>qJ rE$ EX$ fK n
theorem yr(T:Tp K mg cl)(h:Def K mg "bad_sets" ky):∀n,Callee P w K mg base (1+n) "bad_sets" 3 (fK n)
 | 0=>by
   obtain⟨f,fd,F,hm⟩:=h;exact⟨f,fd,["first","end","many"],Uv,hm,F.kp,F.binds λ_ _ _ _ _ _ us hl=>match us,hl with | [_,_,_],_=>rfl⟩
 | n+1=>by
   have S5:=yr T h n;obtain⟨f,fd,F,hm⟩:=h;exact⟨f,fd,_,zS (k:=1+n) DB.2 u0.2 F xf (λ_ _ _ _ _ _ hr=>(have nd:=xf.nd;(aV (jj (bS (uH hr.units) (aa 2) ag) (aT$ bR$ bt$ cf$ ab (aL ae) ae) jx)$ aV (tq$ cf ae)$ aV (fN (vv (aa 0) (aa 1) rfl T.z_range) aA$ aV (cx$ aw lh (aw ig (aw ub (aa 4) ag) ag) ag)$ aT$ fN (bg$ aX S5 (ab (aa 5)$ ab (aa 1)$ ab (aw oQ (aa 2) ag) ae) (hkj:=(by omega))) aA$ aT$ wA$ aw ig (aL$ ab (aa 4) ae)$ aa 6)$ pM 3$ aT$ bR$ aa 3))),hm,F.kp,F.binds λ_ _ _ _ _ _ us hl=>match us,hl with | [_,_,_],_=>rfl⟩
abbrev el:Stmt:=top 28
noncomputable abbrev fR:List Str:=["net","faults","many_ins","many"]
noncomputable def sF:Qdd el:=⟨_,by conv=>lhs;whnf⟩
noncomputable def lS:Qde el:=⟨_,by conv=>lhs;whnf⟩
def uA:aW fR ["net"] lS.1:={}
def gQ:FS:=(K_ 1$ bX (cb$ aD (fK 7)$ ah (eC$ .int 0)$ ah (e2 lJ (af 2)$ eC$ .int 3)$ ah (af 3) ax) (aC 0) eB (b_$ ah (af 0)$ ah (b_ ax) ax) ["bad"] [])
def uC:FS:=(du (vU 1$ bX (f7$ e2 bz (af 0)$ eC$ .int 1) (fD 2$ bL (aC 0)$ bL (aC 1) fA) (AQ$ AR$ e2 bz (af 1)$ eC$ .int 2) (b_$ ah (b_ ax)$ ah (b_$ ah (af 0) ax) ax) ["place","gate"] [])$ du (i0 2$ aD cP$ ah (e2 bz (af 0)$ eC$ .int 0) ax)$ du (q9 (tZ (eC$ .int 1)$ e2 cI (af 2)$ eC$ .int 1) (aC 3) gQ)$ CZ 1$ f_$ af 1)
def fQ:List D->R D:=qJ fR uC
def um(T:Tp K mg cl)(h:Def K mg "keeping_faults" el)(rM:Callee P w K mg base 8 "bad_sets" 3 (fK 7)):Callee P w K mg base 9 "keeping_faults" 1 fQ:=
 wF h sF.2 lS.2 uA λ_ _ _ _ _ _ _ hr nd=>(aV (Bz (iW (av (aa 0) ag) rfl T.z_enumerate) (λ_ _ _=>(dA$ bb aA$ bb aA cU)) (λ_ _ _=>(xB$ Ba$ AY$ av (aa 1) ag))$ λ_ _ _=>(aL$ ab (aL ae)$ ab (aL$ ab (aa 0) ae) ae))$ aV (cx$ aG cz rfl T.z_len QaA$ ab (av (aa 0) ag) ae)$ aV (fN (vv ag (aw cD (aa 2) ag) rfl T.z_range) aA$ aT$ DV$ bB (bg$ aX rM$ ab ag$ ab (aw lh (aa 2) ag)$ ab (aa 3) ae) (λ_ _ _=>aA) (λ_ _ _=>br)$ λ_ _ _=>(aL$ ab (aa 0)$ ab (aL ae) ae))$ pM 1$ aT$ bR$ aa 1)
abbrev cw:Stmt:=inClass (top 23) 0
noncomputable abbrev fU:List Str:=["self","net","inputs"]
noncomputable def tR:Qdd cw:=⟨_,by conv=>lhs;whnf⟩
noncomputable def lT:Qde cw:=⟨_,by conv=>lhs;whnf⟩
def mM:aW fU ["self","net"] lT.1:={}
def mV:FZ:=(bq (bW 2$ eW me$ aZ (xP$ aD cP$ ah (e2 bz (af 1)$ eC$ .int 0) ax) eA)$ bq (Ik 0 "net" (gb 0)$ xP$ af 1)$ bq (Ik 0 "many_inputs" (gb 0)$ xP$ aD cP$ ah (af 2) ax)$ bq (Ik 0 "full" (gb 0)$ xP$ aD kh$ ah (eNew$ bX (cb$ af 2) (aC 0) eB (eC$ .int 1) ["bits"] []) ax)$ Ik 0 "in_masks" (gb 0)$ xP$ eNew$ bX (bZ$ aD cP$ ah (e2 bz (af 1)$ eC$ .int 0) ax) (aC 0) eB (aD qf$ ah (af 1)$ ah (af 0) ax) ["place"] [2])
def fw:List V3->bp->R3 V3:=qw fU mV
def GL:List V3->bp->R3 V3:=tV fU mV
def ef(T:Tp K mg cl)(h:RW K (cl 0) "__init__" "Bench.__init__" cw)(kr:Callee P w K mg base 1 "mask_of" 1 kh)(uO:Callee P w K mg base 2 "in_mask" 2 qf)(mD:bU P w K mg base cl 1 "all_inputs" 1 me):Ly P w K mg base cl 3 0 "Bench" 1 fw:=by
 obtain⟨f,fd,F,hm⟩:=h;exact⟨f,fd,_,hm,oI (k:=2) tR.2 lT.2 F mM (λ_ _ _ _ _ _ hr=>(have nd:=mM.nd;(ak (aY$ cM mD$ az (ai$ aG cz rfl T.z_len QaA$ ab (av (aa 1) ag) ae) bO)$ ak (Bk T.C_Bench T.N_Bench_net (cR 0)$ ai$ aa 1)$ ak (Bk T.C_Bench T.N_Bench_many_inputs (cR 0)$ ai$ aG cz rfl T.z_len QaA$ ab (aa 2) ae)$ ak (Bk T.C_Bench T.N_Bench_full (cR 0)$ ai$ aX kr$ ab (bt$ bB (bg$ aa 2) (λ_ _ _=>aA) (λ_ _ _=>br)$ λ_ _ _=>ag) ae)$ aK$ Bk T.C_Bench T.N_Bench_in_masks (cR 0)$ ai$ bt$ bB (aS (aG cz rfl T.z_len QaA$ ab (av (aa 1) ag) ae) rfl T.z_range) (λ_ _ _=>aA) (λ_ _ _=>br)$ λ_ _ _=>(aX uO$ ab (aa 1)$ ab (aa 0) ae)))),T.M_Bench,F.binds λ_ _ _ _ _ _ us hl=>match us,hl with | [_,_],_=>rfl⟩
abbrev cX:Stmt:=inClass (top 23) 1
noncomputable abbrev l_:List Str:=["self","turned","bad"]
noncomputable def yi:Qdd cX:=⟨_,by conv=>lhs;whnf⟩
noncomputable def pK:Qde cX:=⟨_,by conv=>lhs;whnf⟩
def qx:aW l_ ["self","turned","bad"] pK.1:={}
def qM:FZ:=(g8$ eW nM$ aZ (Fj 0 "net"$ gb 0)$ aZ (eW mi$ aZ (Fj 0 "net"$ gb 0)$ aZ (Fj 0 "in_masks"$ gb 0)$ aZ (Fj 0 "full"$ gb 0)$ aZ (xP$ af 1)$ aZ (xP$ af 2) eA) eA)
def xZ:List V3->bp->R3 V3:=qw l_ qM
def iB:List V3->bp->R3 V3:=tV l_ qM
def gu(T:Tp K mg cl)(h:Jj K (cl 0) "tells" "Bench.tells" cX)(mC:bU P w K mg base cl 3 "wire_masks" 5 mi)(nR:bU P w K mg base cl 2 "out_masks" 2 nM):vd P w K mg base cl 4 0 "tells" 2 xZ:=by
 obtain⟨f,fd,F,hm⟩:=h;exact⟨f,fd,_,T.C_Bench,hm,oI (k:=3) yi.2 pK.2 F qx (λ_ _ _ _ _ _ hr=>(have nd:=qx.nd;(aK$ cZ$ cM nR$ az (xJ T.C_Bench T.N_Bench_net$ cR 0)$ az (cM mC$ az (xJ T.C_Bench T.N_Bench_net$ cR 0)$ az (xJ T.C_Bench T.N_Bench_in_masks$ cR 0)$ az (xJ T.C_Bench T.N_Bench_full$ cR 0)$ az (ai$ aa 1)$ az (ai$ aa 2) bO) bO))),F.binds λ_ _ _ _ _ _ us hl=>match us,hl with | [_,_,_],_=>rfl⟩
abbrev ck:Stmt:=inClass (top 23) 4
noncomputable abbrev ia:List Str:=["self","mask"]
noncomputable def rp:Qdd ck:=⟨_,by conv=>lhs;whnf⟩
noncomputable def lg:Qde ck:=⟨_,by conv=>lhs;whnf⟩
def lY:aW ia ["self","mask"] lg.1:={}
def lV:FZ:=(g8$ jv (Dx$ Fj 0 "many_inputs"$ gb 0) (fZ 0) (bP$ b2 xK (aD rY$ ah (af 1)$ ah (af 0) ax)$ eC$ .int 1) (xP$ af 0) ["number"] [1])
def rG:List V3->bp->R3 V3:=qw ia lV
def dy:List V3->bp->R3 V3:=tV ia lV
def dU(T:Tp K mg cl)(h:Jj K (cl 0) "inputs_in" "Bench.inputs_in" ck)(yz:Callee P w K mg base 1 "bit_at" 2 rY):vd P w K mg base cl 2 0 "inputs_in" 1 rG:=by
 obtain⟨f,fd,F,hm⟩:=h;exact⟨f,fd,_,T.C_Bench,hm,oI (k:=1) rp.2 lg.2 F lY (λ_ _ _ _ _ _ hr=>(have nd:=lY.nd;(aK$ cZ$ NR (EZ (xJ T.C_Bench T.N_Bench_many_inputs$ cR 0) rfl T.z_range) (λ_ _ _=>aH) (λ_ _ _=>(tO$ dD$ bS (uH hr.units) (aX yz$ ab (aa 1)$ ab (aa 0) ae) ag))$ λ_ _ _=>(ai$ aa 0)))),F.binds λ_ _ _ _ _ _ us hl=>match us,hl with | [_,_],_=>rfl⟩
abbrev sH:Stmt:=top 29
noncomputable abbrev vY:List Str:=["net","bench","plain","mask","bad","turned"]
noncomputable def Ld:Qdd sH:=⟨_,by conv=>lhs;whnf⟩
noncomputable def C6:Qde sH:=⟨_,by conv=>lhs;whnf⟩
def Ng:aW vY ["net"] C6.1:={}
def Aa:FZ:=(bq (bW 3$ Fg qe$ aZ (xP$ af 2)$ aZ (w6 0 "tells" iB (gb 1)$ aZ (xP$ af 5)$ aZ (xP$ af 4) eA) eA)$ Bv (bP$ b2 vX (af 3)$ eC$ .int 0) (g8$ JN$ aZ (xP$ eC$ .str "loses")$ aZ (xP$ af 4)$ aZ (xP$ af 5)$ aZ (VG (w6 0 "inputs_in" dy (gb 1)$ aZ (xP$ af 3) eA)$ xP$ eC$ .int 0) eA) oB)
def Gv:FZ:=(bq (Bv (bP$ AQ$ AR$ aD ip$ ah (af 0)$ ah (eC$ .int 3) ax) Wr oB)$ bq (bW 1$ LH 0 fw$ aZ (xP$ af 0) eA)$ bq (bW 2$ w6 0 "tells" iB (gb 1)$ aZ (xP$ b_ ax)$ aZ (xP$ b_ ax) eA)$ bq (bW 3$ xP$ aD lZ$ ah (af 2) ax)$ bq (Bv (bP$ b2 vX (af 3)$ eC$ .int 0) (g8$ JN$ aZ (xP$ eC$ .str "loses")$ aZ (xP$ b_ ax)$ aZ (xP$ b_ ax)$ aZ (VG (w6 0 "inputs_in" dy (gb 1)$ aZ (xP$ af 3) eA)$ xP$ eC$ .int 0) eA) oB)$ bq (gP (iP$ cb$ aD fQ$ ah (af 0) ax) (zh 2$ l8 (fZ 4)$ l8 (fZ 5) z_) Aa)$ g8$ xP$ b_$ ah (eC$ .str "keeps") ax)
def Le:List V3->bp->R3 V3:=qw vY Gv
def se:List V3->bp->R3 V3:=tV vY Gv
def NM(T:Tp K mg cl)(h:Def K mg "keeps" sH)(n5:Callee P w K mg base 1 "has_widths" 2 ip)(qc:Callee P w K mg base 1 "unlike_at" 1 lZ)(jc:Callee P w K mg base 9 "keeping_faults" 1 fQ)(uR:Callee P w K mg base 2 "lost_at" 2 qe)(iG:Ly P w K mg base cl 3 0 "Bench" 1 fw)(iL:vd P w K mg base cl 4 0 "tells" 2 iB)(eQ:vd P w K mg base cl 2 0 "inputs_in" 1 dy):bU P w K mg base cl 10 "keeps" 1 Le:=
 Eh h Ld.2 C6.2 Ng λ_ _ _ _ _ _ _ hr nd=>(ak (jB (dD$ Ba$ AY$ aX n5$ ab (aa 0)$ ab ag ae) (aK LB) d_)$ ak (aY$ N4 iG hr (by decide) rfl (az (ai$ aa 0) bO)$ e_ lu)$ ak (aY$ we iL hr (by decide) (cR 1) (az (ai$ aL ae)$ az (ai$ aL ae) bO)$ e_$ e_ lu)$ ak (aY$ ai$ aX qc$ ab (aa 2) ae)$ ak (jB (dD$ bS (yH hr.units) (aa 3) ag) (aK$ cZ$ EA$ az (ai bY)$ az (ai$ aL ae)$ az (ai$ aL ae)$ az (Pu (we eQ hr (by decide) (cR 1) (az (ai$ aa 3) bO)$ e_ lu) (ai ag)$ λ_ _=>rfl) bO) d_)$ ak (cJ (bw$ bg$ aX jc$ ab (aa 0) ae) (dm$ aQ aH$ aQ aH cN)$ ak (aY$ LC uR hr (by decide) rfl (az (ai$ aa 2)$ az (we iL hr (by decide) (cR 1) (az (ai$ aa 5)$ az (ai$ aa 4) bO)$ e_$ e_ lu) bO)$ e_$ e_ lu)$ aK$ jB (dD$ bS (yH hr.units) (aa 3) ag) (aK$ cZ$ EA$ az (ai bY)$ az (ai$ aa 4)$ az (ai$ aa 5)$ az (Pu (we eQ hr (by decide) (cR 1) (az (ai$ aa 3) bO)$ e_ lu) (ai ag)$ λ_ _=>rfl) bO) d_)$ aK$ cZ$ ai$ aL$ ab bY ae)
abbrev hJ:Stmt:=top 30
noncomputable abbrev sR:List Str:=["one","other","pairs","out_place","in_place"]
noncomputable def zd:Qdd hJ:=⟨_,by conv=>lhs;whnf⟩
noncomputable def qr:Qde hJ:=⟨_,by conv=>lhs;whnf⟩
def Bc:aW sR ["one","other","pairs"] qr.1:={}
def pz:FS:=(D2 (b2 vX (aD cP$ ah (e2 bz (e2 bz (e2 bz (af 0)$ eC$ .int 2)$ af 3)$ eC$ .int 1) ax)$ e2 bz (e2 bz (e2 bz (af 1)$ eC$ .int 0)$ af 4)$ eC$ .int 1) Yb yk)
def Bf:FS:=(q9 (cb$ af 2) (fD 2$ bL (aC 3)$ bL (aC 4) fA) pz)
def jV:List D->R D:=qJ sR Bf
def BI(T:Tp K mg cl)(h:Def K mg "check_fits" hJ):Callee P w K mg base 1 "check_fits" 3 jV:=
 wF h zd.2 qr.2 Bc λ_ _ _ _ _ _ _ hr nd=>(aT$ fN (bg$ aa 2) (dA$ bb aA$ bb aA cU)$ aT$ jj (bS (yH hr.units) (aG cz rfl T.z_len QaA$ ab (av (av (av (aa 0) ag)$ aa 3) ag) ae)$ av (av (av (aa 1) ag)$ aa 4) ag) (aT Gr) jx)
abbrev gn:Stmt:=top 31
noncomputable abbrev jh:List Str:=["pairs","found","out_place","in_place"]
noncomputable def xW:Qdd gn:=⟨_,by conv=>lhs;whnf⟩
noncomputable def pe:Qde gn:=⟨_,by conv=>lhs;whnf⟩
def y8:aW jh ["pairs"] pe.1:={}
def vH:FZ:=(bq (Bv (bT$ b2 CT (af 3)$ af 1) Wr oB)$ yb (gb 1) (xP$ af 3)$ xP$ af 2)
def qI:FZ:=(bq (bW 1 D8)$ bq (gP (iP$ cb$ af 0) (zh 2$ l8 (fZ 2)$ l8 (fZ 3) z_) vH)$ g8$ gb 1)
def wQ:List V3->bp->R3 V3:=qw jh qI
def kZ:List V3->bp->R3 V3:=tV jh qI
def y0(T:Tp K mg cl)(h:Def K mg "outs_of_ins" gn):bU P w K mg base cl 1 "outs_of_ins" 1 wQ:=
 Eh h xW.2 pe.2 y8 λ_ _ _ _ _ _ _ hr nd=>(ak (aY A9)$ ak (cJ (bw$ bg$ aa 0) (dm$ aQ aH$ aQ aH cN)$ ak (jB (xq$ bS (GF$ oa hr) (aa 3)$ aa 1) (aK LB) d_)$ aK$ xh (oa hr) (ai$ aa 2) (cR 1)$ ai$ aa 3)$ aK$ cZ$ cR 1)
abbrev gc:Stmt:=top 32
noncomputable abbrev jg:List Str:=["told","names","name","rest"]
noncomputable def xt:Qdd gc:=⟨_,by conv=>lhs;whnf⟩
noncomputable def oO:Qde gc:=⟨_,by conv=>lhs;whnf⟩
def yW:aW jg ["told"] oO.1:={}
def vN:FZ:=(bq (Bv (bT$ b2 CT (af 2)$ af 1) Wr oB)$ yb (gb 1) (xP$ af 2)$ xP$ eC$ .bl true)
def qF:FZ:=(bq (bW 1 D8)$ gP (iP$ cb$ af 0) (zh 2$ l8 (fZ 2)$ l8 (fZ 3) z_) vN)
def wy:List V3->bp->R3 V3:=qw jg qF
def iy:List V3->bp->R3 V3:=tV jg qF
def yN(T:Tp K mg cl)(h:Def K mg "check_names" gc):bU P w K mg base cl 1 "check_names" 1 wy:=
 Eh h xt.2 oO.2 yW λ_ _ _ _ _ _ _ hr nd=>(ak (aY A9)$ aK$ cJ (bw$ bg$ aa 0) (dm$ aQ aH$ aQ aH cN)$ ak (jB (xq$ bS (GF$ oa hr) (aa 2)$ aa 1) (aK LB) d_)$ aK$ xh (oa hr) (ai uD) (cR 1)$ ai$ aa 2)
abbrev ik:Stmt:=top 33
noncomputable abbrev fT:List Str:=["net"]
noncomputable def zf:Qdd ik:=⟨_,by conv=>lhs;whnf⟩
noncomputable def qN:Qde ik:=⟨_,by conv=>lhs;whnf⟩
def AZ:aW fT ["net"] qN.1:={}
def AH:FS:=(D2 (UH (b2 Ic (aD cP$ ah (e2 bz (af 0)$ eC$ .int 0) ax)$ eC iY)$ UH (b2 Ic (aD cP$ ah (e2 bz (af 0)$ eC$ .int 1) ax)$ eC fS)$ b2 Ic (aD cP$ ah (e2 bz (af 0)$ eC$ .int 2) ax)$ eC gW) Yb yk)
def j5:List D->R D:=qJ fT AH
def BO(T:Tp K mg cl)(h:Def K mg "check_room" ik):Callee P w K mg base 1 "check_room" 1 j5:=
 wF h zf.2 qN.2 AZ λ_ _ _ _ _ _ _ hr nd=>(aT$ jj (Hf$ GU (bS Kn (aG cz rfl T.z_len QaA$ ab (av (aa 0) ag) ae)$ wK T.iY rfl)$ GU (bS Kn (aG cz rfl T.z_len QaA$ ab (av (aa 0) ag) ae)$ wK T.fS rfl)$ J6$ bS Kn (aG cz rfl T.z_len QaA$ ab (av (aa 0) ag) ae)$ wK T.gW rfl) (aT Gr) jx)
abbrev g_:Stmt:=top 34
noncomputable abbrev sv:List Str:=["ins"]
noncomputable def yJ:Qdd g_:=⟨_,by conv=>lhs;whnf⟩
noncomputable def qD:Qde g_:=⟨_,by conv=>lhs;whnf⟩
def AB:aW sv ["ins"] qD.1:={}
def BN:FS:=(f_$ aD tQ$ ah (eNew$ bX (cb$ af 0) (fD 2$ bL (aC 0)$ bL (aC 1) fA) eB (af 1) ["name","width"] []) ax)
def dX:List D->R D:=qJ sv BN
def AX(T:Tp K mg cl)(h:Def K mg "many_wires" g_):Callee P w K mg base 1 "many_wires" 1 dX:=
 wF h yJ.2 qD.2 AB λ_ _ _ _ _ _ _ hr nd=>(aT$ bR$ aG (EE rfl) rfl T.z_sum QcD$ ab (bt$ bB (bg$ aa 0) (λ_ _ _=>(dA$ bb aA$ bb aA cU)) (λ_ _ _=>br)$ λ_ _ _=>(aa 1)) ae)
abbrev mJ:Stmt:=top 35
noncomputable abbrev zq:List Str:=["told","numbers"]
noncomputable def EK:Qdd mJ:=⟨_,by conv=>lhs;whnf⟩
noncomputable def xp:Qde mJ:=⟨_,by conv=>lhs;whnf⟩
def IS:aW zq ["told","numbers"] xp.1:={}
def IV:FS:=(f_$ aD h_$ ah (eNew$ bX (cb$ af 0) (aC 0) eB (e2 bz (af 1)$ af 0) ["wire"] [1]) ax)
def gY:List D->R D:=qJ zq IV
def ID(T:Tp K mg cl)(h:Def K mg "rewired" mJ):Callee P w K mg base 1 "rewired" 2 gY:=
 wF h EK.2 xp.2 IS λ_ _ _ _ _ _ _ hr nd=>(aT$ bR$ cg gI rfl T.z_tuple Qa1$ ab (bt$ bB (bg$ aa 0) (λ_ _ _=>aA) (λ_ _ _=>br)$ λ_ _ _=>(av (aa 1)$ aa 0)) ae)
abbrev eX:Stmt:=top 36
noncomputable abbrev oi:List Str:=["gates","numbers"]
noncomputable def uo:Qdd eX:=⟨_,by conv=>lhs;whnf⟩
noncomputable def mT:Qde eX:=⟨_,by conv=>lhs;whnf⟩
def vL:aW oi ["gates","numbers"] mT.1:={}
def vF:FS:=(f_$ eNew$ bX (cb$ af 0) (fD 3$ bL (aC 0)$ bL (aC 1)$ bL (aC 2) fA) eB (b_$ ah (af 0)$ ah (aD gY$ ah (af 1)$ ah (af 3) ax)$ ah (af 2) ax) ["kind","wires","sure"] [1])
def eY:List D->R D:=qJ oi vF
def vA(T:Tp K mg cl)(h:Def K mg "rewired_gates" eX)(fW:Callee P w K mg base 1 "rewired" 2 gY):Callee P w K mg base 2 "rewired_gates" 2 eY:=
 wF h uo.2 mT.2 vL λ_ _ _ _ _ _ _ hr nd=>(aT$ bR$ bt$ bB (bg$ aa 0) (λ_ _ _=>(dA$ bb aA$ bb aA$ bb aA cU)) (λ_ _ _=>br)$ λ_ _ _=>(aL$ ab (aa 0)$ ab (aX fW$ ab (aa 1)$ ab (aa 3) ae)$ ab (aa 2) ae))
abbrev fL:Stmt:=top 37
noncomputable abbrev oV:List Str:=["outs","numbers"]
noncomputable def vG:Qdd fL:=⟨_,by conv=>lhs;whnf⟩
noncomputable def n8:Qde fL:=⟨_,by conv=>lhs;whnf⟩
def w_:aW oV ["outs","numbers"] n8.1:={}
def xF:FS:=(f_$ eNew$ bX (cb$ af 0) (fD 2$ bL (aC 0)$ bL (aC 1) fA) eB (b_$ ah (af 0)$ ah (aD gY$ ah (af 1)$ ah (af 2) ax) ax) ["name","wires"] [1])
def fH:List D->R D:=qJ oV xF
def wH(T:Tp K mg cl)(h:Def K mg "rewired_outs" fL)(fW:Callee P w K mg base 1 "rewired" 2 gY):Callee P w K mg base 2 "rewired_outs" 2 fH:=
 wF h vG.2 n8.2 w_ λ_ _ _ _ _ _ _ hr nd=>(aT$ bR$ bt$ bB (bg$ aa 0) (λ_ _ _=>(dA$ bb aA$ bb aA cU)) (λ_ _ _=>br)$ λ_ _ _=>(aL$ ab (aa 0)$ ab (aX fW$ ab (aa 1)$ ab (aa 2) ae) ae))
abbrev gf:Stmt:=top 38
noncomputable abbrev ji:List Str:=["one","left_wires","many","numbers"]
noncomputable def yd:Qdd gf:=⟨_,by conv=>lhs;whnf⟩
noncomputable def pH:Qde gf:=⟨_,by conv=>lhs;whnf⟩
def zg:aW ji ["one","left_wires"] pH.1:={}
def yE:FS:=(du (i0 2$ aD dX$ ah (e2 bz (af 0)$ eC$ .int 0) ax)$ du (vU 3$ Ny$ af 2)$ du (K_ 3$ bX (bZ$ aD cP$ ah (e2 bz (af 0)$ eC$ .int 1) ax) (aC 0) eB (e2 cI (e2 cI (af 2)$ af 1)$ af 0) ["place"] [1,2])$ CZ 3$ f_$ af 3)
def jn:List D->R D:=qJ ji yE
def yP(T:Tp K mg cl)(h:Def K mg "one_numbers" gf)(dr:Callee P w K mg base 1 "many_wires" 1 dX):Callee P w K mg base 2 "one_numbers" 2 jn:=
 wF h yd.2 pH.2 zg λ_ _ _ _ _ _ _ hr nd=>(aV (cx$ aX dr$ ab (av (aa 0) ag) ae)$ aV (tq$ Oh rfl (aa 2) rfl T.z_list rfl T.z_range)$ aV (DV$ bB (aS (aG cz rfl T.z_len QaA$ ab (av (aa 0) ag) ae) rfl T.z_range) (λ_ _ _=>aA) (λ_ _ _=>br)$ λ_ _ _=>(aw cD (aw cD (aa 2)$ aa 1)$ aa 0))$ pM 3$ aT$ bR$ aa 3)
abbrev eR:Stmt:=top 39
noncomputable abbrev gH:List Str:=["other","one","numbers","named","found","free","place","told","top"]
noncomputable def uB:Qdd eR:=⟨_,by conv=>lhs;whnf⟩
noncomputable def mR:Qde eR:=⟨_,by conv=>lhs;whnf⟩
def vE:aW gH ["other","one","numbers","named"] mR.1:={}
def l4:FS:=(D2 (b2 CT (af 6)$ af 3) (zR 4$ aD gY$ ah (e2 bz (e2 bz (e2 bz (af 1)$ eC$ .int 2)$ e2 CL (af 3)$ af 6)$ eC$ .int 1)$ ah (af 2) ax)$ du (zR 4$ eNew$ Dl (af 5)$ e2 cI (af 5)$ e2 bz (af 7)$ eC$ .int 1)$ i0 5$ e2 cI (af 5)$ e2 bz (af 7)$ eC$ .int 1)
def vW:FS:=(du (vU 4$ eF ax)$ du (i0 5$ aD dX$ ah (e2 bz (af 1)$ eC$ .int 0) ax)$ du (q9 (f7$ e2 bz (af 0)$ eC$ .int 0) (fD 2$ bL (aC 6)$ bL (aC 7) fA) l4)$ du (i0 8$ e2 cI (af 5)$ aD cP$ ah (e2 bz (af 1)$ eC$ .int 1) ax)$ du (zR 4$ eNew$ Dl (af 8)$ e2 cI (af 8)$ aD cP$ ah (e2 bz (af 0)$ eC$ .int 1) ax)$ CZ 4$ f_$ af 4)
def gG:List D->R D:=qJ gH vW
def vB(T:Tp K mg cl)(h:Def K mg "other_numbers" eR)(dr:Callee P w K mg base 1 "many_wires" 1 dX)(fW:Callee P w K mg base 1 "rewired" 2 gY):Callee P w K mg base 2 "other_numbers" 4 gG:=
 wF h uB.2 mR.2 vE λ_ _ _ _ _ _ _ hr nd=>(aV (tq$ cf ae)$ aV (cx$ aX dr$ ab (av (aa 1) ag) ae)$ aV (fN (iW (av (aa 0) ag) rfl T.z_enumerate) (dA$ bb aA$ bb aA cU)$ aT$ jj (bS (GF$ oa hr) (aa 6)$ aa 3) (aT$ tY$ aX fW$ ab (av (av (av (aa 1) ag)$ z8 (oa hr) (aa 3) (aa 6)$ λ_ _=>rfl) ag)$ ab (aa 2) ae)$ aV (tY$ bt$ Dq rfl (aa 5) (aw cD (aa 5)$ av (aa 7) ag) rfl T.z_list rfl T.z_range)$ aT$ cx$ aw cD (aa 5)$ av (aa 7) ag)$ aV (cx$ aw cD (aa 5)$ aG cz rfl T.z_len QaA$ ab (av (aa 1) ag) ae)$ aV (tY$ bt$ Dq rfl (aa 8) (aw cD (aa 8)$ aG cz rfl T.z_len QaA$ ab (av (aa 0) ag) ae) rfl T.z_list rfl T.z_range)$ pM 4$ aT$ bR$ aa 4)
abbrev pj:Stmt:=top 40
noncomputable abbrev rV:List Str:=["one","other","pairs","named","fed_by","left_ins","left_outs","numbers","others","ins","gates","outs"]
noncomputable def Ij:Qdd pj:=⟨_,by conv=>lhs;whnf⟩
noncomputable def zZ:Qde pj:=⟨_,by conv=>lhs;whnf⟩
def Kh:aW rV ["one","other","pairs"] zZ.1:={}
def CW:FZ:=(bq (Ai$ xP$ aD jV$ ah (af 0)$ ah (af 1)$ ah (af 2) ax)$ bq (bW 3$ eW kZ$ aZ (xP$ af 2) eA)$ bq (bW 4$ xP$ eNew$ bX (cb$ af 2) (fD 2$ bL (aC 0)$ bL (aC 1) fA) eB (af 0) ["out_place","in_place"] [])$ bq (bW 5$ jv (iP$ f7$ e2 bz (af 1)$ eC$ .int 0) (zh 2$ l8 (fZ 0)$ l8 (fZ 1) z_) (bP$ b2 LI (af 0)$ af 2) (xP$ af 1) ["place","told"] [3])$ bq (bW 6$ jv (iP$ f7$ e2 bz (af 0)$ eC$ .int 2) (zh 2$ l8 (fZ 0)$ l8 (fZ 1) z_) (bP$ b2 Bn (af 0)$ af 2) (xP$ af 1) ["place","told"] [4])$ bq (bW 7$ xP$ aD jn$ ah (af 0)$ ah (aD dX$ ah (af 5) ax) ax)$ bq (bW 8$ xP$ aD gG$ ah (af 1)$ ah (af 0)$ ah (af 7)$ ah (af 3) ax)$ bq (bW 9$ xP$ e2 cI (e2 bz (af 0)$ eC$ .int 0)$ af 5)$ bq (bW 10$ xP$ e2 cI (aD eY$ ah (e2 bz (af 0)$ eC$ .int 1)$ ah (af 7) ax)$ aD eY$ ah (e2 bz (af 1)$ eC$ .int 1)$ ah (af 8) ax)$ bq (bW 11$ xP$ e2 cI (aD fH$ ah (af 6)$ ah (af 7) ax)$ aD fH$ ah (e2 bz (af 1)$ eC$ .int 2)$ ah (af 8) ax)$ bq (Ai$ eW iy$ aZ (xP$ af 9) eA)$ bq (Ai$ eW iy$ aZ (xP$ af 11) eA)$ bq (Ai$ xP$ aD j5$ ah (b_$ ah (af 9)$ ah (af 10)$ ah (af 11) ax) ax)$ g8$ xP$ b_$ ah (af 9)$ ah (af 10)$ ah (af 11) ax)
def Hv:List V3->bp->R3 V3:=qw rV CW
def Ag:List V3->bp->R3 V3:=tV rV CW
def Lk(T:Tp K mg cl)(h:Def K mg "joined" pj)(n6:Callee P w K mg base 1 "check_fits" 3 jV)(dr:Callee P w K mg base 1 "many_wires" 1 dX)(mB:Callee P w K mg base 2 "one_numbers" 2 jn)(jM:Callee P w K mg base 2 "other_numbers" 4 gG)(gL:Callee P w K mg base 2 "rewired_gates" 2 eY)(iI:Callee P w K mg base 2 "rewired_outs" 2 fH)(nP:Callee P w K mg base 1 "check_room" 1 j5)(lx:bU P w K mg base cl 1 "outs_of_ins" 1 kZ)(iK:bU P w K mg base cl 1 "check_names" 1 iy):bU P w K mg base cl 3 "joined" 3 Hv:=
 Eh h Ij.2 zZ.2 Kh λ_ _ _ _ _ _ _ hr nd=>(ak (wd$ ai$ aX n6$ ab (aa 0)$ ab (aa 1)$ ab (aa 2) ae)$ ak (aY$ cM lx$ az (ai$ aa 2) bO)$ ak (aY$ ai$ bt$ bB (bg$ aa 2) (λ_ _ _=>(dA$ bb aA$ bb aA cU)) (λ_ _ _=>br)$ λ_ _ _=>(aa 0))$ ak (eL (bw$ iW (av (aa 1) ag) rfl T.z_enumerate) (λ_ _ _=>(dm$ aQ aH$ aQ aH cN)) (λ_ _ _=>(tO$ dD$ bS (PR$ oa hr) (aa 0)$ aa 2))$ λ_ _ _=>(ai$ aa 1))$ ak (eL (bw$ iW (av (aa 0) ag) rfl T.z_enumerate) (λ_ _ _=>(dm$ aQ aH$ aQ aH cN)) (λ_ _ _=>(tO$ dD$ bS Gd (aa 0)$ aa 2))$ λ_ _ _=>(ai$ aa 1))$ ak (aY$ ai$ aX mB$ ab (aa 0)$ ab (aX dr$ ab (aa 5) ae) ae)$ ak (aY$ ai$ aX jM$ ab (aa 1)$ ab (aa 0)$ ab (aa 7)$ ab (aa 3) ae)$ ak (aY$ ai$ aw cD (av (aa 0) ag)$ aa 5)$ ak (aY$ ai$ aw cD (aX gL$ ab (av (aa 0) ag)$ ab (aa 7) ae)$ aX gL$ ab (av (aa 1) ag)$ ab (aa 8) ae)$ ak (aY$ ai$ aw cD (aX iI$ ab (aa 6)$ ab (aa 7) ae)$ aX iI$ ab (av (aa 1) ag)$ ab (aa 8) ae)$ ak (wd$ cM iK$ az (ai$ aa 9) bO)$ ak (wd$ cM iK$ az (ai$ aa 11) bO)$ ak (wd$ ai$ aX nP$ ab (aL$ ab (aa 9)$ ab (aa 10)$ ab (aa 11) ae) ae)$ aK$ cZ$ ai$ aL$ ab (aa 9)$ ab (aa 10)$ ab (aa 11) ae)
abbrev gz:Stmt:=top 42
noncomputable abbrev gq:List Str:=["script","k"]
noncomputable def wJ:Qdd gz:=⟨_,by conv=>lhs;whnf⟩
noncomputable def oK:Qde gz:=⟨_,by conv=>lhs;whnf⟩
def yS:aW gq ["script","k"] oK.1:={}
def qU:FS:=(du (D2 (b2 Tu (af 1)$ aD cP$ ah (af 0) ax) (f_$ e2 bz (af 0)$ af 1) yk)$ f_$ eC$ .int 0)
def dt:List D->R D:=qJ gq qU
def yD(T:Tp K mg cl)(h:Def K mg "_law_cell_at" gz):Callee P w K mg base 1 "_law_cell_at" 2 dt:=
 wF h wJ.2 oK.2 yS λ_ _ _ _ _ _ _ hr nd=>(aV (jj (bS Vf (aa 1)$ aG cz rfl T.z_len QaA$ ab (aa 0) ae) (aT$ bR$ av (aa 0)$ aa 1) jx)$ aT$ bR ag)
abbrev gg:Stmt:=top 43
noncomputable abbrev jl:List Str:=["cell","many","found","rest","k","one"]
noncomputable def xR:Qdd gg:=⟨_,by conv=>lhs;whnf⟩
noncomputable def pE:Qde gg:=⟨_,by conv=>lhs;whnf⟩
def yG:aW jl ["cell","many"] pE.1:={}
def om:FS:=(D2 (b2 U7 (aD cAbs$ ah (af 0) ax)$ e2 Rz (eC$ .int 10)$ eC$ .int 18) (du (EL 2$ e2 fF (af 3)$ eC$ .int 1009)$ i0 3$ e2 pL (af 3)$ eC$ .int 1009)$ du (i0 5$ e2 fF (e2 cI (e2 fF (af 3)$ eC$ .int 2147483629)$ e2 lJ (e2 lJ (eC$ .int 7919)$ e2 cI (af 4)$ eC$ .int 1)$ e2 cI (af 4)$ eC$ .int 3)$ eC$ .int 2147483629)$ du (i0 5$ e2 cI (e2 fF (e2 lJ (af 5)$ af 5)$ eC$ .int 2147483587)$ e2 pL (af 5)$ eC$ .int 7)$ EL 2$ e2 pL (e2 fF (e2 lJ (af 5)$ eC$ .int 48271)$ eC$ .int 2147483647)$ eC$ .int 16)
def yR:FS:=(du (vU 2$ eF ax)$ du (i0 3$ aD cAbs$ ah (af 0) ax)$ du (q9 (bZ$ af 1) (aC 4) om)$ CZ 2$ f_$ af 2)
def dZ:List D->R D:=qJ jl yR
def yK(T:Tp K mg cl)(h:Def K mg "_law_numbers" gg):Callee P w K mg base 1 "_law_numbers" 2 dZ:=
 wF h xR.2 pE.2 yG λ_ _ _ _ _ _ _ hr nd=>(aV (tq$ cf ae)$ aV (cx$ aG Pp rfl T.z_abs PyProof.Rows.boot_abs$ ab (aa 0) ae)$ aV (fN (aS (aa 1) rfl T.z_range) aA$ aT$ jj (bS Uh (aG Pp rfl T.z_abs PyProof.Rows.boot_abs$ ab (aa 0) ae)$ aw Uw ag ag) (aV (wA$ aw eE (aa 3) ag)$ aT$ cx$ aw ub (aa 3) ag)$ aV (cx$ aw eE (aw cD (aw eE (aa 3) ag)$ aw lh (aw lh ag$ aw cD (aa 4) ag)$ aw cD (aa 4) ag) ag)$ aV (cx$ aw cD (aw eE (aw lh (aa 5)$ aa 5) ag)$ aw ub (aa 5) ag)$ aT$ wA$ aw ub (aw eE (aw lh (aa 5) ag) ag) ag)$ pM 2$ aT$ bR$ aa 2)
abbrev kL:Stmt:=top 44
noncomputable abbrev xG:List Str:=["number"]
noncomputable def Dz:Qdd kL:=⟨_,by conv=>lhs;whnf⟩
noncomputable def u_:Qde kL:=⟨_,by conv=>lhs;whnf⟩
def ET:aW xG ["number"] u_.1:={}
def Ft:FS:=(f_$ e2 bz (eNew$ eF$ ah (b_$ ah (eC$ .str "and")$ ah (eC$ .int 2) ax)$ ah (b_$ ah (eC$ .str "or")$ ah (eC$ .int 2) ax)$ ah (b_$ ah (eC$ .str "xor")$ ah (eC$ .int 2) ax)$ ah (b_$ ah (eC$ .str "not")$ ah (eC$ .int 1) ax)$ ah (b_$ ah (eC$ .str "vote")$ ah (eC$ .int 3) ax)$ ah (b_$ ah (eC$ .str "and")$ ah (eC$ .int 2) ax)$ ah (b_$ ah (eC$ .str "xor")$ ah (eC$ .int 2) ax) ax)$ e2 fF (af 0)$ eC$ .int 7)
def nk:List D->R D:=qJ xG Ft
def EW(T:Tp K mg cl)(h:Def K mg "_law_kind" kL):Callee P w K mg base 1 "_law_kind" 1 nk:=
 wF h Dz.2 u_.2 ET λ_ _ _ _ _ _ _ hr nd=>(aT$ bR$ av (bt$ cf$ ab (aL$ ab bY$ ab ag ae)$ ab (aL$ ab bY$ ab ag ae)$ ab (aL$ ab bY$ ab ag ae)$ ab (aL$ ab bY$ ab ag ae)$ ab (aL$ ab bY$ ab ag ae)$ ab (aL$ ab bY$ ab ag ae)$ ab (aL$ ab bY$ ab ag ae) ae)$ aw eE (aa 0) ag)
abbrev jF:Stmt:=top 45
noncomputable abbrev l3:List Str:=["script","first","many","wires","gates","k","numbers","kind","count","some","j","near"]
noncomputable def AM:Qdd jF:=⟨_,by conv=>lhs;whnf⟩
noncomputable def tI:Qde jF:=⟨_,by conv=>lhs;whnf⟩
def CQ:aW l3 ["script","first","many","wires"] tI.1:={}
def mf:FZ:=(bq (bW 11$ xP$ e2 bz (eNew$ eF$ ah (e2 fF (e2 pL (e2 bz (af 6)$ e2 cI (eC$ .int 1)$ af 10)$ eC$ .int 2)$ aD sS$ ah (eC$ .int 4)$ ah (af 3) ax)$ ah (e2 fF (e2 pL (e2 bz (af 6)$ e2 cI (eC$ .int 1)$ af 10)$ eC$ .int 2)$ af 3) ax)$ e2 fF (e2 bz (af 6)$ e2 cI (eC$ .int 1)$ af 10)$ eC$ .int 2)$ jY 9$ xP$ e2 rB (e2 rB (af 3)$ eC$ .int 1)$ af 11)
def qL:FZ:=(bq (bW 6$ xP$ aD dZ$ ah (aD dt$ ah (af 0)$ ah (e2 cI (af 1)$ af 5) ax)$ ah (eC$ .int 6) ax)$ bq (OQ (xP$ aD nk$ ah (e2 bz (af 6)$ eC$ .int 0) ax)$ zh 2$ l8 (fZ 7)$ l8 (fZ 8) z_)$ bq (bW 9$ mQ$ eF ax)$ bq (gP (iP$ bZ$ af 8) (fZ 10) mf)$ bq (jY 4$ xT$ b_$ ah (af 7)$ ah (aD h_$ ah (af 9) ax)$ ah (e2 xK (e2 fF (e2 bz (af 6)$ eC$ .int 4)$ eC$ .int 6)$ eC$ .int 0) ax)$ bW 3$ xP$ e2 cI (af 3)$ eC$ .int 1)
def vg:FZ:=(bq (bW 4$ mQ$ eF ax)$ bq (gP (iP$ bZ$ af 2) (fZ 5) qL)$ sx 4$ g8$ xP$ af 4)
def Bq:List V3->bp->R3 V3:=qw l3 vg
def m8:List V3->bp->R3 V3:=tV l3 vg
def Dc(T:Tp K mg cl)(h:Def K mg "_law_gates" jF)(d6:Callee P w K mg base 1 "_law_cell_at" 2 dt)(d7:Callee P w K mg base 1 "_law_numbers" 2 dZ)(rJ:Callee P w K mg base 1 "_law_kind" 1 nk):bU P w K mg base cl 2 "_law_gates" 4 Bq:=
 Eh h AM.2 tI.2 CQ λ_ _ _ _ _ _ _ hr nd=>(ak (aY$ gO$ cf ae)$ ak (cJ (bw$ aS (aa 2) rfl T.z_range) aH$ ak (aY$ ai$ aX d7$ ab (aX d6$ ab (aa 0)$ ab (aw cD (aa 1)$ aa 5) ae)$ ab ag ae)$ ak (Kq (ai$ aX rJ$ ab (av (aa 6) ag) ae)$ dm$ aQ aH$ aQ aH cN)$ ak (aY$ gO$ cf ae)$ ak (cJ (bw$ aS (aa 8) rfl T.z_range) aH$ ak (aY$ ai$ av (bt$ cf$ ab (aw eE (aw ub (av (aa 6)$ aw cD ag$ aa 10) ag)$ aG (Bu rfl) rfl T.z_min Qb8$ ab ag$ ab (aa 3) ae)$ ab (aw eE (aw ub (av (aa 6)$ aw cD ag$ aa 10) ag)$ aa 3) ae)$ aw eE (av (aa 6)$ aw cD ag$ aa 10) ag)$ aK$ fq$ ai$ aw oQ (aw oQ (aa 3) ag)$ aa 11)$ ak (fq$ lM$ aL$ ab (aa 7)$ ab (cg gI rfl T.z_tuple Qa1$ ab (aa 9) ae)$ ab (j7 (uH hr.units) (aw eE (av (aa 6) ag) ag) ag) ae)$ aK$ aY$ ai$ aw cD (aa 3) ag)$ jm 4$ aK$ cZ$ ai$ aa 4)
abbrev kW:Stmt:=top 46
noncomputable abbrev nL:List Str:=["net","bits","turned","bad","wires","bit","one","place","gate","some","found"]
noncomputable def Cw:Qdd kW:=⟨_,by conv=>lhs;whnf⟩
noncomputable def uT:Qde kW:=⟨_,by conv=>lhs;whnf⟩
def Em:aW nL ["net","bits","turned","bad"] uT.1:={}
def BG:FZ:=(bW 4$ SY (gb 4)$ xP$ eNew$ Ey (eF$ ah (af 5) ax)$ e2 bz (af 6)$ eC$ .int 1)
def tF:FZ:=(bq (bW 9$ jv (iP$ cb$ e2 bz (af 8)$ eC$ .int 1) (fZ 0) yL (xT$ e2 bz (af 1)$ af 0) ["wire"] [4])$ bq (bW 10$ BU ["and","or","xor","not"]$ ah (aD sS$ ah (af 9) ax)$ ah (aD G7$ ah (af 9) ax)$ ah (e2 fF (aD tQ$ ah (af 9) ax)$ eC$ .int 2)$ ah (e2 rB (eC$ .int 1)$ e2 bz (af 9)$ eC$ .int 0) ax)$ bq (bW 5$ DD 10 (e2 bz (af 8)$ eC$ .int 0)$ aD rZ$ ah (e2 Ic (aD tQ$ ah (af 9) ax)$ eC$ .int 1) ax)$ jY 4$ xP$ e2 fF (e2 cI (af 5)$ aD rZ$ ah (e2 PY (af 7)$ af 2) ax)$ eC$ .int 2)
def wC:FZ:=(bq (bW 4$ mQ$ eF ax)$ bq (gP (iP$ D9 (af 1)$ e2 bz (af 0)$ eC$ .int 0) (zh 2$ l8 (fZ 5)$ l8 (fZ 6) z_) BG)$ bq (bW 4$ GD$ bX (f7$ af 4) (fD 2$ bL (aC 0)$ bL (aC 1) fA) eB (e2 fF (e2 cI (af 1)$ aD rZ$ ah (e2 PY (af 0)$ af 2) ax)$ eC$ .int 2) ["k","bit"] [3])$ bq (gP (iP$ f7$ e2 bz (af 0)$ eC$ .int 1) (zh 2$ l8 (fZ 7)$ l8 (fZ 8) z_) tF)$ g8$ gb 4)
def CB:List V3->bp->R3 V3:=qw nL wC
def pI:List V3->bp->R3 V3:=tV nL wC
def Fi(T:Tp K mg cl)(h:Def K mg "_law_told" kW):bU P w K mg base cl 1 "_law_told" 4 CB:=
 Eh h Cw.2 uT.2 Em λ_ _ _ _ _ _ _ hr nd=>(ak (aY$ gO$ cf ae)$ ak (cJ (bw$ yf (aa 1) (av (aa 0) ag) rfl T.z_zip) (dm$ aQ aH$ aQ aH cN)$ aK$ aY$ R4 (cR 4)$ ai$ bt$ Gp (cf$ ab (aa 5) ae)$ av (aa 6) ag)$ ak (aY$ Oe$ bB (iW (aa 4) rfl T.z_enumerate) (λ_ _ _=>(dA$ bb aA$ bb aA cU)) (λ_ _ _=>br)$ λ_ _ _=>(aw eE (aw cD (aa 1)$ cg Bd rfl T.z_int Qb9$ ab (j7 Nk (aa 0)$ aa 2) ae) ag))$ ak (cJ (bw$ iW (av (aa 0) ag) rfl T.z_enumerate) (dm$ aQ aH$ aQ aH cN)$ ak (eL (bw$ bg$ av (aa 8) ag) (λ_ _ _=>aH) (λ_ _ _=>km)$ λ_ _ _=>(lM$ av (aa 1)$ aa 0))$ ak (aY$ Lz (r6 bY (aG (Bu rfl) rfl T.z_min Qb8$ ab (aa 9) ae)$ r6 bY (aG (Sy rfl) rfl T.z_max PyProof.Rows.boot_max$ ab (aa 9) ae)$ r6 bY (aw eE (aG (EE rfl) rfl T.z_sum QcD$ ab (aa 9) ae) ag)$ r6 bY (aw oQ ag$ av (aa 9) ag) N8) rfl rfl (by simp)$ by decide)$ ak (aY$ NK (oa hr) rfl Qdc (av (aa 8) ag)$ cg Bd rfl T.z_int Qb9$ ab (j7 Kn (aG (EE rfl) rfl T.z_sum QcD$ ab (aa 9) ae) ag) ae)$ aK$ fq$ ai$ aw eE (aw cD (aa 5)$ cg Bd rfl T.z_int Qb9$ ab (j7 Nk (aa 7)$ aa 2) ae) ag)$ aK$ cZ$ cR 4)
abbrev k_:Stmt:=top 48
noncomputable abbrev nu:List Str:=["net","bits","turned","bad","wires"]
noncomputable def CY:Qdd k_:=⟨_,by conv=>lhs;whnf⟩
noncomputable def u6:Qde k_:=⟨_,by conv=>lhs;whnf⟩
def EN:aW nu ["net","bits","turned","bad"] u6.1:={}
def xX:FZ:=(bq (bW 4$ eW pI$ aZ (xP$ af 0)$ aZ (xP$ af 1)$ aZ (xP$ af 2)$ aZ (xP$ af 3) eA)$ g8$ xP$ eNew$ bX (cb$ e2 bz (af 0)$ eC$ .int 2) (fD 2$ bL (aC 0)$ bL (aC 1) fA) eB (aD h_$ ah (eNew$ bX (cb$ af 1) (aC 0) eB (e2 bz (af 1)$ af 0) ["wire"] [2]) ax) ["name","wired"] [4])
def DF:List V3->bp->R3 V3:=qw nu xX
def jr:List V3->bp->R3 V3:=tV nu xX
def Fd(T:Tp K mg cl)(h:Def K mg "_law_outs" k_)(pZ:bU P w K mg base cl 1 "_law_told" 4 pI):bU P w K mg base cl 2 "_law_outs" 4 DF:=
 Eh h CY.2 u6.2 EN λ_ _ _ _ _ _ _ hr nd=>(ak (aY$ cM pZ$ az (ai$ aa 0)$ az (ai$ aa 1)$ az (ai$ aa 2)$ az (ai$ aa 3) bO)$ aK$ cZ$ ai$ bt$ bB (bg$ av (aa 0) ag) (λ_ _ _=>(dA$ bb aA$ bb aA cU)) (λ_ _ _=>br)$ λ_ _ _=>(cg gI rfl T.z_tuple Qa1$ ab (bt$ bB (bg$ aa 1) (λ_ _ _=>aA) (λ_ _ _=>br)$ λ_ _ _=>(av (aa 1)$ aa 0)) ae))
abbrev kY:Stmt:=top 49
noncomputable abbrev rm:List Str:=["net","number","many"]
noncomputable def Dr:Qdd kY:=⟨_,by conv=>lhs;whnf⟩
noncomputable def vm:Qde kY:=⟨_,by conv=>lhs;whnf⟩
def FK:aW rm ["net","number"] vm.1:={}
def FL:FS:=(du (i0 2$ aD cP$ ah (e2 bz (af 0)$ eC$ .int 0) ax)$ f_$ aD h_$ ah (eNew$ bX (bZ$ af 2) (aC 0) eB (e2 MD (e2 IB (af 1)$ e2 rB (e2 rB (af 2)$ eC$ .int 1)$ af 0)$ eC$ .int 1) ["k"] [1,2]) ax)
def i5:List D->R D:=qJ rm FL
def EV(T:Tp K mg cl)(h:Def K mg "_law_bits" kY):Callee P w K mg base 1 "_law_bits" 2 i5:=
 wF h Dr.2 vm.2 FK λ_ _ _ _ _ _ _ hr nd=>(aV (cx$ aG cz rfl T.z_len QaA$ ab (av (aa 0) ag) ae)$ aT$ bR$ cg gI rfl T.z_tuple Qa1$ ab (bt$ bB (aS (aa 2) rfl T.z_range) (λ_ _ _=>aA) (λ_ _ _=>br)$ λ_ _ _=>(aw Je (aw PV (aa 1)$ aw oQ (aw oQ (aa 2) ag)$ aa 0) ag)) ae)
abbrev ix:Stmt:=top 53
noncomputable abbrev j4:List Str:=["numbers","net","at","wires","gates","kind","some","sure","j","mine","copies","place","outs"]
noncomputable def y_:Qdd ix:=⟨_,by conv=>lhs;whnf⟩
noncomputable def qv:Qde ix:=⟨_,by conv=>lhs;whnf⟩
def BC:aW j4 ["numbers","net"] qv.1:={}
def pQ:FZ:=(bq (bW 9$ xT$ aD h_$ ah (eNew$ bX (cb$ af 6) (aC 0) eB (e2 bz (e2 bz (af 1)$ af 0)$ af 2) ["wire"] [2,8]) ax)$ jY 4$ xP$ b_$ ah (af 5)$ ah (af 9)$ ah (af 7) ax)
def oZ:FZ:=(jY 4$ xP$ b_$ ah (eC$ .str "vote")$ ah (aD h_$ ah (af 10) ax)$ ah (af 7) ax)
def oT:FZ:=(bq (gP (iP$ bZ$ eC$ .int 3) (fZ 8) pQ)$ bq (bW 10$ jv (iP$ bZ$ eC$ .int 3) (fZ 0) yL (xP$ e2 gr (af 1)$ af 0) ["j"] [3])$ bq (bW 3$ xP$ e2 gr (af 3)$ eC$ .int 3)$ bq (Bv (bP$ b2 xK (e2 fF (e2 bz (af 0)$ eC$ .int 0)$ eC$ .int 3)$ eC$ .int 0) (bq (gP (iP$ bZ$ eC$ .int 3) (fZ 8) oZ)$ bq (bW 10$ jv (iP$ bZ$ eC$ .int 3) (fZ 0) yL (xP$ e2 gr (af 1)$ af 0) ["j"] [3])$ bW 3$ xP$ e2 gr (af 3)$ eC$ .int 3) oB)$ jY 2$ xP$ af 10)
def sr:FZ:=(bq (bW 2$ mQ$ bX (bZ$ aD cP$ ah (e2 bz (af 1)$ eC$ .int 0) ax) (aC 0) eB (eNew$ bX (bZ$ eC$ .int 3) (aC 0) eB (e2 gr (e2 lJ (eC$ .int 3)$ af 1)$ af 0) ["j"] [0]) ["k"] [])$ bq (bW 3$ xP$ e2 lJ (eC$ .int 3)$ aD cP$ ah (e2 bz (af 1)$ eC$ .int 0) ax)$ bq (bW 4$ mQ$ eF ax)$ bq (gP (iP$ cb$ e2 bz (af 1)$ eC$ .int 1) (zh 3$ l8 (fZ 5)$ l8 (fZ 6)$ l8 (fZ 7) z_) oT)$ sx 2$ bq (Bv (bT$ O6 (b2 xK (e2 fF (e2 bz (af 0)$ eC$ .int 1)$ eC$ .int 3)$ eC$ .int 0)$ b2 vX (af 4)$ eNew$ eF ax) (bq (bW 11$ xT$ e2 fF (e2 bz (af 0)$ eC$ .int 2)$ aD cP$ ah (af 4) ax)$ bq (OQ (xT$ e2 bz (af 4)$ af 11)$ zh 3$ l8 (fZ 5)$ l8 (fZ 6)$ l8 (fZ 7) z_)$ NB (gb 4) (xP$ af 11)$ xP$ b_$ ah (af 5)$ ah (e2 gr (b_$ ah (e2 fF (e2 bz (af 0)$ eC$ .int 3)$ e2 lJ (eC$ .int 3)$ aD cP$ ah (e2 bz (af 1)$ eC$ .int 0) ax) ax)$ Sa (af 6) (xC$ eC$ .int 1) D0)$ ah (af 7) ax) oB)$ sx 4$ bq (bW 12$ mQ$ bX (cb$ e2 bz (af 1)$ eC$ .int 2) (fD 2$ bL (aC 0)$ bL (aC 1) fA) eB (b_$ ah (af 0)$ ah (aD h_$ ah (e2 bz (af 2)$ e2 bz (af 1)$ eC$ .int 0) ax) ax) ["name","some"] [2])$ bq (Bv (bP$ b2 xK (e2 fF (e2 bz (af 0)$ eC$ .int 1)$ eC$ .int 9)$ eC$ .int 1) (NB (gb 12) (xP$ eC$ .int 0)$ xT$ b_$ ah (e2 bz (e2 bz (af 12)$ eC$ .int 0)$ eC$ .int 0)$ ah (e2 gr (Sa (e2 bz (e2 bz (af 12)$ eC$ .int 0)$ eC$ .int 1) D0$ xC$ eC$ .int 2)$ b_$ ah (e2 fF (e2 bz (af 0)$ eC$ .int 3)$ af 3) ax) ax) oB)$ sx 12$ g8$ xP$ b_$ ah (eNew$ bX (cb$ e2 bz (af 1)$ eC$ .int 0) (fD 2$ bL (aC 0)$ bL (aC 1) fA) eB (b_$ ah (af 0)$ ah (eC$ .int 3) ax) ["name","width"] [])$ ah (af 4)$ ah (af 12) ax)
def y9:List V3->bp->R3 V3:=qw j4 sr
def l9:List V3->bp->R3 V3:=tV j4 sr
def AO(T:Tp K mg cl)(h:Def K mg "_law_copied" ix):bU P w K mg base cl 1 "_law_copied" 2 y9:=
 Eh h y_.2 qv.2 BC λ_ _ _ _ _ _ _ hr nd=>(ak (aY$ gO$ bB (aS (aG cz rfl T.z_len QaA$ ab (av (aa 1) ag) ae) rfl T.z_range) (λ_ _ _=>aA) (λ_ _ _=>br)$ λ_ _ _=>(bt$ bB (aS ag rfl T.z_range) (λ_ _ _=>aA) (λ_ _ _=>br)$ λ_ _ _=>(aw ig (aw lh ag$ aa 1)$ aa 0)))$ ak (aY$ ai$ aw lh ag$ aG cz rfl T.z_len QaA$ ab (av (aa 1) ag) ae)$ ak (aY$ gO$ cf ae)$ ak (cJ (bw$ bg$ av (aa 1) ag) (dm$ aQ aH$ aQ aH$ aQ aH cN)$ ak (cJ (bw$ aS ag rfl T.z_range) aH$ ak (aY$ lM$ cg gI rfl T.z_tuple Qa1$ ab (bt$ bB (bg$ aa 6) (λ_ _ _=>aA) (λ_ _ _=>br)$ λ_ _ _=>(av (av (aa 1)$ aa 0)$ aa 2)) ae)$ aK$ fq$ ai$ aL$ ab (aa 5)$ ab (aa 9)$ ab (aa 7) ae)$ ak (eL (bw$ aS ag rfl T.z_range) (λ_ _ _=>aH) (λ_ _ _=>km)$ λ_ _ _=>(ai$ aw ig (aa 1)$ aa 0))$ ak (aY$ ai$ aw ig (aa 3) ag)$ ak (jB (dD$ bS (uH hr.units) (aw eE (av (aa 0) ag) ag) ag) (ak (cJ (bw$ aS ag rfl T.z_range) aH$ aK$ fq$ ai$ aL$ ab bY$ ab (cg gI rfl T.z_tuple Qa1$ ab (aa 10) ae)$ ab (aa 7) ae)$ ak (eL (bw$ aS ag rfl T.z_range) (λ_ _ _=>aH) (λ_ _ _=>km)$ λ_ _ _=>(ai$ aw ig (aa 1)$ aa 0))$ aK$ aY$ ai$ aw ig (aa 3) ag) d_)$ aK$ fq$ ai$ aa 10)$ jm 2$ ak (jB (xq$ Hf$ KG (bS (uH hr.units) (aw eE (av (aa 0) ag) ag) ag)$ IK$ bS (yH hr.units) (aa 4)$ bt$ cf ae) (ak (aY$ lM$ aw eE (av (aa 0) ag)$ aG cz rfl T.z_len QaA$ ab (aa 4) ae)$ ak (Kq (lM$ av (aa 4)$ aa 11)$ dm$ aQ aH$ aQ aH$ aQ aH cN)$ aK$ LM (ai$ aL$ ab (aa 5)$ ab (aw ig (aL$ ab (aw eE (av (aa 0) ag)$ aw lh ag$ aG cz rfl T.z_len QaA$ ab (av (aa 1) ag) ae) ae)$ Gg (aa 6) (xM ag) xl)$ ab (aa 7) ae)$ Kt (PX.go$ cR 4) (PX.go$ ai$ aa 11) set_list) d_)$ jm 4$ ak (CS (bg$ av (aa 1) ag) (λ_ _ _=>(dA$ bb aA$ bb aA cU)) (λ_ _ _=>br)$ λ_ _ _=>(aL$ ab (aa 0)$ ab (cg gI rfl T.z_tuple Qa1$ ab (av (aa 2)$ av (aa 1) ag) ae) ae))$ ak (jB (dD$ bS (uH hr.units) (aw eE (av (aa 0) ag) ag) ag) (aK$ LM (lM$ aL$ ab (av (av (aa 12) ag) ag)$ ab (aw ig (Gg (av (av (aa 12) ag) ag) xl$ xM ag)$ aL$ ab (aw eE (av (aa 0) ag)$ aa 3) ae) ae)$ Kt (PX.go$ cR 12) (PX.go$ ai ag) set_list) d_)$ jm 12$ aK$ cZ$ ai$ aL$ ab (bt$ bB (bg$ av (aa 1) ag) (λ_ _ _=>(dA$ bb aA$ bb aA cU)) (λ_ _ _=>br)$ λ_ _ _=>(aL$ ab (aa 0)$ ab ag ae))$ ab (aa 4)$ ab (aa 12) ae)
abbrev jD:Stmt:=top 54
noncomputable abbrev lX:List Str:=["script","first","names","head","ins","gates","outs","k","many","wire"]
noncomputable def Au:Qdd jD:=⟨_,by conv=>lhs;whnf⟩
noncomputable def tH:Qde jD:=⟨_,by conv=>lhs;whnf⟩
def CA:aW lX ["script","first","names"] tH.1:={}
def yU:FZ:=(bq (bW 8$ xP$ e2 cI (aD cP$ ah (af 4) ax)$ aD cP$ ah (af 5) ax)$ bq (bW 9$ xP$ e2 rB (e2 rB (af 8)$ eC$ .int 1)$ e2 fF (e2 bz (af 3)$ e2 cI (eC$ .int 3)$ af 7)$ aD sS$ ah (af 8)$ ah (eC$ .int 3) ax)$ jY 6$ xP$ b_$ ah (e2 bz (af 2)$ e2 cI (eC$ .int 2)$ af 7)$ ah (b_$ ah (af 9) ax) ax)
def vb:FZ:=(bq (bW 3$ xP$ aD dZ$ ah (aD dt$ ah (af 0)$ ah (af 1) ax)$ ah (eC$ .int 8) ax)$ bq (bW 4$ jv (iP$ bZ$ e2 cI (eC$ .int 1)$ e2 fF (e2 bz (af 3)$ eC$ .int 0)$ eC$ .int 2) (fZ 0) yL (xP$ b_$ ah (e2 bz (af 1)$ af 0)$ ah (eC$ .int 1) ax) ["k"] [2])$ bq (bW 5$ eW m8$ aZ (xP$ af 0)$ aZ (xP$ e2 cI (af 1)$ eC$ .int 1)$ aZ (xP$ e2 fF (e2 bz (af 3)$ eC$ .int 1)$ eC$ .int 4)$ aZ (xP$ aD cP$ ah (af 4) ax) eA)$ bq (bW 6$ mQ$ eF ax)$ bq (gP (iP$ bZ$ e2 cI (eC$ .int 1)$ e2 fF (e2 bz (af 3)$ eC$ .int 2)$ eC$ .int 2) (fZ 7) yU)$ sx 6$ g8$ eW l9$ aZ (xP$ Ve (af 3) (xC$ eC$ .int 4) D0)$ aZ (xP$ b_$ ah (af 4)$ ah (af 5)$ ah (af 6) ax) eA)
def A0:List V3->bp->R3 V3:=qw lX vb
def nJ:List V3->bp->R3 V3:=tV lX vb
def D1(T:Tp K mg cl)(h:Def K mg "_law_plain" jD)(d6:Callee P w K mg base 1 "_law_cell_at" 2 dt)(d7:Callee P w K mg base 1 "_law_numbers" 2 dZ)(nO:bU P w K mg base cl 2 "_law_gates" 4 m8)(mv:bU P w K mg base cl 1 "_law_copied" 2 l9):bU P w K mg base cl 3 "_law_plain" 3 A0:=
 Eh h Au.2 tH.2 CA λ_ _ _ _ _ _ _ hr nd=>(ak (aY$ ai$ aX d7$ ab (aX d6$ ab (aa 0)$ ab (aa 1) ae)$ ab ag ae)$ ak (eL (bw$ aS (aw cD ag$ aw eE (av (aa 3) ag) ag) rfl T.z_range) (λ_ _ _=>aH) (λ_ _ _=>km)$ λ_ _ _=>(ai$ aL$ ab (av (aa 1)$ aa 0)$ ab ag ae))$ ak (aY$ cM nO$ az (ai$ aa 0)$ az (ai$ aw cD (aa 1) ag)$ az (ai$ aw eE (av (aa 3) ag) ag)$ az (ai$ aG cz rfl T.z_len QaA$ ab (aa 4) ae) bO)$ ak (aY$ gO$ cf ae)$ ak (cJ (bw$ aS (aw cD ag$ aw eE (av (aa 3) ag) ag) rfl T.z_range) aH$ ak (aY$ ai$ aw cD (aG cz rfl T.z_len QaA$ ab (aa 4) ae)$ aG cz rfl T.z_len QaA$ ab (aa 5) ae)$ ak (aY$ ai$ aw oQ (aw oQ (aa 8) ag)$ aw eE (av (aa 3)$ aw cD ag$ aa 7)$ aG (Bu rfl) rfl T.z_min Qb8$ ab (aa 8)$ ab ag ae)$ aK$ fq$ ai$ aL$ ab (av (aa 2)$ aw cD ag$ aa 7)$ ab (aL$ ab (aa 9) ae) ae)$ jm 6$ aK$ cZ$ cM mv$ az (ai$ Rp (aa 3) (xM ag) xl)$ az (ai$ aL$ ab (aa 4)$ ab (aa 5)$ ab (aa 6) ae) bO)
abbrev mS:Stmt:=top 55
noncomputable abbrev qi:List Str:=["net","number","turned","bad","plain","found","one","other"]
noncomputable def Fy:Qdd mS:=⟨_,by conv=>lhs;whnf⟩
noncomputable def xV:Qde mS:=⟨_,by conv=>lhs;whnf⟩
def IM:aW qi ["net","number","turned","bad","plain"] xV.1:={}
def uW:FZ:=(Bv (bP$ b2 Ic (aD cP$ ah (eNew$ bX (bZ$ eC$ .int 3) (aC 0) (b2 vX (e2 bz (af 1)$ af 0)$ e2 bz (af 2)$ af 0) (af 0) ["k"] [6,7]) ax)$ eC$ .int 1) (g8$ xP$ eC$ .bl true) oB)
def Aj:FZ:=(bq (bW 5$ eW jr$ aZ (xP$ af 0)$ aZ (xP$ aD i5$ ah (af 0)$ ah (af 1) ax)$ aZ (xP$ af 2)$ aZ (xP$ af 3) eA)$ bq (gP (iP$ D9 (e2 bz (af 4)$ af 1)$ af 5) (zh 2$ l8 (fZ 6)$ l8 (fZ 7) z_) uW)$ g8$ xP$ eC$ .bl false)
def FP:List V3->bp->R3 V3:=qw qi Aj
def rn:List V3->bp->R3 V3:=tV qi Aj
def HQ(T:Tp K mg cl)(h:Def K mg "_law_odd" mS)(i8:Callee P w K mg base 1 "_law_bits" 2 i5)(g6:bU P w K mg base cl 2 "_law_outs" 4 jr):bU P w K mg base cl 3 "_law_odd" 5 FP:=
 Eh h Fy.2 xV.2 IM λ_ _ _ _ _ _ _ hr nd=>(ak (aY$ cM g6$ az (ai$ aa 0)$ az (ai$ aX i8$ ab (aa 0)$ ab (aa 1) ae)$ az (ai$ aa 2)$ az (ai$ aa 3) bO)$ ak (cJ (bw$ yf (av (aa 4)$ aa 1) (aa 5) rfl T.z_zip) (dm$ aQ aH$ aQ aH cN)$ aK$ jB (dD$ bS Kn (aG cz rfl T.z_len QaA$ ab (bt$ bB (aS ag rfl T.z_range) (λ_ _ _=>aA) (λ_ _ _=>(xB$ bS (yH hr.units) (av (aa 1)$ aa 0)$ av (aa 2)$ aa 0))$ λ_ _ _=>(aa 0)) ae) ag) (aK$ cZ$ ai uD) d_)$ aK$ cZ$ ai uD)
abbrev jw:Stmt:=top 56
noncomputable abbrev oU:List Str:=["many","found","k","wider","j"]
noncomputable def Bj:Qdd jw:=⟨_,by conv=>lhs;whnf⟩
noncomputable def sT:Qde jw:=⟨_,by conv=>lhs;whnf⟩
def C3:aW oU ["many"] sT.1:={}
def qA:FS:=(i0 3$ e2 gr (af 3)$ eNew$ bX (cb$ af 1) (aC 0) eB (e2 gr (af 0)$ b_$ ah (e2 gr (e2 lJ (eC$ .int 3)$ af 1)$ af 2) ax) ["one"] [2,4])
def qP:FS:=(du (i0 3$ aD Ha$ ah (af 1) ax)$ du (q9 (bZ$ eC$ .int 3) (aC 4) qA)$ i0 1$ af 3)
def Cu:FS:=(du (i0 1$ eNew$ eF$ ah (b_ ax) ax)$ du (q9 (bZ$ af 0) (aC 2) qP)$ f_$ af 1)
def l5:List D->R D:=qJ oU Cu
def DI(T:Tp K mg cl)(h:Def K mg "_law_wires" jw):Callee P w K mg base 1 "_law_wires" 1 l5:=
 wF h Bj.2 sT.2 C3 λ_ _ _ _ _ _ _ hr nd=>(aV (cx$ bt$ cf$ ab (aL ae) ae)$ aV (fN (aS (aa 0) rfl T.z_range) aA$ aV (cx$ cg Ko rfl T.z_list PyProof.Rows.boot_list$ ab (aa 1) ae)$ aV (fN (aS ag rfl T.z_range) aA$ aT$ cx$ aw ig (aa 3)$ bt$ bB (bg$ aa 1) (λ_ _ _=>aA) (λ_ _ _=>br)$ λ_ _ _=>(aw ig (aa 0)$ aL$ ab (aw ig (aw lh ag$ aa 1)$ aa 2) ae))$ aT$ cx$ aa 3)$ aT$ bR$ aa 1)
abbrev jy:Stmt:=top 57
noncomputable abbrev l0:List Str:=["net","plain","number","due","wires","bad","turned"]
noncomputable def Ax:Qdd jy:=⟨_,by conv=>lhs;whnf⟩
noncomputable def tJ:Qde jy:=⟨_,by conv=>lhs;whnf⟩
def CD:aW l0 ["net"] tJ.1:={}
def zk:FZ:=(jY 1$ eW jr$ aZ (xP$ af 0)$ aZ (xP$ aD i5$ ah (af 0)$ ah (af 2) ax)$ aZ (xP$ b_ ax)$ aZ (xP$ b_ ax) eA)
def qE:FZ:=(Bv (bP$ b2 vX (eNew$ bX (cb$ e2 bz (af 1)$ af 2) (aC 0) (b2 Mb (af 0)$ eNew$ eF$ ah (b_$ ah (eC$ .int 0)$ ah (eC$ .int 0)$ ah (eC$ .int 0) ax)$ ah (b_$ ah (eC$ .int 1)$ ah (eC$ .int 1)$ ah (eC$ .int 1) ax) ax) (af 0) ["bits"] [])$ eNew$ eF ax) (g8$ xP$ b_$ ah (eC$ .str "loses")$ ah (b_ ax)$ ah (b_ ax)$ ah (af 2) ax) oB)
def qH:FZ:=(Bv (Oc$ eW rn$ aZ (xP$ af 0)$ aZ (xP$ af 2)$ aZ (xP$ af 6)$ aZ (xP$ af 5)$ aZ (xP$ af 1) eA) (g8$ xP$ b_$ ah (eC$ .str "loses")$ ah (af 5)$ ah (af 6)$ ah (af 2) ax) oB)
def qQ:FZ:=(gP (iP$ bZ$ aD cP$ ah (af 1) ax) (fZ 2) qH)
def u7:FZ:=(bq (bW 1$ mQ$ eF ax)$ bq (gP (iP$ bZ$ e2 QS (eC$ .int 1)$ aD cP$ ah (e2 bz (af 0)$ eC$ .int 0) ax) (fZ 2) zk)$ sx 1$ bq (gP (iP$ bZ$ aD cP$ ah (af 1) ax) (fZ 2) qE)$ bq (bW 3$ jv (iP$ bZ$ aD cP$ ah (e2 bz (af 0)$ eC$ .int 1) ax) (fZ 0) (bP$ AQ$ AR$ e2 bz (e2 bz (e2 bz (af 1)$ eC$ .int 1)$ af 0)$ eC$ .int 2) (xP$ b_$ ah (b_ ax)$ ah (b_$ ah (af 0) ax) ax) ["place"] [0])$ bq (bW 4$ xP$ aD BY$ ah (eNew$ bX (cb$ aD l5$ ah (aD cP$ ah (e2 bz (af 0)$ eC$ .int 0) ax) ax) (aC 0) eB (b_$ ah (aD cP$ ah (af 0) ax)$ ah (af 0) ax) ["bad"] []) ax)$ bq (gP (iP$ cb$ e2 cI (af 3)$ eNew$ bX (cb$ af 4) (fD 2$ bL (aC 0)$ bL (aC 1) fA) eB (b_$ ah (af 1)$ ah (b_ ax) ax) ["many","bad"] []) (zh 2$ l8 (fZ 5)$ l8 (fZ 6) z_) qQ)$ g8$ xP$ b_$ ah (eC$ .str "keeps") ax)
def Ar:List V3->bp->R3 V3:=qw l0 u7
def jU:List V3->bp->R3 V3:=tV l0 u7
def Du(T:Tp K mg cl)(h:Def K mg "_law_keeps" jy)(i8:Callee P w K mg base 1 "_law_bits" 2 i5)(pV:Callee P w K mg base 1 "_law_wires" 1 l5)(g6:bU P w K mg base cl 2 "_law_outs" 4 jr)(rT:bU P w K mg base cl 3 "_law_odd" 5 rn):bU P w K mg base cl 4 "_law_keeps" 1 Ar:=
 Eh h Ax.2 tJ.2 CD λ_ _ _ _ _ _ _ hr nd=>(ak (aY$ gO$ cf ae)$ ak (cJ (bw$ aS (aw Vi ag$ aG cz rfl T.z_len QaA$ ab (av (aa 0) ag) ae) rfl T.z_range) aH$ aK$ fq$ cM g6$ az (ai$ aa 0)$ az (ai$ aX i8$ ab (aa 0)$ ab (aa 2) ae)$ az (ai$ aL ae)$ az (ai$ aL ae) bO)$ jm 1$ ak (cJ (bw$ aS (aG cz rfl T.z_len QaA$ ab (aa 1) ae) rfl T.z_range) aH$ aK$ jB (dD$ bS (yH hr.units) (bt$ bB (bg$ av (aa 1)$ aa 2) (λ_ _ _=>aA) (λ_ _ _=>(xB$ bS (Vy hr.units) (aa 0)$ bt$ cf$ ab (aL$ ab ag$ ab ag$ ab ag ae)$ ab (aL$ ab ag$ ab ag$ ab ag ae) ae))$ λ_ _ _=>(aa 0))$ bt$ cf ae) (aK$ cZ$ ai$ aL$ ab bY$ ab (aL ae)$ ab (aL ae)$ ab (aa 2) ae) d_)$ ak (eL (bw$ aS (aG cz rfl T.z_len QaA$ ab (av (aa 0) ag) ae) rfl T.z_range) (λ_ _ _=>aH) (λ_ _ _=>(tO$ dD$ Ba$ AY$ av (av (av (aa 1) ag)$ aa 0) ag))$ λ_ _ _=>(ai$ aL$ ab (aL ae)$ ab (aL$ ab (aa 0) ae) ae))$ ak (aY$ ai$ aG (NV hr.units) rfl T.z_sorted PyProof.Rows.boot_sorted$ ab (bt$ bB (bg$ aX pV$ ab (aG cz rfl T.z_len QaA$ ab (av (aa 0) ag) ae) ae) (λ_ _ _=>aA) (λ_ _ _=>br)$ λ_ _ _=>(aL$ ab (aG cz rfl T.z_len QaA$ ab (aa 0) ae)$ ab (aa 0) ae)) ae)$ ak (cJ (bw$ bg$ aw cD (aa 3)$ bt$ bB (bg$ aa 4) (λ_ _ _=>(dA$ bb aA$ bb aA cU)) (λ_ _ _=>br)$ λ_ _ _=>(aL$ ab (aa 1)$ ab (aL ae) ae)) (dm$ aQ aH$ aQ aH cN)$ aK$ cJ (bw$ aS (aG cz rfl T.z_len QaA$ ab (aa 1) ae) rfl T.z_range) aH$ aK$ jB (Kx$ cM rT$ az (ai$ aa 0)$ az (ai$ aa 2)$ az (ai$ aa 6)$ az (ai$ aa 5)$ az (ai$ aa 1) bO) (aK$ cZ$ ai$ aL$ ab bY$ ab (aa 5)$ ab (aa 6)$ ab (aa 2) ae) d_)$ aK$ cZ$ ai$ aL$ ab bY ae)
abbrev iq:Stmt:=top 58
noncomputable abbrev j9:List Str:=["one","other","pairs","outs","out","place","wires","ins","mine","shift","back","theirs","free","start","gates","kind","some","sure","gone","k","name"]
noncomputable def yT:Qdd iq:=⟨_,by conv=>lhs;whnf⟩
noncomputable def qz:Qde iq:=⟨_,by conv=>lhs;whnf⟩
def Bi:aW j9 ["one","other","pairs"] qz.1:={}
def oS:FZ:=(yb (gb 3) (xP$ af 5)$ xP$ af 4)
def pO:FZ:=(Bv (bP$ b2 LI (af 5)$ af 3) (jY 7$ xP$ e2 bz (e2 bz (af 1)$ eC$ .int 0)$ af 5) oB)
def pG:FZ:=(Bv (bP$ b2 CT (af 5)$ af 3) (bW 11$ xP$ e2 cI (af 11)$ eNew$ bX (cb$ e2 bz (e2 bz (e2 bz (af 0)$ eC$ .int 2)$ e2 CL (af 3)$ af 5)$ eC$ .int 1) (aC 0) eB (e2 bz (af 1)$ af 0) ["wire"] [10])$ bq (bW 11$ xP$ e2 cI (af 11)$ eNew$ eF$ ah (af 12)$ ah (e2 cI (af 12)$ eC$ .int 1)$ ah (e2 cI (af 12)$ eC$ .int 2) ax)$ bW 12$ xP$ e2 cI (af 12)$ eC$ .int 3)
def px:FZ:=(jY 14$ xP$ b_$ ah (af 15)$ ah (aD h_$ ah (eNew$ bX (cb$ af 16) (aC 0) eB (e2 bz (af 1)$ af 0) ["wire"] [10]) ax)$ ah (af 17) ax)
def oX:FZ:=(jY 14$ xP$ b_$ ah (af 15)$ ah (aD h_$ ah (eNew$ bX (cb$ af 16) (aC 0) eB (e2 bz (af 1)$ af 0) ["wire"] [11]) ax)$ ah (af 17) ax)
def o9:FZ:=(Bv (bP$ b2 Bn (af 19)$ af 18) (jY 3$ xP$ b_$ ah (e2 bz (e2 bz (e2 bz (af 0)$ eC$ .int 2)$ af 19)$ eC$ .int 0)$ ah (aD h_$ ah (eNew$ bX (cb$ e2 bz (e2 bz (e2 bz (af 0)$ eC$ .int 2)$ af 19)$ eC$ .int 1) (aC 0) eB (e2 bz (af 1)$ af 0) ["wire"] [10]) ax) ax) oB)
def o_:FZ:=(jY 3$ xP$ b_$ ah (af 20)$ ah (aD h_$ ah (eNew$ bX (cb$ af 16) (aC 0) eB (e2 bz (af 1)$ af 0) ["wire"] [11]) ax) ax)
def sV:FZ:=(bq (bW 3 D8)$ bq (gP (iP$ cb$ af 2) (zh 2$ l8 (fZ 4)$ l8 (fZ 5) z_) oS)$ Ct 3$ bq (bW 6$ jv (iP$ bZ$ e2 lJ (eC$ .int 3)$ aD cP$ ah (e2 bz (af 0)$ eC$ .int 0) ax) (fZ 0) yL (xP$ af 0) ["k"] [])$ bq (bW 7$ mQ$ nList$ e2 bz (af 0)$ eC$ .int 0)$ bq (bW 8$ xP$ e2 lJ (eC$ .int 3)$ aD cP$ ah (e2 bz (af 0)$ eC$ .int 0) ax)$ bq (gP (iP$ bZ$ aD cP$ ah (e2 bz (af 1)$ eC$ .int 0) ax) (fZ 5) pO)$ sx 7$ bq (bW 9$ xP$ e2 rB (e2 lJ (eC$ .int 3)$ aD cP$ ah (af 7) ax)$ af 8)$ bq (bW 10$ xP$ eNew$ bX (bZ$ e2 cI (af 8)$ aD cP$ ah (e2 bz (af 0)$ eC$ .int 1) ax) (aC 0) eB (e2 bz (eNew$ eF$ ah (af 0)$ ah (e2 cI (af 0)$ af 2) ax)$ aD rZ$ ah (e2 U7 (af 0)$ af 1) ax) ["wire"] [8,9])$ bq (bW 11$ xP$ eNew$ eF ax)$ bq (bW 12$ xP$ af 8)$ bq (gP (iP$ bZ$ aD cP$ ah (e2 bz (af 1)$ eC$ .int 0) ax) (fZ 5) pG)$ bq (bW 13$ xP$ e2 cI (e2 lJ (eC$ .int 3)$ aD cP$ ah (af 7) ax)$ aD cP$ ah (e2 bz (af 0)$ eC$ .int 1) ax)$ bq (bW 11$ xP$ e2 cI (af 11)$ eNew$ bX (bZ$ aD cP$ ah (e2 bz (af 1)$ eC$ .int 1) ax) (aC 0) eB (e2 cI (af 1)$ af 0) ["k"] [13])$ bq (bW 14$ mQ$ eF ax)$ bq (gP (iP$ cb$ e2 bz (af 0)$ eC$ .int 1) (zh 3$ l8 (fZ 15)$ l8 (fZ 16)$ l8 (fZ 17) z_) px)$ bq (gP (iP$ cb$ e2 bz (af 1)$ eC$ .int 1) (zh 3$ l8 (fZ 15)$ l8 (fZ 16)$ l8 (fZ 17) z_) oX)$ sx 14$ bq (bW 18$ jv (iP$ cb$ af 2) (zh 2$ l8 (fZ 0)$ l8 (fZ 1) z_) yL (xP$ af 0) ["out","place"] [])$ bq (bW 3$ mQ$ eF ax)$ bq (gP (iP$ bZ$ aD cP$ ah (e2 bz (af 0)$ eC$ .int 2) ax) (fZ 19) o9)$ bq (gP (iP$ cb$ e2 bz (af 1)$ eC$ .int 2) (zh 2$ l8 (fZ 20)$ l8 (fZ 16) z_) o_)$ g8$ JN$ aZ (gb 7)$ aZ (gb 14)$ aZ (gb 3) eA)
def zl:List V3->bp->R3 V3:=qw j9 sV
def qO:List V3->bp->R3 V3:=tV j9 sV
def AG(T:Tp K mg cl)(h:Def K mg "_law_joined" iq):bU P w K mg base cl 1 "_law_joined" 3 zl:=
 Eh h yT.2 qz.2 Bi λ_ _ _ _ _ _ _ hr nd=>(ak (aY A9)$ ak (cJ (bw$ bg$ aa 2) (dm$ aQ aH$ aQ aH cN)$ aK$ xh (oa hr) (ai$ aa 4) (cR 3)$ ai$ aa 5)$ JD 3$ ak (eL (bw$ aS (aw lh ag$ aG cz rfl T.z_len QaA$ ab (av (aa 0) ag) ae) rfl T.z_range) (λ_ _ _=>aH) (λ_ _ _=>km)$ λ_ _ _=>(ai$ aa 0))$ ak (aY$ gO$ KN (av (aa 0) ag) rfl T.z_list)$ ak (aY$ ai$ aw lh ag$ aG cz rfl T.z_len QaA$ ab (av (aa 0) ag) ae)$ ak (cJ (bw$ aS (aG cz rfl T.z_len QaA$ ab (av (aa 1) ag) ae) rfl T.z_range) aH$ aK$ jB (dD$ bS (PR$ oa hr) (aa 5)$ aa 3) (aK$ fq$ ai$ av (av (aa 1) ag)$ aa 5) d_)$ jm 7$ ak (aY$ ai$ aw oQ (aw lh ag$ aG cz rfl T.z_len QaA$ ab (aa 7) ae)$ aa 8)$ ak (aY$ ai$ bt$ bB (aS (aw cD (aa 8)$ aG cz rfl T.z_len QaA$ ab (av (aa 0) ag) ae) rfl T.z_range) (λ_ _ _=>aA) (λ_ _ _=>br)$ λ_ _ _=>(av (bt$ cf$ ab (aa 0)$ ab (aw cD (aa 0)$ aa 2) ae)$ cg Bd rfl T.z_int Qb9$ ab (j7 Uh (aa 0)$ aa 1) ae))$ ak (aY$ ai$ bt$ cf ae)$ ak (aY$ ai$ aa 8)$ ak (cJ (bw$ aS (aG cz rfl T.z_len QaA$ ab (av (aa 1) ag) ae) rfl T.z_range) aH$ aK$ jB (dD$ bS (GF$ oa hr) (aa 5)$ aa 3) (aK$ aY$ ai$ aw cD (aa 11)$ bt$ bB (bg$ av (av (av (aa 0) ag)$ z8 (oa hr) (aa 3) (aa 5)$ λ_ _=>rfl) ag) (λ_ _ _=>aA) (λ_ _ _=>br)$ λ_ _ _=>(av (aa 1)$ aa 0))$ ak (aY$ ai$ aw cD (aa 11)$ bt$ cf$ ab (aa 12)$ ab (aw cD (aa 12) ag)$ ab (aw cD (aa 12) ag) ae)$ aK$ aY$ ai$ aw cD (aa 12) ag)$ ak (aY$ ai$ aw cD (aw lh ag$ aG cz rfl T.z_len QaA$ ab (aa 7) ae)$ aG cz rfl T.z_len QaA$ ab (av (aa 0) ag) ae)$ ak (aY$ ai$ aw cD (aa 11)$ bt$ bB (aS (aG cz rfl T.z_len QaA$ ab (av (aa 1) ag) ae) rfl T.z_range) (λ_ _ _=>aA) (λ_ _ _=>br)$ λ_ _ _=>(aw cD (aa 1)$ aa 0))$ ak (aY$ gO$ cf ae)$ ak (cJ (bw$ bg$ av (aa 0) ag) (dm$ aQ aH$ aQ aH$ aQ aH cN)$ aK$ fq$ ai$ aL$ ab (aa 15)$ ab (cg gI rfl T.z_tuple Qa1$ ab (bt$ bB (bg$ aa 16) (λ_ _ _=>aA) (λ_ _ _=>br)$ λ_ _ _=>(av (aa 1)$ aa 0)) ae)$ ab (aa 17) ae)$ ak (cJ (bw$ bg$ av (aa 1) ag) (dm$ aQ aH$ aQ aH$ aQ aH cN)$ aK$ fq$ ai$ aL$ ab (aa 15)$ ab (cg gI rfl T.z_tuple Qa1$ ab (bt$ bB (bg$ aa 16) (λ_ _ _=>aA) (λ_ _ _=>br)$ λ_ _ _=>(av (aa 1)$ aa 0)) ae)$ ab (aa 17) ae)$ jm 14$ ak (eL (bw$ bg$ aa 2) (λ_ _ _=>(dm$ aQ aH$ aQ aH cN)) (λ_ _ _=>km)$ λ_ _ _=>(ai$ aa 0))$ ak (aY$ gO$ cf ae)$ ak (cJ (bw$ aS (aG cz rfl T.z_len QaA$ ab (av (aa 0) ag) ae) rfl T.z_range) aH$ aK$ jB (dD$ bS Gd (aa 19)$ aa 18) (aK$ fq$ ai$ aL$ ab (av (av (av (aa 0) ag)$ aa 19) ag)$ ab (cg gI rfl T.z_tuple Qa1$ ab (bt$ bB (bg$ av (av (av (aa 0) ag)$ aa 19) ag) (λ_ _ _=>aA) (λ_ _ _=>br)$ λ_ _ _=>(av (aa 1)$ aa 0)) ae) ae) d_)$ ak (cJ (bw$ bg$ av (aa 1) ag) (dm$ aQ aH$ aQ aH cN)$ aK$ fq$ ai$ aL$ ab (aa 20)$ ab (cg gI rfl T.z_tuple Qa1$ ab (bt$ bB (bg$ aa 16) (λ_ _ _=>aA) (λ_ _ _=>br)$ λ_ _ _=>(av (aa 1)$ aa 0)) ae) ae)$ aK$ cZ$ EA$ az (cR 7)$ az (cR 14)$ az (cR 3) bO)
abbrev GB:Stmt:=top 59
noncomputable abbrev vj:List Str:=["script","one","other","head","pairs","k","whole","found","answered"]
noncomputable def Rv:Qdd GB:=⟨_,by conv=>lhs;whnf⟩
noncomputable def Kv:Qde GB:=⟨_,by conv=>lhs;whnf⟩
def PL:aW vj ["script"] Kv.1:={}
def Nw:FZ:=(jY 4$ xP$ b_$ ah (e2 fF (e2 bz (af 3)$ e2 cI (eC$ .int 1)$ af 5)$ aD cP$ ah (e2 bz (af 1)$ eC$ .int 2) ax)$ ah (e2 bz (eNew$ eF$ ah (af 5)$ ah (e2 rB (e2 rB (aD cP$ ah (e2 bz (af 2)$ eC$ .int 0) ax)$ eC$ .int 1)$ af 5) ax)$ e2 fF (e2 bz (af 3)$ eC$ .int 3)$ eC$ .int 2) ax)
def zO:FZ:=(bq (bW 1$ eW nJ$ aZ (xP$ af 0)$ aZ (xP$ eC$ .int 0)$ aZ (xP$ eNew$ eF$ ah (eC$ .str "a")$ ah (eC$ .str "ab")$ ah (eC$ .str "e")$ ah (eC$ .str "f") ax) eA)$ bq (bW 2$ eW nJ$ aZ (xP$ af 0)$ aZ (xP$ eC$ .int 6)$ aZ (xP$ eNew$ eF$ ah (eC$ .str "e")$ ah (eC$ .str "f")$ ah (eC$ .str "g")$ ah (eC$ .str "a") ax) eA)$ bq (bW 3$ xP$ aD dZ$ ah (aD dt$ ah (af 0)$ ah (eC$ .int 12) ax)$ ah (eC$ .int 4) ax)$ bq (bW 4$ mQ$ eF ax)$ bq (gP (iP$ bZ$ aD sS$ ah (e2 cI (eC$ .int 1)$ e2 fF (e2 bz (af 3)$ eC$ .int 0)$ eC$ .int 2)$ ah (aD cP$ ah (e2 bz (af 2)$ eC$ .int 0) ax) ax) (fZ 5) Nw)$ sx 4$ bq (bW 6$ eW Ag$ aZ (xP$ af 1)$ aZ (xP$ af 2)$ aZ (xP$ aD Ha$ ah (af 4) ax) eA)$ bq (Bv (Vo vX (xP$ af 6)$ eW qO$ aZ (xP$ af 1)$ aZ (xP$ af 2)$ aZ (xP$ af 4) eA) (g8$ xP$ eC$ .bl false) oB)$ bq (bW 7$ Oa$ aZ (eW jU$ aZ (xP$ af 1) eA)$ aZ (eW jU$ aZ (xP$ af 2) eA) eA)$ bq (Bv (Vo vX (Oa$ aZ (eW se$ aZ (xP$ af 1) eA)$ aZ (eW se$ aZ (xP$ af 2) eA) eA)$ xP$ af 7) (g8$ xP$ eC$ .bl false) oB)$ bq (bW 8$ eW se$ aZ (xP$ af 6) eA)$ bq (Bv (UZ (bP$ b2 Tu (aD cP$ ah (e2 bz (af 6)$ eC$ .int 0) ax)$ eC$ .int 3)$ Vo vX (xP$ af 8)$ eW jU$ aZ (xP$ af 6) eA) (g8$ xP$ eC$ .bl false) oB)$ g8$ xP$ UO (e2 vX (af 7)$ eNew$ Ey (eF$ ah (b_$ ah (eC$ .str "keeps") ax) ax)$ eC$ .int 2)$ e2 xK (af 8)$ b_$ ah (eC$ .str "keeps") ax)
def XX:List V3->bp->R3 V3:=qw vj zO
def Xa:List V3->bp->R3 V3:=tV vj zO
def KW:List D->R D:=Xi vj zO
structure Cf (K:Qdf) (mg:Aaf) (cl:Aag):Prop where
 C_Bench:Ef K (cl 0)
 N_Bench_net:fJ K (cl 0) "net"
 N_Bench_many_inputs:fJ K (cl 0) "many_inputs"
 N_Bench_full:fJ K (cl 0) "full"
 N_Bench_in_masks:fJ K (cl 0) "in_masks"
 M_Bench:mg "Bench"=some (.ref (cl 0))
 eu:RW K (cl 0) "__init__" "Bench.__init__" cw
 gA:Jj K (cl 0) "tells" "Bench.tells" cX
 dY:Jj K (cl 0) "inputs_in" "Bench.inputs_in" ck
def VC{K:Qdf}{h:Heap}{mg:Aaf}(X:K.In h)(G:h.Ns mainGlobals mg){C0:Addr}{f0:Addr}{od0 an0:Option Addr}{sl0:Array (Option Value)}{oc0 kV0 dc0 pm0 ZH ct0:Value}{f1:Addr}{od1 an1:Option Addr}{sl1:Array (Option Value)}{oc1 kV1 dc1 pm1 ZV ct1:Value}{f2:Addr}{od2 an2:Option Addr}{MV:Array (Option Value)}{oc2 kV2 dc2 pm2 ZP ct2:Value}(Yt:PySem.W.nsIn K mainGlobals "Bench"=some (some$ .ref C0))(YE:PySem.W.plainGet K C0 Str.empty=true)(V4:PySem.W.hasDictIn K C0=true)(YU:PySem.W.plainOver K C0=true)(YI:PySem.W.findIn K (.ref C0) "__setattr__"=some (some$ .builtin "object.__setattr__"))(Yd:PySem.W.makesIn K C0=true)(Yw:PySem.W.keepIn K (.ref C0)=true)(FW:PySem.W.findIn K (.ref C0) "net"=some none)(lA:PySem.W.findIn K (.ref C0) "many_inputs"=some none)(B_:PySem.W.findIn K (.ref C0) "full"=some none)(p7:PySem.W.findIn K (.ref C0) "in_masks"=some none)(jb:PySem.W.findIn K (.ref C0) "__init__"=some (some$ .ref f0))(i9:PySem.W.isFn K (.ref f0)=true)(i_:K.lookup f0=some ⟨oc0,od0, .func$ PySem.W.fnOf "__init__" "Bench.__init__" (jk cw) (aN cw) (aF cw) .none kV0 dc0 pm0 an0 ZH ct0,sl0⟩)(ef:PySem.W.codeIn K ZH "Bench.__init__"=true)(je:PySem.W.keepIn K (.ref f0)=true)(mF:PySem.W.findIn K (.ref C0) "tells"=some (some$ .ref f1))(mH:PySem.W.isFn K (.ref f1)=true)(mE:K.lookup f1=some ⟨oc1,od1, .func$ PySem.W.fnOf "tells" "Bench.tells" (jk cX) (aN cX) (aF cX) .none kV1 dc1 pm1 an1 ZV ct1,sl1⟩)(gu:PySem.W.codeIn K ZV "Bench.tells"=true)(jo:PySem.W.keepIn K (.ref f1)=true)(iH:PySem.W.findIn K (.ref C0) "inputs_in"=some (some$ .ref f2))(iE:PySem.W.isFn K (.ref f2)=true)(iC:K.lookup f2=some ⟨oc2,od2, .func$ PySem.W.fnOf "inputs_in" "Bench.inputs_in" (jk ck) (aN ck) (aF ck) .none kV2 dc2 pm2 an2 ZP ct2,MV⟩)(dU:PySem.W.codeIn K ZP "Bench.inputs_in"=true)(fE:PySem.W.keepIn K (.ref f2)=true):∃cl,Cf K mg cl:=by
 exact⟨λn=>C0,⟨YE,V4,YU,YI⟩,FW,lA,B_,p7,PySem.W.mg_of X G Yt,⟨_,_,Ap (st:=cw) i_ ef je,⟨Yd,jb,i9,Yw⟩⟩,⟨_,_,Ap (st:=cX) mE gu jo,⟨mF,mH,jo⟩⟩,⟨_,_,Ap (st:=ck) iC dU fE,⟨iH,iE,fE⟩⟩⟩
def Sn{K:Qdf}{mg:Aaf}{f:Addr}{fd:FuncData}{cl:Aag}(T:Tp K mg cl)(nU:Def K mg "has_widths" g9)(uJ:Def K mg "vote_of" m4)(pY:Def K mg "gate_mask" ju)(jN:Def K mg "in_wire_masks" eZ)(rS:Def K mg "masks_at" kz)(nQ:Def K mg "wire_masks" il)(pU:Def K mg "out_masks" jC)(yx:Def K mg "bit_at" oW)(nY:Def K mg "all_inputs" hW)(uP:Def K mg "mask_of" mN)(uS:Def K mg "in_mask" mY)(pX:Def K mg "unlike_at" jz)(uM:Def K mg "lost_at" mZ)(rL:Def K mg "bad_sets" ky)(jd:Def K mg "keeping_faults" el)(eu:RW K (cl 0) "__init__" "Bench.__init__" cw)(gA:Jj K (cl 0) "tells" "Bench.tells" cX)(dY:Jj K (cl 0) "inputs_in" "Bench.inputs_in" ck)(B9:Def K mg "keeps" sH)(nX:Def K mg "check_fits" hJ)(mG:Def K mg "outs_of_ins" gn)(mq:Def K mg "check_names" gc)(nV:Def K mg "check_room" ik)(nT:Def K mg "many_wires" g_)(uK:Def K mg "rewired" mJ)(jP:Def K mg "rewired_gates" eX)(lB:Def K mg "rewired_outs" fL)(mr:Def K mg "one_numbers" gf)(jQ:Def K mg "other_numbers" eR)(yA:Def K mg "joined" pj)(mz:Def K mg "_law_cell_at" gz)(my:Def K mg "_law_numbers" gg)(rO:Def K mg "_law_kind" kL)(pS:Def K mg "_law_gates" jF)(rP:Def K mg "_law_told" kW)(rK:Def K mg "_law_outs" k_)(rN:Def K mg "_law_bits" kY)(nS:Def K mg "_law_copied" ix)(pT:Def K mg "_law_plain" jD)(uN:Def K mg "_law_odd" mS)(pW:Def K mg "_law_wires" jw)(p_:Def K mg "_law_keeps" jy)(nW:Def K mg "_law_joined" iq)(F:Gq K "law" "law" GB f fd):jW P w K mg base xu 11 f fd ["script"] (Lx K 1 KW):=by
 have n5:=Bh (P:=P) (w:=w) (base:=base) T nU;have kq:=HA (P:=P) (w:=w) (base:=base) T uJ;have p8:=DX (P:=P) (w:=w) (base:=base) T pY kq;have fX:=vK (P:=P) (w:=w) (base:=base) T jN;have XP_in_wire_masks:=fX.p;have ja:=Es (P:=P) (w:=w) (base:=base) T rS;have XK_wire_masks:=Az (P:=P) (w:=w) (base:=base) T nQ ja p8 fX;have mC:=XK_wire_masks.p;have XK_out_masks:=CU (P:=P) (w:=w) (base:=base) T pU ja;have nR:=XK_out_masks.p;have yz:=KP (P:=P) (w:=w) (base:=base) T yx;have XK_all_inputs:=Am (P:=P) (w:=w) (base:=base) T nY;have mD:=XK_all_inputs.p;have kr:=IP (P:=P) (w:=w) (base:=base) T uP;have uO:=IY (P:=P) (w:=w) (base:=base) T uS kr;have qc:=C5 (P:=P) (w:=w) (base:=base) T pX;have uR:=HM (P:=P) (w:=w) (base:=base) T uM kq;have rM:=yr (P:=P) (w:=w) (base:=base) T rL 7;have jc:=um (P:=P) (w:=w) (base:=base) T jd rM;have iG:=ef (P:=P) (w:=w) (base:=base) T eu kr uO mD;have XK_Bench_tells:=gu (P:=P) (w:=w) (base:=base) T gA mC nR;have iL:=XK_Bench_tells.p;have XK_Bench_inputs_in:=dU (P:=P) (w:=w) (base:=base) T dY yz;have eQ:=XK_Bench_inputs_in.p;have XK_keeps:=NM (P:=P) (w:=w) (base:=base) T B9 n5 qc jc uR iG iL eQ;have XP_keeps:=XK_keeps.p;have n6:=BI (P:=P) (w:=w) (base:=base) T nX;have XK_outs_of_ins:=y0 (P:=P) (w:=w) (base:=base) T mG;have lx:=XK_outs_of_ins.p;have XK_check_names:=yN (P:=P) (w:=w) (base:=base) T mq;have iK:=XK_check_names.p;have nP:=BO (P:=P) (w:=w) (base:=base) T nV;have dr:=AX (P:=P) (w:=w) (base:=base) T nT;have fW:=ID (P:=P) (w:=w) (base:=base) T uK;have gL:=vA (P:=P) (w:=w) (base:=base) T jP fW;have iI:=wH (P:=P) (w:=w) (base:=base) T lB fW;have mB:=yP (P:=P) (w:=w) (base:=base) T mr dr;have jM:=vB (P:=P) (w:=w) (base:=base) T jQ dr fW;have XK_joined:=Lk (P:=P) (w:=w) (base:=base) T yA n6 dr mB jM gL iI nP lx iK;have XP_joined:=XK_joined.p;have d6:=yD (P:=P) (w:=w) (base:=base) T mz;have d7:=yK (P:=P) (w:=w) (base:=base) T my;have rJ:=EW (P:=P) (w:=w) (base:=base) T rO;have XK_law_gates:=Dc (P:=P) (w:=w) (base:=base) T pS d6 d7 rJ;have nO:=XK_law_gates.p;have XK_law_told:=Fi (P:=P) (w:=w) (base:=base) T rP;have pZ:=XK_law_told.p;have XK_law_outs:=Fd (P:=P) (w:=w) (base:=base) T rK pZ;have g6:=XK_law_outs.p;have i8:=EV (P:=P) (w:=w) (base:=base) T rN;have XK_law_copied:=AO (P:=P) (w:=w) (base:=base) T nS;have mv:=XK_law_copied.p;have XK_law_plain:=D1 (P:=P) (w:=w) (base:=base) T pT d6 d7 nO mv;have XP_law_plain:=XK_law_plain.p;have XK_law_odd:=HQ (P:=P) (w:=w) (base:=base) T uN i8 g6;have rT:=XK_law_odd.p;have pV:=DI (P:=P) (w:=w) (base:=base) T pW;have XK_law_keeps:=Du (P:=P) (w:=w) (base:=base) T p_ i8 pV g6 rT;have XP_law_keeps:=XK_law_keeps.p;have XK_law_joined:=AG (P:=P) (w:=w) (base:=base) T nW;have XP_law_joined:=XK_law_joined.p;exact(oI (cl:=cl) (N:=vj) (F:=zO) (k:=10) Rv.2 Kv.2 F PL$ λ_ _ _ _ _ _ hr=>(have nd:=PL.nd;(ak (aY$ cM XP_law_plain$ az (ai$ aa 0)$ az (ai ag)$ az (ai$ bt$ cf$ ab bY$ ab bY$ ab bY$ ab bY ae) bO)$ ak (aY$ cM XP_law_plain$ az (ai$ aa 0)$ az (ai ag)$ az (ai$ bt$ cf$ ab bY$ ab bY$ ab bY$ ab bY ae) bO)$ ak (aY$ ai$ aX d7$ ab (aX d6$ ab (aa 0)$ ab ag ae)$ ab ag ae)$ ak (aY$ gO$ cf ae)$ ak (cJ (bw$ aS (aG (Bu rfl) rfl T.z_min Qb8$ ab (aw cD ag$ aw eE (av (aa 3) ag) ag)$ ab (aG cz rfl T.z_len QaA$ ab (av (aa 2) ag) ae) ae) rfl T.z_range) aH$ aK$ fq$ ai$ aL$ ab (aw eE (av (aa 3)$ aw cD ag$ aa 5)$ aG cz rfl T.z_len QaA$ ab (av (aa 1) ag) ae)$ ab (av (bt$ cf$ ab (aa 5)$ ab (aw oQ (aw oQ (aG cz rfl T.z_len QaA$ ab (av (aa 2) ag) ae) ag)$ aa 5) ae)$ aw eE (av (aa 3) ag) ag) ae)$ jm 4$ ak (aY$ cM XP_joined$ az (ai$ aa 1)$ az (ai$ aa 2)$ az (ai$ cg Ko rfl T.z_list PyProof.Rows.boot_list$ ab (aa 4) ae) bO)$ ak (jB (A4 (yH hr.units) (ai$ aa 6) (cM XP_law_joined$ az (ai$ aa 1)$ az (ai$ aa 2)$ az (ai$ aa 4) bO)$ xS _) (aK$ cZ$ ai uD) d_)$ ak (aY$ L1$ az (cM XP_law_keeps$ az (ai$ aa 1) bO)$ az (cM XP_law_keeps$ az (ai$ aa 2) bO) bO)$ ak (jB (A4 (yH hr.units) (L1$ az (cM XP_keeps$ az (ai$ aa 1) bO)$ az (cM XP_keeps$ az (ai$ aa 2) bO) bO) (ai$ aa 7)$ xS _) (aK$ cZ$ ai uD) d_)$ ak (aY$ cM XP_keeps$ az (ai$ aa 6) bO)$ ak (jB (Tq.pb$ Om (dD$ bS Vf (aG cz rfl T.z_len QaA$ ab (av (aa 6) ag) ae) ag)$ Ku$ A4 (yH hr.units) (ai$ aa 8) (cM XP_law_keeps$ az (ai$ aa 6) bO)$ xS _) (aK$ cZ$ ai uD) d_)$ aK$ cZ$ ai$ RH (j7 (yH hr.units) (aa 7)$ bt$ Gp (cf$ ab (aL$ ab bY ae) ae) ag)$ GS$ j7 (uH hr.units) (aa 8)$ aL$ ab bY ae))).imp λ_ _ _ _ h=>R8 h
end K44
end
section
namespace K44
open PySem PySem.Spec PyProof.Rows L2 L3 MT
def MH{a:D}{r:List D}:bz (.tup (a ::r)) (.int 0)= .ok a:=BV (by rw[ng (by omega)$ by simp];rfl)
def Qd{a b:D}{r:List D}:bz (.tup (a ::b ::r)) (.int 1)= .ok b:=BV (by rw[ng (by omega)$ by simp];rfl)
def UX{a b c:D}{r:List D}:bz (.tup (a ::b ::c ::r)) (.int 2)= .ok c:=BV (by rw[ng (by omega)$ by simp];rfl)
def OK{N:Nat}{a b c:M}:iT [.tup [mI N a,mI N b,mI N c]]= .ok (mI N λp=>(a p && b p) || (a p && c p) || (b p && c p)):=by
 refine cL$ cv ?_;exact aj (aj (aj (aj rfl rfl MH) (aj rfl rfl Qd)$ xH N a b) (aj (aj rfl rfl MH) (aj rfl rfl UX)$ xH N a c)$ Dk N _ _) (aj (aj rfl rfl Qd) (aj rfl rfl UX)$ xH N b c)$ Dk N _ _
def VF(k j:Nat)(hk:k<=4)(hj:j<=4):xK (.str$ kS k) (.str$ kS j)= .ok (.bl$ decide$ k=j):=by
 show R.ok (D.bl$ kS k==kS j)=_;congr 2
 revert hk hj
 have:∀a∈List.range 5,∀b∈List.range 5,(kS a==kS b)=decide (a=b):=by decide+kernel
 intro hk hj;exact this k (by rw[QaM];omega) j (by rw[QaM];omega)
def Nc{N kd:Nat}{xs:List M}(hk:kd<=4)(hx:xs.length=ar kd):lP [.str$ kS kd, .tup$ xs.map$ mI N,mI N one]= .ok (mI N λp=>gv kd$ xs.map (· p)):=by
 have q:∀j,j<=4->b2 xK (af 0) (eC$ .str$ kS j) (cA oY [.str$ kS kd, .tup$ xs.map$ mI N,mI N one])= .ok (decide$ kd=j):=λj hj=>de rfl rfl$ VF kd j hk hj
 have q0:=q 0 (by omega)
 have q1:=q 1 (by omega)
 have q2:=q 2 (by omega)
 have q3:=q 3 (by omega)
 match kd,hk,xs,hx with
 | 0,_,[a],_=>
   refine cL$ NT.su$ vk q0$ cv$ aj rfl (aj rfl rfl MH)$ Qh N a
 | 1,_,[a,b],_=>
   refine cL$ bx (jS q0 rfl)$ NT.su$ vk q1$ cv$ aj (aj rfl rfl MH) (aj rfl rfl Qd)$ xH N a b
 | 2,_,[a,b],_=>
   refine cL$ bx (jS q0 rfl)$ bx (jS q1 rfl)$ NT.su$ vk q2$ cv$ aj (aj rfl rfl MH) (aj rfl rfl Qd)$ Dk N a b
 | 3,_,[a,b],_=>
   refine cL$ bx (jS q0 rfl)$ bx (jS q1 rfl)$ bx (jS q2 rfl)$ NT.su$ vk q3$ cv$ aj (aj rfl rfl MH) (aj rfl rfl Qd)$ yc N a b
 | 4,_,[a,b,c],_=>
   refine cL$ bx (jS q0 rfl)$ bx (jS q1 rfl)$ bx (jS q2 rfl)$ bx (jS q3 rfl)$ cv$ au rfl OK
def Qe{N:Nat}{ws:List M}{ns:List Nat}(hn:∀n∈ns,n<ws.length)(hl:ns.length<1000):iX [.lst$ ws.map$ mI N, .tup$ ns.map nI]= .ok (.tup$ (ns.map$ lF ws).map$ mI N):=by
 have hz:=Qas;refine cL (cv$ au (aq (bK$ bF (uj rfl) (by rw[Qaa];omega) ?_) rfl) rfl)
 rw[Qar];exact NT.bc nI _ λn Tb=>⟨[.val$ nI n, .val$ .lst$ ws.map$ mI N],rfl,rfl,aj rfl rfl$ SK$ hn n Tb⟩
def Ia(N:Nat)(S:bp)(Mp oy Ym:D)(a5 a6 a7:Option V3):DE:=[some$ .d Mp,some$ .d oy,some$ .d$ mI N one,some$ .d Ym,some$ .loc S.length,a5,a6,a7]
def K7{N:Nat}{S:bp}{Mp oy:D}{bad:List Int}{a5 a7:Option V3}{b:M}{ws:List M}(hl:ws.length<10000) :
 W3 (lU (Ia N S Mp oy (.tup$ bad.map .int) a5 (some$ .d$ mI N b) a7)$ S++[.lst$ ws.map$ mI N]) λo S1=>o= .nx (Ia N S Mp oy (.tup$ bad.map .int) a5 (some$ .d$ mI N b) a7)/\S1=S++[SO.lst$ (ws++[λp=>b p !=bad.contains (ws.length:Int)]).map$ mI N]:=by
 have hz:=Qas;refine iQ rfl ⟨_,aO _ _⟩ (Py (d:=mI N λp=>b p !=bad.contains (ws.length:Int)) ?_ rfl ⟨_,_,rfl,aO _ _,by rw[Qaa];omega,rfl,?_⟩)
 .have h4:(d8 (S++[.lst$ ws.map$ mI N])$ Ia N S Mp oy (.tup$ bad.map .int) a5 (some$ .d$ mI N b) a7)[4]? =some (.val$ .lst$ ws.map$ mI N):=by
   show some (match res (S++[.lst$ ws.map$ mI N]) (.loc S.length) with | some d=>Sl.val d | none=> .un)=_
   unfold res;rw[aO]
  refine Mf (de (au (aq (by unfold af;rw [h4]) rfl) (by rw[uz,Qaa])) rfl (BX _ _)) ?_
  rw[<-Kz];rfl
 .rw [cc,Qam];rfl
def CO{N:Nat}{S:bp}{ins:Aac}{bits:List M}{bad:List Int}(hb:bits.length=ins.length)(hi:ins.length<100)(hw:∀x∈ins,x.2<100){Q:V3->bp->Prop}
 (h:Q (.loc S.length) (S++[.lst$ (mj ins bits bad ins.length).map$ mI N])) :
 W3 (fP [.d$ .lst$ ins.map inD, .d$ .lst$ bits.map$ mI N, .d$ mI N one, .d$ .tup$ bad.map .int] S) Q:=by
 refine Cc rfl ?_;simp only[dn,gK,List.map,List.length,List.replicate,QaO,Qa2,Nat.reduceAdd,Nat.reduceSub];refine aJ (bu (by simp)$ jR rfl ⟨_,rfl,?_⟩)
 refine aJ$ dS$ fj rfl ?_;have big:∀i,i<=ins.length->(mj ins bits bad i).length<=100*i:=by
  intro i ZS
  induction i with
  | zero=>simp [mj]
  | succ i ih=>
    have h1:ins[i]? =some ins[i]:=Qab (by omega)
    have h2:bits[i]? =some bits[i]:=Qab (by omega)
    unfold mj;rw[h1,h2];rw[mK];have:=hw ins[i]$ Qa7 _;omega
 refine(bQ (λi δ S2=>(∃a b c,δ=Ia N S (.lst$ ins.map inD) (.lst$ bits.map$ mI N) (.tup$ bad.map .int) a b c)/\S2=S++[SO.lst$ (mj ins bits bad i).map$ mI N])
  ⟨⟨_,_,_,rfl⟩,rfl⟩ ?_).mono λo S2 ⟨c_,fG,⟨a,b,c,iS⟩,hS⟩=>⟨c_,fG,?_⟩
 .rintro i v δ S2 hv ⟨⟨a,b,c,rfl⟩,rfl⟩;obtain⟨d,hd,rfl⟩:=A3 hv;rw[Qac] at hd;have hib:i<bits.length:=by
   have:=(Qae.mp hv).1;simpa [er] using this
  have h1:ins[i]? =some ins[i]:=Qab (by omega)
  have h2:bits[i]? =some bits[i]:=Qab hib;rw[h2] at hd;cases hd;refine⟨Ia N S (.lst$ ins.map inD) (.lst$ bits.map$ mI N) (.tup$ bad.map .int) (some$ .d$ .int i) (some$ .d$ mI N bits[i]) c,rfl,?_⟩;have hwi:=hw ins[i]$ Qa7 _;refine dS (fj (lN (n:=ins[i].2) ?_$ by omega) ?_)
  .refine aj (a:=inD ins[i]) (aj rfl rfl$ t6 ?_) rfl rfl;rw[ng (by omega)$ by rw[Qaa,Qbg];omega]
   simp
  refine(bQ (λj δ S3=>(∃c,δ=Ia N S (.lst$ ins.map inD) (.lst$ bits.map$ mI N) (.tup$ bad.map .int) (some$ .d$ .int i) (some$ .d$ mI N bits[i]) c)/\S3=S++[SO.lst$ (qu bad bits[i] j$ mj ins bits bad i).map$ mI N])
   ⟨⟨_,rfl⟩,rfl⟩ ?_).mono λo S3 ⟨Wh,e3,⟨c3,Mq⟩,TM⟩=>⟨Wh,e3,⟨_,_,c3,Mq⟩,?_⟩
  .rintro j v δ S3 hv ⟨⟨c3,rfl⟩,rfl⟩;refine⟨_,rfl,?_⟩;have hj:j<ins[i].2:=by
    have:=(Qae.mp hv).1
    rwa [Qaa,jq,Qaa,Qaq] at this
   refine(K7 ?_).mono λo S4 ⟨e4,e5⟩=>⟨_,e4,⟨_,rfl⟩,e5⟩
   rw[mK];have:=big i (by omega)
   omega
  .rw [TM,Qaa,jq,Qaa,Qaq];show _=S++[SO.lst$ (match ins[i]?,bits[i]? with | some x,some b=>qu bad b x.2 (mj ins bits bad i) | _,_=>mj ins bits bad i).map (mI N)]
   rw[h1,h2]
 have hlen:((er$ bits.map$ mI N).map V3.d).length=ins.length:=by simp [er,hb]
 rw[hlen] at hS;subst iS hS;exact fM$ w_var rfl ⟨_,rfl,h⟩
section
variable {N:Nat}{ins:Aac}{gs:List Gt}{os:Aad}{bits:List M}{turned bad:List Int}
def Ex(N:Nat)(S:bp)(nt oy tD bD:D)(a6 a7 a8:Option V3):DE:=[some$ .d nt,some$ .d oy,some$ .d$ mI N one,some$ .d tD,some$ .d bD,some$ .loc S.length,a6,a7,a8]
def Hw{S:bp}{nt oy bD:D}{a8:Option V3}{g:Gt}{i:Nat}{ws:List M}(hg:An ws.length g)(hl:ws.length<20000) :
 W3 (pN (Ex N S nt oy (.tup$ turned.map .int) bD (some$ .d$ .int i) (some$ .d$ gS g) a8)$ S++[.lst$ ws.map$ mI N]) λo S1=>(∃c,o= .nx (Ex N S nt oy (.tup$ turned.map .int) bD (some$ .d$ .int i) (some$ .d$ gS g) c))/\S1=S++[SO.lst$ (ws++[λp=>gF g ws p !=turned.contains (i:Int)]).map$ mI N]:=by
 have hz:=Qas;have ha:=sP g.1;refine aJ (bu (by unfold Ex;simp only[Qao,Qbw];omega) (Py (d:=mI N$ gF g ws) ?_ rfl ⟨_,rfl,?_⟩))
 .have h5:(d8 (S++[.lst$ ws.map$ mI N])$ Ex N S nt oy (.tup$ turned.map .int) bD (some$ .d$ .int i) (some$ .d$ gS g) a8)[5]? =some (.val$ .lst$ ws.map$ mI N):=by
   show some (match res (S++[.lst$ ws.map$ mI N]) (.loc S.length) with | some d=>Sl.val d | none=> .un)=_
   unfold res;rw[aO]
  refine(au (ds:=[.str$ kS g.1, .tup$ (g.2.1.map$ lF ws).map$ mI N,mI N one]) (aq (aj rfl rfl rfl)$ aq ?_$ aq rfl rfl)$ Nc hg.1$ by rw[Qaa];exact hg.2.1).trans ?_
  .exact au (aq (by unfold af;rw [h5]) (aq (aj rfl rfl rfl) rfl)) (Qe hg.2.2$ by rw[hg.2.1];omega)
  .have:(λp=>gv g.1$ (g.2.1.map$ lF ws).map (· p))=gF g ws:=by funext p;unfold gF;rw [Qar];rfl
   rw[this]
 .show W3 (jY 5 _ (Ex N S nt oy (.tup$ turned.map .int) bD (some$ .d$ .int i) (some$ .d$ gS g)$ some$ .d$ mI N$ gF g ws) _) _;refine iQ rfl ⟨_,aO _ _⟩ (cn (d:=mI N λp=>gF g ws p !=turned.contains (i:Int)) ?_ ⟨_,_,rfl,aO _ _,by rw[Qaa];omega,⟨_,rfl⟩,?_⟩)
  .refine Mf (de rfl rfl$ BX _ _) ?_;rw[<-Kz];rfl
  .rw [cc,Qam];rfl
def Kc{S:bp}(NO:iM ins gs os)(hb:bits.length=ins.length)(hS:yO S){Q:V3->bp->Prop}(h:Q (.d$ .lst$ (HY ins gs bits turned bad).map$ mI N) S) :
 W3 (mi [.d$ a_ ins gs os, .d$ .lst$ bits.map$ mI N, .d$ mI N one, .d$ .tup$ turned.map .int, .d$ .tup$ bad.map .int] S) Q:=by
 refine iR hS$ Cc rfl ?_;simp only[dn,j0,List.map,List.length,List.replicate,QaO,Qa2,Nat.reduceAdd,Nat.reduceSub];refine aJ<|bu (by simp)<|dC<|aM<|cn rfl<|aM<|cn rfl<|aM<|cn rfl<|aM<|cn rfl<|di<|CO hb NO.hi NO.hw ⟨_,rfl,?_⟩
 have hwd:=ud NO.hw;have hN:=NO.hi;have hG:=NO.hg;refine aJ$ dS$ fj rfl ?_;refine(bQ (λi δ S2=>(∃a b c,δ=Ex N S (a_ ins gs os) (.lst$ bits.map$ mI N) (.tup$ turned.map .int) (.tup$ bad.map .int) a b c)/\S2=S++[SO.lst$ (EB gs turned (mj ins bits bad ins.length) i).map$ mI N])
  ⟨⟨_,_,_,rfl⟩,rfl⟩ ?_).mono λo S2 ⟨c_,fG,⟨a,b,c,iS⟩,lG⟩=>⟨c_,fG,?_⟩
 .rintro i v δ S2 hv ⟨⟨a,b,c,rfl⟩,rfl⟩;obtain⟨d,hd,rfl⟩:=A3 hv;rw[Qac] at hd;cases q:gs[i]? with
  | none=>rw [q] at hd;cases hd
  | some g=>
    rw[q] at hd;cases hd;have hi:i<gs.length:=(Qae.mp q).1;have hl:(EB gs turned (mj ins bits bad ins.length) i).length=dk ins+i:=by rw[AJ _ (by omega),tu hb _$ Qak _,QaY]
    refine⟨Ex N S (a_ ins gs os) (.lst$ bits.map$ mI N) (.tup$ turned.map .int) (.tup$ bad.map .int) (some$ .d$ .int i) (some$ .d$ gS g) c,rfl,?_⟩;refine(Hw (by rw[hl];exact NO.g i g q)$ by rw[hl];omega).mono λo S4 ⟨⟨c4,e4⟩,e5⟩=>⟨_,e4,⟨_,_,_,rfl⟩,?_⟩
    rw[e5];show _=S++[SO.lst$ (match gs[i]? with | some g=>EB gs turned (mj ins bits bad ins.length) i++[λp=>gF g (EB gs turned (mj ins bits bad ins.length) i) p !=turned.contains (i:Int)] | none=>EB gs turned (mj ins bits bad ins.length) i).map (mI N)]
    rw[q]
 have hlen:((er$ gs.map gS).map V3.d).length=gs.length:=by simp [er]
 rw[hlen] at lG;subst iS lG;exact fM (w_var rfl ⟨_,rfl,by unfold iA;exact Qat$ Qak _,⟨_,rfl⟩,_,by unfold res;rw [aO];rfl,h⟩)
def cB(N:Nat)(os:Aad)(ws:List M):List D:=os.map λx=> .tup$ (tell ws x).map$ mI N
def OM{S:bp}{ws:List M}(hO:os.length<1000)(ho:∀x∈os,x.2.length<1000/\∀w∈x.2,w<ws.length)(hS:yO S){Q:V3->bp->Prop}(h:Q (.d$ .lst$ cB N os ws) S) :
 W3 (nM [.d$ a_ ins gs os, .d$ .lst$ ws.map$ mI N] S) Q:=by
 have hz:=Qas;refine iR hS$ Cc rfl ?_;refine fM (jR ?_ ⟨_,rfl,by unfold iA;exact Qat$ Qak _,⟨_,rfl⟩,_,by unfold res;rw [aO],h⟩)
 refine bF (eN$ aj rfl rfl rfl) (by rw[Qaa];omega) ?_
 refine NT.bc oz _ λ(x:Str × List Nat) hx=>⟨[.val$ .str x.1, .val$ .tup$ x.2.map nI, .val$ .lst$ ws.map$ mI N],rfl,rfl,?_⟩
 exact au rfl$ Qe (ho x hx).2 (ho x hx).1
end
end K44
end
section
namespace K44
open PySem PySem.Spec PyProof.Rows L2 L3 MT
open JT (dJ cO iV Tn uE o4)
def SH{N n:Nat}{f:M}:rY [mI N f, .int n]= .ok (.int$ if decide (n<N) && f n then 1 else 0):=by
 refine cL$ cv ?_;have h:=VS N f n;exact h
def w9{bs:List Bool}(hl:bs.length<100000):kh [.lst$ bs.map bI]= .ok (.int$ MG bs):=by
 refine cL (bx (cT rfl$ by simp [cA,t4]) ?_)
 obtain⟨δ1,e1,a2,lL⟩:=eg (t:=aC 2) (body:=uU)
  (λi δ=>∃a2,δ=[.val$ .lst$ bs.map bI, .val$ .int$ MG$ bs.drop$ bs.length - i,a2]) (δ:=[.val$ .lst$ bs.map bI, .val$ .int 0, .un]) ⟨.un,by simp [MG]⟩ (by
    rintro i d δ hd ⟨a2,rfl⟩;have hi:i<bs.length:=by
     have:=(Qae.mp hd).1
     rwa [Qcg,Qaa] at this
    rw[List.getElem?_reverse (by rw[Qaa];exact hi),Qaa,Qac,Qab (by omega:bs.length - 1 - i<bs.length)] at hd
    cases hd;have hdr:bs.drop (bs.length - (i+1))=bs[bs.length - 1 - i] ::bs.drop (bs.length - i):=by
     rw[show bs.length - (i+1)=bs.length - 1 - i by omega,QbF (by omega:bs.length - 1 - i<bs.length),show bs.length - 1 - i+1=bs.length - i by omega]
    refine⟨_,?_,⟨.val$ bI bs[bs.length - 1 - i],rfl⟩⟩;have hm:(MG (bs.drop$ bs.length - (i+1)):Int)=(MG (bs.drop$ bs.length - i):Int)*2+(if bs[bs.length - 1 - i] then 1 else 0):=by
     rw[hdr];show(((if bs[bs.length - 1 - i] then 1 else 0)+2*MG (bs.drop$ bs.length - i):Nat):Int)=_
     cases bs[bs.length - 1 - i] <;> simp <;> omega
    rw[hm];generalize (MG (bs.drop$ bs.length - i):Int)=m;generalize bs[bs.length - 1 - i]=x;generalize D.lst (bs.map bI)=y;rw[show aC 2 (bI x) [.val y, .val$ .int m,a2]= .ok [.val y, .val$ .int m, .val$ bI x] from rfl,R.aP]
    exact cT (aj (aj rfl rfl$ cm _$ .inr ⟨by omega,by omega⟩) rfl rfl)$ by simp)
 refine bx (iz rfl e1) ?_;rw[Qcg,Qaa,Qbe,List.drop_zero] at lL;subst lL;exact cv rfl
def ny(b:List Bool):D:= .tup$ b.map bI
def aE(c:Nat)(inp:Option V3)(a2 a3 a4:Option V3):DE:=[some$ .d$ nI c,inp,a2,a3,a4]
def y6{c:Nat}{S:bp}(hc:c<=10)(hS:yO S){Q:V3->bp->Prop}(h:Q (.d$ .lst$ (dJ c).map ny) S):W3 (me [.d$ nI c] S) Q:=by
 have hz:=Qas;refine iR hS$ Cc rfl ?_;simp only[dn,j8,List.map,List.length,List.replicate,QaO,Qa2,Nat.reduceAdd,Nat.reduceSub];refine aJ<|bu (by simp)<|jR (ds:=(dJ 0).map ny) rfl ⟨_,rfl,?_⟩
 refine aJ<|dS<|fj (lN rfl$ by omega) ?_
 refine(bQ (λi δ S2=>∃(T:bp) (a2 a3 a4:Option V3),S2=S++T++[.lst$ (dJ i).map ny]/\δ=aE c (some$ .loc (S++T).length) a2 a3 a4)
  ⟨[],none,none,none,by simp,by simp [aE]⟩ ?_).mono λo S2 ⟨c_,fG,T,a2,a3,a4,lG,iS⟩=>⟨c_,fG,?_⟩
 .rintro i v δ S2 hv ⟨T,a2,a3,a4,rfl,rfl⟩;have hi:i<c:=by
   have:=(Qae.mp hv).1
   rwa [Qaa,jq,Qaa,Qaq] at this
  have hpow:(dJ i).length<=1024:=by
   rw[cO];exact QbB (by omega) (by omega:i<=10)
  refine⟨aE c (some$ .loc (S++T).length) (some v) a3 a4,rfl,?_⟩;unfold o8 aE;refine qS rfl (aO _ _) ?_;rw[cc];refine aJ<|bu (by simp)<|jR rfl ⟨_,rfl,?_⟩
  generalize hU:S++T++[SO.fm]=U;refine aJ<|dS<|fj rfl ?_
  refine(bQ (λj δ S3=>(∃b4,δ=[some$ .d$ nI c,some$ .d$ .lst$ (dJ i).map ny,some v,some$ .loc U.length,b4])/\S3=U++[.lst$ (((dJ i).take j).flatMap λb=>[b++[false],b++[true]]).map ny])
   ⟨⟨_,rfl⟩,by simp⟩ ?_).mono λo S3 ⟨Wh,e3,⟨b4,Mq⟩,TM⟩=>⟨Wh,e3,?_⟩
  .rintro j v3 δ S3 hv3 ⟨⟨b4,rfl⟩,rfl⟩;obtain⟨b,hb,rfl⟩:=NT.cQ hv3;have hbl:=iV i b$ Qap hb;refine⟨[some$ .d$ nI c,some$ .d$ .lst$ (dJ i).map ny,some v,some$ .loc U.length,some$ .d$ ny b],rfl,?_⟩;generalize hL:((((dJ i).take j).flatMap λb=>[b++[false],b++[true]]).map ny)=L
   have hLl:L.length<=2048:=by
    rw[<-hL,Qaa,QbL];have:((dJ i).take j).map (λb=>[b++[false],b++[true]].length)=((dJ i).take j).map λ_=>2:=rfl
    rw[this,List.map_const',List.sum_replicate_nat,QaB];omega
   have add:∀(x:Bool) (δ:ay),af 4 δ= .ok (ny b)->e2 gr (af 4) (b_$ ah (eC$ bI x) ax) δ= .ok (ny$ b++[x]):=λx δ h4=>by
    refine aj h4 (bM rfl$ by simp;omega) ?_
    show R.bH (decide$ (b.map bI).length+[bI x].length<=sizeLine) _=_;rw[cm _$ by rw[Qaa];simp;omega]
    unfold ny;rw[Qam];rfl
   refine aJ<|iQ rfl ⟨_,aO _ _⟩<|cn (add false _ rfl) ⟨_,_,rfl,aO _ _,by omega,_,rfl,?_⟩
   rw[cc];refine iQ rfl ⟨_,aO _ _⟩<|cn (add true _ rfl) ⟨_,_,rfl,aO _ _,by rw[Qai];simp;omega,_,rfl,⟨_,rfl⟩,?_⟩
   rw[cc,QaI,hb,QbX,Qam,hL];simp
  rw[Qaa,Qaa,QaY] at TM;subst Mq TM;refine bu (by simp)<|w_var rfl ⟨_,rfl,T++[SO.fm],some v,some$ .loc U.length,b4,?_,?_⟩
  .rw [<-hU,QaL S];rfl
  .rw [<-hU,QaL S];rfl
 have hlen:((jq 0 c).map V3.d).length=c:=by simp [jq]
 rw[hlen] at lG;subst iS lG;refine fM (w_var rfl ⟨_,rfl,by unfold iA;exact Qat (by rw[Qai];omega),⟨T++[.lst$ (dJ c).map ny],by rw[QaL]⟩,_,by unfold res;rw [aO],h⟩)
end K44
end
section
namespace K44
open PySem PySem.Spec PyProof.Rows L2 L3 MT
open JT (dJ cO iV Tn uE o4)
def Ss{b:List Bool}{j:Nat}(h:j<b.length):bz (ny b) (.int j)= .ok (bI$ b.getD j false):=by
 refine BV ?_;rw[ng (by omega)$ by rw[Qaa,Qbg];exact h]
 rw[Qag,Qab h];simp
def Ep{c j:Nat}(hc:c<=10)(hj:j<c):qf [.lst$ (dJ c).map ny, .int j]= .ok (mI (2 ^ c)$ Tn c j):=by
 have hz:=Qas;have hp:2 ^ c<=1024:=QbB (by omega) hc
 refine cL (cv$ au (ds:=[.lst$ ((dJ c).map λb=>b.getD j false).map bI]) (aq (bK$ bF rfl (by rw[Qaa,cO];omega) ?_) rfl) ?_)
 .rw [Qar];exact NT.bc ny _ λb hb=>⟨[.val$ ny b, .val$ .int j],rfl,rfl,aj rfl rfl$ Ss$ by rw[iV c b hb];exact hj⟩
 .rw [w9 (by rw[Qaa,cO];omega),JS,Qaa,cO]
  congr 3;refine qk λp Yi=>?_
  unfold Tn;rw[Qag,Qac,Qag (l:=dJ c),Qab$ by rw[cO];exact Yi]
  rfl
section
variable {c:Nat}{ins:Aac}{gs:List Gt}{os:Aad}
noncomputable abbrev Jh:=Str.ofString "net"
noncomputable abbrev zD:=Str.ofString "many_inputs"
noncomputable abbrev zC:=Str.ofString "full"
noncomputable abbrev uc:=Str.ofString "in_masks"
def gM(c:Nat)(nt:D):List (Str × V3):=[(Jh, .d nt),(zD, .d$ nI$ 2 ^ c),(zC, .d$ mI (2 ^ c) one),(uc, .d$ .lst$ (uE c).map$ mI$ 2 ^ c)]
def Ot{S:bp}(hc:ins.length=c)(Qr:c<=10)(hS:yO (S++[.ins 0 []])){Q:V3->bp->Prop}(h:Q (.d .cY) (S++[.ins 0$ gM c$ a_ ins gs os])) :
 W3 (fw [.loc S.length, .d$ a_ ins gs os]$ S++[.ins 0 []]) Q:=by
 have hz:=Qas;have hp:2 ^ c<=1024:=QbB (by omega) Qr
 refine Vl rfl ?_;simp only[dn,fU,List.map,List.length,List.replicate,QaO,Qa2,Nat.reduceAdd,Nat.reduceSub];refine aJ<|bu (by simp)<|dC<|aM<|cn (au rfl$ by rw[uz,Qaa,hc];rfl)<|di<|y6 Qr hS ⟨_,rfl,?_⟩
 refine aJ<|sG<|cn rfl<|w_var rfl ⟨_,rfl,aO _ _,by simp,_,rfl,?_⟩
 rw[cc];refine aJ<|sG<|cn (d:=nI$ 2 ^ c) (au rfl$ by rw[uz,Qaa,cO];rfl)<|w_var rfl ⟨_,rfl,aO _ _,by unfold CM;simp,_,rfl,?_⟩
 rw[cc];refine aJ<|sG<|cn (d:=mI (2 ^ c) one) (au (ds:=[.lst$ ((dJ c).map λ_=>true).map bI]) (aq (bK$ bF rfl (by rw[Qaa,cO];omega) ?_) rfl) ?_)<|w_var rfl ⟨_,rfl,aO _ _,?_,_,rfl,?_⟩
 .rw [Qar];exact NT.bc ny _ λb hb=>⟨[.val$ ny b],rfl,rfl,rfl⟩
 .rw [w9 (by rw[Qaa,cO];omega),JS,Qaa,cO]
  congr 3;refine qk λp Yi=>?_
  rw[Qag,Qac,Qab$ by rw[cO];exact Yi]
  rfl
 .exact(by decide:2<1000)
 rw[cc];refine sG<|cn (d:= .lst$ (uE c).map$ mI$ 2 ^ c) (bK$ bF (lN (au rfl$ by rw[uz,Qaa,hc])$ by omega) (by simp [jq];omega) ?_)<|w_var rfl ⟨_,rfl,aO _ _,?_,_,rfl,?_⟩
 .unfold uE;rw[Qar];refine NT.bc (λi:Nat=>D.int$ 0+(i:Int)) _ λj hj=>⟨[.val$ .int$ 0+(j:Int), .val$ .lst$ (dJ c).map ny],rfl,rfl,au ?_$ Ep Qr$ QaM.mp hj⟩
  rw[Int.zero_add];rfl
 .exact(by decide:3<1000)
 rw[cc];exact h
end
end K44
end
section
namespace K44
open PySem PySem.Spec PyProof.Rows L2 L3 MT
open JT (dJ cO iV Tn uE o4)
section
variable {c:Nat}{ins:Aac}{gs:List Gt}{os:Aad}{S:bp}{k:Nat}{turned bad:List Int}
def nd1:(zD==Jh)=false:=by decide+kernel
def nd2:(zC==Jh)=false:=by decide+kernel
def nd3:(zC==zD)=false:=by decide+kernel
def nd4:(uc==Jh)=false:=by decide+kernel
def nd5:(uc==zD)=false:=by decide+kernel
def nd6:(uc==zC)=false:=by decide+kernel
def LZ{nt:D}:(gM c nt).lookup Jh=some (.d nt):=by unfold gM;rw [QaF,QbP]
def OU{nt:D}:(gM c nt).lookup zD=some (.d$ nI$ 2 ^ c):=by unfold gM;rw [QaF,nd1,QaF,QbP]
def M8{nt:D}:(gM c nt).lookup zC=some (.d$ mI (2 ^ c) one):=by unfold gM;rw [QaF,nd2,QaF,nd3,QaF,QbP]
def Km{nt:D}:(gM c nt).lookup uc=some (.d$ .lst$ (uE c).map$ mI$ 2 ^ c):=by unfold gM;rw [QaF,nd4,QaF,nd5,QaF,nd6,QaF,QbP]
abbrev Wd(c:Nat)(ins:Aac)(gs:List Gt)(turned bad:List Int):List M:=HY ins gs (uE c) turned bad
def Rx(m:Str)(nt:D)(h1:(m==Jh)=false)(h2:(m==zD)=false)(h3:(m==zC)=false)(h4:(m==uc)=false):(gM c nt).lookup m=none:=by unfold gM;rw [QaF,h1,QaF,h2,QaF,h3,QaF,h4];rfl
def Cq(NO:iM ins gs os)(hc:ins.length=c)(hS:yO S)(hb:S[k]? =some (.ins 0$ gM c$ a_ ins gs os)){Q:V3->bp->Prop}(h:Q (.d$ .lst$ cB (2 ^ c) os$ Wd c ins gs turned bad) S) :
 W3 (iB [.loc k, .d$ .tup$ turned.map .int, .d$ .tup$ bad.map .int] S) Q:=by
 refine iR hS$ Cc rfl ?_;have hl:(uE c).length=ins.length:=by rw[o4,hc]
 refine fM<|dC<|aM<|w_fld<|w_var rfl ⟨_,_,rfl,hb,LZ,?_⟩
 refine aM<|dC<|aM<|w_fld<|w_var rfl ⟨_,_,rfl,hb,LZ,?_⟩
 refine aM<|w_fld<|w_var rfl ⟨_,_,rfl,hb,Km,?_⟩
 refine aM<|w_fld<|w_var rfl ⟨_,_,rfl,hb,M8,?_⟩
 refine aM<|cn rfl<|aM<|cn rfl<|di ?_
 refine Kc NO hl hS$ di ?_;refine OM NO.ho (λx hx=>⟨(NO.o x hx).1,λw hw=>by rw[JV hl];exact(NO.o x hx).2 w hw⟩) hS ?_
 exact⟨_,rfl,by unfold iA;rfl,⟨[],by simp⟩,_,by unfold res;rfl,h⟩
def BR{nt:D}{f:M}(hc:c<=10)(hS:yO S)(hb:S[k]? =some (.ins 0$ gM c nt)){Q:V3->bp->Prop}(h:Q (.d$ .lst$ ((List.range$ 2 ^ c).filter f).map nI) S) :
 W3 (dy [.loc k, .d$ mI (2 ^ c) f] S) Q:=by
 have hz:=Qas;have hp:2 ^ c<=1024:=QbB (by omega) hc
 refine iR hS$ Cc rfl ?_;refine fM<|jZ (λj ds S2=>S2=S/\ds=((List.range j).filter f).map nI) ?_
 refine Qv<|w_fld<|w_var rfl ⟨_,_,rfl,hb,OU,2 ^ c,rfl,by omega,?_⟩
 have hlen:((jq 0$ 2 ^ c).map V3.d).length=2 ^ c:=by simp [jq]
 rw[hlen];refine⟨by omega,⟨rfl,rfl⟩,?_,?_⟩
 .rintro j v ds S2 hv ⟨rfl,rfl⟩;obtain⟨hj,rfl⟩:=NT.RQ hv;refine⟨[some$ .d$ .int j,some$ .d$ mI (2 ^ c) f],rfl,qo (b:=f j) ?_ ?_⟩
  .refine de (au rfl SH) rfl ?_;rw[Qat hj,Bool.true_and];cases f j <;> rfl
  .rw [List.range_succ,QbT,Qam];cases hf:f j with
   | true=>rw [QaK rfl];exact cn (d:=nI j) rfl ⟨_,rfl,rfl,by simp [hf]⟩
   | false=>rw [QaH$ by decide];exact⟨rfl,by simp [hf]⟩
 .rintro ds S2 ⟨rfl,rfl⟩;exact⟨_,rfl,by unfold iA;rfl,⟨[],by simp⟩,_,by unfold res;rfl,h⟩
end
end K44
end
section
set_option maxHeartbeats 1000000
namespace K44
open PySem PySem.Spec PyProof.Rows L2 L3 MT JT
def Zi{a:D}{r:List D}:bz (.lst (a ::r)) (.int 0)= .ok a:=t6 (by rw[ng (by omega)$ by simp];rfl)
def Y6{a b:D}{r:List D}:bz (.lst (a ::b ::r)) (.int 1)= .ok b:=t6 (by rw[ng (by omega)$ by simp];rfl)
def Y9{a b c:D}{r:List D}:bz (.lst (a ::b ::c ::r)) (.int 2)= .ok c:=t6 (by rw[ng (by omega)$ by simp];rfl)
def KZ{N:Nat}{a b c:M}:iT [.lst [mI N a,mI N b,mI N c]]= .ok (mI N λp=>(a p && b p) || (a p && c p) || (b p && c p)):=by
 refine cL$ cv ?_;exact aj (aj (aj (aj rfl rfl Zi) (aj rfl rfl Y6)$ xH N a b) (aj (aj rfl rfl Zi) (aj rfl rfl Y9)$ xH N a c)$ Dk N _ _) (aj (aj rfl rfl Y6) (aj rfl rfl Y9)$ xH N b c)$ Dk N _ _
def Mc(bs:List Bool):KY [.lst$ bs.map D.bl]= .ok (.bl$ bs.all id):=by
 show(match bls? (bs.map D.bl) with | some bs=>R.ok (D.bl$ bs.all id) | none=> .no)=_
 rw[G3]
section
variable {ins:Aac}{gs:List Gt}{os:Aad}
def Lq(a b:Nat):xK (.int a) (.int b)= .ok (.bl$ decide$ a=b):=by
 show R.ok (D.bl$ (a:Int)==(b:Int))=_;congr 2;by_cases h:a=b
 .rw [Qat h];exact Qbj.mpr (by omega)
 .rw [Qaw h];exact QaZ.mpr (by omega)
def Il(w:Nat)(hi:ins.length<1000)(ho:os.length<1000):ip [a_ ins gs os, .int w]= .ok (.bl$ (ins.all λx=>decide$ x.2=w) && os.all λx=>decide$ x.2.length=w):=by
 have hz:=Qas;refine cL (bx (cT (d:= .bl$ ins.all λx=>decide$ x.2=w) (au (ds:=[.lst$ (ins.map λx=>decide$ x.2=w).map D.bl]) (aq (bK$ bF (eN$ aj rfl rfl rfl) (by rw[Qaa];omega) ?_) rfl) ?_) (by simp [cA,m7])) (cv ?_))
 .rw [Qar];exact NT.bc inD _ λx hx=>⟨[.val$ inD x, .val$ .int w],rfl,rfl,aj (aj rfl rfl rfl) rfl$ Lq _ _⟩
 .rw [Mc,List.all_map];rfl
 .unfold Ow;have e1:MM (af 2) [.val$ a_ ins gs os, .val$ .int w, .val$ .bl$ ins.all λx=>decide$ x.2=w]= .ok (ins.all λx=>decide$ x.2=w):=Ra rfl
  show((MM (af 2) [.val$ a_ ins gs os, .val$ .int w, .val$ .bl$ ins.all λx=>decide$ x.2=w]).bind _)=_
  rw[e1,R.aP];cases hA:ins.all λx=>decide (x.2=w) with
  | false=>rw [QaH (by decide),Bool.false_and]
  | true=>
    refine au (ds:=[.lst$ (os.map λx=>decide$ x.2.length=w).map D.bl]) (aq (bK$ bF (eN$ aj rfl rfl rfl) (by rw[Qaa];omega) ?_) rfl) ?_
    .rw [Qar];exact NT.bc oz _ λx hx=>⟨[.val$ .str x.1, .val$ .tup$ x.2.map nI, .val$ .int w],rfl,rfl,aj (au rfl$ by show R.ok (D.int ((x.2.map nI).length:Nat))=_;rw [Qaa]) rfl (Lq _ _)⟩
    .rw [Mc,List.all_map];rfl
def GQ(N:Nat):D.int 0=mI N λ_=>false:=by
 unfold mI;rw[C2.mpr λ_ _=>rfl];rfl
def three{α:Type}{l:List α}(h:l.length=3):∃a b c,l=[a,b,c]:=match l,h with | [a,b,c],_=>⟨a,b,c,rfl⟩
def Rb{ws:List M}{p a b c:Nat}:bJ (lI p ws) [a,b,c]=[lF ws a p,lF ws b p,lF ws c p]:=by
 show [(lI p ws).getD a false,(lI p ws).getD b false,(lI p ws).getD c false]=_;rw[v_,v_,v_]
def Jb{N:Nat}{ws:List M}(h3:∀x∈os,x.2.length=3):lZ [.lst$ cB N os ws]= .ok (mI N λp=>os.any λx=>A5$ bJ (lI p ws) x.2):=by
 refine cL (bx (cT rfl$ by simp [cA,o7]) ?_)
 obtain⟨δ1,e1,a2,lL⟩:=eg (body:=qB) (ds:=cB N os ws)
  (λi δ=>∃a2,δ=[.val$ .lst$ cB N os ws, .val (mI N λp=>(os.take i).any λx=>A5$ bJ (lI p ws) x.2),a2]) (δ:=[.val$ .lst$ cB N os ws, .val$ .int 0, .un]) ⟨.un,by rw[GQ N];simp⟩ (by
    rintro i d δ hd ⟨a2,rfl⟩;unfold cB at hd;rw[Qac] at hd;cases hx:os[i]? with
    | none=>rw [hx] at hd;cases hd
    | some x=>
      rw[hx] at hd;cases hd;obtain⟨n0,n1,n2,ex⟩:=three$ h3 x$ Qap hx;have et:tell ws x=[lF ws n0,lF ws n1,lF ws n2]:=by unfold tell;rw [ex];rfl
      obtain⟨acc,B4⟩:∃acc:M,acc=λp=>(os.take i).any λx=>A5 (bJ (lI p ws) x.2):=⟨_,rfl⟩
      have em:(mI N λp=>(os.take$ i+1).any λx=>A5$ bJ (lI p ws) x.2)=mI N λp=>(acc p || (lF ws n0 p !=lF ws n1 p)) || (lF ws n0 p !=lF ws n2 p):=r_ λp _=>by
       rw[QaI,hx,List.any_append,B4];show(_ || (A5 (bJ (lI p ws) x.2) || false))=_
       rw[ex,Rb,QbA,Bool.or_assoc];rfl
      refine⟨_,?_,⟨.val$ .tup$ (tell ws x).map$ mI N,rfl⟩⟩;show(aC 2 (.tup$ (tell ws x).map$ mI N) _).bind _=_;rw[em,et,<-B4];generalize D.lst (cB N os ws)=y;generalize lF ws n0=a;generalize lF ws n1=b;generalize lF ws n2=c;rw[show aC 2 (.tup$ [a,b,c].map$ mI N) [.val y, .val$ mI N acc,a2]= .ok [.val y, .val$ mI N acc, .val$ .tup [mI N a,mI N b,mI N c]] from rfl,R.aP]
      exact cT (aj (aj rfl (aj (aj rfl rfl MH) (aj rfl rfl Qd)$ yc N a b)$ Dk N _ _) (aj (aj rfl rfl MH) (aj rfl rfl UX)$ yc N a c)$ Dk N _ _)$ by simp)
 refine bx (iz rfl e1) ?_;have hlen:(cB N os ws).length=os.length:=by unfold cB;rw [Qaa]
 rw[hlen,QaY] at lL;subst lL;exact cv rfl
def zr{N:Nat}{ws vs:List M}:vD (cB N os ws) (cB N os vs)=os.map λx=>D.tup [.tup$ (tell ws x).map$ mI N, .tup$ (tell vs x).map$ mI N]:=by
 unfold vD cB;rw[List.zip_map',Qar];rfl
def OA{N:Nat}{ws vs:List M}(h3:∀x∈os,x.2.length=3):qe [.lst$ cB N os ws, .lst$ cB N os vs]= .ok (mI N λp=>os.any λx=>lst (bJ (lI p ws) x.2)$ bJ (lI p vs) x.2):=by
 have hz:=Qas;refine cL (bx (cT rfl$ by simp [cA,uq]) ?_)
 obtain⟨δ1,e1,a3,a4,lL⟩:=eg (body:=vq) (ds:=vD (cB N os ws)$ cB N os vs)
  (λi δ=>∃a3 a4,δ=[.val$ .lst$ cB N os ws, .val$ .lst$ cB N os vs, .val (mI N λp=>(os.take i).any λx=>lst (bJ (lI p ws) x.2)$ bJ (lI p vs) x.2),a3,a4]) (δ:=[.val$ .lst$ cB N os ws, .val$ .lst$ cB N os vs, .val$ .int 0, .un, .un]) ⟨.un, .un,by rw[GQ N];simp⟩ (by
    rintro i d δ hd ⟨a3,a4,rfl⟩;rw[zr,Qac] at hd;cases hx:os[i]? with
    | none=>rw [hx] at hd;cases hd
    | some x=>
      rw[hx] at hd;cases hd;obtain⟨n0,n1,n2,ex⟩:=three$ h3 x$ Qap hx;have et:tell ws x=[lF ws n0,lF ws n1,lF ws n2]:=by unfold tell;rw [ex];rfl
      have ev:tell vs x=[lF vs n0,lF vs n1,lF vs n2]:=by unfold tell;rw [ex];rfl
      obtain⟨acc,B4⟩:∃acc:M,acc=λp=>(os.take i).any λx=>lst (bJ (lI p ws) x.2) (bJ (lI p vs) x.2):=⟨_,rfl⟩
      have em:(mI N λp=>(os.take$ i+1).any λx=>lst (bJ (lI p ws) x.2)$ bJ (lI p vs) x.2)=mI N λp=>acc p || (((lF ws n0 p !=lF vs n0 p) && (lF ws n1 p !=lF vs n1 p)) || ((lF ws n0 p !=lF vs n0 p) && (lF ws n2 p !=lF vs n2 p)) || ((lF ws n1 p !=lF vs n1 p) && (lF ws n2 p !=lF vs n2 p))):=r_ λp _=>by
       rw[QaI,hx,List.any_append,B4];show(_ || (lst (bJ (lI p ws) x.2) (bJ (lI p vs) x.2) || false))=_
       rw[ex,Rb,Rb,QbA];rfl
      refine⟨_,?_,⟨.val$ .tup$ (tell ws x).map$ mI N, .val$ .tup$ (tell vs x).map$ mI N,rfl⟩⟩;show(fD 2 (bL (aC 3)$ bL (aC 4) fA) (.tup [.tup$ (tell ws x).map$ mI N, .tup$ (tell vs x).map$ mI N]) _).bind _=_;rw[em,et,ev,<-B4];generalize D.lst (cB N os ws)=y;generalize D.lst (cB N os vs)=z;generalize lF ws n0=a;generalize lF ws n1=b;generalize lF ws n2=c;generalize lF vs n0=a';generalize lF vs n1=b';generalize lF vs n2=c';rw[show fD 2 (bL (aC 3)$ bL (aC 4) fA) (.tup [.tup$ [a,b,c].map$ mI N, .tup$ [a',b',c'].map$ mI N]) [.val y, .val z, .val$ mI N acc,a3,a4]= .ok [.val y, .val z, .val$ mI N acc, .val$ .tup [mI N a,mI N b,mI N c], .val$ .tup [mI N a',mI N b',mI N c']] from rfl,R.aP]
      refine cT (aj rfl (au (aq (bK$ bF (ds:=[.int 0, .int 1, .int 2]) rfl (by simp;omega) ?_) rfl) KZ)$ Dk N _ _) (by simp)
      have go:∀(l:List (D × D)),(∀q∈l,e2 Hu (e2 bz (af 1)$ af 0) (e2 bz (af 2)$ af 0) [.val q.1, .val$ .tup [mI N a,mI N b,mI N c], .val$ .tup [mI N a',mI N b',mI N c']]= .ok q.2)->
       qW (aC 0) eB (e2 Hu (e2 bz (af 1)$ af 0)$ e2 bz (af 2)$ af 0) [.un, .val$ .tup [mI N a,mI N b,mI N c], .val$ .tup [mI N a',mI N b',mI N c']] (l.map (·.1))= .ok (l.map (·.2)):=λl hl=>
       NT.bc (λq:D × D=>q.1) (λq:D × D=>q.2) λq hq=>⟨[.val q.1, .val$ .tup [mI N a,mI N b,mI N c], .val$ .tup [mI N a',mI N b',mI N c']],rfl,rfl,hl q hq⟩
      refine go [(.int 0,mI N λp=>a p !=a' p),(.int 1,mI N λp=>b p !=b' p),(.int 2,mI N λp=>c p !=c' p)] λq hq=>?_
      simp at hq;rcases hq with rfl | rfl | rfl
      .exact aj (aj rfl rfl MH) (aj rfl rfl MH) (yc N a a')
      .exact aj (aj rfl rfl Qd) (aj rfl rfl Qd) (yc N b b')
      .exact aj (aj rfl rfl UX) (aj rfl rfl UX) (yc N c c'))
 have hlen:(vD (cB N os ws)$ cB N os vs).length=os.length:=by rw[zr,Qaa]
 refine bx (iz rfl e1) ?_;rw[hlen,QaY] at lL;subst lL;exact cv rfl
end
def cq(T:List Nat):D:= .tup$ T.map nI
def BL{ds es:List D}(h:ds.length+es.length<=sizeLine):gr (.tup ds) (.tup es)= .ok (.tup$ ds++es):=cm _ h
def Gi{f g:FD}{δ:ay}{a b:Nat}(h:f δ= .ok (.int a))(h2:g δ= .ok (.int b))(ha:a<1000000)(hb:b<1000000):tZ f g δ= .ok ((List.range' a$ b - a).map nI):=by
 unfold tZ;rw[h,R.aP,h2,R.aP];show R.bH (decide (-(2 ^ 62)<=(a:Int)/\(a:Int)<2 ^ 62/\ -(2 ^ 62)<=(b:Int)/\(b:Int)<2 ^ 62)) _=_;rw[cm _ ⟨by omega,by omega,by omega,by omega⟩,show((b:Int) - a).toNat=b - a by omega,Qcs,Qar]
 congr 1
theorem sZ{e:Nat}:∀(m f:Nat),(tU f e m).length<=e ^ m
 | 0,f=>by unfold tU;simp
 | m+1,f=>by
   unfold tU;rw[QbL,Nat.pow_succ];refine QaT (wq (m:=e ^ m) λx hx=>?_) ?_
   .obtain⟨a,_,rfl⟩:=QaC.mp hx;rw[Qaa];exact sZ m _
   .rw [Qaa,Qa3,Nat.mul_comm];exact Nat.mul_le_mul_left _$ Nat.sub_le _ _
def Q1{e m f:Nat}{B:List Nat}(h:B∈tU f e m):B.length=m:=(sj.mp h).1
def GG(e m:Nat)(he:e<=12)(hm:m<=4):e ^ m<=20736:=QaT (Nat.pow_le_pow_left he m) (QbB (by omega) hm)
theorem vh{e:Nat}(he:e<=12):∀(n m f:Nat),m<=n->n<=6->m<=4->f<=100->fK (n+1) [.int f, .int e, .int m]= .ok (.lst$ (tU f e m).map cq)
 | n,0,f,_,_,_,_=>by
   exact cL$ NT.su$ vk (de rfl rfl rfl)$ cv rfl
 | 0,m+1,f,h,_,_,_=>by omega
 | n+1,m+1,f,h,hn,hm4,hf=>by
   have hz:=Qas;refine cL$ bx (jS (de rfl rfl ?_) rfl) ?_
   .show R.ok (D.bl$ ((m+1:Nat):Int)==0)=_;congr 2
   refine bx (tm rfl$ by simp [cA,rE]) ?_
   let F:Nat->Aae:=λi=>((List.range' f$ e - f).take i).flatMap λw=>(tU ((w / 3+1)*3) e m).map (w ::·)
   have hFl:∀i,(F i).length<=12*20736:=λi=>by
    rw[QbL];refine QaT (wq λx hx=>?_) (by rw[Qaa,QaB,Qa3];exact Nat.mul_le_mul_right _$ by omega)
    obtain⟨a,_,rfl⟩:=QaC.mp hx;rw[Qaa];exact QaT (sZ m _) (GG e m he$ by omega)
   obtain⟨δ1,e1,a4,a5,a6,lL⟩:=eg (t:=aC 4) (body:=sE$ fK$ n+1) (ds:=(List.range' f$ e - f).map nI)
    (λi δ=>∃a4 a5 a6,δ=[.val$ .int f, .val$ .int e, .val$ .int (m+1:Nat), .bld$ (F i).map cq,a4,a5,a6]) (δ:=[.val$ .int f, .val$ .int e, .val$ .int (m+1:Nat), .bld [], .un, .un, .un]) ⟨.un, .un, .un,by simp [F]⟩ (by
      rintro i d δ hd ⟨a4,a5,a6,rfl⟩;obtain⟨w,hw,rfl⟩:=NT.lW hd;have hwm:=Qap hw;obtain⟨j,hj,ej⟩:=QbI.mp hwm;rw[show aC 4 (nI w) [.val$ .int f, .val$ .int e, .val$ .int (m+1:Nat), .bld$ (F i).map cq,a4,a5,a6]= .ok [.val$ .int f, .val$ .int e, .val$ .int (m+1:Nat), .bld$ (F i).map cq, .val$ nI w,a5,a6] from rfl,R.aP]
      have ihc:=vh he n m ((w / 3+1)*3) (by omega) (by omega) (by omega) (by omega)
      have hFs:F (i+1)=F i++(tU ((w / 3+1)*3) e m).map (w ::·):=by
       show((List.range' f$ e - f).take$ i+1).flatMap _=_;rw[QaI,hw,QbX];simp [F]
      have hFi:=hFl i;have hdl:(tU ((w / 3+1)*3) e m).length<=20736:=QaT (sZ m _) (GG e m he$ by omega)
      obtain⟨c_,fG,c6,Jq⟩:=eg (t:=aC 6) (body:=nK$ fK$ n+1) (ds:=(tU ((w / 3+1)*3) e m).map cq)
       (λj δ=>∃c6,δ=[.val$ .int f, .val$ .int e, .val$ .int (m+1:Nat), .bld$ (F i++((tU ((w / 3+1)*3) e m).take j).map (w ::·)).map cq, .val$ nI w, .val$ nI$ (w / 3+1)*3,c6]) (δ:=[.val$ .int f, .val$ .int e, .val$ .int (m+1:Nat), .bld$ (F i).map cq, .val$ nI w, .val$ nI$ (w / 3+1)*3,a6]) ⟨a6,by simp⟩ (by
         rintro j d δ hd ⟨c6,rfl⟩;obtain⟨T,hT,rfl⟩:=NT.lW hd;have hTl:=Q1$ Qap hT;refine⟨[.val$ .int f, .val$ .int e, .val$ .int (m+1:Nat), .bld$ (F i++((tU ((w / 3+1)*3) e m).take$ j+1).map (w ::·)).map cq, .val$ nI w, .val$ nI$ (w / 3+1)*3, .val$ cq T],?_,⟨_,rfl⟩⟩
         generalize hL:(F i++((tU ((w / 3+1)*3) e m).take j).map (w ::·)).map cq=L
         have hLl:L.length<sizeLine:=by
          rw[<-hL,Qaa,Qai,Qaa,QaB];omega
         rw[show aC 6 (cq T) [.val$ .int f, .val$ .int e, .val$ .int (m+1:Nat), .bld L, .val$ nI w, .val$ nI$ (w / 3+1)*3,c6]= .ok [.val$ .int f, .val$ .int e, .val$ .int (m+1:Nat), .bld L, .val$ nI w, .val$ nI$ (w / 3+1)*3, .val$ cq T] from rfl,R.aP]
         unfold nK;rw[AL (aj (bM rfl$ by simp;omega) rfl$ BL$ by rw[Qaa];simp;omega) rfl hLl,<-hL,QaI,hT]
         simp [cq])
      refine⟨_,bx (cT (aj (aj (a:=nI$ w / 3) (aj rfl rfl ?_) rfl rfl) rfl ?_)$ by simp)$ iz (eN$ au (aq rfl$ aq rfl$ aq (aj rfl rfl ?_) rfl) ihc) fG,?_⟩
      .exact NN (by omega) (by omega)
      .show R.bH (decide _) (R.ok$ D.int$ ((w / 3+1:Nat):Int)*3)=_;rw[cm _$ .inr ⟨by omega,by omega⟩]
       congr 2
      .show R.ok (D.int$ ((m+1:Nat):Int) - 1)=_;congr 2;omega
      .rw [Qaa,QaY] at Jq;refine⟨.val$ nI w, .val$ nI$ (w / 3+1)*3,c6,?_⟩;rw[Jq,hFs])
   refine bx (iz (Gi rfl rfl (by omega)$ by omega) e1) ?_
   rw[Qaa,Qa3] at lL;have hFe:F (e - f)=tU f e (m+1):=by
    show((List.range' f$ e - f).take$ e - f).flatMap _=_;rw[QaQ$ by rw[Qa3];exact Qak _];rfl
   rw[hFe] at lL;subst lL;exact cv rfl
def jA(f:List Nat × List Nat):D:= .tup [cq f.1,cq f.2]
section
variable {c:Nat}{ins:Aac}{gs:List Gt}{os:Aad}
def HV(hg:gs.length<1000)(δ:ay)(iS:δ[0]? =some (.val$ a_ ins gs os)):bX (f7$ e2 bz (af 0)$ eC$ .int 1) (fD 2$ bL (aC 0)$ bL (aC 1) fA) (AQ$ AR$ e2 bz (af 1)$ eC$ .int 2) (b_$ ah (b_ ax)$ ah (b_$ ah (af 0) ax) ax) ["place","gate"] [] δ=
 .ok (((gs.zipIdx.filter$ λx=>!x.1.2.2).map$ λx=>(([]:List Nat),[x.2])).map jA):=by
 have hz:=Qas;have en:er (gs.map gS)=gs.zipIdx.map λx=>D.tup [.int x.2,gS x.1]:=by
  unfold er;rw[List.zipIdx_map,Qar];rfl
 refine bF (ds:=gs.zipIdx.map λx=>D.tup [.int x.2,gS x.1]) (by rw[<-en];exact xr$ aj (by unfold af;rw [iS]) rfl rfl) (by rw[Qaa,Qa4];omega) ?_
 rw[Qar];refine NT.nH (λx:Gt × Nat=>!x.1.2.2) (λx:Gt × Nat=>D.tup [.int x.2,gS x.1]) _ λx hx=>⟨[.val$ .int x.2, .val$ gS x.1],rfl,?_,λ_=>?_⟩
 .unfold AQ AR;rfl
 .exact bM (aq rfl$ aq (bM rfl$ by simp;omega) rfl) (by simp;omega)
def Ie(hc:ins.length=c)(Jk:c<=4)(hg:gs.length<1000):fQ [a_ ins gs os]= .ok (.lst$ (za c gs).map jA):=by
 have hz:=Qas
 let G:List (List Nat × List Nat):=(gs.zipIdx.filter$ λx=>!x.1.2.2).map$ λx=>(([]:List Nat),[x.2])
 have hGl:G.length<1000:=by
  rw[Qaa];have:=Qby (λx:Gt × Nat=>!x.1.2.2) gs.zipIdx
  rw[Qa4] at this;omega
 let F:Nat->List (List Nat × List Nat):=λi=>G++((List.range' 1 c).take i).flatMap λm=>(tU 0 (3*c) m).map λB=>(B,([]:List Nat))
 refine cL (bx (tm (HV hg _ rfl)$ by simp [cA,fR]) (bx (cT (d:=nI c) (au rfl$ by rw[uz,Qaa,hc];rfl)$ by simp [cA,fR]) ?_))
 have hFl:∀i,(F i).length<=1000+4*20736:=λi=>by
  rw[Qai,QbL];have:(((List.range' 1 c).take i).map λm=>((tU 0 (3*c) m).map λB=>(B,([]:List Nat))).length).sum<=4*20736:=by
   refine QaT (wq λx hx=>?_) (by rw[Qaa,QaB,Qa3];exact Nat.mul_le_mul_right _$ by omega)
   obtain⟨a,ha,rfl⟩:=QaC.mp hx;obtain⟨j,hj,ej⟩:=QbI.mp$ Qbr ha;rw[Qaa];exact QaT (sZ a _) (GG _ a (by omega)$ by omega)
  omega
 obtain⟨δ1,e1,a3,lL⟩:=eg (t:=aC 3) (body:=gQ) (ds:=(List.range' 1$ c+1 - 1).map nI)
  (λi δ=>∃a3,δ=[.val$ a_ ins gs os, .bld$ (F i).map jA, .val$ nI c,a3]) (δ:=[.val$ a_ ins gs os, .bld$ G.map jA, .val$ nI c, .un]) ⟨.un,by simp [F]⟩ (by
    rintro i d δ hd ⟨a3,rfl⟩;obtain⟨m,hm,rfl⟩:=NT.lW hd;obtain⟨j,hj,ej⟩:=QbI.mp$ Qap hm;have hFs:F (i+1)=F i++(tU 0 (3*c) m).map λB=>(B,([]:List Nat)):=by
     show G++((List.range' 1 c).take$ i+1).flatMap _=_;rw[Nat.add_sub_cancel] at hm;rw[QaI,hm,QbX,<-QaL];simp [F]
    have hb:(tU 0 (3*c) m).length<=20736:=QaT (sZ m _) (GG _ m (by omega)$ by omega)
    refine⟨[.val$ a_ ins gs os, .bld$ (F$ i+1).map jA, .val$ nI c, .val$ nI m],?_,⟨_,rfl⟩⟩;rw[show aC 3 (nI m) [.val$ a_ ins gs os, .bld$ (F i).map jA, .val$ nI c,a3]= .ok [.val$ a_ ins gs os, .bld$ (F i).map jA, .val$ nI c, .val$ nI m] from rfl,R.aP]
    unfold gQ;have hFi:=hFl i;have key:bX (cb$ aD (fK 7)$ ah (eC$ .int 0)$ ah (e2 lJ (af 2)$ eC$ .int 3)$ ah (af 3) ax) (aC 0) eB (b_$ ah (af 0)$ ah (b_ ax) ax) ["bad"] [] [.val$ a_ ins gs os, .bld$ (F i).map jA, .val$ nI c, .val$ nI m]= .ok (((tU 0 (3*c) m).map λB=>(B,([]:List Nat))).map jA):=by
     refine bF (eN$ au (ds:=[.int (0:Nat), .int (3*c:Nat), .int m]) (aq rfl$ aq (aj rfl rfl ?_) rfl)$ vh (by omega) 6 m 0 (by omega) (by omega) (by omega)$ by omega) (by rw[Qaa];omega) ?_
     .show R.bH (decide _) (R.ok$ D.int$ (c:Int)*3)=_;rw[cm _$ .inr ⟨by omega,by omega⟩]
      congr 2;omega
     .rw [Qar];exact NT.bc cq _ λB hB=>⟨[.val$ cq B],rfl,rfl,bM (aq rfl$ aq rfl rfl)$ by simp;omega⟩
    unfold K_;rw[key,R.aP];rw[show sI [.val$ a_ ins gs os, .bld$ (F i).map jA, .val$ nI c, .val$ nI m] 1= .ok ((F i).map jA) from rfl,R.aP,cm _ (by rw[Qaa,Qaa,Qaa];omega),hFs,show((F i++(tU 0 (3*c) m).map λB=>(B,([]:List Nat))).map jA)=(F i).map jA++((tU 0 (3*c) m).map λB=>(B,([]:List Nat))).map jA from Qam]
    rfl)
 refine bx (iz (Gi (a:=1) (b:=c+1) rfl (aj rfl rfl rfl) (by omega)$ by omega) e1) ?_
 have hFe:F (c+1 - 1)=za c gs:=by
  show G++((List.range' 1 c).take$ c+1 - 1).flatMap _=_;rw[QaQ$ by rw[Qa3];omega];rfl
 rw[Qaa,Qa3,hFe] at lL;subst lL;exact cv rfl
end
noncomputable def nZ(ps:List Nat):List Int:=ps.map λ(n:Nat)=>(n:Int)
def Vt(ps:List Nat):(nZ ps).map D.int=ps.map nI:=by unfold nZ;rw [Qar];rfl
def Lr(ps:List Nat)(i:Nat):(nZ ps).contains (i:Int)=ps.contains i:=by
 unfold nZ;simp;exact⟨λ⟨a,ha,e⟩=>(by rw[<-Int.ofNat_inj.mp e];exact ha),λh=>⟨i,h,rfl⟩⟩
theorem Bg:∀{ins:Aac} {bits:List Bool},(∀x∈ins,x.2=3)->ins.length=bits.length->Ce ins bits=jX bits
 | [],[],_,_=>rfl
 | [],_ ::_,_,h=>by simp at h
 | _ ::_,[],_,h=>by simp at h
 | x ::ins,b ::bits,h3,h=>by
   rw[wm,Bg (λy hy=>h3 y$ Qad _ hy) (by simpa using h),h3 x Qan]
   rfl
section
variable {c:Nat}{ins:Aac}{gs:List Gt}{os:Aad}{S:bp}
def wU(hc:ins.length=c)(h3:∀x∈ins,x.2=3){p:Nat}(hp:p<2 ^ c)(f:List Nat × List Nat):lI p (Wd c ins gs (nZ f.2)$ nZ f.1)=gT c gs f p:=by
 rw[N3 (by rw[o4,hc]),JM hp]
 unfold lp gT;rw[Bg h3$ by rw[eh hp,hc]]
 have e1:(λi:Nat=>(nZ f.2).contains (i:Int))=λi=>f.2.contains i:=funext λi=>Lr _ _
 have e2:(λi:Nat=>(nZ f.1).contains (i:Int))=λi=>f.1.contains i:=funext λi=>Lr _ _
 rw[e1,e2]
def sW{p:Nat}:gT c gs ([],[]) p=ma c gs p:=by
 unfold gT ma;rw[wI _ _ λ_ _=>rfl]
 rfl
def mh:Option (List Nat × List Nat × Nat)->D
 | none=> .tup [.str "keeps"]
 | some (B,T,p)=> .tup [.str "loses",cq B,cq T,nI p]
def G4(hS:Flat S){x:SO}(hx:Dt (S.length+1) x=true):yO (S++[x]):=λo ho=>by
 rw[show(S++[x]).length=S.length+1 by simp]
 rcases QaU.mp ho with q | q
 .exact hS o q _
 .rw [Qa8.mp q];exact hx
def BF{N:Nat}{f:M}:vX (mI N f) (.int 0)= .ok (.bl$ !(decide$ lD N f=0)):=by
 show R.ok (D.bl$ !((lD N f:Int)==0))=_;congr 3;by_cases q:lD N f=0
 .rw [q];rfl
 .rw [Qaw q];exact QaZ.mpr (by omega)
def qh{f:M}{N:Nat}:lD N f=0↔(List.range N).find? f=none:=by
 rw[C2,QcY];exact⟨λh i hi=>by rw[h i$ QaM.mp hi];decide,λh i hi=>by have:=h i$ QaM.mpr hi;cases hf:f i with | false=>rfl | true=>exact absurd hf this⟩
abbrev BS(S:bp)(c:Nat)(ins:Aac)(gs:List Gt)(os:Aad):bp:=S++[.ins 0$ gM c$ a_ ins gs os]
def z9:(BS S c ins gs os)[S.length]? =some (.ins 0$ gM c$ a_ ins gs os):=aO _ _
def DQ{f:M}{p:Nat}{δ:DE}{g:FX}{i:Nat}(hS:Flat S)(Qr:c<=10)(hv:δ[i]? =some (some$ .loc S.length))(hg:∀{Q:V3->bp->Prop},Q (.d$ mI (2 ^ c) f) (BS S c ins gs os)->W3 (g δ$ BS S c ins gs os) Q)(hp:(List.range$ 2 ^ c).find? f=some p){Q:V3->bp->Prop}(h:Q (.d$ nI p) (BS S c ins gs os)) :
 W3 (VG (w6 0 "inputs_in" dy (gb i)$ aZ g eA) (xP$ eC$ .int 0) δ$ BS S c ins gs os) Q:=by
 refine W5<|Fp<|w_var hv ⟨_,rfl,z9,Rx _ _ (by decide+kernel) (by decide+kernel) (by decide+kernel) (by decide+kernel),?_⟩
 refine aM<|hg<|di<|BR Qr (G4 hS rfl) z9<|cn rfl ⟨_,_,nI p,rfl,rfl,t6 ?_,h⟩
 rw[<-List.head?_filter] at hp;obtain⟨r,hr⟩:∃r,(List.range$ 2 ^ c).filter f=p ::r:=by
  cases q:(List.range$ 2 ^ c).filter f with
  | nil=>rw [q] at hp;cases hp
  | cons a r=>rw [q] at hp;cases hp;exact⟨r,rfl⟩
 rw[hr,ng (by omega)$ by simp]
 rfl
abbrev kE(S:bp)(ins:Aac)(gs:List Gt)(os:Aad)(plain:D)(a3 a4 a5:Option V3):DE:=[some$ .d$ a_ ins gs os,some$ .loc S.length,some$ .d plain,a3,a4,a5]
def oE(c:Nat)(gs:List Gt)(os:Aad)(f:List Nat × List Nat):Option (List Nat × List Nat × Nat):=((List.range$ 2 ^ c).find?$ lr c gs os f).map λp=>(f.1,f.2,p)
def Eu{a3:Option V3}{f:List Nat × List Nat}(NO:iM ins gs os)(hc:ins.length=c)(Qr:c<=10)(h3:∀x∈ins,x.2=3)(ho:∀x∈os,x.2.length=3)(hS:Flat S) :
 W3 (Aa (kE S ins gs os (.lst$ cB (2 ^ c) os$ Wd c ins gs (nZ [])$ nZ []) a3 (some$ .d$ cq f.1)$ some$ .d$ cq f.2)$ BS S c ins gs os) λo S1=>S1=BS S c ins gs os/\
  (match (oE c gs os f).map λr=>V3.d (mh$ some r) with | some v=>o= .rt v | none=>∃c_,o= .nx c_/\∃b3 b4 b5,c_=kE S ins gs os (.lst$ cB (2 ^ c) os$ Wd c ins gs (nZ [])$ nZ []) b3 b4 b5):=by
 have hz:=Qas;have em:(mI (2 ^ c) λp=>os.any λx=>lst (bJ (lI p$ Wd c ins gs (nZ [])$ nZ []) x.2)$ bJ (lI p$ Wd c ins gs (nZ f.2)$ nZ f.1) x.2)=mI (2 ^ c) (lr c gs os f):=r_ λp hp=>by
  unfold lr;rw[wU hc h3 hp f,wU hc h3 hp ([],[]),sW]
 refine aJ<|bu (by simp)<|Np<|aM<|cn rfl<|aM<|Fp<|w_var rfl ⟨_,rfl,z9,Rx _ _ (by decide+kernel) (by decide+kernel) (by decide+kernel) (by decide+kernel),?_⟩
 refine aM<|cn (by rw[Vt];rfl)<|aM<|cn (by rw[Vt];rfl)<|di<|Cq NO hc (G4 hS rfl) z9<|di ⟨[.lst$ cB (2 ^ c) os$ Wd c ins gs (nZ [])$ nZ [], .lst$ cB (2 ^ c) os$ Wd c ins gs (nZ f.2)$ nZ f.1],_,rfl,OA ho,_,rfl,?_⟩
 rw[em];generalize cB (2 ^ c) os (Wd c ins gs (nZ [])$ nZ [])=pl;refine oH<|qo (de rfl rfl BF) ?_
 unfold oE;cases hh:(List.range$ 2 ^ c).find? (lr c gs os f) with
 | none=>
   rw[Qat$ qh.mpr hh,QaH$ by decide]
   exact fI ⟨rfl,_,rfl,_,_,_,rfl⟩
 | some p=>
   have zm:¬lD (2 ^ c) (lr c gs os f)=0:=λq=>by rw[qh.mp q] at hh;cases hh
   rw[Qaw zm,QaK$ by decide]
   refine fM<|Kw<|aM<|cn rfl<|aM<|cn rfl<|aM<|cn rfl<|aM<|DQ hS Qr rfl (λh=>cn rfl h) hh<|di ⟨by simp;omega,rfl,rfl⟩
def yu(NO:iM ins gs os)(hc:ins.length=c)(Jk:c<=4)(h3:∀x∈ins,x.2=3)(ho:∀x∈os,x.2.length=3)(hS:Flat S){Q:V3->bp->Prop}(h:Q (.d$ mh$ fu c gs os) S) :
 W3 (se [.d$ a_ ins gs os] S) Q:=by
 have hz:=Qas;refine iR hS.clo$ Cc rfl ?_;simp only[dn,vY,List.map,List.length,List.replicate,QaO,Qa2,Nat.reduceAdd,Nat.reduceSub];have hw:((ins.all λx=>decide$ x.2=3) && os.all λx=>decide$ x.2.length=3)=true:=by
  rw[Qbn,Qbq,Qbq];exact⟨λx hx=>Qat$ h3 x hx,λx hx=>Qat$ ho x hx⟩
 refine aJ<|oH<|qo (b:=false) ?_ ?_
 .unfold AQ AR;rw[show aD ip (ah (af 0)$ ah (eC$ .int 3) ax) (down [some$ .d$ a_ ins gs os,none,none,none,none,none])= .ok (.bl true) from(au rfl$ Il 3 (by have:=NO.hi;omega) NO.ho).trans (by rw[hw])]
  rfl
 refine fI ⟨_,rfl,?_⟩;refine aJ<|bu (by simp)<|RV<|aM<|cn rfl<|di<|Ot hc (by omega) (G4 hS rfl) ⟨rfl,_,rfl,?_⟩
 refine aJ<|bu (by simp)<|Fp<|w_var rfl ⟨_,rfl,z9,Rx _ _ (by decide+kernel) (by decide+kernel) (by decide+kernel) (by decide+kernel),?_⟩
 refine aM<|cn (d:= .tup$ (nZ []).map .int) rfl<|aM<|cn (d:= .tup$ (nZ []).map .int) rfl<|di<|Cq NO hc (G4 hS rfl) z9 ⟨_,rfl,?_⟩
 have em:(mI (2 ^ c) λp=>os.any λx=>A5$ bJ (lI p$ Wd c ins gs (nZ [])$ nZ []) x.2)=mI (2 ^ c) (xY c gs os):=r_ λp hp=>by
  unfold xY;rw[wU hc h3 hp ([],[]),sW]
 refine aJ<|bu (by simp)<|cn ((au rfl$ Jb ho).trans$ by rw[em]) ⟨_,rfl,?_⟩
 cases hu:(List.range$ 2 ^ c).find? (xY c gs os) with
 | some p=>
   have zm:¬lD (2 ^ c) (xY c gs os)=0:=λq=>by rw[qh.mp q] at hu;cases hu
   refine Sq<|oH<|qo (b:=true) ((de rfl rfl BF).trans$ by rw[Qaw zm];rfl) ?_
   have hk:fu c gs os=some ([],[],p):=by unfold fu;rw [hu]
   rw[hk] at h;refine fM<|Kw<|aM<|cn rfl<|aM<|cn rfl<|aM<|cn rfl<|aM<|DQ hS (by omega) rfl (λh=>cn rfl h) hu<|di ⟨by simp;omega,_,rfl,_,rfl,rfl,⟨_,rfl⟩,_,rfl,h⟩
 | none=>
   refine aJ<|oH<|qo (b:=false) ((de rfl rfl BF).trans$ by rw[Qat$ qh.mpr hu];rfl) ?_
   refine fI ⟨_,rfl,?_⟩;refine AN<|dS<|fj (eN$ au rfl$ Ie hc Jk NO.hg) ?_
   rw[Qar];refine(iZ (V3.d ∘ jA) (λf=>(oE c gs os f).map λr=>V3.d$ mh$ some r) (λδ=>∃a3 a4 a5,δ=kE S ins gs os (.lst$ cB (2 ^ c) os$ Wd c ins gs (nZ [])$ nZ []) a3 a4 a5)
    ⟨_,_,_,rfl⟩ ?_).mono λo S1 ⟨e1,h1⟩=>?_
   .rintro f hf δ ⟨a3,a4,a5,rfl⟩;refine⟨kE S ins gs os (.lst$ cB (2 ^ c) os$ Wd c ins gs (nZ [])$ nZ []) a3 (some$ .d$ cq f.1)$ some$ .d$ cq f.2,rfl,?_⟩;exact Eu NO hc (by omega) h3 ho hS
   .subst e1;have hk:fu c gs os=(za c gs).findSome? (oE c gs os):=by unfold fu;rw [hu];rfl
    rw[hk] at h;have hfs:(za c gs).findSome? (λf=>(oE c gs os f).map λr=>V3.d$ mh$ some r)=((za c gs).findSome?$ oE c gs os).map λr=>V3.d (mh$ some r):=by
     rw[List.map_findSome?];rfl
    rw[hfs] at h1;cases htt:(za c gs).findSome? (oE c gs os) with
    | none=>
      rw[htt] at h1 h;obtain⟨c_,rfl,b3,b4,b5,rfl⟩:=h1;exact fM<|cn rfl ⟨_,rfl,by unfold iA;rfl,⟨_,rfl⟩,_,by unfold res;rfl,h⟩
    | some d=>
      rw[htt] at h1 h;subst h1;exact⟨_,rfl,by unfold iA;rfl,⟨_,rfl⟩,_,by unfold res;rfl,h⟩
end
def AD{i:Nat}{f:FD}{δ:ay}{d:D}{ds es:List D}(h:f δ= .ok d)(hs:seqD? d=some es)(hb:δ[i]? =some (.bld ds))(hl:ds.length+es.length<=sizeLine):zR i f δ= .ok (.nx$ δ.set i$ .bld$ ds++es):=by
 unfold zR sI;rw [h,R.aP,hb];rw[hs];show R.bH _ _=_;rw [cm _ hl]
section
variable {ins:Aac}{gs:List Gt}{os:Aad}
def Br(hi:ins.length<1000):dX [.lst$ ins.map inD]= .ok (nI$ dk ins):=by
 have hz:=Qas;refine cL (cv$ au (ds:=[.lst$ ins.map λx=>nI x.2]) (aq (bK$ bF rfl (by rw[Qaa];omega) ?_) rfl) ?_)
 .exact NT.bc inD _ λx hx=>⟨[.val$ .str x.1, .val$ nI x.2],rfl,rfl,rfl⟩
 .have e:(ins.map λx=>nI x.2)=(ins.map λx=>((x.2:Nat):Int)).map D.int:=by rw[Qar];rfl
  rw[e];show(match ints? ((ins.map λx=>((x.2:Nat):Int)).map D.int) with | some ns=>R.ok (D.int ns.sum) | none=> .no)=_
  rw[L2.ints_map];show R.ok (D.int (ins.map λx=>((x.2:Nat):Int)).sum)=_
  unfold nI dk;congr 2
  induction ins with
  | nil=>rfl
  | cons x l ih=>
    rw[Qaz,Qaz,Qbu,Qbu,ih (by simp at hi;omega) (by rw[Qar];rfl)]
    omega
def Fu{nums ns:List Nat}(h:∀n∈ns,n<nums.length)(hl:ns.length<1000):gY [.tup$ ns.map nI, .lst$ nums.map nI]= .ok (.tup$ (ns.map λn=>nums.getD n 0).map nI):=by
 have hz:=Qas;refine cL (cv$ au (aq (bK$ bF (uj rfl) (by rw[Qaa];omega) ?_) rfl) rfl)
 rw[Qar];refine NT.bc nI _ λn hn=>⟨[.val$ nI n, .val$ .lst$ nums.map nI],rfl,rfl,aj rfl rfl ?_⟩
 refine NT.dP ?_;rw[Qac,Qab$ h n hn];show _=some (nI$ nums.getD n 0);rw[Qag,Qab$ h n hn];rfl
noncomputable abbrev gd(nums:List Nat):Nat->Nat:=fun n=>nums.getD n 0
def CP{nums:List Nat}(h:∀g∈gs,(∀n∈g.2.1,n<nums.length)/\g.2.1.length<1000)(hl:gs.length<1000):eY [.lst$ gs.map gS, .lst$ nums.map nI]= .ok (.lst$ (gs.map$ js$ gd nums).map gS):=by
 have hz:=Qas;refine cL (cv$ bK$ bF rfl (by rw[Qaa];omega) ?_)
 rw[Qar];exact NT.bc gS _ λg hg=>⟨[.val$ .str$ kS g.1, .val$ .tup$ g.2.1.map nI, .val$ .bl g.2.2, .val$ .lst$ nums.map nI],rfl,rfl,bM (aq rfl$ aq (au rfl$ Fu (h g hg).1 (h g hg).2)$ aq rfl rfl)$ by simp;omega⟩
def DT{nums:List Nat}(h:∀x∈os,(∀n∈x.2,n<nums.length)/\x.2.length<1000)(hl:os.length<1000):fH [.lst$ os.map oz, .lst$ nums.map nI]= .ok (.lst$ (os.map$ l7$ gd nums).map oz):=by
 have hz:=Qas;refine cL (cv$ bK$ bF rfl (by rw[Qaa];omega) ?_)
 rw[Qar];exact NT.bc oz _ λx hx=>⟨[.val$ .str x.1, .val$ .tup$ x.2.map nI, .val$ .lst$ nums.map nI],rfl,rfl,bM (aq rfl$ aq (au rfl$ Fu (h x hx).1 (h x hx).2) rfl)$ by simp;omega⟩
def Bl(n:Nat):jq 0 n=(List.range n).map nI:=by
 refine QaS λi _=>?_
 show D.int (0+(i:Int))=D.int (i:Int);rw[Int.zero_add]
def OB{f:FD}{δ:ay}{n:Nat}(h:f δ= .ok (nI n))(hn:n<1000000):Ny f δ= .ok ((List.range n).map nI):=by
 unfold Ny;rw [h,R.aP];show R.bH _ _=_;rw [cm _ ⟨by omega,by omega⟩,Qbg,Bl]
def DZ{f g:FD}{δ:ay}{a b:Nat}(h:f δ= .ok (nI a))(h2:g δ= .ok (nI b))(ha:a<1000000)(hb:b<1000000):Dl f g δ= .ok ((List.range' a$ b - a).map nI):=by
 unfold Dl;rw [h,R.aP,h2,R.aP];show R.bH _ _=_;rw[cm _ ⟨by omega,by omega,by omega,by omega,by omega⟩,show((b:Int) - a).toNat=b - a by omega,Qcs,Qar];rfl
noncomputable def xv(c l n:Nat):List Nat:=List.range c++(List.range n).map λi=>c+l+i
def LL(c l n:Nat):(xv c l n).length=c+n:=by unfold xv;simp
def Pb{c l n w:Nat}(h:w<c+n):gd (xv c l n) w=rD c l w:=by
 show(xv c l n).getD w 0=_;unfold xv rD;rw[Qag];by_cases q:w<c
 .rw [Qax (by simpa using q),QaK q,Qci q];rfl
 .rw [Qaj (by simpa using q),QaH q,Qac,Qaq,Qci$ by omega]
  show c+l+(w - c)=w+l;omega
def Sw{l:Nat}(hi:ins.length<100)(hw:∀x∈ins,x.2<100)(hg:gs.length<1000)(hl:l<100000):jn [a_ ins gs os,nI l]= .ok (.lst$ (xv (dk ins) l gs.length).map nI):=by
 have hz:=Qas;have hwd:=ud hw;refine cL (bx (cT (au rfl$ Br$ by omega)$ by simp [cA,ji]) (bx (tm (OB rfl$ by omega)$ by simp [cA,ji]) ?_))
 have r2:bX (bZ$ aD cP$ ah (e2 bz (af 0)$ eC$ .int 1) ax) (aC 0) eB (e2 cI (e2 cI (af 2)$ af 1)$ af 0) ["place"] [1,2] [.val$ a_ ins gs os, .val$ nI l, .val$ nI$ dk ins, .bld$ (List.range$ dk ins).map nI]= .ok (((List.range gs.length).map λi=>dk ins+l+i).map nI):=by
  refine bF (lN (au rfl$ by rw[uz,Qaa])$ by omega) (by unfold jq;rw [Qaa,Qaq];omega) ?_
  rw[Qar];refine NT.bc (λi:Nat=>D.int$ 0+(i:Int)) _ λi hi=>⟨[.val$ .int$ 0+(i:Int), .val$ nI l, .val$ nI$ dk ins],rfl,rfl,aj (aj rfl rfl rfl) rfl ?_⟩
  exact Qbh (λz=>R.ok$ D.int z) (by omega:(dk ins:Int)+l+(0+(i:Int))=((dk ins+l+i:Nat):Int))
 refine bx (δ1:=[.val$ a_ ins gs os, .val$ nI l, .val$ nI$ dk ins, .bld$ (xv (dk ins) l gs.length).map nI]) ?_$ cv rfl;show(bX _ _ _ _ _ _ [.val$ a_ ins gs os, .val$ nI l, .val$ nI$ dk ins, .bld$ (List.range$ dk ins).map nI]).bind _=_;rw[r2,R.aP];show R.bH (decide$ ((List.range$ dk ins).map nI).length+(((List.range gs.length).map λi=>dk ins+l+i).map nI).length<=sizeLine) _=_
 rw[cm _$ by rw[Qaa,Qaq,Qaa,Qaa,Qaq];omega]
 unfold xv;rw[Qam];rfl
end
noncomputable def cF(pairs:List (Nat × Nat))(k:Nat):Option Nat:=(pairs.find? λq=>decide$ q.2=k).map (·.1)
def dctP(pairs:List (Nat × Nat)):D:= .dct (pairs.map λq=>Sum.inl ((q.2:Nat):Int)) (pairs.map λq=>nI q.1)
def Mi(a b:Nat):decide ((Sum.inl ((a:Nat):Int):Key)=Sum.inl ((b:Nat):Int))=decide (a=b):=by
 by_cases h:a=b
 .subst h;simp
 .rw [Qaw h];refine Qaw λz=>h ?_
  injection z with z
  omega
theorem F5(k:Nat):∀pairs:List (Nat × Nat),Nf (pairs.map λq=>Sum.inl ((q.2:Nat):Int)) (pairs.map λq=>nI q.1) (Sum.inl ((k:Nat):Int))=(cF pairs k).map nI
 | []=>rfl
 | q ::pairs=>by
   have ih:=F5 k pairs;unfold Nf cF at ih ⊢;rw[Qaz,Qaz,Qco,Qbf,Qbf];rw[Mi];cases decide (q.2=k) with
   | true=>rfl
   | false=>exact ih
theorem sg(k:Nat):∀pairs:List (Nat × Nat),qp (pairs.map λq=>Sum.inl ((q.2:Nat):Int)) (Sum.inl ((k:Nat):Int))=(cF pairs k).isSome
 | []=>rfl
 | q ::pairs=>by
   have ih:=sg k pairs;unfold qp cF at ih ⊢;rw[Qaz,Qbt,Qbf,Mi,ih];cases decide (q.2=k) <;> rfl
def vZ{k:Nat}{pairs:List (Nat × Nat)}:CT (.int k) (dctP pairs)= .ok (.bl (cF pairs k).isSome):=by
 show R.ok (D.bl$ qp _ _)=_;rw[sg]
def GR{k:Nat}{pairs:List (Nat × Nat)}:LI (.int k) (dctP pairs)= .ok (.bl (cF pairs k).isNone):=by
 show R.ok (D.bl$ !qp _ _)=_;rw[sg,Option.not_isSome]
def Cs{k o:Nat}{pairs:List (Nat × Nat)}(h:cF pairs k=some o):CL (dctP pairs) (.int k)= .ok (nI o):=by
 show(match Nf (pairs.map λq=>Sum.inl ((q.2:Nat):Int)) (pairs.map λq=>nI q.1) (Sum.inl ((k:Nat):Int)) with | some x=>R.ok x | none=> .no)=_
 rw[F5,h];rfl
theorem s_{f:Nat->Nat}{os:Nat->List Nat}:∀(a b:List (Option Nat × Nat)) (free:Nat),dc f os (a++b) free=dc f os a free++dc f os b (free+bf a)
 | [],b,free=>rfl
 | (some o,w) ::a,b,free=>by
   show _++dc f os (a++b) free=(_++dc f os a free)++dc f os b (free+bf a);rw[s_ a b free,QaL]
 | (none,w) ::a,b,free=>by
   show _++dc f os (a++b) (free+w)=(_++dc f os a (free+w))++dc f os b (free+(w+bf a));rw[s_ a b$ free+w,QaL,show free+w+bf a=free+(w+bf a) by omega]
theorem qg:∀(a b:List (Option Nat × Nat)),bf (a++b)=bf a+bf b
 | [],b=>by show bf b=0+_;omega
 | (some o,w) ::a,b=>qg a b
 | (none,w) ::a,b=>by
   show w+bf (a++b)=(w+bf a)+bf b;rw[qg a b];omega
def eJ(pairs:List (Nat × Nat))(ins:Aac):List (Option Nat × Nat):=ins.zipIdx.map λx=>(cF pairs x.2,x.1.2)
noncomputable def si(os:Aad)(o:Nat):List Nat:=(os.getD o (Str.empty,[])).2
def wz{pairs:List (Nat × Nat)}{ins:Aac}{i:Nat}{x:Str × Nat}(h:ins[i]? =some x):(eJ pairs ins).take (i+1)=(eJ pairs ins).take i++[(cF pairs i,x.2)]:=by
 unfold eJ;rw[QaI,Qac,Qbd,h];simp
def lO{pairs:List (Nat × Nat)}{ins:Aac}:(eJ pairs ins).length=ins.length:=by unfold eJ;simp
def NX{pairs:List (Nat × Nat)}{ins:Aac}{o w:Nat}(h:(some o,w)∈eJ pairs ins):∃k x,ins[k]? =some x/\x.2=w/\cF pairs k=some o:=by
 obtain⟨⟨x,k⟩,hx,e⟩:=QaC.mp h;rw[Qa0] at hx;injection e with e1 e2
 exact⟨k,x,hx,e2,e1⟩
def zA{pairs:List (Nat × Nat)}{k o:Nat}(h:cF pairs k=some o):(o,k)∈pairs:=by
 obtain⟨⟨a,b⟩,h1,e⟩:=L3.fV h;have:=List.find?_some h1;have hb:b=k:=Qal this;have ha:a=o:=e;subst ha hb;exact List.mem_of_find?_eq_some h1
theorem rW:∀{φ:List (Option Nat × Nat)},(∀x∈φ,x.2<100)->bf φ<=100*φ.length
 | [],_=>Qak _
 | (some o,w) ::φ,h=>by
   have:=rW (φ:=φ) λx hx=>h x$ Qad _ hx
   show bf φ<=100*(φ.length+1);omega
 | (none,w) ::φ,h=>by
   have:=rW (φ:=φ) λx hx=>h x$ Qad _ hx
   have:=h (none,w) Qan;show w+bf φ<=100*(φ.length+1);omega
theorem Gb:∀{φ:List (Option Nat × Nat)},(∀x∈φ,x.2<100)->(φ.map (·.2)).sum<=100*φ.length
 | [],_=>Qak _
 | x ::φ,h=>by
   have:=Gb (φ:=φ) λx hx=>h x$ Qad _ hx
   have:=h x Qan;rw[Qaz,Qbu,Qao];omega
section
variable {ins1 ins2:Aac}{gs1 cC:List Gt}{bC dG:Aad}{pairs:List (Nat × Nat)}{nums:List Nat}
def Fits(bC:Aad)(ins2:Aac)(pairs:List (Nat × Nat)):Prop:=∀q∈pairs,∃x y,bC[q.1]? =some x/\ins2[q.2]? =some y/\x.2.length=y.2
def Fits.at(F:Fits bC ins2 pairs){o w:Nat}(h:(some o,w)∈eJ pairs ins2):∃x,bC[o]? =some x/\si bC o=x.2/\x.2.length=w:=by
 obtain⟨k,y,h1,h2,h3⟩:=NX h;obtain⟨x,y',a,b,c⟩:=F _$ zA h3;rw[h1] at b;cases b;refine⟨x,a,?_,by rw[c,h2]⟩
 unfold si;rw[Qag,a];rfl
def JC(F:Fits bC ins2 pairs)(ZE:ins1.length<100)(WL:∀x∈ins1,x.2<100)(ZT:ins2.length<100)(ZO:∀x∈ins2,x.2<100)(Qq:gs1.length<1000)(Jy:cC.length<1000)(ho:∀x∈bC,x.2.length<1000/\∀n∈x.2,n<nums.length) :
 gG [a_ ins2 cC dG,a_ ins1 gs1 bC, .lst$ nums.map nI,dctP pairs]= .ok (.lst$ (dc (gd nums) (si bC) (eJ pairs ins2) (dk ins1)++List.range' (dk ins1+bf (eJ pairs ins2)+gs1.length) cC.length).map nI):=by
 have hz:=Qas;have hwd:=ud WL;have hph:∀x∈eJ pairs ins2,x.2<100:=λx hx=>by
  obtain⟨⟨y,k⟩,hy,rfl⟩:=QaC.mp hx;rw[Qa0] at hy;exact ZO y$ Qap hy
 have hpt:∀i,∀x∈(eJ pairs ins2).take i,x.2<100:=λi x hx=>hph x$ Qbr hx
 have hlw:∀i,bf ((eJ pairs ins2).take i)<=10000:=λi=>by
  have:=rW$ hpt i;rw[QaB,lO] at this;omega
 have hol:∀i,(dc (gd nums) (si bC) ((eJ pairs ins2).take i)$ dk ins1).length<=10000:=λi=>by
  rw[kI _ _ λo w h=>by obtain⟨x,_,e,e2⟩:=F.at$ Qbr h;rw [e,e2]]
  have:=Gb$ hpt i;rw[QaB,lO] at this;omega
 refine cL (bx (tm rfl$ by simp [cA,gH]) (bx (cT (au rfl$ Br$ by omega)$ by simp [cA,gH]) ?_))
 let E (i:Nat) (a6 a7:Sl):ay:=[.val$ a_ ins2 cC dG, .val$ a_ ins1 gs1 bC, .val$ .lst$ nums.map nI, .val$ dctP pairs, .bld$ (dc (gd nums) (si bC) ((eJ pairs ins2).take i)$ dk ins1).map nI, .val$ nI$ dk ins1+bf ((eJ pairs ins2).take i),a6,a7, .un]
 obtain⟨δ1,e1,a6,a7,lL⟩:=eg (t:=fD 2$ bL (aC 6)$ bL (aC 7) fA) (body:=l4)
  (λi δ=>∃a6 a7,δ=E i a6 a7) (δ:=E 0 .un .un) ⟨.un, .un,rfl⟩ (by
    rintro i d δ hd ⟨a6,a7,rfl⟩;have hv:((er$ ins2.map inD).map V3.d)[i]? =some (.d d):=by rw[Qac,hd];rfl
    obtain⟨d0,V4,ed⟩:=A3 hv;cases ed;obtain⟨x,hx,rfl⟩:=NT.lW V4;have hxw:=ZO x$ Qap hx;refine⟨E (i+1) (.val$ .int i)$ .val$ inD x,?_,⟨_,_,rfl⟩⟩;have hE:E (i+1) (.val$ .int i) (.val$ inD x)=[.val$ a_ ins2 cC dG, .val$ a_ ins1 gs1 bC, .val$ .lst$ nums.map nI, .val$ dctP pairs, .bld$ (dc (gd nums) (si bC) ((eJ pairs ins2).take i)$ dk ins1).map nI++(dc (gd nums) (si bC) [(cF pairs i,x.2)]$ dk ins1+bf ((eJ pairs ins2).take i)).map nI, .val$ nI$ dk ins1+bf ((eJ pairs ins2).take i)+bf [(cF pairs i,x.2)], .val$ .int i, .val$ inD x, .un]:=by
     show [_,_,_,_,Sl.bld$ (dc (gd nums) (si bC) ((eJ pairs ins2).take$ i+1)$ dk ins1).map nI,Sl.val$ nI$ dk ins1+bf ((eJ pairs ins2).take$ i+1),_,_,_]=_;rw[wz hx,s_,qg,Qam,Nat.add_assoc]
    rw[hE];have Cg:=hol i;have zp:=hlw i;rw[show fD 2 (bL (aC 6)$ bL (aC 7) fA) (.tup [.int i,inD x]) (E i a6 a7)= .ok ([.val$ a_ ins2 cC dG, .val$ a_ ins1 gs1 bC, .val$ .lst$ nums.map nI, .val$ dctP pairs, .bld$ (dc (gd nums) (si bC) ((eJ pairs ins2).take i)$ dk ins1).map nI, .val$ nI$ dk ins1+bf ((eJ pairs ins2).take i), .val$ .int i, .val$ inD x, .un]:ay) from rfl,R.aP]
    generalize hfr:dk ins1+bf ((eJ pairs ins2).take i)=fr;generalize dc (gd nums) (si bC) ((eJ pairs ins2).take i) (dk ins1)=L at Cg;cases hf:cF pairs i with
    | some o=>
      have hm:(some o,x.2)∈eJ pairs ins2:=by
       exact QaC.mpr ⟨(x,i),Qa0.mpr hx,by rw[hf]⟩
      obtain⟨y,y1,y2,y3⟩:=F.at hm;have hyo:=ho y$ Qap y1;refine vk (de rfl rfl$ by rw[vZ,hf];rfl) ?_
      refine(AD (au (aq (aj (aj (aj rfl rfl rfl) (aj rfl rfl$ Cs hf)$ NT.dP$ by rw[Qac,y1];rfl) rfl rfl) rfl)$ Fu hyo.2 hyo.1) rfl rfl ?_).trans ?_
      .rw [Qaa,Qaa,Qaa];omega
      .show R.ok (Out.nx [_,_,_,_,Sl.bld$ L.map nI++(y.2.map$ gd nums).map nI,Sl.val$ nI fr,_,_,_])=R.ok (Out.nx [_,_,_,_,Sl.bld$ L.map nI++(((si bC o).map$ gd nums)++[]).map nI,Sl.val$ nI$ fr+0,_,_,_]);rw[y2,QaV,QcM]
    | none=>
      refine jS (de rfl rfl$ by rw[vZ,hf];rfl) ?_
      have ev:∀b,e2 cI (af 5) (e2 bz (af 7)$ eC$ .int 1) [.val$ a_ ins2 cC dG, .val$ a_ ins1 gs1 bC, .val$ .lst$ nums.map nI, .val$ dctP pairs, .bld b, .val$ nI fr, .val$ .int i, .val$ inD x, .un]= .ok (nI$ fr+x.2):=λb=>aj rfl (aj rfl rfl rfl) rfl
      refine(bx (AD (bK$ (DZ rfl (ev$ L.map nI) (by omega)$ by omega).trans$ by rw[Qcu]) rfl rfl$ by rw[Qaa,Qaa,Qa3];omega)$ cT (ev$ L.map nI++(List.range' fr x.2).map nI)$ by simp).trans ?_
      show R.ok (Out.nx [_,_,_,_,Sl.bld$ L.map nI++(List.range' fr x.2).map nI,Sl.val$ nI$ fr+x.2,_,_,_])=R.ok (Out.nx [_,_,_,_,Sl.bld$ L.map nI++(List.range' fr x.2++[]).map nI,Sl.val$ nI$ fr+(x.2+0),_,_,_]);rw[QaV,QcM])
 have hlen:(er$ ins2.map inD).length=ins2.length:=by simp [er]
 rw[hlen] at lL;have hta:(eJ pairs ins2).take ins2.length=eJ pairs ins2:=QaQ (by rw[lO];exact Qak _)
 have Cg:=hol ins2.length;have zp:=hlw ins2.length;subst lL;refine bx (iz (xr rfl) e1) ?_;show du _ _ [.val$ a_ ins2 cC dG, .val$ a_ ins1 gs1 bC, .val$ .lst$ nums.map nI, .val$ dctP pairs, .bld$ (dc (gd nums) (si bC) ((eJ pairs ins2).take ins2.length)$ dk ins1).map nI, .val$ nI$ dk ins1+bf ((eJ pairs ins2).take ins2.length),a6,a7, .un]=_;rw[hta] at Cg zp ⊢;generalize dc (gd nums) (si bC) (eJ pairs ins2) (dk ins1)=L at Cg;generalize hfr:dk ins1+bf (eJ pairs ins2)=fr;refine bx (cT (aj (b:=nI gs1.length) rfl (au rfl$ by rw[uz,Qaa];rfl) rfl)$ by simp) ?_
 have ev:∀b,e2 cI (af 8) (aD cP$ ah (e2 bz (af 0)$ eC$ .int 1) ax) [.val$ a_ ins2 cC dG, .val$ a_ ins1 gs1 bC, .val$ .lst$ nums.map nI, .val$ dctP pairs, .bld b, .val$ nI fr,a6,a7, .val$ nI$ fr+gs1.length]= .ok (nI$ fr+gs1.length+cC.length):=λb=>aj (b:=nI cC.length) rfl (au rfl$ by rw[uz,Qaa];rfl) rfl
 refine bx (AD (es:=(List.range' (fr+gs1.length) cC.length).map nI) (bK ?_) rfl rfl$ by rw[Qaa,Qaa,Qa3];omega)$ cv ?_
 .exact(DZ rfl (ev$ L.map nI) (by omega)$ by omega).trans (by rw[Qcu])
 .show R.ok (D.lst$ L.map nI++(List.range' (fr+gs1.length) cC.length).map nI)=_;rw[Qam]
end
def vf(q:Nat × Nat):D:= .tup [nI q.1,nI q.2]
def yZ(pairs:List (Nat × Nat)):List (Key × D):=pairs.map λq=>(Sum.inl ((q.2:Nat):Int),nI q.1)
def Kb(pairs:List (Nat × Nat)):D.dct ((yZ pairs).map (·.1)) ((yZ pairs).map (·.2))=dctP pairs:=by
 unfold yZ dctP;rw[Qar,Qar];rfl
def Bp{kvs:List (Key × D)}{k:Key}{d:D}(h:qp (kvs.map (·.1)) k=false):vV kvs k d=kvs++[(k,d)]:=by
 unfold vV;have e:(kvs.any λkv=>decide$ kv.1=k)=qp (kvs.map (·.1)) k:=by unfold qp;rw [List.any_map];rfl
 rw[e,h,QaH$ by decide]
section
variable {S:bp}{pairs:List (Nat × Nat)}
def C9{k:Nat}(h:∀q∈pairs,q.2≠k):cF pairs k=none:=by
 unfold cF;rw[QcY.mpr λq hq=>by rw[Qaw$ h q hq];decide]
 rfl
def rq{α β:Type}{f:α->β}{l:List α}{i:Nat}{x:α}(hn:(l.map f).Nodup)(hx:l[i]? =some x):∀y∈l.take i,f y≠f x:=λy hy e=>by
 obtain⟨j,hj⟩:=QbH hy;rw[Qbz] at hj;split at hj
 .rename_i hji;have h1:(l.map f)[j]? =some (f y):=by rw[Qac,hj];rfl
  have h2:(l.map f)[i]? =some (f x):=by rw[Qac,hx];rfl
  obtain⟨a1,a2⟩:=Qae.mp h1;obtain⟨b1,b2⟩:=Qae.mp h2;have:=(List.nodup_iff_pairwise_ne.mp hn);have:=List.pairwise_iff_getElem.mp this j i a1 b1 hji;exact this (by rw[a2,b2,e])
 .cases hj
def RJ(hn:(pairs.map (·.2)).Nodup)(hl:pairs.length<1000)(hS:yO S){Q:V3->bp->Prop}(h:Q (.d$ dctP pairs) S):W3 (kZ [.d$ .lst$ pairs.map vf] S) Q:=by
 have hz:=Qas;refine iR hS$ Cc rfl ?_;simp only[dn,jh,List.map,List.length,List.replicate,QaO,Qa2,Nat.reduceAdd,Nat.reduceSub];refine aJ<|bu (by simp)<|FQ ⟨_,rfl,?_⟩
 refine aJ<|dS<|fj rfl ?_
 refine(bQ (λi δ S2=>(∃a b,δ=[some$ .d$ .lst$ pairs.map vf,some$ .loc S.length,a,b])/\S2=S++[SO.dct$ yZ$ pairs.take i])
  ⟨⟨_,_,rfl⟩,rfl⟩ ?_).mono λo S2 ⟨c_,fG,⟨a,b,iS⟩,lG⟩=>⟨c_,fG,?_⟩
 .rintro i v δ S2 hv ⟨⟨a,b,rfl⟩,rfl⟩;obtain⟨q,hq,rfl⟩:=NT.cQ hv;refine⟨[some$ .d$ .lst$ pairs.map vf,some$ .loc S.length,some$ .d$ nI q.1,some$ .d$ nI q.2],rfl,?_⟩;have hno:cF (pairs.take i) q.2=none:=C9$ rq hn hq;have h1:(d8 (S++[.dct$ yZ$ pairs.take i]) [some$ .d$ .lst$ pairs.map vf,some$ .loc S.length,some$ .d$ nI q.1,some$ .d$ nI q.2])[1]? =some (.val$ dctP$ pairs.take i):=by
   show some (match res (S++[.dct$ yZ$ pairs.take i]) (.loc S.length) with | some d=>Sl.val d | none=> .un)=_
   unfold res;rw[aO];show some (Sl.val$ .dct ((yZ$ pairs.take i).map (·.1))$ (yZ$ pairs.take i).map (·.2))=_
   rw[Kb]
  refine aJ<|oH<|Se (b:=false) (de rfl (by unfold af;rw [h1]) (by show CT (.int (q.2:Nat)) _=_;rw [vZ,hno];rfl)) ?_
  refine fI ⟨_,rfl,?_⟩;refine Bx<|cn rfl<|w_var rfl<|cn rfl ⟨_,S.length,_,Sum.inl ((q.2:Nat):Int),yZ$ pairs.take i,rfl,rfl,rfl,rfl,aO _ _,?_,?_⟩
  .unfold yZ;rw [Qaa,QaB];omega
  .refine⟨_,rfl,⟨_,_,rfl⟩,?_⟩;rw[cc,Bp (by
    have:=sg q.2$ pairs.take i;rw[hno] at this;unfold yZ;rw[Qar];exact this),QaI,hq]
   unfold yZ;rw[Qam];rfl
 rw[Qaa,Qaa,QaY] at lG;subst iS lG;refine fM (w_var rfl ⟨_,rfl,by unfold iA;exact Qat$ Qak _,⟨_,rfl⟩,dctP pairs,?_,h⟩)
 unfold res;rw[aO];show some (D.dct ((yZ pairs).map (·.1))$ (yZ pairs).map (·.2))=_
 rw[Kb]
noncomputable def Pq(x:Str × D):D:= .tup [.str x.1,x.2]
noncomputable def MI(xs:List (Str × D)):List (Key × D):=xs.map λx=>(Sum.inr x.1,D.bl true)
def J2{xs:List (Str × D)}(h:∀x∈xs,x.1≠n):qp ((MI xs).map (·.1)) (Sum.inr n)=false:=by
 unfold qp MI;rw[Qar,List.any_map];refine Qc3.mpr λx hx=>?_
 show ¬decide ((Sum.inr x.1:Key)=Sum.inr n)=true;rw[Qaw λz=>h x hx$ by injection z]
 decide
def De{xs:List (Str × D)}(hn:(xs.map (·.1)).Nodup)(hl:xs.length<1000)(hS:yO S){Q:V3->bp->Prop}(h:Q (.d .cY) S):W3 (iy [.d$ .lst$ xs.map Pq] S) Q:=by
 have hz:=Qas;refine iR hS$ Vl rfl ?_;simp only[dn,jg,List.map,List.length,List.replicate,QaO,Qa2,Nat.reduceAdd,Nat.reduceSub];refine aJ<|bu (by simp)<|FQ ⟨_,rfl,?_⟩
 refine dS<|fj rfl ?_
 refine(bQ (λi δ S2=>(∃a b,δ=[some$ .d$ .lst$ xs.map Pq,some$ .loc S.length,a,b])/\S2=S++[SO.dct$ MI$ xs.take i])
  ⟨⟨_,_,rfl⟩,rfl⟩ ?_).mono λo S2 ⟨c_,fG,⟨a,b,iS⟩,lG⟩=>⟨c_,fG,by unfold iA;rfl,⟨_,lG⟩, .cY,by unfold res;rfl,h⟩
 rintro i v δ S2 hv ⟨⟨a,b,rfl⟩,rfl⟩;obtain⟨x,hx,rfl⟩:=NT.cQ hv;refine⟨[some$ .d$ .lst$ xs.map Pq,some$ .loc S.length,some$ .d$ .str x.1,some$ .d x.2],rfl,?_⟩;have hno:=J2$ rq hn hx;have h1:(d8 (S++[.dct$ MI$ xs.take i]) [some$ .d$ .lst$ xs.map Pq,some$ .loc S.length,some$ .d$ .str x.1,some$ .d x.2])[1]? =some (.val$ .dct ((MI$ xs.take i).map (·.1))$ (MI$ xs.take i).map (·.2)):=by
  show some (match res (S++[.dct$ MI$ xs.take i]) (.loc S.length) with | some d=>Sl.val d | none=> .un)=_
  unfold res;rw[aO]
 refine aJ<|oH<|Se (de rfl (by unfold af;rw [h1]) (by show R.ok (D.bl$ qp _ _)=_;rw [hno])) ?_
 refine fI ⟨_,rfl,?_⟩;refine Bx<|cn rfl<|w_var rfl<|cn rfl ⟨_,S.length,_,Sum.inr x.1,MI$ xs.take i,rfl,rfl,rfl,rfl,aO _ _,?_,?_⟩
 .unfold MI;rw [Qaa,QaB];omega
 .refine⟨_,rfl,⟨_,_,rfl⟩,?_⟩;rw[cc,Bp hno,QaI,hx];unfold MI;rw[Qam];rfl
end
section
variable {ins1 ins2:Aac}{gs1 cC:List Gt}{bC dG:Aad}{pairs:List (Nat × Nat)}
def SN(a b:Nat):vX (.int a) (.int b)= .ok (.bl$ !decide (a=b)):=by
 show R.ok (D.bl$ !((a:Int)==(b:Int)))=_;congr 3;by_cases h:a=b
 .rw [Qat h];exact Qbj.mpr (by omega)
 .rw [Qaw h];exact QaZ.mpr (by omega)
def Lm{N:List Str}{F:FS}{ds:List D}{δ:ay}(h:F (cA N ds)= .ok (.nx δ)):qJ N F ds= .ok .cY:=by unfold qJ;rw [h];rfl
def Nt(F:Fits bC ins2 pairs):jV [a_ ins1 gs1 bC,a_ ins2 cC dG, .lst$ pairs.map vf]= .ok .cY:=by
 obtain⟨δ1,e1,a,b,lL⟩:=eg (t:=fD 2$ bL (aC 3)$ bL (aC 4) fA) (body:=pz)
  (λi δ=>∃a b,δ=[.val$ a_ ins1 gs1 bC, .val$ a_ ins2 cC dG, .val$ .lst$ pairs.map vf,a,b]) (δ:=[.val$ a_ ins1 gs1 bC, .val$ a_ ins2 cC dG, .val$ .lst$ pairs.map vf, .un, .un]) ⟨.un, .un,rfl⟩ (by
    rintro i d δ hd ⟨a,b,rfl⟩;obtain⟨q,hq,rfl⟩:=NT.lW hd;obtain⟨x,y,h1,h2,h3⟩:=F q$ Qap hq;refine⟨[.val$ a_ ins1 gs1 bC, .val$ a_ ins2 cC dG, .val$ .lst$ pairs.map vf, .val$ nI q.1, .val$ nI q.2],?_,⟨_,_,rfl⟩⟩;rw[show fD 2 (bL (aC 3)$ bL (aC 4) fA) (vf q) [.val$ a_ ins1 gs1 bC, .val$ a_ ins2 cC dG, .val$ .lst$ pairs.map vf,a,b]= .ok [.val$ a_ ins1 gs1 bC, .val$ a_ ins2 cC dG, .val$ .lst$ pairs.map vf, .val$ nI q.1, .val$ nI q.2] from rfl,R.aP]
    refine jS (de (b:= .int y.2) (au (aq (aj (aj (aj rfl rfl rfl) rfl$ NT.dP$ by rw[Qac,h1];rfl) rfl rfl) rfl)$ by show R.ok (D.int ((x.2.map nI).length:Nat))=_;rw [Qaa]) (aj (aj (aj rfl rfl rfl) rfl$ NT.dP$ by rw[Qac,h2];rfl) rfl rfl) ?_) rfl
    rw[SN,h3,Qat rfl];rfl)
 exact Lm$ iz rfl e1
def K6{n m:Nat}(h:n<=m):Ic (.int n) (.int m)= .ok (.bl false):=by
 show R.ok (D.bl$ decide$ (n:Int) > (m:Int))=_;rw[Qaw$ by omega]
def M0{ins:Aac}{gs:List Gt}{os:Aad}(h1:ins.length<=6)(h2:gs.length<=60)(h3:os.length<=6):j5 [a_ ins gs os]= .ok .cY:=by
 have q1:b2 Ic (aD cP$ ah (e2 bz (af 0)$ eC$ .int 0) ax) (eC iY) (cA fT [a_ ins gs os])= .ok false:=de (au rfl$ by rw[uz,Qaa]) rfl$ K6 h1
 have q2:b2 Ic (aD cP$ ah (e2 bz (af 0)$ eC$ .int 1) ax) (eC fS) (cA fT [a_ ins gs os])= .ok false:=de (au rfl$ by rw[uz,Qaa]) rfl$ K6 h2
 have q3:b2 Ic (aD cP$ ah (e2 bz (af 0)$ eC$ .int 2) ax) (eC gW) (cA fT [a_ ins gs os])= .ok false:=de (au rfl$ by rw[uz,Qaa]) rfl$ K6 h3
 refine Lm (δ:=cA fT [a_ ins gs os])$ jS ?_ rfl;unfold UH;rw[q1,R.aP,QaH (by decide),q2,R.aP,QaH$ by decide]
 exact q3
end
def ij(pairs:List (Nat × Nat))(ins:Aac):Aac:=(ins.zipIdx.filter λx=>(cF pairs x.2).isNone).map (·.1)
noncomputable def ox(pairs:List (Nat × Nat))(os:Aad):Aad:=(os.zipIdx.filter λx=>!(pairs.map (·.1)).contains x.2).map (·.1)
def xo{pairs:List (Nat × Nat)}{ins:Aac}:dk (ij pairs ins)=bf (eJ pairs ins):=by
 unfold ij eJ;generalize ins.zipIdx=l
 induction l with
 | nil=>rfl
 | cons x l ih=>
   rw[Qbs,Qaz];cases hf:cF pairs x.2 with
   | none=>
     show dk (x.1 ::_)=x.1.2+bf _;rw[<-ih];unfold dk;rw[Qaz,Qbu]
   | some o=>
     exact ih
def xc{pairs:List (Nat × Nat)}{ins:Aac}{x:Str × Nat}(h:x∈ij pairs ins):x∈ins:=by
 obtain⟨⟨y,k⟩,hy,rfl⟩:=QaC.mp h;exact Qap$ Qa0.mp (Qbb.mp hy).1
def kg{pairs:List (Nat × Nat)}{os:Aad}{x:Str × List Nat}(h:x∈ox pairs os):x∈os:=by
 obtain⟨⟨y,k⟩,hy,rfl⟩:=QaC.mp h;exact Qap$ Qa0.mp (Qbb.mp hy).1
section
variable {ins1 ins2:Aac}{gs1 cC:List Gt}{bC dG:Aad}{pairs:List (Nat × Nat)}{S:bp}
abbrev jL(ins1 ins2:Aac)(bC:Aad)(pairs:List (Nat × Nat)):List Nat:=dc (rD (dk ins1)$ bf$ eJ pairs ins2) (si bC) (eJ pairs ins2)$ dk ins1
abbrev To(ins1 ins2:Aac)(pairs:List (Nat × Nat)):Nat->Nat:=rD (dk ins1)$ bf$ eJ pairs ins2
abbrev Sb(ins1 ins2:Aac)(gs1:List Gt)(bC:Aad)(pairs:List (Nat × Nat)):Nat->Nat:=Ga (jL ins1 ins2 bC pairs)$ dk ins1+bf (eJ pairs ins2)+gs1.length
def jI(ins1 ins2:Aac)(pairs:List (Nat × Nat)):Aac:=ins1++ij pairs ins2
def jG(ins1 ins2:Aac)(gs1 cC:List Gt)(bC:Aad)(pairs:List (Nat × Nat)):List Gt:=gJ gs1 cC (eJ pairs ins2) (si bC)$ dk ins1
def jO(ins1 ins2:Aac)(gs1:List Gt)(bC dG:Aad)(pairs:List (Nat × Nat)):Aad:=(ox pairs bC).map (l7$ To ins1 ins2 pairs)++dG.map (l7$ Sb ins1 ins2 gs1 bC pairs)
def Lu{α:Type}(f:α->D)(l:List α):er (l.map f)=l.zipIdx.map λx=>D.tup [.int x.2,f x.1]:=by
 unfold er;rw[List.zipIdx_map,Qar];rfl
def RP{ins:Aac}:ins.map MT.inD=(ins.map λx=>(x.1,nI x.2)).map Pq:=by rw[Qar];rfl
def NH{os:Aad}:os.map oz=(os.map λx=>(x.1,D.tup$ x.2.map nI)).map Pq:=by rw[Qar];rfl
def Gw{ins:Aac}:((eJ pairs ins).map (·.2)).sum=dk ins:=by
 unfold eJ dk;rw[Qar];congr 1;refine Qcy λi=>?_
 rw[Qac,Qac,Qbd];cases ins[i]? <;> rfl
theorem nj{f g:Nat->Nat}{os:Nat->List Nat}:∀{φ:List (Option Nat × Nat)} {free:Nat},(∀o w,(some o,w)∈φ->∀n∈os o,f n=g n)->dc f os φ free=dc g os φ free
 | [],_,_=>rfl
 | (some o,w) ::φ,free,h=>by
   show(os o).map f++dc f os φ free=(os o).map g++dc g os φ free;rw[nj λo w hh=>h o w$ Qad _ hh,QaS$ h o w Qan]
 | (none,w) ::φ,free,h=>by
   show _++dc f os φ (free+w)=_++dc g os φ (free+w);rw[nj λo w hh=>h o w$ Qad _ hh]
def Kp{L:List Nat}{top n w:Nat}(h:w<L.length+n):gd (L++List.range' top n) w=Ga L top w:=by
 show(L++List.range' top n).getD w 0=_;unfold Ga;rw[Qag];by_cases q:w<L.length
 .rw [Qax q,QaK q,Qag]
 .rw [Qaj (by omega),QaH q,List.getElem?_range'$ by omega]
  show top+1*(w - L.length)=_;omega
def nC{f g:Nat->Nat}{x:Gt}(h:∀n∈x.2.1,f n=g n):js f x=js g x:=by unfold js;rw [QaS h]
def nh{f g:Nat->Nat}{x:Str × List Nat}(h:∀n∈x.2,f n=g n):l7 f x=l7 g x:=by unfold l7;rw [QaS h]
def zy{a b:List D}(h:a.length+b.length<=sizeLine):cI (.lst a) (.lst b)= .ok (.lst$ a++b):=As h
def Hi(k:Nat)(l:List Nat):Bn (.int k) (.lst$ l.map nI)= .ok (.bl$ !l.contains k):=by
 have e:l.map nI=(l.map λ(n:Nat)=>(n:Int)).map D.int:=(Qar).symm
 rw[e];show((match ints? ((l.map λ(n:Nat)=>(n:Int)).map D.int) with | some ss=>R.ok (ss.contains (k:Int)) | none=> .no)).bind (λb=>R.ok$ D.bl$ !b)=_
 rw[L2.ints_map];show R.ok (D.bl$ !((l.map λ(n:Nat)=>(n:Int)).contains (k:Int)))=_
 congr 3;rw[Qbi];simp;constructor
 .rintro⟨a,ha,e⟩;rw[<-Int.ofNat_inj.mp e];exact ha
 .exact λh=>⟨k,h,rfl⟩
structure VR (ins1 ins2:Aac) (gs1 cC:List Gt) (bC dG:Aad) (pairs:List (Nat × Nat)):Prop where
 F:Fits bC ins2 pairs
 nd:(pairs.map (·.2)).Nodup
 ni:((jI ins1 ins2 pairs).map (·.1)).Nodup
 no:((jO ins1 ins2 gs1 bC dG pairs).map (·.1)).Nodup
 ri:(jI ins1 ins2 pairs).length<=6
 rg:gs1.length+cC.length<=60
 ro:(jO ins1 ins2 gs1 bC dG pairs).length<=6
theorem xQ:∀{n:Nat} {l:List Nat},l.Nodup->(∀x∈l,x<n)->l.length<=n
 | 0,l,_,hn=>by
   cases l with
   | nil=>exact Qak _
   | cons x l=>exact absurd (hn x Qan) (by omega)
 | n+1,l,h,hn=>by
   have h1:=xQ (n:=n) (h.erase n) λx hx=>by
    have h2:=hn x$ List.mem_of_mem_erase hx;have h3:x≠n:=λe=>(List.Nodup.mem_erase_iff h).mp hx |>.1 e
    omega
   have h2:=List.length_erase (a:=n) (l:=l);split at h2 <;> omega
def HE(N1:iM ins1 gs1 bC)(N2:iM ins2 cC dG)(J:VR ins1 ins2 gs1 cC bC dG pairs)(hS:yO S){Q:V3->bp->Prop}(h:Q (.d$ a_ (jI ins1 ins2 pairs) (jG ins1 ins2 gs1 cC bC pairs)$ jO ins1 ins2 gs1 bC dG pairs) S) :
 W3 (Ag [.d$ a_ ins1 gs1 bC, .d$ a_ ins2 cC dG, .d$ .lst$ pairs.map vf] S) Q:=by
 have hz:=Qas;have Ti:=N1.hi;have TF:=N1.hg;have h13:=N1.ho;have h21:=N2.hi;have h22:=N2.hg;have h23:=N2.ho;have j_:pairs.length<1000:=by
  have:=xQ J.nd λx hx=>by
   obtain⟨q,hq,rfl⟩:=QaC.mp hx;obtain⟨_,y,_,hy,_⟩:=J.F q hq;exact(Qae.mp hy).1
  rw[Qaa] at this;omega
 have hpw:∀x∈eJ pairs ins2,x.2<100:=λx hx=>by
  obtain⟨⟨y,k⟩,hy,rfl⟩:=QaC.mp hx;rw[Qa0] at hy;exact N2.hw y$ Qap hy
 have hlw:bf (eJ pairs ins2)<10000:=by
  have:=rW hpw;rw[lO] at this;omega
 have hll:(ij pairs ins2).length<=ins2.length:=by
  unfold ij;rw[Qaa];have:=Qby (λx:(Str × Nat) × Nat=>(cF pairs x.2).isNone) ins2.zipIdx
  rwa [Qa4] at this
 have hlo:(ox pairs bC).length<=bC.length:=by
  unfold ox;rw[Qaa];have:=Qby (λx:(Str × List Nat) × Nat=>!(pairs.map (·.1)).contains x.2) bC.zipIdx
  rwa [Qa4] at this
 refine iR hS$ Cc rfl ?_;simp only[dn,rV,List.map,List.length,List.replicate,QaO,Qa2,Nat.reduceAdd,Nat.reduceSub];refine aJ<|BM<|cn (au rfl$ Nt J.F) ⟨_,rfl,?_⟩
 refine aJ<|bu (by simp)<|dC<|aM<|cn rfl<|di<|RJ J.nd j_ hS ⟨_,rfl,?_⟩
 refine aJ<|bu (by simp)<|cn (d:= .lst$ (pairs.map (·.1)).map nI) (bK$ bF rfl (by rw[Qaa];omega) ?_) ⟨_,rfl,?_⟩
 .rw [Qar];exact NT.bc vf _ λq hq=>⟨[.val$ nI q.1, .val$ nI q.2],rfl,rfl,rfl⟩
 refine aJ<|bu (by simp)<|jZ (λj ds S2=>S2=S/\ds=(((ins2.zipIdx.take j).filter λx=>(cF pairs x.2).isNone).map (·.1)).map MT.inD)<|fj (ds:=ins2.zipIdx.map λx=>D.tup [.int x.2,MT.inD x.1]) (by rw[<-Lu MT.inD];exact xr rfl) ⟨by rw[Qaa,Qaa,Qa4];omega,⟨rfl,rfl⟩,?_,?_⟩
 .rintro j v ds S2 hv ⟨rfl,rfl⟩;obtain⟨⟨x,k⟩,hx,rfl⟩:=NT.cQ hv;refine⟨[some$ .d$ .int k,some$ .d$ inD x,some$ .d$ dctP pairs],rfl,qo (de rfl rfl GR) ?_⟩;rw[QaI,hx,QbT];cases hf:(cF pairs k).isNone with
  | true=>rw [QaK rfl];exact cn rfl ⟨_,rfl,rfl,by simp [hf]⟩
  | false=>rw [QaH$ by decide];exact⟨rfl,by simp [hf]⟩
 rintro ds S2 ⟨e1,rfl⟩;subst S2;rw[Qaa,Qaa,QaY];refine⟨_,rfl,?_⟩;refine aJ<|bu (by simp)<|jZ (λj ds S2=>S2=S/\ds=(((bC.zipIdx.take j).filter λx=>!(pairs.map (·.1)).contains x.2).map (·.1)).map oz)<|fj (ds:=bC.zipIdx.map λx=>D.tup [.int x.2,oz x.1]) (by rw[<-Lu oz];exact xr rfl) ⟨by rw[Qaa,Qaa,Qa4];omega,⟨rfl,rfl⟩,?_,?_⟩
 .rintro j v ds S2 hv ⟨rfl,rfl⟩;obtain⟨⟨x,k⟩,hx,rfl⟩:=NT.cQ hv;refine⟨[some$ .d$ .int k,some$ .d$ oz x,some$ .d$ .lst$ (pairs.map (·.1)).map nI],rfl,qo (b:=!(pairs.map (·.1)).contains k) (de rfl rfl ?_) ?_⟩
  .exact Hi k _
  rw[QaI,hx,QbT];cases hf:!(pairs.map (·.1)).contains k with
  | true=>rw [QaK rfl];exact cn rfl ⟨_,rfl,rfl,by rw[Qam,Qam];congr 1;simp only[QcX,Qbs,hf,QbN,List.filter_nil,Qaz,Qcn]⟩
  | false=>rw [QaH$ by decide];exact⟨rfl,by congr 1;simp only[QcX,Qbs,hf,List.filter_nil];simp⟩
 rintro ds S2 ⟨e1,rfl⟩;subst S2;rw[Qaa,Qaa,QaY];refine⟨_,rfl,?_⟩;have eI:((ins2.zipIdx.filter λx=>(cF pairs x.2).isNone).map (·.1)).map MT.inD=(ij pairs ins2).map MT.inD:=rfl
 have eO:((bC.zipIdx.filter λx=>!(pairs.map (·.1)).contains x.2).map (·.1)).map oz=(ox pairs bC).map oz:=rfl
 refine aJ<|bu (by simp)<|cn (au (aq rfl$ aq (au (ds:=[.lst$ (ij pairs ins2).map inD]) rfl$ by rw[Br (by omega),xo]) rfl)$ Sw Ti N1.hw TF$ by omega) ⟨_,rfl,?_⟩
 have hnl:=LL (dk ins1) (bf$ eJ pairs ins2) gs1.length;have hna:∀w,w<dk ins1+gs1.length->gd (xv (dk ins1) (bf$ eJ pairs ins2) gs1.length) w=To ins1 ins2 pairs w:=λw hw=>Pb hw
 have hL:dc (gd$ xv (dk ins1) (bf$ eJ pairs ins2) gs1.length) (si bC) (eJ pairs ins2) (dk ins1)=jL ins1 ins2 bC pairs:=nj λo w ho n hn=>by
  obtain⟨x,x1,x2,x3⟩:=J.F.at ho;rw[x2] at hn;exact hna n$ (N1.o x$ Qap x1).2 n hn
 have hLl:(jL ins1 ins2 bC pairs).length=dk ins2:=by
  rw[kI _ _ λo w ho=>by obtain⟨x,_,e,e2⟩:=J.F.at ho;rw [e,e2],Gw]
 refine aJ<|bu (by simp)<|cn ((au rfl$ JC J.F Ti N1.hw h21 N2.hw TF h22$ λx hx=>⟨(N1.o x hx).1,λn hn=>by rw[hnl];exact(N1.o x hx).2 n hn⟩).trans$ by rw[hL]) ⟨_,rfl,?_⟩
 generalize hnu:xv (dk ins1) (bf$ eJ pairs ins2) gs1.length=nums at hnl hna;have hnb:∀w,w<dk ins2+cC.length->gd (jL ins1 ins2 bC pairs++List.range' (dk ins1+bf (eJ pairs ins2)+gs1.length) cC.length) w=Sb ins1 ins2 gs1 bC pairs w:=λw hw=>Kp (by rw[hLl];exact hw)
 have hol:(jL ins1 ins2 bC pairs++List.range' (dk ins1+bf (eJ pairs ins2)+gs1.length) cC.length).length=dk ins2+cC.length:=by rw[Qai,hLl,Qa3]
 generalize jL ins1 ins2 bC pairs++List.range' (dk ins1+bf (eJ pairs ins2)+gs1.length) cC.length=oths at hnb hol;refine aJ<|bu (by simp)<|cn (d:= .lst$ (jI ins1 ins2 pairs).map inD) (aj (b:= .lst$ (ij pairs ins2).map inD) rfl rfl$ (zy$ by rw[Qaa,Qaa];omega).trans$ by unfold jI;rw [Qam]) ⟨_,rfl,?_⟩
 have g1:∀g∈gs1,(∀n∈g.2.1,n<dk ins1+gs1.length)/\g.2.1.length<1000:=λg hg=>by
  obtain⟨i,hi⟩:=QbH hg;have hil:=(Qae.mp hi).1;obtain⟨a,b,c⟩:=N1.g i g hi;have:=sP g.1;exact⟨λn hn=>by have:=c n hn;omega,by omega⟩
 have g2:∀g∈cC,(∀n∈g.2.1,n<dk ins2+cC.length)/\g.2.1.length<1000:=λg hg=>by
  obtain⟨i,hi⟩:=QbH hg;have hil:=(Qae.mp hi).1;obtain⟨a,b,c⟩:=N2.g i g hi;have:=sP g.1;exact⟨λn hn=>by have:=c n hn;omega,by omega⟩
 have eG1:gs1.map (js$ gd nums)=gs1.map (js$ To ins1 ins2 pairs):=QaS λg hg=>nC λn hn=>hna n$ (g1 g hg).1 n hn
 have eG2:cC.map (js$ gd oths)=cC.map (js$ Sb ins1 ins2 gs1 bC pairs):=QaS λg hg=>nC λn hn=>hnb n$ (g2 g hg).1 n hn
 have eO1:(ox pairs bC).map (l7$ gd nums)=(ox pairs bC).map (l7$ To ins1 ins2 pairs):=QaS λx hx=>nh λn hn=>hna n$ (N1.o x$ kg hx).2 n hn
 have eO2:dG.map (l7$ gd oths)=dG.map (l7$ Sb ins1 ins2 gs1 bC pairs):=QaS λx hx=>nh λn hn=>hnb n$ (N2.o x hx).2 n hn
 refine aJ<|bu (by simp)<|cn (d:= .lst$ (jG ins1 ins2 gs1 cC bC pairs).map gS) (aj ((au rfl$ CP (λg hg=>by rw[hnl];exact g1 g hg) TF).trans$ by rw[eG1]) ((au rfl$ CP (λg hg=>by rw[hol];exact g2 g hg) h22).trans$ by rw[eG2])$ (zy$ by rw[Qaa,Qaa,Qaa,Qaa];omega).trans$ by unfold jG gJ;rw [Qam]) ⟨_,rfl,?_⟩
 refine aJ<|bu (by simp)<|cn (d:= .lst$ (jO ins1 ins2 gs1 bC dG pairs).map oz) (aj ((au (ds:=[.lst$ (ox pairs bC).map oz, .lst$ nums.map nI]) rfl$ DT (λx hx=>by rw[hnl];exact⟨(N1.o x$ kg hx).2,(N1.o x$ kg hx).1⟩)$ by omega).trans$ by rw[eO1]) ((au (ds:=[.lst$ dG.map oz, .lst$ oths.map nI]) rfl$ DT (λx hx=>by rw[hol];exact⟨(N2.o x hx).2,(N2.o x hx).1⟩) h23).trans$ by rw[eO2])$ (zy$ by rw[Qaa,Qaa,Qaa,Qaa];omega).trans$ by unfold jO;rw [Qam]) ⟨_,rfl,?_⟩
 simp only[List.set];have jgl:(jG ins1 ins2 gs1 cC bC pairs).length=gs1.length+cC.length:=by unfold jG gJ;rw [Qai,Qaa,Qaa]
 refine aJ<|BM<|dC<|aM<|cn (d:= .lst$ ((jI ins1 ins2 pairs).map λx=>(x.1,nI x.2)).map Pq) (by rw[<-RP];rfl)<|di<|De (by rw[Qar];exact J.ni) (by rw[Qaa];have:=J.ri;omega) hS ⟨_,rfl,?_⟩
 refine aJ<|BM<|dC<|aM<|cn (d:= .lst$ ((jO ins1 ins2 gs1 bC dG pairs).map λx=>(x.1,D.tup$ x.2.map nI)).map Pq) (by rw[<-NH];rfl)<|di<|De (by rw[Qar];exact J.no) (by rw[Qaa];have:=J.ro;omega) hS ⟨_,rfl,?_⟩
 refine aJ<|BM<|cn (d:= .cY) (au (ds:=[a_ (jI ins1 ins2 pairs) (jG ins1 ins2 gs1 cC bC pairs)$ jO ins1 ins2 gs1 bC dG pairs]) (aq (bM rfl$ by simp;omega) rfl)$ M0 J.ri (by rw[jgl];exact J.rg) J.ro) ⟨_,rfl,?_⟩
 exact fM<|cn (d:=a_ (jI ins1 ins2 pairs) (jG ins1 ins2 gs1 cC bC pairs)$ jO ins1 ins2 gs1 bC dG pairs) (bM rfl$ by simp;omega) ⟨_,rfl,rfl,⟨[],by simp⟩,_,rfl,h⟩
end
section
variable {ins1 ins2:Aac}{gs1 cC:List Gt}{bC dG:Aad}{pairs:List (Nat × Nat)}
def Nn(a b:Aac):dk (a++b)=dk a+dk b:=by unfold dk;rw [Qam,List.sum_append]
def L7:dk (jI ins1 ins2 pairs)=dk ins1+bf (eJ pairs ins2):=by unfold jI;rw [Nn,xo]
def Mm{n l w m:Nat}(h:w<n+m):rD n l w<n+l+m:=by unfold rD;split <;> omega
theorem A_{f:Nat->Nat}{os:Nat->List Nat}{B:Nat}:∀{φ:List (Option Nat × Nat)} {free:Nat},(∀o w,(some o,w)∈φ->∀n∈os o,f n<B)->free+bf φ<=B->∀x∈dc f os φ free,x<B
 | [],_,_,_,x,hx=>by cases hx
 | (some o,w) ::φ,free,h,hb,x,hx=>by
   rcases QaU.mp (show x∈(os o).map f++dc f os φ free from hx) with z | z
   .obtain⟨n,hn,rfl⟩:=QaC.mp z;exact h o w Qan n hn
   .exact A_ (λo w hh=>h o w$ Qad _ hh) hb x z
 | (none,w) ::φ,free,h,hb,x,hx=>by
   have hb:free+(w+bf φ)<=B:=hb;rcases QaU.mp (show x∈List.range' free w++dc f os φ (free+w) from hx) with z | z
   .obtain⟨j,hj,rfl⟩:=QbI.mp z;omega
   .exact A_ (λo w hh=>h o w$ Qad _ hh) (by omega) x z
def yp(F:Fits bC ins2 pairs):(jL ins1 ins2 bC pairs).length=dk ins2:=by
 rw[kI _ _ λo w ho=>by obtain⟨x,_,e,e2⟩:=F.at ho;rw [e,e2],Gw]
def Ur(N1:iM ins1 gs1 bC)(F:Fits bC ins2 pairs):∀x∈jL ins1 ins2 bC pairs,x<dk ins1+bf (eJ pairs ins2)+gs1.length:=by
 refine A_ (λo w ho n hn=>?_) (by omega)
 obtain⟨x,x1,x2,x3⟩:=F.at ho;rw[x2] at hn;exact Mm$ (N1.o x$ Qap x1).2 n hn
def P4(N1:iM ins1 gs1 bC)(F:Fits bC ins2 pairs){w m:Nat}(h:w<dk ins2+m):Sb ins1 ins2 gs1 bC pairs w<dk ins1+bf (eJ pairs ins2)+gs1.length+m:=by
 show Ga _ _ w<_;unfold Ga;rw[yp F];split
 .rename_i q;have e:(jL ins1 ins2 bC pairs).getD w 0=(jL ins1 ins2 bC pairs)[w]'(by rw[yp F];exact q):=by rw[Qag,Qab$ by rw[yp F];exact q];rfl
  have:=Ur N1 F _ (Qa7 (by rw[yp F];exact q:w<(jL ins1 ins2 bC pairs).length))
  omega
 .omega
def EI(N1:iM ins1 gs1 bC)(N2:iM ins2 cC dG)(J:VR ins1 ins2 gs1 cC bC dG pairs):iM (jI ins1 ins2 pairs) (jG ins1 ins2 gs1 cC bC pairs) (jO ins1 ins2 gs1 bC dG pairs):=by
 have jgl:(jG ins1 ins2 gs1 cC bC pairs).length=gs1.length+cC.length:=by unfold jG gJ;rw [Qai,Qaa,Qaa]
 refine⟨by have:=J.ri;omega,λx hx=>?_,by have:=J.rg;omega,λi x hx=>?_,by have:=J.ro;omega,λx hx=>?_⟩
 .rcases QaU.mp hx with z | z
  .exact N1.hw x z
  .exact N2.hw x (xc z)
 .rw [L7];unfold jG gJ at hx;by_cases hi:i<gs1.length
  .rw [Qax (by rw[Qaa];exact hi),Qac] at hx
   cases hg:gs1[i]? with
   | none=>rw [hg] at hx;cases hx
   | some g=>
     rw[hg] at hx;cases hx;obtain⟨a,b,c⟩:=N1.g i g hg;refine⟨a,by unfold js;rw [Qaa];exact b,λw hw=>?_⟩
     obtain⟨n,hn,rfl⟩:=QaC.mp$ show w∈g.2.1.map _ from hw
     exact Mm$ c n hn
  .rw [Qaj (by rw[Qaa];omega),Qaa,Qac] at hx
   cases hg:cC[i - gs1.length]? with
   | none=>rw [hg] at hx;cases hx
   | some g=>
     rw[hg] at hx;cases hx;obtain⟨a,b,c⟩:=N2.g _ g hg;refine⟨a,by unfold js;rw [Qaa];exact b,λw hw=>?_⟩
     obtain⟨n,hn,rfl⟩:=QaC.mp$ show w∈g.2.1.map _ from hw
     have:=P4 N1 J.F$ c n hn;have e:dk ins1+bf (eJ pairs ins2)+gs1.length+(i - gs1.length)=dk ins1+bf (eJ pairs ins2)+i:=by omega
     rw[e] at this;exact this
 .rw [L7,jgl];rcases QaU.mp hx with z | z
  .obtain⟨y,hy,rfl⟩:=QaC.mp z;obtain⟨a,b⟩:=N1.o y$ kg hy;refine⟨by unfold l7;rw [Qaa];exact a,λw hw=>?_⟩
   obtain⟨n,hn,rfl⟩:=QaC.mp$ show w∈y.2.map _ from hw
   have:=Mm (l:=bf$ eJ pairs ins2)$ b n hn;show rD _ _ n<_;omega
  .obtain⟨y,hy,rfl⟩:=QaC.mp z;obtain⟨a,b⟩:=N2.o y hy;refine⟨by unfold l7;rw [Qaa];exact a,λw hw=>?_⟩
   obtain⟨n,hn,rfl⟩:=QaC.mp$ show w∈y.2.map _ from hw
   have:=P4 N1 J.F$ b n hn;omega
structure sM (ins:Aac) (gs:List Gt) (os:Aad):Prop where
 N:iM ins gs os
 i3:∀x∈ins,x.2=3
 o3:∀x∈os,x.2.length=3
theorem Dj:∀{ins:Aac},(∀x∈ins,x.2=3)->dk ins=3*ins.length
 | [],_=>rfl
 | x ::l,h=>by
   have:=Dj λy hy=>h y$ Qad _ hy
   unfold dk at this ⊢;rw[Qaz,Qbu,this,h x Qan,Qao];omega
def AA(T1:sM ins1 gs1 bC)(T2:sM ins2 cC dG)(J:VR ins1 ins2 gs1 cC bC dG pairs):sM (jI ins1 ins2 pairs) (jG ins1 ins2 gs1 cC bC pairs) (jO ins1 ins2 gs1 bC dG pairs):=by
 refine⟨EI T1.N T2.N J,λx hx=>?_,λx hx=>?_⟩
 .rcases QaU.mp hx with z | z
  .exact T1.i3 x z
  .exact T2.i3 x (xc z)
 .rcases QaU.mp hx with z | z
  .obtain⟨y,hy,rfl⟩:=QaC.mp z;show(y.2.map _).length=3;rw[Qaa];exact T1.o3 y$ kg hy
  .obtain⟨y,hy,rfl⟩:=QaC.mp z;show(y.2.map _).length=3;rw[Qaa];exact T2.o3 y hy
def UK(T2:sM ins2 cC dG):∀x∈eJ pairs ins2,x.2=3:=λx hx=>by
 obtain⟨⟨y,k⟩,hy,rfl⟩:=QaC.mp hx;rw[Qa0] at hy;exact T2.i3 y$ Qap hy
def IJ:many (eJ pairs ins2)=(ij pairs ins2).length:=by
 unfold ij eJ;generalize ins2.zipIdx=l
 induction l with
 | nil=>rfl
 | cons x l ih=>
   rw[Qbs,Qaz];cases hf:cF pairs x.2 with
   | none=>
     rw[Option.isNone_none,QaK rfl,Qaz,Qao,<-ih];rfl
   | some o=>
     exact ih
def jnd(T1:sM ins1 gs1 bC)(T2:sM ins2 cC dG)(F:Fits bC ins2 pairs):WC ins1.length gs1 cC bC dG (eJ pairs ins2) (si bC):=by
 have w1:=Dj T1.i3;have w2:=Dj T2.i3;refine⟨UK T2,λi g hg w hw=>?_,λi g hg w hw=>?_,λx hx=>⟨T1.o3 x hx,λn hn=>?_⟩,λx hx=>⟨T2.o3 x hx,λn hn=>?_⟩,λo w ho=>?_⟩
 .rw [<-w1];exact(T1.N.g i g hg).2.2 w hw
 .rw [lO,<-w2];exact(T2.N.g i g hg).2.2 w hw
 .rw [<-w1];exact(T1.N.o x hx).2 n hn
 .rw [lO,<-w2];exact(T2.N.o x hx).2 n hn
 .obtain⟨x,x1,x2,x3⟩:=F.at ho;exact⟨x,Qap x1,x2.symm⟩
def Fw:(jI ins1 ins2 pairs).length=ins1.length+(ij pairs ins2).length:=by unfold jI;rw [Qai]
def CK(T1:sM ins1 gs1 bC)(T2:sM ins2 cC dG)(F:Fits bC ins2 pairs)(K1:yF ins1.length gs1 bC)(K2:yF ins2.length cC dG):yF (jI ins1 ins2 pairs).length (jG ins1 ins2 gs1 cC bC pairs) (jO ins1 ins2 gs1 bC dG pairs):=by
 have w1:=Dj T1.i3;have:=HD (osJ:=jO ins1 ins2 gs1 bC dG pairs) (jnd T1 T2 F) K1 (by rw[lO];exact K2) (λx hx=>by
  rcases QaU.mp hx with z | z
  .obtain⟨y,hy,rfl⟩:=QaC.mp z;refine .inl ⟨y,kg hy,?_⟩;show y.2.map (rD (dk ins1) _)=_;rw[w1]
  .obtain⟨y,hy,rfl⟩:=QaC.mp z;refine .inr ⟨y,hy,?_⟩;show y.2.map (Ga (dc (rD (dk ins1) _) _ _$ dk ins1)$ dk ins1+_+_)=_;rw[w1])
 rw[IJ] at this;rw[Fw];unfold jG;rw[w1];exact this
noncomputable def Zg(g:Gt):Gt:=(g.1,g.2.1,true)
end
end K44
end
section
set_option maxHeartbeats 4000000
namespace K44
open PySem PySem.Spec PyProof.Rows L2 L3 MT JT
def y4{a b:Nat}(h:0<b):fF (nI a) (nI b)= .ok (nI$ a % b):=cm _ (show 0<(b:Int) by omega)
def Oy{a b:Nat}(h:0<b)(h2:b<1073741824):pL (nI a) (nI b)= .ok (nI$ a / b):=cm _ (show 0<(b:Int)/\(b:Int)<1073741824 by omega)
def Na{a b:Nat}(h:b<18446744073709551616):lJ (nI a) (nI b)= .ok (nI$ a*b):=cm _ (.inr$ by omega)
def ES(a b:Nat):cI (nI a) (nI b)= .ok (nI$ a+b):=rfl
def Vb{a b:Nat}(h:b<=a):rB (nI a) (nI b)= .ok (nI$ a - b):=by
 show R.ok (D.int$ (a:Int) - (b:Int))=R.ok (D.int ((a - b:Nat):Int));congr 2;omega
def eqI(a b:Nat):xK (nI a) (nI b)= .ok (.bl$ a==b):=by
 show R.ok (D.bl$ (a:Int)==(b:Int))=_;congr 2;rw[Qbi,Qbj,Qbj];omega
def BJ(ns:List Int)(k:Nat):∃c:Int,dt [.lst$ ns.map .int,nI k]= .ok (.int c):=by
 by_cases h:k<ns.length
 .refine⟨ns[k],?_⟩;unfold dt qU;refine cL ?_;have e:D2 (b2 Tu (af 1)$ aD cP$ ah (af 0) ax) (f_$ e2 bz (af 0)$ af 1) yk (cA gq [.lst$ ns.map .int, .int k])= .ok (.rt$ .int ns[k]):=by
   refine vk ?_ (cv$ aj rfl rfl$ NT.dP$ by rw[Qac,Qab h];rfl)
   refine de rfl (au rfl$ by rw[uz,Qaa]) ?_
   show R.ok (D.bl$ decide$ (k:Int)<(ns.length:Int))=_;rw[Qat$ by omega]
  unfold du;rw[show cA gq [.lst$ ns.map .int,nI k]=cA gq [.lst$ ns.map .int, .int k] from rfl,e];rfl
 .refine⟨0,?_⟩;refine cL$ bx (jS ?_ rfl) rfl;refine de rfl (au rfl$ by rw[uz,Qaa]) ?_
  show R.ok (D.bl$ decide$ (k:Int)<(ns.length:Int))=_;rw[Qaw$ by omega]
def rh(c:Int)(n:Nat)(hn:n<100):∃ns:List Nat,ns.length=n/\dZ [.int c,nI n]= .ok (.lst$ ns.map nI):=by
 have hz:=Qas;obtain⟨a,ha⟩:∃a:Nat,(if c<0 then -c else c)=(a:Int):=⟨(if c<0 then -c else c).toNat,by split <;> omega⟩
 obtain⟨δ1,e1,ns,r,a4,a5,hl,iS⟩:=eg (t:=aC 4) (body:=om)
  (λi δ=>∃(ns:List Nat) (r:Nat) (a4 a5:Sl),ns.length=i/\δ=[.val$ .int c, .val$ nI n, .bld$ ns.map nI, .val$ nI r,a4,a5]) (δ:=[.val$ .int c, .val$ nI n, .bld [], .val$ nI a, .un, .un]) ⟨[],a, .un, .un,rfl,rfl⟩ (by
    rintro i d δ hd ⟨ns,r,a4,a5,hl,rfl⟩;obtain⟨k,hk,rfl⟩:=NT.lW hd;have hkn:k<n:=QaM.mp$ Qap hk;have hin:i<n:=by
     have:=(Qae.mp hk).1;simpa using this
    have hlen:(ns.map nI).length<sizeLine:=by rw[Qaa];omega
    have hc:b2 U7 (aD cAbs$ ah (af 0) ax) (e2 Rz (eC$ .int 10)$ eC$ .int 18) [.val$ .int c, .val$ nI n, .bld$ ns.map nI, .val$ nI r, .val$ nI k,a5]= .ok (decide$ (a:Int)>=1000000000000000000):=
     de (au rfl$ by show R.ok (D.int$ if c<0 then -c else c)=_;rw [ha]) (aj rfl rfl rfl) rfl
    cases q:decide ((a:Int)>=1000000000000000000) with
    | true=>
      rw[q] at hc;refine⟨_,vk hc (bx (AL (aj (b:=nI 1009) rfl rfl$ y4$ by omega) rfl hlen)$ cT (aj (b:=nI 1009) rfl rfl$ Oy (by omega)$ by omega)$ by simp),ns++[r % 1009],r / 1009, .val$ nI k,a5,by simp [hl],?_⟩
      rw[Qam];rfl
    | false=>
      rw[q] at hc;generalize ho:(r % 2147483629+7919*(k+1)*(k+3)) % 2147483629=o;generalize Jm:o*o % 2147483587+o / 7=o2;refine⟨_,jS hc (bx (cT (aj (b:=nI 2147483629) (aj (aj (b:=nI 2147483629) rfl rfl$ y4$ by omega) (aj (aj rfl (aj (b:=nI 1) rfl rfl$ ES _ _)$ Na$ by omega) (aj (b:=nI 3) rfl rfl$ ES _ _)$ Na$ by omega)$ ES _ _) rfl$ by rw[<-ho];exact y4$ by omega)$ by simp)$ bx (cT (aj (aj (b:=nI 2147483587) (aj rfl rfl$ Na$ by omega) rfl$ y4$ by omega) (aj (a:=nI o) (b:=nI 7) rfl rfl$ Oy (by omega)$ by omega)$ by rw[<-Jm];exact ES _ _)$ by simp)$ AL (aj (b:=nI 16) (aj (b:=nI 2147483647) (aj (a:=nI o2) (b:=nI 48271) rfl rfl$ Na$ by omega) rfl$ y4$ by omega) rfl$ Oy (by omega)$ by omega) rfl hlen),ns++[o2*48271 % 2147483647 / 16],r, .val$ nI k, .val$ nI o2,by simp [hl],?_⟩
      rw[Qam];rfl)
 rw[Qaa,Qaq] at hl;refine⟨ns,hl,?_⟩;subst iS;refine cL (bx (tm rfl$ by simp [cA,jl]) (bx (cT (au rfl$ by show R.ok (D.int$ if c<0 then -c else c)=_;rw [ha];rfl) (by simp [cA,jl])) (bx (iz ?_ e1)$ cv rfl)))
 rw[<-Bl];exact lN rfl (by omega)
def OX(n:Nat):∃kd,kd<=4/\nk [nI n]= .ok (.tup [.str$ kS kd,nI$ ar kd]):=by
 have key:∀r,r<7->∃kd,kd<=4/\bz (.lst [.tup [.str "and", .int 2], .tup [.str "or", .int 2], .tup [.str "xor", .int 2], .tup [.str "not", .int 1], .tup [.str "vote", .int 3], .tup [.str "and", .int 2], .tup [.str "xor", .int 2]]) (nI r)= .ok (.tup [.str$ kS kd,nI$ ar kd]):=λr hr=>by
  match r,hr with
  | 0,_=>exact⟨1,by omega,rfl⟩
  | 1,_=>exact⟨2,by omega,rfl⟩
  | 2,_=>exact⟨3,by omega,rfl⟩
  | 3,_=>exact⟨0,by omega,rfl⟩
  | 4,_=>exact⟨4,by omega,rfl⟩
  | 5,_=>exact⟨1,by omega,rfl⟩
  | 6,_=>exact⟨3,by omega,rfl⟩
 obtain⟨kd,h1,h2⟩:=key (n % 7) (Qcb _$ by omega)
 refine⟨kd,h1,?_⟩;exact cL (cv$ aj rfl (aj (b:=nI 7) rfl rfl$ y4$ by omega) h2)
def gE(sc:D)(f m w n:Nat)(a5 a6 a7 a8 a9 rR MR:Option V3):DE:=[some$ .d sc,some$ .d$ nI f,some$ .d$ nI m,some$ .d$ nI w,some$ .loc n,a5,a6,a7,a8,a9,rR,MR]
def XU(w:Nat)(hw:0<w):∃mn:Nat,0<mn/\mn<=w/\sS [nI 4,nI w]= .ok (nI mn):=by
 by_cases h:w<4
 .refine⟨w,hw,Qak _,?_⟩;show R.ok (D.int$ if(w:Int)<4 then(w:Int) else 4)=_
  rw[QaK$ by omega];rfl
 .refine⟨4,by omega,by omega,?_⟩
  show R.ok (D.int$ if(w:Int)<4 then(w:Int) else 4)=_
  rw[QaH$ by omega];rfl
def HX{sc:D}{f m w j x:Nat}{g0:SO}{S X:bp}{ms ws:List Nat}{a5 a7 a8 MR:Option V3}(hw:0<w)(hx:ms[1+j]? =some x)(hl:ws.length<1000) :
 W3 (mf (gE sc f m w S.length a5 (some$ .d$ .lst$ ms.map nI) a7 a8 (some$ .loc$ S.length+1+X.length) (some$ .d$ nI j) MR) (S++g0 ::(X++[.lst$ ws.map nI]))) λo S2=>∃(y:Nat) (MS:Option V3),o= .nx (gE sc f m w S.length a5 (some$ .d$ .lst$ ms.map nI) a7 a8 (some$ .loc$ S.length+1+X.length) (some$ .d$ nI j) MS)/\y<w/\S2=S++g0 ::(X++[.lst$ (ws++[y]).map nI]):=by
 have hz:=Qas;obtain⟨mn,h1,h2,h3⟩:=XU w hw;unfold mf gE;generalize iS:down [some$ .d sc,some$ .d$ nI f,some$ .d$ nI m,some$ .d$ nI w,some$ .loc S.length,a5,some$ .d$ .lst$ ms.map nI,a7,a8,some$ .loc$ S.length+1+X.length,some$ .d$ nI j,MR]=δ;have v6:af 6 δ= .ok (.lst$ ms.map nI):=by rw[<-iS];rfl
 have v10:af 10 δ= .ok (nI j):=by rw[<-iS];rfl
 have v3:af 3 δ= .ok (nI w):=by rw[<-iS];rfl
 have ex:(e2 bz (af 6)$ e2 cI (eC$ .int 1)$ af 10) δ= .ok (nI x):=aj v6 (aj rfl v10$ ES _ _)$ oG hx;have e2x:(e2 pL (e2 bz (af 6)$ e2 cI (eC$ .int 1)$ af 10)$ eC$ .int 2) δ= .ok (nI$ x / 2):=aj (b:=nI 2) ex rfl (Oy (by omega)$ by omega)
 obtain⟨nr,hnr,en⟩:∃nr,nr<w/\bz (.lst [nI$ x / 2 % mn,nI$ x / 2 % w]) (nI$ x % 2)= .ok (nI nr):=by
  have:x % 2=0\/x % 2=1:=by omega
  rcases this with q | q
  .rw [q];exact⟨x / 2 % mn,QaP (Qcb _ h1) h2,rfl⟩
  .rw [q];exact⟨x / 2 % w,Qcb _ hw,rfl⟩
 refine aJ<|bu (by simp)<|cn (by rw[iS];exact aj (bK$ qd (aq (aj e2x (au (aq rfl$ aq v3 rfl) h3)$ y4 h1)$ aq (aj e2x v3$ y4 hw) rfl)$ by simp;omega) (aj (b:=nI 2) ex rfl$ y4$ by omega) en) ⟨_,rfl,?_⟩
 refine iQ rfl ⟨_,RA _ _ _ _⟩<|cn (aj (aj (b:=nI 1) rfl rfl$ Vb$ by omega) rfl$ Vb$ by omega) ⟨_,_,rfl,RA _ _ _ _,by rw[Qaa];omega,w - 1 - nr,_,rfl,by omega,?_⟩
 rw[XF,Qam];rfl
def Iu(ns:List Int)(f m w:Nat)(hw:0<w)(hm:m<100)(hwb:w<1000){S:bp}(hS:yO S):W3 (m8 [.d$ .lst$ ns.map .int, .d$ nI f, .d$ nI m, .d$ nI w] S) λv S1=>∃gs:List Gt,v= .d (.lst$ gs.map gS)/\S1=S/\gs.length=m/\∀(i:Nat) (g:Gt),gs[i]? =some g->An (w+i) g:=by
 have hz:=Qas;refine iR hS$ Cc rfl ?_;simp only[dn,l3,List.map,List.length,List.replicate,QaO,Qa2,Nat.reduceAdd,Nat.reduceSub];refine aJ<|bu (by simp)<|jR rfl ⟨_,rfl,?_⟩
 refine aJ<|dS<|fj (ds:=(List.range m).map nI) (by rw[<-Bl];exact lN rfl$ by omega) ?_
 refine(bQ (λi δ S2=>∃(gs:List Gt) (X:bp) (a5 a6 a7 a8 a9 rR MR:Option V3),gs.length=i/\(∀(i:Nat) (g:Gt),gs[i]? =some g->An (w+i) g)/\S2=S++SO.lst (gs.map gS) ::X/\δ=gE (.lst$ ns.map .int) f m (w+i) S.length a5 a6 a7 a8 a9 rR MR)
  ⟨[],[],none,none,none,none,none,none,none,rfl,by simp,rfl,rfl⟩ ?_).mono λo S2 ⟨c_,fG,gs,X,a5,a6,a7,a8,a9,rR,MR,hl,hgs,lG,iS⟩=>⟨c_,fG,?_⟩
 .rintro i v δ S2 hv ⟨gs,X,a5,a6,a7,a8,a9,rR,MR,hl,hgs,rfl,rfl⟩;have hin:i<m:=by
   have:=(Qae.mp hv).1;simpa using this
  obtain⟨k,hk,rfl⟩:=NT.cQ hv;refine⟨gE (.lst$ ns.map .int) f m (w+i) S.length (some$ .d$ nI k) a6 a7 a8 a9 rR MR,rfl,?_⟩;unfold qL gE;obtain⟨c,hc⟩:=BJ ns$ f+k;obtain⟨ms,Wb,em⟩:=rh c 6 (by omega)
  obtain⟨x0',hx0⟩:∃x,ms[0]? =some x:=⟨ms[0],Qab$ by omega⟩
  obtain⟨x4,hx4⟩:∃x,ms[4]? =some x:=⟨ms[4],Qab$ by omega⟩
  obtain⟨kd,hkd,ek⟩:=OX x0';have har:=sP kd;refine aJ<|bu (by simp)<|cn (au (aq (au (aq rfl$ aq (aj rfl rfl$ ES _ _) rfl) hc) rfl) em) ⟨_,rfl,?_⟩
  refine aJ<|P0<|cn (au (aq (aj rfl rfl$ oG hx0) rfl) ek) ⟨_,rfl,_,rfl,?_⟩
  refine aJ<|bu (by simp)<|jR rfl ⟨_,rfl,?_⟩
  have hlen:(S++SO.lst (gs.map gS) ::X).length=S.length+1+X.length:=by rw[Qai,Qao];omega
  rw[hlen,QaL,QaO];refine aJ<|dS<|fj (ds:=(List.range$ ar kd).map nI) (by rw[<-Bl];exact lN rfl$ by omega) ?_
  refine(bQ (λj δ S3=>∃(ws:List Nat) (Hr MS:Option V3),ws.length=j/\(∀y∈ws,y<w+i)/\S3=S++SO.lst (gs.map gS) ::(X++[SO.lst$ ws.map nI])/\δ=gE (.lst$ ns.map .int) f m (w+i) S.length (some$ .d$ nI k) (some$ .d$ .lst$ ms.map nI) (some$ .d$ .str$ kS kd) (some$ .d$ nI$ ar kd) (some$ .loc$ S.length+1+X.length) Hr MS)
   ⟨[],rR,MR,rfl,by simp,rfl,rfl⟩ ?_).mono λo S3 ⟨Wh,e3,ws,Hr,MS,Pm,hws,TM,Mq⟩=>⟨Wh,e3,?_⟩
  .rintro j u δ S3 hu ⟨ws,Hr,MS,Pm,hws,rfl,rfl⟩;have hjn:j<ar kd:=by
    have:=(Qae.mp hu).1;simpa using this
   obtain⟨k2,TN,rfl⟩:=NT.cQ hu;have hk3:k2<ar kd:=QaM.mp$ Qap TN;refine⟨gE (.lst$ ns.map .int) f m (w+i) S.length (some$ .d$ nI k) (some$ .d$ .lst$ ms.map nI) (some$ .d$ .str$ kS kd) (some$ .d$ nI$ ar kd) (some$ .loc$ S.length+1+X.length) (some$ .d$ nI k2) MS,rfl,?_⟩;refine(HX (by omega) (Qab (by omega:1+k2<ms.length))$ by omega).mono λo S4 ⟨y,c11,eo,hy,WO⟩=>⟨_,eo,ws++[y],_,_,by simp [Pm],?_,WO,rfl⟩
   intro z vx;rcases QaU.mp vx with q | q
   .exact hws z q
   .rw [Qa8.mp q];exact hy
  rw[Qaa,Qaa,Qaq] at Pm;subst Mq TM;unfold gE;refine aJ<|iQ rfl ⟨_,SD _ _ _⟩<|Py (d:=gS (kd,ws,(x4 % 6==0))) ?_ (Vm _) ⟨_,gs.map gS,rfl,SD _ _ _,by rw[Qaa];omega,_,rfl,?_⟩
  .refine bM (aq rfl$ aq (au (aq (qG rfl$ uZ$ RA _ _ _ _) rfl) rfl)$ aq (aj (aj (b:=nI 6) (aj rfl rfl$ oG hx4) rfl$ y4$ by omega) rfl$ eqI _ _) rfl) (by simp;omega)
  rw[UB];refine bu (by simp)<|cn (aj rfl rfl$ ES _ _) ?_
  refine⟨_,rfl,gs++[(kd,ws,(x4 % 6==0))],X++[SO.lst$ ws.map nI],_,_,_,_,_,_,_,by simp [hl],?_,by rw[Qam];rfl,rfl⟩
  intro j g hj;by_cases hjl:j<gs.length
  .rw [Qax hjl] at hj;exact hgs j g hj
  .rw [Qaj$ by omega] at hj
   have h0:j - gs.length=0:=by
    cases q:j - gs.length with
    | zero=>rfl
    | succ n=>rw [q] at hj;simp at hj
   rw[h0] at hj;cases hj;rw[show j=i by omega]
   exact⟨hkd,Pm,hws⟩
 rw[Qaa,Qaa,Qaq] at hl;subst iS lG;unfold gE;refine qS rfl (SD _ _ _) ?_;rw[UB];exact fM<|cn rfl ⟨.d$ .lst$ gs.map gS,rfl,by unfold iA;rfl,⟨_,rfl⟩, .lst$ gs.map gS,by unfold res;rfl,⟨gs,rfl,trivial,hl,hgs⟩⟩
end K44
end
section
set_option maxHeartbeats 1000000
namespace K44
open PySem PySem.Spec PyProof.Rows L2 L3 MT JT
def KO{kd:Nat}{bs:List Bool}(hk:kd<=4)(hl:bs.length=ar kd):∃mn mx sm nt df:Int,sS [.lst$ bs.map bI]= .ok (.int mn)/\G7 [.lst$ bs.map bI]= .ok (.int mx)/\(tQ [.lst$ bs.map bI]).bind (λd=>fF d$ .int 2)= .ok (.int sm)/\(bz (.lst$ bs.map bI)$ .int 0).bind (λd=>rB (.int 1) d)= .ok (.int nt)/\((tQ [.lst$ bs.map bI]).bind λd=>(Ic d$ .int 1).bind λd=>rZ [d])= .ok (.int df)/\(A7 (xI ["and","or","xor","not"] [mn,mx,sm,nt])$ Sum.inr$ kS kd).getD (.int df)=bI (gv kd bs):=by
 match kd,bs,hl with
 | 0,[a],_=>cases a <;> exact⟨_,_,_,_,_,rfl,rfl,rfl,rfl,rfl,rfl⟩
 | 1,[a,b],_=>cases a <;> cases b <;> exact⟨_,_,_,_,_,rfl,rfl,rfl,rfl,rfl,rfl⟩
 | 2,[a,b],_=>cases a <;> cases b <;> exact⟨_,_,_,_,_,rfl,rfl,rfl,rfl,rfl,rfl⟩
 | 3,[a,b],_=>cases a <;> cases b <;> exact⟨_,_,_,_,_,rfl,rfl,rfl,rfl,rfl,rfl⟩
 | 4,[a,b,c],_=>cases a <;> cases b <;> cases c <;> exact⟨_,_,_,_,_,rfl,rfl,rfl,rfl,rfl,rfl⟩
def TZ(a b:Bool):((cI (bI a)$ .int$ if b then 1 else 0).bind λd=>fF d$ .int 2)= .ok (bI$ a !=b):=by
 cases a <;> cases b <;> rfl
def GZ{f g:FD}{δ:ay}{a b:Bool}(hf:f δ= .ok (bI a))(hg:g δ= .ok (.bl b)):e2 fF (e2 cI f$ aD rZ$ ah g ax) (eC$ .int 2) δ= .ok (bI$ a !=b):=by
 have ht:=TZ a b;have hi:aD rZ (ah g ax) δ= .ok (.int$ if b then 1 else 0):=au (aq hg rfl) (by cases b <;> rfl)
 cases qa:cI (bI a) (.int$ if b then 1 else 0) with
 | ok d=>
   rw[qa,R.aP] at ht;exact aj (aj hf hi qa) rfl ht
 | no=>rw [qa] at ht;cases ht
 | ex _=>rw [qa] at ht;cases ht
section
variable {ins:Aac}{gs:List Gt}{os:Aad}{bits:List Bool}{T B:List Nat}{S:bp}
noncomputable abbrev tE(nt bs T B:D)(q:Nat)(a5 a6 a7 a8 a9 rR:Option V3):DE:=[some$ .d nt,some$ .d bs,some$ .d T,some$ .d B,some$ .loc q,a5,a6,a7,a8,a9,rR]
def RX{S X:bp}{q:Nat}{y:SO}(h:S.length<=q):(S++X).set q y=S++X.set (q - S.length) y:=Qbx _ _ h
def IW{nt bs bd:D}{q i:Nat}{g:Gt}{ws:List Bool}{a5 a6 a9 rR:Option V3}(hg:An ws.length g)(hq:S[q]? =some (.lst$ ws.map bI))(hl:ws.length<100000) :
 W3 (tF (tE nt bs (.tup$ T.map nI) bd q a5 a6 (some$ .d$ nI i) (some$ .d$ gS g) a9 rR) S) λo S2=>∃b5 b9 Hr d,o= .nx (tE nt bs (.tup$ T.map nI) bd q b5 a6 (some$ .d$ nI i) (some$ .d$ gS g) b9 Hr)/\S2=(S++[SO.dct d]).set q (.lst$ (ws++[gB g ws !=T.contains i]).map bI):=by
 have hz:=Qas;obtain⟨hk,hgl,hgw⟩:=hg;have har:=sP g.1;have hbl:(g.2.1.map λn=>ws.getD n false).length=ar g.1:=by rw[Qaa];exact hgl
 obtain⟨mn,mx,sm,ZL,df,q1,q2,q3,q4,q5,q6⟩:=KO hk hbl;have hsm:W3 (jv (iP$ cb$ e2 bz (af 8)$ eC$ .int 1) (fZ 0) yL (xT$ e2 bz (af 1)$ af 0) ["wire"] [4] (tE nt bs (.tup$ T.map nI) bd q a5 a6 (some$ .d$ nI i) (some$ .d$ gS g) a9 rR) S) λv S1=>v= .d (.lst$ (g.2.1.map λn=>ws.getD n false).map bI)/\S1=S:=by
  refine jZ (λj ds S2=>S2=S/\ds=(((g.2.1.map λn=>ws.getD n false).map bI).take j)) (fj (uj$ aj rfl rfl rfl) ⟨by rw[Qaa,Qaa];omega,⟨rfl,by simp⟩,?_,?_⟩)
  .rintro j v ds S2 hv ⟨rfl,rfl⟩;obtain⟨n,hnj,rfl⟩:=NT.cQ hv;refine⟨[some$ .d$ nI n,some$ .loc q],rfl,D3 ?_⟩;refine Py (aj (qG rfl$ uZ hq) rfl$ Pw$ hgw n$ Qap hnj) (UY _) ⟨_,rfl,rfl,?_⟩;rw[QaI,Qac,Qac,hnj];rfl
  .rintro ds S2 ⟨rfl,rfl⟩;rw[Qaa,Qaa,QaQ$ by simp]
   exact⟨rfl,rfl⟩
 refine aJ<|bu (by simp)<|hsm.mono λv S1 ⟨ev,eS⟩=>?_
 subst ev eS;refine⟨_,rfl,?_⟩;generalize hB:(g.2.1.map λn=>ws.getD n false).map bI=Bt at q1 q2 q3 q4 q5
 refine aJ<|bu (by simp)<|O5 (ns:=[mn,mx,sm,ZL]) ?_ rfl (by decide) ⟨_,rfl,?_⟩
 .refine aq (au rfl q1) (aq (au rfl q2)$ aq ?_$ aq ?_ rfl)
  .cases q:tQ [.lst Bt] with
   | ok d=>rw [q] at q3;exact aj (au rfl q) rfl q3
   | no=>rw [q] at q3;cases q3
   | ex _=>rw [q] at q3;cases q3
  .cases q:bz (.lst Bt) (.int 0) with
   | ok d=>rw [q] at q4;exact aj rfl (aj rfl rfl q) q4
   | no=>rw [q] at q4;cases q4
   | ex _=>rw [q] at q4;cases q4
 refine aJ<|bu (by simp)<|SI (d:= .int df) rfl (aO _ _) (aj rfl rfl rfl) ?_ ⟨_,rfl,?_⟩
 .cases q:tQ [.lst Bt] with
  | ok d=>
    rw[q] at q5;cases q':Ic d (.int 1) with
    | ok d'=>
      rw[R.aP,q',R.aP] at q5;exact au (aq (aj (au rfl q) rfl q') rfl) q5
    | no=>rw [R.aP,q'] at q5;cases q5
    | ex _=>rw [R.aP,q'] at q5;cases q5
  | no=>rw [q] at q5;cases q5
  | ex _=>rw [q] at q5;cases q5
 rw[q6];refine iQ rfl ⟨_,Ks hq⟩<|cn (GZ rfl$ aj rfl rfl$ T9 i T) ⟨_,_,rfl,Ks hq,by rw[Qaa];omega,_,_,_,xI ["and","or","xor","not"] [mn,mx,sm,ZL],rfl,?_⟩
 rw[Qam];rfl
theorem qj{bad:Nat->Bool}:∀(l:List Bool) (k:Nat),(l.zipIdx k).map (λx=>x.1 !=bad x.2)=cW k bad l
 | [],_=>rfl
 | b ::l,k=>by
   rw[List.zipIdx_cons,Qaz,qj l$ k+1];rfl
def Of(NO:iM ins gs os)(hb:bits.length=ins.length)(hS:yO S){Q:V3->bp->Prop}(h:Q (.d$ .lst$ (lp ins gs bits (λi=>T.contains i)$ λi=>B.contains i).map bI) S) :
 W3 (pI [.d$ a_ ins gs os, .d$ .tup$ bits.map bI, .d$ .tup$ T.map nI, .d$ .tup$ B.map nI] S) Q:=by
 have hz:=Qas;have hi:=NO.hi;have hg:=NO.hg;have hwd:=ud NO.hw;refine iR hS$ Cc rfl ?_;simp only[dn,nL,List.map,List.length,List.replicate,QaO,Qa2,Nat.reduceAdd,Nat.reduceSub];refine aJ<|bu (by simp)<|jR rfl ⟨_,rfl,?_⟩
 refine aJ<|dS<|fj (ds:=(bits.zip ins).map λq=>D.tup [bI q.1,MT.inD q.2]) (by rw[<-Ue];rfl) ?_
 refine(bQ (λi δ S2=>∃(X:bp) (q:Nat) (a5 a6:Option V3),S2=S++X/\S.length<=q/\S2[q]? =some (.lst$ (Ce (ins.take i)$ bits.take i).map bI)/\δ=tE (a_ ins gs os) (.tup$ bits.map bI) (.tup$ T.map nI) (.tup$ B.map nI) q a5 a6 none none none none)
  ⟨[SO.lst []],S.length,none,none,rfl,Qak _,aO _ _,rfl⟩ ?_).mono λo S2 ⟨c_,fG,X,q,a5,a6,lG,hq,hSq,iS⟩=>⟨c_,fG,?_⟩
 .rintro i v δ S2 hv ⟨X,q,a5,a6,rfl,hq,hSq,rfl⟩;obtain⟨z,vx,rfl⟩:=NT.cQ hv;rw[Qc6] at vx;obtain⟨z1,z2⟩:=vx;have hil:=(Qae.mp z2).1;have hw:=NO.hw z.2$ Qap z2;have hl:(ins.take i).length=(bits.take i).length:=by rw[QaB,QaB,hb]
  have hln:=sk hl;have Pm:dk (ins.take i)<=100*(ins.take i).length:=ud λy hy=>NO.hw y$ Qbr hy
  have htl:(ins.take i).length<=i:=by rw[QaB];omega
  refine⟨tE (a_ ins gs os) (.tup$ bits.map bI) (.tup$ T.map nI) (.tup$ B.map nI) q (some$ .d$ bI z.1) (some$ .d$ MT.inD z.2) none none none none,rfl,?_⟩;refine bu (by simp)<|Vu<|w_var rfl<|cn (bK$ (Pz (qd rfl$ by simp;omega) rfl (by omega)$ by simp;omega).trans$ by rw[Qx]) ⟨(Ce (ins.take i)$ bits.take i).map bI,List.replicate z.2.2$ bI z.1,Sj hSq,rfl,by rw[Qaa,Qba];omega,?_⟩
  refine⟨_,rfl,X++[SO.lst$ (Ce (ins.take i)$ bits.take i).map bI++List.replicate z.2.2 (bI z.1)],(S++X).length,some$ .d$ bI z.1,some$ .d$ MT.inD z.2,QaL _ _ _,by rw[Qai];omega,?_,rfl⟩
  rw[aO,QaI,QaI,z1,z2];rw[Bw _ _ hl,Qam];show _=some (SO.lst$ _++(List.replicate z.2.2 z.1++[]).map bI);rw[QaV,List.map_replicate]
 have hlz:((bits.zip ins).map λq=>D.tup [bI q.1,MT.inD q.2]).length=ins.length:=by rw[Qaa,List.length_zip];omega
 rw[Qaa,hlz,QaY,<-hb,QaY] at hSq;subst iS lG;have hw0:=sk hb.symm;have hwe:lp ins gs bits (λi=>T.contains i) (λi=>B.contains i)=cu gs (λi=>T.contains i) (cW 0 (λi=>B.contains i)$ Ce ins bits):=rfl
 rw[hwe] at h;generalize Ce ins bits=w0 at hSq hw0 h;have hen:er (w0.map bI)=w0.zipIdx.map λx=>D.tup [nI x.2,bI x.1]:=J9
 refine aJ<|bu (by simp)<|Q_ (ds:=(cW 0 (λi=>B.contains i) w0).map bI) ?_ (Qg _) ⟨_,rfl,?_⟩
 .refine bF (ds:=w0.zipIdx.map λx=>D.tup [nI x.2,bI x.1]) ?_ ?_ ?_
  .show f7 (af 4) _=_;unfold f7;rw[qG rfl$ uZ hSq,<-hen];rfl
  .rw [Qaa,Qa4];omega
  .rw [<-qj w0 0,show(w0.zipIdx.map λx=>x.1 !=B.contains x.2).map bI=w0.zipIdx.map λx=>bI (x.1 !=B.contains x.2) from Qar]
   exact NT.bc (λx:Bool × Nat=>D.tup [nI x.2,bI x.1]) _ λx hx=>⟨[.val$ nI x.2, .val$ bI x.1, .val$ .tup$ B.map nI],rfl,rfl,GZ rfl$ aj rfl rfl$ T9 _ _⟩
 have WL:(cW 0 (λi=>B.contains i) w0).length=dk ins:=by rw[uk,hw0]
 generalize cW 0 (λi=>B.contains i) w0=w1 at WL h
 refine aJ<|dS<|fj (ds:=gs.zipIdx.map λx=>D.tup [nI x.2,gS x.1]) (by rw[<-J9];exact xr rfl) ?_
 refine(bQ (λi δ S2=>∃(X:bp) (q:Nat) (a5 a6 a7 a8 a9 rR:Option V3),S2=S++X/\S.length<=q/\S2[q]? =some (.lst$ (cu (gs.take i) (λi=>T.contains i) w1).map bI)/\δ=tE (a_ ins gs os) (.tup$ bits.map bI) (.tup$ T.map nI) (.tup$ B.map nI) q a5 a6 a7 a8 a9 rR)
  ⟨X++[SO.lst$ w1.map bI],(S++X).length,a5,a6,none,none,none,none,QaL _ _ _,by rw[Qai];omega,aO _ _,rfl⟩ ?_).mono λo S2 ⟨c_,fG,X,q,b5,b6,b7,b8,b9,Hr,lG,hq,hSq,iS⟩=>⟨c_,fG,?_⟩
 .rintro i v δ S2 hv ⟨X,q,b5,b6,b7,b8,b9,Hr,rfl,hq,hSq,rfl⟩;obtain⟨⟨g,k⟩,vx,rfl⟩:=NT.cQ hv;rw[Qbd] at vx;cases hgi:gs[i]? with
  | none=>rw [hgi] at vx;cases vx
  | some g'=>
    rw[hgi] at vx;simp at vx;obtain⟨rfl,rfl⟩:=vx;have hil:=(Qae.mp hgi).1;have hrn:(cu (gs.take i) (λn=>T.contains n) w1).length=dk ins+i:=by rw[jt,WL,QaB];omega
    have hnx:cu (gs.take$ i+1) (λn=>T.contains n) w1=cu (gs.take i) (λn=>T.contains n) w1++[gB g' (cu (gs.take i) (λn=>T.contains n) w1) !=T.contains i]:=by
     rw[QaI,hgi,tL,QaB,Qcl$ by omega];rfl
    refine⟨tE (a_ ins gs os) (.tup$ bits.map bI) (.tup$ T.map nI) (.tup$ B.map nI) q b5 b6 (some$ .d$ nI i) (some$ .d$ gS g') b9 Hr,rfl,?_⟩;refine(IW (by rw[hrn];exact NO.g i g' hgi) hSq$ by rw[hrn];omega).mono λo S4 ⟨c5,c9,c10,dd,eo,WO⟩=>⟨_,eo,(X++[SO.dct dd]).set (q - S.length) (.lst$ (cu (gs.take$ i+1) (λn=>T.contains n) w1).map bI),q,_,_,_,_,_,_,?_,hq,?_,rfl⟩
    .rw [WO,QaL,RX hq,hnx]
    .rw [WO,Qau (by have:=(Qae.mp hSq).1;rw [Qai];omega),hnx]
 have hlz2:(gs.zipIdx.map λx=>D.tup [nI x.2,gS x.1]).length=gs.length:=by rw[Qaa,Qa4]
 rw[Qaa,hlz2,QaY] at hSq;subst iS lG;refine fM<|w_var rfl ⟨.loc q,rfl,?_,⟨_,rfl⟩,_,uZ hSq,h⟩
 exact Qat hq
def vc(os:Aad)(ws:List Bool):List D:=os.map λx=> .tup$ (bJ ws x.2).map bI
def KQ(NO:iM ins gs os)(hb:bits.length=ins.length)(hS:yO S){Q:V3->bp->Prop}(h:Q (.d$ .lst$ vc os$ lp ins gs bits (λi=>T.contains i)$ λi=>B.contains i) S) :
 W3 (jr [.d$ a_ ins gs os, .d$ .tup$ bits.map bI, .d$ .tup$ T.map nI, .d$ .tup$ B.map nI] S) Q:=by
 have hz:=Qas;have hWl:(lp ins gs bits (λi=>T.contains i)$ λi=>B.contains i).length=dk ins+gs.length:=by
  unfold lp;rw[jt,uk,sk hb.symm]
 have hol:=NO.ho;refine iR hS$ Cc rfl ?_;simp only[dn,nu,List.map,List.length,List.replicate,QaO,Qa2,Nat.reduceAdd,Nat.reduceSub];refine aJ<|bu (by simp)<|dC<|aM<|cn rfl<|aM<|cn rfl<|aM<|cn rfl<|aM<|cn rfl<|di ?_
 refine Of NO hb hS ?_;generalize lp ins gs bits (λi=>T.contains i) (λi=>B.contains i)=W at hWl h ⊢
 refine⟨_,rfl,?_⟩;refine fM<|cn (bK$ bF (eN$ aj rfl rfl rfl) (by rw[Qaa];omega) ?_) ⟨.d$ .lst$ vc os W,rfl,by unfold iA;rfl,⟨[],by simp⟩,_,by unfold res;rfl,h⟩
 refine NT.bc oz _ λx hx=>⟨[.val$ .str x.1, .val$ .tup$ x.2.map nI, .val$ .lst$ W.map bI],rfl,rfl,?_⟩
 obtain⟨h1,h2⟩:=NO.o x hx;refine au (aq (bK$ bF (uj rfl) (by rw[Qaa];omega) ?_) rfl) rfl
 unfold bJ;rw[show(x.2.map λn=>W.getD n false).map bI=x.2.map λn=>bI (W.getD n false) from Qar]
 exact NT.bc nI _ λn hn=>⟨[.val$ nI n, .val$ .lst$ W.map bI],rfl,rfl,aj rfl rfl$ Pw$ by rw[hWl];exact h2 n hn⟩
def Gs{p:Nat}(hc:ins.length<=4)(hp:p<2 ^ ins.length):i5 [a_ ins gs os,nI p]= .ok (.tup$ (iO ins.length p).map bI):=by
 have hz:=Qas;rw[Ja hc hp];refine cL (bx (cT (au (aq (aj rfl rfl rfl) rfl)$ by rw[c7,Qaa])$ by simp [cA,rm]) (cv$ au (aq (bK$ bF (fY rfl$ by omega) (by rw[Qaa,Qaq];omega) ?_) rfl) rfl))
 exact NT.bc nI _ λk hk=>⟨[.val$ nI k, .val$ nI p, .val$ nI ins.length],rfl,rfl,aj (aj rfl (aj (aj (b:=nI 1) rfl rfl$ wD (by have:=QaM.mp hk;omega)) rfl$ wD (by have:=QaM.mp hk;omega))$ Uq _ _) rfl$ SS _⟩
end
def NC(a b:Bool):vX (bI a) (bI b)= .ok (.bl$ a !=b):=by cases a <;> cases b <;> rfl
def GI{a b c:Bool}{k:Nat}(hk:k<3):bz (.tup [bI a,bI b,bI c]) (nI k)= .ok (bI$ [a,b,c].getD k false):=by
 match k,hk with
 | 0,_=>rfl
 | 1,_=>rfl
 | 2,_=>rfl
def uV{c:Nat}{ins:Aac}{gs:List Gt}(hc:ins.length=c)(h3:∀x∈ins,x.2=3){p:Nat}(hp:p<2 ^ c)(f:List Nat × List Nat):lp ins gs (iO c p) (λi=>f.2.contains i) (λi=>f.1.contains i)=gT c gs f p:=by
 unfold lp gT;rw[Bg h3$ by rw[eh hp,hc]]
def find_some{α β:Type}{l:List α}{p:α->Bool}{g:α->β}:l.findSome? (λx=>if p x then some (g x) else none)=(l.find? p).map g:=by
 induction l with
 | nil=>rfl
 | cons x l ih=>
   rw[QcS,Qbf];cases p x with
   | true=>rfl
   | false=>exact ih
def Af{c p:Nat}(hp:p<2 ^ c){f:Nat->D}:bz (.lst$ (List.range$ 2 ^ c).map f) (nI p)= .ok (f p):=NT.dP (by rw[Qac,Qci hp];rfl)
def Rc(c:Nat)(gs:List Gt)(os:Aad)(p:Nat):D:= .lst$ vc os$ ma c gs p
def OJ{os:Aad}{ws vs:List Bool}:vD (vc os ws) (vc os vs)=os.map λx=>D.tup [.tup$ (bJ ws x.2).map bI, .tup$ (bJ vs x.2).map bI]:=by
 unfold vD vc;rw[List.zip_map',Qar];rfl
section
variable {c:Nat}{ins:Aac}{gs:List Gt}{os:Aad}{S:bp}
def M5{x:Str × List Nat}{ws vs:List Bool}{a0 a1 a2 a3 a4 a5:Option V3}(h3:x.2.length=3) :
 W3 (uW [a0,a1,a2,a3,a4,a5,some$ .d$ .tup$ (bJ ws x.2).map bI,some$ .d$ .tup$ (bJ vs x.2).map bI] S) λo S1=>S1=S/\(match (if lst (bJ ws x.2) (bJ vs x.2) then some (V3.d$ .bl true) else none) with | some v=>o= .rt v | none=>∃c_,o= .nx c_/\∃b6 b7,c_=[a0,a1,a2,a3,a4,a5,b6,b7]):=by
 have hz:=Qas;obtain⟨n0,n1,n2,ex⟩:=three h3;have e0:bJ ws x.2=[ws.getD n0 false,ws.getD n1 false,ws.getD n2 false]:=by rw[ex];rfl
 have e1:bJ vs x.2=[vs.getD n0 false,vs.getD n1 false,vs.getD n2 false]:=by rw[ex];rfl
 rw[e0,e1];generalize ws.getD n0 false=p0;generalize ws.getD n1 false=p1;generalize ws.getD n2 false=p2;generalize vs.getD n0 false=q0;generalize vs.getD n1 false=q1;generalize vs.getD n2 false=q2;generalize iS:down [a0,a1,a2,a3,a4,a5,some$ .d$ .tup$ [p0,p1,p2].map bI,some$ .d$ .tup$ [q0,q1,q2].map bI]=δ;have hcE:t9 ["k"] [6,7] δ=[.un, .val$ .tup [bI p0,bI p1,bI p2], .val$ .tup [bI q0,bI q1,bI q2]]:=by rw[<-iS];rfl
 have hcmp:bX (bZ$ eC$ .int 3) (aC 0) (b2 vX (e2 bz (af 1)$ af 0)$ e2 bz (af 2)$ af 0) (af 0) ["k"] [6,7] δ= .ok (((List.range 3).filter λk=>[p0,p1,p2].getD k false !=[q0,q1,q2].getD k false).map nI):=by
  refine bF (fY (n:=3) rfl$ by omega) (by simp;omega) ?_
  rw[hcE];exact NT.nH _ nI _ λk hk=>⟨[.val$ nI k, .val$ .tup [bI p0,bI p1,bI p2], .val$ .tup [bI q0,bI q1,bI q2]],rfl,de (aj rfl rfl$ GI$ QaM.mp hk) (aj rfl rfl$ GI$ QaM.mp hk)$ NC _ _,λ_=>rfl⟩
 have hb:b2 Ic (aD cP$ ah (eNew$ bX (bZ$ eC$ .int 3) (aC 0) (b2 vX (e2 bz (af 1)$ af 0)$ e2 bz (af 2)$ af 0) (af 0) ["k"] [6,7]) ax) (eC$ .int 1) δ= .ok (lst [p0,p1,p2] [q0,q1,q2]):=by
  refine de (b:=nI 1) (au (aq (bK hcmp) rfl)$ by rw[c7,Qaa]) rfl ?_
  cases p0 <;> cases p1 <;> cases p2 <;> cases q0 <;> cases q1 <;> cases q2 <;> rfl
 refine oH<|qo (by rw[iS];exact hb) ?_
 cases hl:lst [p0,p1,p2] [q0,q1,q2] with
 | true=>rw [QaK rfl];exact fM<|cn rfl ⟨rfl,rfl⟩
 | false=>rw [QaH$ by decide];exact fI ⟨rfl,_,rfl,_,_,rfl⟩
def Q3{f:List Nat × List Nat}{p:Nat}(NO:iM ins gs os)(hc:ins.length=c)(Jk:c<=4)(h3:∀x∈ins,x.2=3)(hp:p<2 ^ c)(ho:∀x∈os,x.2.length=3)(hS:yO S){Q:V3->bp->Prop}(h:Q (.d$ .bl$ lr c gs os f p) S) :
 W3 (rn [.d$ a_ ins gs os, .d$ nI p, .d$ cq f.2, .d$ cq f.1, .d$ .lst$ (List.range$ 2 ^ c).map$ Rc c gs os] S) Q:=by
 refine iR hS$ Cc rfl ?_;simp only[dn,qi,List.map,List.length,List.replicate,QaO,Qa2,Nat.reduceAdd,Nat.reduceSub];subst hc;refine aJ<|bu (by simp)<|dC<|aM<|cn rfl<|aM<|cn (au rfl$ Gs Jk hp)<|aM<|cn rfl<|aM<|cn rfl<|di ?_
 refine KQ NO (eh hp) hS ?_;rw[uV rfl h3 hp f];refine⟨_,rfl,?_⟩;simp;refine AN<|dS<|fj (ds:=os.map λx=>D.tup [.tup$ (bJ (ma ins.length gs p) x.2).map bI, .tup$ (bJ (gT ins.length gs f p) x.2).map bI]) ?_ ?_
 .rw [<-OJ];unfold D9;rw[show e2 bz (af 4) (af 1) (down [some$ .d$ a_ ins gs os,some$ .d$ nI p,some$ .d$ cq f.2,some$ .d$ cq f.1,some$ .d$ .lst$ (List.range$ 2 ^ ins.length).map$ Rc ins.length gs os,some$ .d$ .lst$ vc os$ gT ins.length gs f p,none,none])= .ok (Rc ins.length gs os p) from aj rfl rfl (Af hp)]
  rfl
 rw[Qar];refine(iZ _ (λx:Str × List Nat=>if lst (bJ (ma ins.length gs p) x.2) (bJ (gT ins.length gs f p) x.2) then some (V3.d$ .bl true) else none) (λδ=>∃b6 b7,δ=[some$ .d$ a_ ins gs os,some$ .d$ nI p,some$ .d$ cq f.2,some$ .d$ cq f.1,some$ .d$ .lst$ (List.range$ 2 ^ ins.length).map$ Rc ins.length gs os,some$ .d$ .lst$ vc os$ gT ins.length gs f p,b6,b7]) ⟨_,_,rfl⟩ ?_).mono λo S1 ⟨e1,h1⟩=>?_
 .rintro x hx δ ⟨b6,b7,rfl⟩;exact⟨_,rfl,M5$ ho x hx⟩
 subst e1;rw[find_some] at h1;have hl:lr ins.length gs os f p=(os.find? λx=>lst (bJ (ma ins.length gs p) x.2)$ bJ (gT ins.length gs f p) x.2).isSome:=by
  unfold lr;rw[Qbi,List.any_eq_true,List.find?_isSome]
 rw[hl] at h;cases hf:os.find? λx=>lst (bJ (ma ins.length gs p) x.2) (bJ (gT ins.length gs f p) x.2) with
 | some x=>
   rw[hf] at h1 h;subst h1;exact⟨_,rfl,rfl,⟨[],by simp⟩,_,rfl,h⟩
 | none=>
   rw[hf] at h1 h;obtain⟨c_,rfl,b6,b7,rfl⟩:=h1;exact fM<|cn rfl ⟨_,rfl,rfl,⟨[],by simp⟩,_,rfl,h⟩
end
noncomputable def lK:Nat->Aae
 | 0=>[[]]
 | i+1=>lK i++(List.range 3).flatMap λj=>(lK i).map λb=>b++[3*i+j]
def tP(b:List Nat):D:= .tup [nI b.length,cq b]
def Ge(c:Nat):Aae:=[] ::(List.range' 1 c).flatMap λm=>tU 0 (3*c) m
def DR:∀c∈List.range 4,(lK c).length<=64/\∀b∈lK c,b.length<=c:=by decide+kernel
noncomputable def ME(b:List Nat):Int × List Int:=((b.length:Nat),b.map λ(n:Nat)=>(n:Int))
def Ni(b:List Nat):Vw (tP b)=some (ME b):=by
 show(ints?$ b.map nI).map _=_;have e:b.map nI=(b.map λ(n:Nat)=>(n:Int)).map D.int:=(Qar).symm
 rw[e,L2.ints_map];rfl
theorem zx:∀l:Aae,IX (l.map tP)=some (l.map ME)
 | []=>rfl
 | b ::l=>by
   show(Vw$ tP b).bind _=_;rw[Ni,zx l];rfl
def ord(c:Nat):Option (Array Nat):=KR$ (lK c).map ME
def NL:∀c∈[1,2],∃p∈ord c,(p.toList.map λi=>(lK c).getD i [])=Ge c/\(p.toList.all λi=>decide$ i<((lK c).map ME).length)=true/\p.toList.length<64/\2<=(lK c).length/\(lK c).length<64:=by
 intro c hc;simp at hc;rcases hc with rfl | rfl
 .exact⟨#[0,1,2,3],by decide+kernel,by decide+kernel,by decide+kernel,by decide+kernel,by decide+kernel,by decide+kernel⟩
 .refine⟨(ord 2).getD #[],?_,by decide+kernel,by decide+kernel,by decide+kernel,by decide+kernel,by decide+kernel⟩
  have:(ord 2).isSome=true:=by decide+kernel
  cases q:ord 2 with
  | none=>rw [q] at this;cases this
  | some p=>exact rfl
def NP{c:Nat}(hc:c=1\/c=2):BY [.lst$ (lK c).map tP]= .ok (.lst$ (Ge c).map tP):=by
 obtain⟨p,p1,p2,p3,p4,p5,p6⟩:=NL c (by rcases hc with rfl | rfl <;> simp)
 have p1:KR ((lK c).map ME)=some p:=p1;show(match IX ((lK c).map tP) with | some ps=>R.bH (decide$ 2<=ps.length/\ps.length<64) (match KR ps with | some p=>R.bH (p.toList.all (λi=>decide$ i<ps.length) && decide (p.toList.length<64)) (R.ok$ D.lst$ p.toList.map λi=>((lK c).map tP).getD i D.cY) | none=>R.no) | none=>R.no)=_
 rw[zx];show R.bH (decide$ 2<=((lK c).map ME).length/\((lK c).map ME).length<64) (match KR ((lK c).map ME) with | some p=>R.bH (p.toList.all (λi=>decide$ i<((lK c).map ME).length) && decide (p.toList.length<64)) (R.ok$ D.lst$ p.toList.map λi=>((lK c).map tP).getD i D.cY) | none=>R.no)=_
 rw[cm _ (by rw[Qaa];exact⟨p5,p6⟩),p1]
 show R.bH (p.toList.all (λi=>decide$ i<((lK c).map ME).length) && decide (p.toList.length<64)) (R.ok$ D.lst$ p.toList.map λi=>((lK c).map tP).getD i D.cY)=_
 rw[p3,Qat p4];show R.ok (D.lst$ p.toList.map λi=>((lK c).map tP).getD i .cY)=_
 rw[<-p2,Qar];congr 2;refine QaS λi hi=>?_
 have hlt:=Qal$ Qbq.mp p3 i hi;rw[Qaa] at hlt;show((lK c).map tP).getD i .cY=tP ((lK c).getD i []);rw[Qag,Qac,Qag,Qab hlt];rfl
def VB{a b:List D}(h:a.length+b.length<=sizeLine):gr (.lst a) (.lst b)= .ok (.lst$ a++b):=As h
def IC{c:Nat}(hc3:c<=3):l5 [nI c]= .ok (.lst$ (lK c).map cq):=by
 have hz:=Qas;refine cL (bx (cT rfl$ by simp [cA,oU]) ?_)
 obtain⟨δ1,e1,a2,a3,a4,lL⟩:=eg (t:=aC 2) (body:=qP) (ds:=(List.range c).map nI)
  (λi δ=>∃a2 a3 a4,δ=[.val$ nI c, .val$ .lst$ (lK i).map cq,a2,a3,a4]) (δ:=[.val$ nI c, .val$ .lst$ (lK 0).map cq, .un, .un, .un]) ⟨_,_,_,rfl⟩ (by
    rintro i d δ hd ⟨a2,a3,a4,rfl⟩;obtain⟨i',ZS,rfl⟩:=NT.lW hd;obtain⟨hil,ei⟩:=Qae.mp ZS;rw[Qbp] at ei;subst ei;rw[Qaq] at hil;obtain⟨b1,b2'⟩:=DR i (QaM.mpr$ by omega)
    rw[show aC 2 (nI i) [.val$ nI c, .val$ .lst$ (lK i).map cq,a2,a3,a4]= .ok [.val$ nI c, .val$ .lst$ (lK i).map cq, .val$ nI i,a3,a4] from rfl,R.aP]
    let F:Nat->Aae:=λj=>lK i++((List.range 3).take j).flatMap λj=>(lK i).map λb=>b++[3*i+j]
    have hFl:∀j,(F j).length<=4*64:=λj=>by
     rw[Qai,QbL];have:=wq (l:=(((List.range 3).take j).map λj=>((lK i).map λb=>b++[3*i+j]).length)) λx hx=>by
      obtain⟨b,_,rfl⟩:=QaC.mp hx;rw[Qaa];exact b1
     rw[Qaa,QaB,Qaq] at this;omega
    obtain⟨c_,fG,c4,Jq⟩:=eg (t:=aC 4) (body:=qA)
     (λj δ=>∃c4,δ=[.val$ nI c, .val$ .lst$ (lK i).map cq, .val$ nI i, .val$ .lst$ (F j).map cq,c4]) (δ:=[.val$ nI c, .val$ .lst$ (lK i).map cq, .val$ nI i, .val$ .lst$ (lK i).map cq,a4]) ⟨a4,by simp [F]⟩ (by
       rintro j d δ hd ⟨c4,rfl⟩;obtain⟨w,hw,rfl⟩:=NT.lW hd;have hFj:=hFl j;have hFs:F (j+1)=F j++(lK i).map λb=>b++[3*i+w]:=by
        show lK i++((List.range 3).take$ j+1).flatMap _=_;rw[QaI,hw,QbX];simp [F]
       refine⟨[.val$ nI c, .val$ .lst$ (lK i).map cq, .val$ nI i, .val$ .lst$ (F$ j+1).map cq, .val$ nI w],?_,⟨_,rfl⟩⟩;rw[show aC 4 (nI w) [.val$ nI c, .val$ .lst$ (lK i).map cq, .val$ nI i, .val$ .lst$ (F j).map cq,c4]= .ok [.val$ nI c, .val$ .lst$ (lK i).map cq, .val$ nI i, .val$ .lst$ (F j).map cq, .val$ nI w] from rfl,R.aP,hFs]
       generalize F j=L at hFj;refine(cT (aj (b:= .lst$ ((lK i).map λb=>b++[3*i+w]).map cq) rfl (bK$ bF rfl (by rw[Qaa];omega) ?_) ?_) (by simp)).trans rfl
       .rw [show((lK i).map λb=>b++[3*i+w]).map cq=(lK i).map λb=>cq (b++[3*i+w]) from Qar]
        refine NT.bc cq _ λb hb=>⟨[.val$ cq b, .val$ nI i, .val$ nI w],rfl,rfl,aj rfl (bM (aq (aj (aj (a:=nI 3) rfl rfl$ yn$ .inr$ by omega) rfl$ jT _ _) rfl)$ by simp;omega) ?_⟩
        have hbl:=b2' b hb;refine(BL$ by rw[Qaa];simp;omega).trans ?_
        unfold cq;rw[Qam];rfl
       .refine(VB$ by rw[Qaa,Qaa,Qaa];omega).trans ?_
        rw[<-Qam])
    refine⟨_,bx (cT (au rfl rfl)$ by simp) (bx (iz (fY (n:=3) rfl$ by omega) fG)$ cT (d:= .lst$ (lK$ i+1).map cq) ?_ ?_),⟨.val$ nI i, .val$ .lst$ (lK$ i+1).map cq,c4,?_⟩⟩
    .rw [Jq];rfl
    .rw [Jq];simp
    .rw [Jq];rfl)
 refine bx (iz (fY rfl$ by omega) e1) ?_
 rw[Qaa,Qaq] at lL;subst lL;exact cv rfl
end K44
end
section
set_option maxHeartbeats 2000000
namespace K44
open PySem PySem.Spec PyProof.Rows L2 L3 MT JT
section
variable {c:Nat}{ins:Aac}{gs:List Gt}{os:Aad}{S:bp}
def Lf(a b c:Bool):Mb (.tup [bI a,bI b,bI c]) (.lst [.tup [.int 0, .int 0, .int 0], .tup [.int 1, .int 1, .int 1]])= .ok (.bl$ A5 [a,b,c]):=by
 cases a <;> cases b <;> cases c <;> rfl
def X5(l:List Bool):dO 1 (.tup$ l.map bI):=dO.tup λd hd=>by obtain⟨b,_,rfl⟩:=QaC.mp hd;exact dO.int _
def ne_nil{l:List (List Bool)}:vX (.lst$ l.map λb=> .tup$ b.map bI) (.lst [])= .ok (.bl$ !l.isEmpty):=by
 have f1:dO 2 (.lst$ l.map λb=> .tup$ b.map bI):=dO.lst λd hd=>by obtain⟨b,_,rfl⟩:=QaC.mp hd;exact X5 b
 have f2:dO 2 (.lst []):=dO.lst λd hd=>by cases hd
 show(C8 (.lst _)$ .lst []).bind _=_;rw[AE,f1.pl,f2.pl,f1.sh (by omega),f2.sh$ by omega]
 cases l <;> rfl
abbrev dE(ins:Aac)(c:Nat)(gs:List Gt)(os:Aad)(a2 a3 a4 a5 a6:Option V3):DE:=[some$ .d$ a_ ins gs os,some$ .d$ .lst$ (List.range$ 2 ^ c).map$ Rc c gs os,a2,a3,a4,a5,a6]
def I_{a3 a4 a5 a6:Option V3}{p:Nat}(hp:p<2 ^ c)(ho:∀x∈os,x.2.length=3)(hO:os.length<1000) :
 W3 (qE (dE ins c gs os (some$ .d$ nI p) a3 a4 a5 a6) S) λo S1=>S1=S/\(match (if xY c gs os p then some (V3.d$ mh$ some ([],[],p)) else none) with | some v=>o= .rt v | none=>∃c_,o= .nx c_/\∃b2,c_=dE ins c gs os b2 a3 a4 a5 a6):=by
 have hz:=Qas
 let ws:=ma c gs p
 have hcmp:bX (cb$ e2 bz (af 1)$ af 2) (aC 0) (b2 Mb (af 0)$ eNew$ eF$ ah (b_$ ah (eC$ .int 0)$ ah (eC$ .int 0)$ ah (eC$ .int 0) ax)$ ah (b_$ ah (eC$ .int 1)$ ah (eC$ .int 1)$ ah (eC$ .int 1) ax) ax) (af 0) ["bits"] [] (down$ dE ins c gs os (some$ .d$ nI p) a3 a4 a5 a6)= .ok ((((os.filter λx=>A5$ bJ ws x.2).map λx=>bJ ws x.2)).map λb=> .tup$ b.map bI):=by
  refine bF (ds:=os.map λx=> .tup$ (bJ ws x.2).map bI) (eN$ aj rfl rfl$ Af hp) (by rw[Qaa];omega) ?_
  rw[Qar];refine NT.nH (λx:Str × List Nat=>A5$ bJ ws x.2) (λx:Str × List Nat=> .tup$ (bJ ws x.2).map bI) _ λx hx=>⟨[.val$ .tup$ (bJ ws x.2).map bI],rfl,?_,λ_=>rfl⟩
  obtain⟨n0,n1,n2,ex⟩:=three$ ho x hx;rw[ex];exact de rfl rfl$ Lf _ _ _
 have hb:b2 vX (eNew$ bX (cb$ e2 bz (af 1)$ af 2) (aC 0) (b2 Mb (af 0)$ eNew$ eF$ ah (b_$ ah (eC$ .int 0)$ ah (eC$ .int 0)$ ah (eC$ .int 0) ax)$ ah (b_$ ah (eC$ .int 1)$ ah (eC$ .int 1)$ ah (eC$ .int 1) ax) ax) (af 0) ["bits"] []) (eNew$ eF ax) (down$ dE ins c gs os (some$ .d$ nI p) a3 a4 a5 a6)= .ok (xY c gs os p):=by
  refine de (bK hcmp) rfl$ ne_nil.trans ?_;congr 2;show(!((os.filter λx=>A5$ bJ ws x.2).map λx=>bJ ws x.2).isEmpty)=os.any λx=>A5$ bJ ws x.2
  rw[Qbi];simp only[List.isEmpty_map,Bool.not_eq_true',List.any_eq_true];constructor
  .intro h;cases hf:os.filter λx=>A5 (bJ ws x.2) with
   | nil=>rw [hf] at h;cases h
   | cons x l=>
     have:x∈os.filter λx=>A5 (bJ ws x.2):=by rw[hf];exact Qan
     obtain⟨h1,h2⟩:=Qbb.mp this;exact⟨x,h1,h2⟩
  .rintro⟨x,h1,h2⟩;have:x∈os.filter λx=>A5 (bJ ws x.2):=Qbb.mpr ⟨h1,h2⟩
   cases hf:os.filter λx=>A5 (bJ ws x.2) with
   | nil=>rw [hf] at this;cases this
   | cons x l=>rfl
 refine oH<|qo hb ?_
 cases hu:xY c gs os p with
 | true=>
   exact fM<|cn (bM rfl$ by simp;omega) ⟨rfl,rfl⟩
 | false=>
   exact fI ⟨rfl,_,rfl,_,rfl⟩
def ON{a3 a4:Option V3}{p:Nat}{f:List Nat × List Nat}(NO:iM ins gs os)(hc:ins.length=c)(Jk:c<=4)(h3:∀x∈ins,x.2=3)(hp:p<2 ^ c)(ho:∀x∈os,x.2.length=3)(hS:yO S) :
 W3 (qH (dE ins c gs os (some$ .d$ nI p) a3 a4 (some$ .d$ cq f.1)$ some$ .d$ cq f.2) S) λo S1=>S1=S/\(match (if lr c gs os f p then some (V3.d$ mh$ some (f.1,f.2,p)) else none) with | some v=>o= .rt v | none=>∃c_,o= .nx c_/\∃b2,c_=dE ins c gs os b2 a3 a4 (some$ .d$ cq f.1) (some$ .d$ cq f.2)):=by
 have hz:=Qas;refine oH<|UL<|dC<|aM<|cn rfl<|aM<|cn rfl<|aM<|cn rfl<|aM<|cn rfl<|aM<|cn rfl<|di<|Q3 NO hc Jk h3 hp ho hS ⟨_,_,rfl,rfl,?_⟩
 cases hu:lr c gs os f p with
 | true=>
   exact fM<|cn (bM rfl$ by simp;omega) ⟨rfl,rfl⟩
 | false=>
   exact fI ⟨rfl,_,rfl,_,rfl⟩
def O3{a2 a3 a4:Option V3}{f:List Nat × List Nat}(NO:iM ins gs os)(hc:ins.length=c)(h3:∀x∈ins,x.2=3)(Jk:c<=4)(ho:∀x∈os,x.2.length=3)(hS:yO S) :
 W3 (qQ (dE ins c gs os a2 a3 a4 (some$ .d$ cq f.1)$ some$ .d$ cq f.2) S) λo S1=>S1=S/\(match (oE c gs os f).map λr=>V3.d (mh$ some r) with | some v=>o= .rt v | none=>∃c_,o= .nx c_/\∃b2 b5 b6,c_=dE ins c gs os b2 a3 a4 b5 b6):=by
 have Mt:2 ^ c<=16:=QbB (by omega) Jk
 refine dS<|fj (fY (au rfl$ by rw[c7,Qaa,Qaq])$ by omega) ?_
 rw[Qar];refine(iZ (V3.d ∘ nI) (λp=>if lr c gs os f p then some (V3.d$ mh$ some (f.1,f.2,p)) else none) (λδ=>∃b2,δ=dE ins c gs os b2 a3 a4 (some$ .d$ cq f.1) (some$ .d$ cq f.2)) ⟨_,rfl⟩ ?_).mono λo S1 ⟨e1,h1⟩=>⟨e1,?_⟩
 .rintro p hp δ ⟨b2,rfl⟩;exact⟨_,rfl,ON NO hc Jk h3 (QaM.mp hp) ho hS⟩
 .rw [find_some] at h1;unfold oE;cases hh:(List.range$ 2 ^ c).find? (lr c gs os f) with
  | none=>
    rw[hh] at h1;obtain⟨c_,e2,b2,e3⟩:=h1;exact⟨c_,e2,_,_,_,e3⟩
  | some p=>rw [hh] at h1;exact h1
def ue(NO:iM ins gs os)(hc:ins.length=c)(Ei:c=1\/c=2)(h3:∀x∈ins,x.2=3)(ho:∀x∈os,x.2.length=3)(hS:Flat S){Q:V3->bp->Prop}(h:Q (.d$ mh$ fu c gs os) S):W3 (jU [.d$ a_ ins gs os] S) Q:=by
 have hz:=Qas;have Jk:c<=4:=by omega
 have Mt:2 ^ c<=16:=QbB (by omega) Jk
 have hgl:=NO.hg;refine iR hS.clo$ Cc rfl ?_;simp only[dn,l0,List.map,List.length,List.replicate,QaO,Qa2,Nat.reduceAdd,Nat.reduceSub];refine aJ<|bu (by simp)<|jR rfl ⟨_,rfl,?_⟩
 refine aJ<|dS<|fj (fY (aj rfl (au rfl$ by rw[c7,Qaa,hc])$ Ul$ by omega)$ by omega) ?_
 refine(bQ (λi δ S2=>∃a2,δ=[some$ .d$ a_ ins gs os,some$ .loc S.length,a2,none,none,none,none]/\S2=S++[SO.lst$ ((List.range$ 2 ^ c).take i).map$ Rc c gs os])
  ⟨_,rfl,rfl⟩ ?_).mono λo S2 ⟨c_,fG,a2,iS,lG⟩=>⟨c_,fG,?_⟩
 .rintro i v δ S2 hv ⟨a2,rfl,rfl⟩;obtain⟨p,hp,rfl⟩:=NT.cQ hv;have j_:=QaM.mp$ Qap hp;have hil:=(Qae.mp hp).1;rw[Qaq] at hil;refine⟨[some$ .d$ a_ ins gs os,some$ .loc S.length,some$ .d$ nI p,none,none,none,none],rfl,?_⟩;have MA:yO (S++[SO.lst$ ((List.range$ 2 ^ c).take i).map$ Rc c gs os]):=(hS.push λ_=>rfl).clo
  refine iQ rfl ⟨_,aO _ _⟩<|dC<|aM<|cn rfl<|aM<|cn (d:= .tup$ (iO c p).map bI) (by subst hc;exact au rfl$ Gs Jk j_)<|aM<|cn (d:= .tup$ ([]:List Nat).map nI) rfl<|aM<|cn (d:= .tup$ ([]:List Nat).map nI) rfl<|di ?_
  refine KQ NO (by rw[eh j_,hc]) MA ?_
  rw[uV hc h3 j_ ([],[]),sW];refine⟨_,_,rfl,aO _ _,by rw[Qaa,QaB];omega,_,rfl,_,rfl,?_⟩
  rw[cc,QaI,hp,Qam];rfl
 subst iS lG;rw[Qaa,Qaa,QaQ$ by simp]
 refine qS rfl (aO _ _) ?_;rw[cc];have hF:yO (S++[SO.fm]):=(hS.push λ_=>rfl).clo
 generalize hU:S++[SO.fm]=U at hF;refine AN<|dS<|fj (fY (au rfl$ by rw[c7,Qaa,Qaq])$ by omega) ?_
 rw[Qar];refine(iZ (V3.d ∘ nI) (λp=>if xY c gs os p then some (V3.d$ mh$ some ([],[],p)) else none) (λδ=>∃b2,δ=dE ins c gs os b2 none none none none) ⟨_,rfl⟩ ?_).mono λo S1 ⟨e1,h1⟩=>?_
 .rintro p hp δ ⟨b2,rfl⟩;exact⟨_,rfl,I_ (QaM.mp hp) ho NO.ho⟩
 subst e1;rw[find_some] at h1;cases hu:(List.range$ 2 ^ c).find? (xY c gs os) with
 | some p=>
   rw[hu] at h1;subst h1;have hk:fu c gs os=some ([],[],p):=by unfold fu;rw [hu]
   rw[hk] at h;exact⟨_,rfl,rfl,⟨[SO.fm],hU.symm⟩,_,rfl,h⟩
 | none=>
   rw[hu] at h1;obtain⟨c_,rfl,b2,rfl⟩:=h1
   let G:List (List Nat × List Nat):=(gs.zipIdx.filter$ λx=>!x.1.2.2).map$ λx=>(([]:List Nat),[x.2])
   have hGl:G.length<=gs.length:=by
    rw[Qaa];have:=Qby (λx:Gt × Nat=>!x.1.2.2) gs.zipIdx
    rwa [Qa4] at this
   refine aJ<|bu (by simp)<|jZ (λj ds S2=>S2=S1/\ds=(((gs.zipIdx.take j).filter$ λx=>!x.1.2.2).map$ λx=>(([]:List Nat),[x.2])).map jA)<|fj (fY (au rfl$ by rw[c7,Qaa])$ by omega) ⟨by rw[Qaa,Qaa,Qaq];omega,⟨rfl,rfl⟩,?_,?_⟩
   .rintro j v ds S2 hv ⟨rfl,rfl⟩;obtain⟨j',Jn,rfl⟩:=NT.cQ hv;obtain⟨hjl,ej⟩:=Qae.mp Jn;rw[Qbp] at ej;subst ej;rw[Qaq] at hjl;have hgj:gs[j]? =some gs[j]:=Qab hjl;have hzj:gs.zipIdx[j]? =some (gs[j],j):=by rw[Qbd,hgj];simp
    refine⟨[some$ .d$ nI j,some$ .d$ a_ ins gs os],rfl,qo (b:=!gs[j].2.2) ?_ ?_⟩
    .unfold AQ AR;rw[show e2 bz (e2 bz (e2 bz (af 1)$ eC$ .int 1)$ af 0) (eC$ .int 2) (down [some$ V3.d$ nI j,some$ V3.d$ a_ ins gs os])= .ok (.bl gs[j].2.2) from aj (aj (aj rfl rfl rfl) rfl$ NT.dP$ by rw[Qac,hgj];rfl) rfl rfl]
     rfl
    .rw [QaI,hzj,QbT];cases hs:gs[j].2.2 with
     | false=>
       exact cn (d:=jA ([],[j])) (bM (aq rfl$ aq (bM rfl$ by simp;omega) rfl)$ by simp;omega) ⟨_,rfl,rfl,by simp [hs]⟩
     | true=>
       exact⟨rfl,by simp [hs]⟩
   rintro ds S2 ⟨e1,rfl⟩;subst S2;rw[Qaa,Qaa,Qaq,QaQ$ by rw[Qa4];exact Qak _]
   refine⟨_,rfl,?_⟩;have hsl:(Ge c).length<=64:=by rcases Ei with rfl | rfl <;> decide+kernel
   have hll:(lK c).length<=64:=(DR c$ QaM.mpr$ by omega).1
   refine aJ<|bu (by simp)<|cn (au (aq (bK$ bF (eN$ au (aq (au rfl$ by rw[c7,Qaa,hc]) rfl)$ IC$ by omega) (by rw[Qaa];omega) ?_) rfl)$ NP Ei) ⟨_,rfl,?_⟩
   .exact NT.bc cq _ λb hb=>⟨[.val$ cq b],rfl,rfl,bM (aq (au rfl$ by show R.ok (D.int ((b.map nI).length:Nat))=_;rw [Qaa];rfl) rfl) (by simp;omega)⟩
   have hadd:cI (.lst$ G.map jA) (.lst$ ((Ge c).map λB=>(B,([]:List Nat))).map jA)= .ok (.lst$ (G++(Ge c).map λB=>(B,([]:List Nat))).map jA):=by
    have e1:(G.map jA).length=G.length:=Qaa ..;have e2:(((Ge c).map λB=>(B,([]:List Nat))).map jA).length=(Ge c).length:=by rw[Qaa,Qaa]
    refine(As$ by omega).trans ?_
    exact Qbh (λz=>R.ok$ D.lst z) Qam.symm
   refine AN<|dS<|fj (eN$ aj rfl (bK$ bF (eN rfl) (by rw[Qaa];omega) ?_) hadd) ?_
   .rw [show((Ge c).map λB=>(B,([]:List Nat))).map jA=(Ge c).map λB=>jA (B,[]) from Qar]
    exact NT.bc tP _ λB hB=>⟨[.val$ nI B.length, .val$ cq B],rfl,rfl,bM rfl$ by simp;omega⟩
   rw[Qar];refine(iZ (V3.d ∘ jA) (λf=>(oE c gs os f).map λr=>V3.d$ mh$ some r) (λδ=>∃b2 b5 b6,δ=dE ins c gs os b2 (some$ .d$ .lst$ G.map jA) (some$ .d$ .lst$ (Ge c).map tP) b5 b6) ⟨_,_,_,rfl⟩ ?_).mono λo S2 ⟨e1,h1⟩=>?_
   .rintro f hf δ ⟨b2,b5,b6,rfl⟩;exact⟨_,rfl,O3 NO hc h3 Jk ho hF⟩
   .subst e1;have hk:fu c gs os=(G++(Ge c).map λB=>(B,([]:List Nat))).findSome? (oE c gs os):=by
     unfold fu;rw[hu];show(G++(List.range' 1 c).flatMap λm=>(tU 0 (3*c) m).map λB=>(B,([]:List Nat))).findSome? (oE c gs os)=_
     have e0:oE c gs os ([],[])=none:=by
      have e9:(List.range$ 2 ^ c).find? (lr c gs os ([],[]))=none:=find_none.mpr λp hp=>ug.mpr λx hx=>by rw[sW];exact wV (by rw[mP,ho x hx])
      unfold oE;rw[e9];rfl
     rw[List.findSome?_append,List.findSome?_append];congr 1;show _=(([] ::(List.range' 1 c).flatMap λm=>tU 0 (3*c) m).map λB=>(B,([]:List Nat))).findSome? (oE c gs os)
     rw[Qaz,QcS,e0,List.map_flatMap]
    rw[hk] at h;have hfs:(G++(Ge c).map λB=>(B,([]:List Nat))).findSome? (λf=>(oE c gs os f).map λr=>V3.d$ mh$ some r)=((G++(Ge c).map λB=>(B,([]:List Nat))).findSome? (oE c gs os)).map λr=>V3.d (mh$ some r):=by
     rw[List.map_findSome?];rfl
    rw[hfs] at h1;cases htt:(G++(Ge c).map λB=>(B,([]:List Nat))).findSome? (oE c gs os) with
    | none=>
      rw[htt] at h1 h;obtain⟨c_,rfl,b2,b5,b6,rfl⟩:=h1;exact fM<|cn rfl ⟨_,rfl,rfl,⟨[SO.fm],hU.symm⟩,_,rfl,h⟩
    | some d=>
      rw[htt] at h1 h;subst h1;exact⟨_,rfl,rfl,⟨[SO.fm],hU.symm⟩,_,rfl,h⟩
end
end K44
end
section
set_option maxHeartbeats 1000000
namespace K44
open PySem PySem.Spec PyProof.Rows L2 L3 MT JT
def pa{S:bp}{a b:SO}:(S++[a,b])[S.length]? =some a:=by rw[Qaj$ Qak _,Qbe];rfl
def pb{S:bp}{a b:SO}:(S++[a,b])[S.length+1]? =some b:=by rw[Qaj (by omega),show S.length+1 - S.length=1 by omega];rfl
def qa{S:bp}{a b c:SO}:(S++[a,b]).set S.length c=S++[c,b]:=by rw[Qbx _ _$ Qak _,Qbe];rfl
def qb{S:bp}{a b c:SO}:(S++[a,b]).set (S.length+1) c=S++[a,c]:=by rw[Qbx _ _ (by omega),show S.length+1 - S.length=1 by omega];rfl
def lsN(l:List Nat):D:= .lst$ l.map nI
abbrev cE(ms:List Nat)(nt:D)(n w:Nat)(a5 a6 a7 a8 a9 rR:Option V3):DE:=[some$ .d$ .lst$ ms.map nI,some$ .d nt,some$ .loc n,some$ .d$ nI w,some$ .loc$ n+1,a5,a6,a7,a8,a9,rR,none,none]
section
variable {S:bp}{ms:List Nat}{nt:D}{A:Aae}{G:List Gt}{g:Gt}
def OO(a b:Nat):gr (nI a) (nI b)= .ok (nI$ a+b):=rfl
def RN{w j:Nat}{a9 rR:Option V3}(hg:∀n∈g.2.1,n<A.length)(h3:∀a∈A,a.length=3)(hj:j<3)(hl:g.2.1.length<1000)(hG:G.length<1000) :
 W3 (pQ (cE ms nt S.length w (some$ .d$ .str$ kS g.1) (some$ .d$ .tup$ g.2.1.map nI) (some$ .d$ .bl g.2.2) (some$ .d$ nI j) a9 rR)$ S++[.lst$ A.map lsN, .lst$ G.map gS]) λo S1=>∃b9,o= .nx (cE ms nt S.length w (some$ .d$ .str$ kS g.1) (some$ .d$ .tup$ g.2.1.map nI) (some$ .d$ .bl g.2.2) (some$ .d$ nI j) b9 rR)/\S1=S++[SO.lst$ A.map lsN,SO.lst$ (G++[(g.1,g.2.1.map λn=>(A.getD n []).getD j 0,g.2.2)]).map gS]:=by
 have hz:=Qas;have ec:t9 ["wire"] [2,8] (d8 (S++[.lst$ A.map lsN, .lst$ G.map gS])$ cE ms nt S.length w (some$ .d$ .str$ kS g.1) (some$ .d$ .tup$ g.2.1.map nI) (some$ .d$ .bl g.2.2) (some$ .d$ nI j) a9 rR)=[.un, .val$ .lst$ A.map lsN, .val$ nI j]:=by
  show [Sl.un,qV _ 2,qV _ 8]=_;unfold qV;rw[KI rfl$ uZ pa,KI rfl rfl]
 refine aJ<|bu (by simp)<|Py (au (ds:=[.lst$ (g.2.1.map λn=>(A.getD n []).getD j 0).map nI]) (aq (bK$ bF (uj rfl) (by rw[Qaa];omega) ?_) rfl) rfl) (EG _) ⟨_,rfl,?_⟩
 .rw [ec,show(g.2.1.map λn=>(A.getD n []).getD j 0).map nI=g.2.1.map λn=>nI ((A.getD n []).getD j 0) from Qar]
  refine NT.bc nI _ λn hn=>⟨[.val$ nI n, .val$ .lst$ A.map lsN, .val$ nI j],rfl,rfl,?_⟩
  have hnl:=hg n hn;have hA:A[n]? =some A[n]:=Qab hnl;have hAl:=h3 _$ Qa7 hnl;have hg':A.getD n []=A[n]:=by rw[Qag,hA];rfl
  rw[hg'];refine aj (aj rfl rfl$ NT.dP$ by rw[Qac,hA];rfl) rfl$ oG ?_
  rw[Qag,Qab$ by omega];rfl
 refine iQ rfl ⟨_,pb⟩<|cn (bM rfl$ by simp;omega) ⟨_,_,rfl,pb,by rw[Qaa];omega,_,rfl,?_⟩
 rw[qb,Qam];rfl
def CC(P:Nat)(G:List Gt):Prop:=∀(i:Nat) (x:Gt),G[i]? =some x->An (3*P+i) x
def CC.push{P:Nat}{G:List Gt}{g:Gt}(h:CC P G)(hg:An (3*P+G.length) g):CC P (G++[g]):=by
 intro i x hx;by_cases hi:i<G.length
 .rw [Qax hi] at hx;exact h i x hx
 .rw [Qaj$ by omega] at hx
  have h0:i - G.length=0:=by
   cases q:i - G.length with
   | zero=>rfl
   | succ n=>rw [q] at hx;simp at hx
  rw[h0] at hx;cases hx;rw[show i=G.length by omega];exact hg
structure CI (P i:Nat) (A:Aae) (G:List Gt) (w:Nat):Prop where
 a:A.length=P+i
 e:∀a∈A,a.length=3/\∀n∈a,n<w
 w:w=3*P+G.length
 g:CC P G
 l:G.length<=6*i
noncomputable def vP(w:Nat):List Nat:=(List.range 3).map λj=>w+j
def J1{δ:DE}{S:bp}{w:Nat}{QV:V3->bp->Prop}(h3:δ[3]? =some (some$ .d$ nI w))(h:QV (.d$ lsN$ vP w) S) :
 W3 (jv (iP$ bZ$ eC$ .int 3) (fZ 0) yL (xP$ e2 gr (af 1)$ af 0) ["j"] [3] δ S) QV:=by
 have hz:=Qas;refine jZ (λj ds S2=>S2=S/\ds=((vP w).map nI).take j)<|fj (fY (n:=3) rfl$ by omega) ⟨by simp;omega,⟨rfl,by simp⟩,?_,?_⟩
 .rintro j v ds S2 hv ⟨rfl,rfl⟩;obtain⟨j',Jn,rfl⟩:=NT.cQ hv;have ec:o5 ["j"] [3] δ=[none,some$ .d$ nI w]:=by
   show [none,kX δ 3]=_;unfold kX;rw[h3]
  rw[ec];refine⟨[some$ .d$ nI j',some$ .d$ nI w],rfl,D3 ?_⟩;refine cn (aj rfl rfl$ OO _ _) ⟨_,rfl,rfl,?_⟩;unfold vP;rw[QaI,Qac,Qac,Jn];rfl
 .rintro ds S2 ⟨rfl,rfl⟩;exact h
def En{w n:Nat}(h:n∈vP w):w<=n/\n<w+3:=by
 obtain⟨j,hj,rfl⟩:=QaC.mp h;have:=QaM.mp hj;omega
def Qt{w j:Nat}{c:List Nat}{a5 a6 a9:Option V3}(hG:G.length<1000) :
 W3 (oZ (cE ms nt S.length w a5 a6 (some$ .d$ .bl g.2.2) (some$ .d$ nI j) a9$ some$ .d$ lsN c)$ S++[.lst$ A.map lsN, .lst$ G.map gS]) λo S1=>o= .nx (cE ms nt S.length w a5 a6 (some$ .d$ .bl g.2.2) (some$ .d$ nI j) a9$ some$ .d$ lsN c)/\S1=S++[SO.lst$ A.map lsN,SO.lst$ (G++[(4,c,g.2.2)]).map gS]:=by
 have hz:=Qas;refine iQ rfl ⟨_,pb⟩<|cn (bM (aq rfl$ aq (au rfl rfl) rfl)$ by simp;omega) ⟨_,_,rfl,pb,by rw[Qaa];omega,rfl,?_⟩
 rw[qb,Qam];rfl
def IH{P i w:Nat}{a8 a9 rR:Option V3}{h0:Nat}(Wb:ms[0]? =some h0)(C:CI P i A G w)(hg:An (P+i) g)(hi:i<10)(hP:P<100) :
 W3 (oT (cE ms nt S.length w (some$ .d$ .str$ kS g.1) (some$ .d$ .tup$ g.2.1.map nI) (some$ .d$ .bl g.2.2) a8 a9 rR)$ S++[.lst$ A.map lsN, .lst$ G.map gS]) λo S1=>∃A' G' w' b8 b9 Hr,o= .nx (cE ms nt S.length w' (some$ .d$ .str$ kS g.1) (some$ .d$ .tup$ g.2.1.map nI) (some$ .d$ .bl g.2.2) b8 b9 Hr)/\S1=S++[SO.lst$ A'.map lsN,SO.lst$ G'.map gS]/\CI P (i+1) A' G' w':=by
 have hz:=Qas;obtain⟨k1,k2,k3⟩:=hg;have har:=sP g.1;have hl:=C.l;have hw:=C.w;have hA:=C.a;refine aJ<|dS<|fj (fY (n:=3) rfl$ by omega) ?_
 refine(bQ (λj δ S2=>∃(H:List Gt) (b8 b9:Option V3),H.length=j/\CC P (G++H)/\δ=cE ms nt S.length w (some$ .d$ .str$ kS g.1) (some$ .d$ .tup$ g.2.1.map nI) (some$ .d$ .bl g.2.2) b8 b9 rR/\S2=S++[SO.lst$ A.map lsN,SO.lst$ (G++H).map gS])
  ⟨[],a8,a9,rfl,by rw[QaV];exact C.g,rfl,by rw[QaV]⟩ ?_).mono λo S2 ⟨c_,fG,H,b8,b9,hH,hGH,iS,lG⟩=>⟨c_,fG,?_⟩
 .rintro j v δ S2 hv ⟨H,b8,b9,hH,hGH,rfl,rfl⟩;obtain⟨j',Jn,rfl⟩:=NT.cQ hv;have hjl:=QaM.mp$ Qap Jn;have hjj:=(Qae.mp Jn).1;rw[Qaq] at hjj;refine⟨cE ms nt S.length w (some$ .d$ .str$ kS g.1) (some$ .d$ .tup$ g.2.1.map nI) (some$ .d$ .bl g.2.2) (some$ .d$ nI j') b9 rR,rfl,?_⟩;refine(RN (λn hn=>by rw[hA];exact k3 n hn) (λa ha=>(C.e a ha).1) hjl (by omega)$ by rw[Qai];omega).mono λo S1 ⟨b9',e1,e2⟩=>⟨_,e1,H++[(g.1,g.2.1.map λn=>(A.getD n []).getD j' 0,g.2.2)],_,b9',by simp [hH],?_,rfl,by rw[e2,QaL]⟩
  rw[<-QaL];refine hGH.push ⟨k1,by show(g.2.1.map _).length=_;rw [Qaa];exact k2,λx hx=>?_⟩
  obtain⟨n,hn,rfl⟩:=QaC.mp$ show x∈g.2.1.map λn=>(A.getD n []).getD j' 0 from hx
  have hnl:n<A.length:=by rw[hA];exact k3 n hn
  have hg':A.getD n []=A[n]:=by rw[Qag,Qab hnl];rfl
  obtain⟨c1,c2⟩:=C.e _$ Qa7 hnl;rw[hg'];have:(A[n]).getD j' 0=(A[n])[j']'(by omega):=by rw[Qag,Qab$ by omega];rfl
  have:=c2 _ (Qa7 (by omega:j'<(A[n]).length))
  rw[Qai];omega
 subst iS lG;rw[Qaa,Qaa,Qaq] at hH;have hGHl:(G++H).length=G.length+3:=by rw[Qai,hH]
 generalize hK:G++H=K at hGH hGHl;refine aJ<|bu (by simp)<|J1 rfl ⟨_,rfl,?_⟩
 refine aJ<|bu (by simp)<|cn (aj rfl rfl$ OO _ _) ⟨_,rfl,?_⟩
 have hcopy:∀{w':Nat},∀n∈vP w',n<w'+3:=λn hn=>(En hn).2
 have htl:∀w',(vP w').length=3:=λw'=>by simp [vP]
 have fin:∀(K':List Gt) (u:Nat) (b8 b9:Option V3),CC P K'->u+3=3*P+K'.length->w+3<=u+3->K'.length<=6*(i+1)->
  W3 (jY 2 (xP$ af 10) (cE ms nt S.length (u+3) (some$ .d$ .str$ kS g.1) (some$ .d$ .tup$ g.2.1.map nI) (some$ .d$ .bl g.2.2) b8 b9$ some$ .d$ lsN$ vP u)$ S++[SO.lst$ A.map lsN,SO.lst$ K'.map gS]) λo S1=>∃A' G' w' b8 b9 Hr,o= .nx (cE ms nt S.length w' (some$ .d$ .str$ kS g.1) (some$ .d$ .tup$ g.2.1.map nI) (some$ .d$ .bl g.2.2) b8 b9 Hr)/\S1=S++[SO.lst$ A'.map lsN,SO.lst$ G'.map gS]/\CI P (i+1) A' G' w':=by
  intro K' u b8 b9 hK' hu hwu hKl;refine iQ rfl ⟨_,pa⟩<|cn rfl ⟨_,_,rfl,pa,by rw[Qaa];omega,A++[vP u],K',u+3,_,_,_,rfl,?_,⟨by rw[Qai,hA,Qb7];omega,λa ha=>?_,hu,hK',hKl⟩⟩
  .rw [qa,Qam];rfl
  .rcases QaU.mp ha with z | z
   .obtain⟨c1,c2⟩:=C.e a z;exact⟨c1,λn hn=>by have:=c2 n hn;omega⟩
   .rw [Qa8.mp z];exact⟨htl u,hcopy⟩
 refine aJ<|oH<|qo (de (aj (b:=nI 3) (aj rfl rfl$ oG Wb) rfl$ mU$ by omega) rfl$ Sv _ _) ?_
 cases decide (h0 % 3=0) with
 | false=>
   refine fI ⟨_,rfl,?_⟩;exact fin K w _ _ hGH (by omega) (Qak _) (by omega)
 | true=>
   refine aJ<|dS<|fj (fY (n:=3) rfl$ by omega) ?_
   refine(bQ (λj δ S2=>∃(H:List Gt) (b8:Option V3),H.length=j/\CC P (K++H)/\δ=cE ms nt S.length (w+3) (some$ .d$ .str$ kS g.1) (some$ .d$ .tup$ g.2.1.map nI) (some$ .d$ .bl g.2.2) b8 b9 (some$ .d$ lsN$ vP w)/\S2=S++[SO.lst$ A.map lsN,SO.lst$ (K++H).map gS])
    ⟨[],_,rfl,by rw[QaV];exact hGH,rfl,by rw[QaV]⟩ ?_).mono λo S2 ⟨c_,fG,H2,c8,TL,hKH,iS,lG⟩=>⟨c_,fG,?_⟩
   .rintro j v δ S2 hv ⟨H2,c8,TL,hKH,rfl,rfl⟩;obtain⟨j',Jn,rfl⟩:=NT.cQ hv;have hjj:=(Qae.mp Jn).1;rw[Qaq] at hjj;refine⟨cE ms nt S.length (w+3) (some$ .d$ .str$ kS g.1) (some$ .d$ .tup$ g.2.1.map nI) (some$ .d$ .bl g.2.2) (some$ .d$ nI j') b9$ some$ .d$ lsN$ vP w,rfl,?_⟩;refine(Qt$ by rw[Qai];omega).mono λo S1 ⟨e1,e2⟩=>⟨_,e1,H2++[(4,vP w,g.2.2)],_,by simp [TL],?_,rfl,by rw[e2,QaL]⟩
    rw[<-QaL];refine hKH.push ⟨by show 4<=4;omega,by show(vP w).length=3;exact htl w,λx hx=>?_⟩
    have:=(En$ show x∈vP w from hx).2
    rw[Qai];omega
   subst iS lG;rw[Qaa,Qaa,Qaq] at TL;have hKHl:(K++H2).length=G.length+6:=by rw[Qai,TL];omega
   generalize K++H2=L at hKH hKHl;refine aJ<|bu (by simp)<|J1 rfl ⟨_,rfl,?_⟩
   refine bu (by simp)<|cn (aj rfl rfl$ OO _ _) ⟨_,rfl,?_⟩
   exact fin L (w+3) _ _ hKH (by omega) (by omega) (by omega)
end
noncomputable def QK(x:Str × Nat):Str × Nat:=(x.1,3)
structure Pl (P:Aac) (gs:List Gt) (os:Aad):Prop where
 p1:1<=P.length
 p2:P.length<=2
 g:∀(i:Nat) (x:Gt),gs[i]? =some x->An (P.length+i) x
 gl:gs.length<=3
 o1:1<=os.length
 o2:os.length<=2
 o:∀x∈os,∃w,x.2=[w]/\w<P.length+gs.length
def LY{g:Gt}:dO 2 (gS g):=by
 refine dO.tup λx hx=>?_
 simp at hx;rcases hx with rfl | rfl | rfl
 .refine(dO.str ?_).mono (by omega)
  unfold kS;split <;> decide+kernel
 .exact dO.tup λd hd=>by obtain⟨z,_,rfl⟩:=QaC.mp hd;exact dO.int _
 .exact(dO.bl _).mono (by omega)
def RB(gs:List Gt):vX (.lst$ gs.map gS) (.lst [])= .ok (.bl$ !gs.isEmpty):=by
 have f:dO 3 (.lst$ gs.map gS):=dO.lst λd hd=>by obtain⟨g,_,rfl⟩:=QaC.mp hd;exact LY
 have f2:dO 1 (.lst []):=dO.lst λd hd=>by cases hd
 show(C8 (.lst _)$ .lst []).bind _=_;rw[AE,f.pl,f.sh (by omega),f2.pl,f2.sh$ by omega]
 cases gs <;> rfl
def X4{l:List Nat}(h:0<l.length):WE (.tup$ l.map nI) (some 1) none= .ok (.tup$ (l.drop 1).map nI):=by
 show R.bH (decide (¬(HT.g7 (l.map nI).length 0 (some ((1:Nat):Int))=0/\HT.g7 (l.map nI).length (l.map nI).length none=(l.map nI).length))) (.ok$ D.tup$ L2.cutD (l.map nI) (some ((1:Nat):Int)) none)=_;unfold L2.cutD;rw[HT.G5,HT.Cz,Qaa,Qcl h,cm _ (by omega),QaQ (by rw[Qbm,Qaa];omega),List.map_drop]
def W4{a b c:Nat}:WE (.tup$ [a,b,c].map nI) none (some 2)= .ok (.tup$ [a,b].map nI):=rfl
def Qa{n k:Nat}(h:k<n):Eg n (k:Int)=some k:=by
 unfold Eg;rw[QaK (by omega),QaK (by omega),Qbg]
section
variable {S:bp}{ms:List Nat}{P:Aac}{gs:List Gt}{os:Aad}
def R7(x:Str × List Nat):oM (oz x)=true:=by
 unfold oz oM jE;unfold jE;rw[EG];rfl
def IE(Wb:ms.length=4)(L:Pl P gs os)(hS:Flat S){Q:V3->bp->Prop}(h:∀(G:List Gt) (O:Aad),sM (P.map QK) G O->G.length<=18->O.map (·.1)=os.map (·.1)->Q (.d$ a_ (P.map QK) G O) S) :
 W3 (l9 [.d$ .lst$ ms.map nI, .d$ a_ P gs os] S) Q:=by
 have hz:=Qas;obtain⟨h0,m0⟩:∃x,ms[0]? =some x:=⟨ms[0],Qab$ by omega⟩
 obtain⟨h1,m1⟩:∃x,ms[1]? =some x:=⟨ms[1],Qab$ by omega⟩
 obtain⟨h2,m2⟩:∃x,ms[2]? =some x:=⟨ms[2],Qab$ by omega⟩
 obtain⟨h3,m3⟩:∃x,ms[3]? =some x:=⟨ms[3],Qab$ by omega⟩
 have WR:=L.p1;have Mt:=L.p2;have hgl:=L.gl;have Yr:=L.o1;have Jm:=L.o2;refine iR hS.clo$ Cc rfl ?_;simp only[dn,j4,List.map,List.length,List.replicate,QaO,Qa2,Nat.reduceAdd,Nat.reduceSub];refine aJ<|bu (by simp)<|jR (ds:=((List.range P.length).map λk=>vP$ 3*k).map lsN) (bF (fY (au rfl$ by rw[c7,Qaa])$ by omega) (by simp;omega) ?_) ⟨_,rfl,?_⟩
 .rw [show((List.range P.length).map λk=>vP$ 3*k).map lsN=(List.range P.length).map λk=>lsN (vP$ 3*k) from Qar]
  refine NT.bc nI _ λk hk=>⟨[.val$ nI k],rfl,rfl,bK$ bF (fY (n:=3) rfl$ by omega) (by simp;omega) ?_⟩
  unfold vP;exact NT.bc nI _ λj hj=>⟨[.val$ nI j, .val$ nI k],rfl,rfl,aj (b:=nI j) (aj (a:=nI 3) rfl rfl$ yn$ .inr$ by omega) rfl$ OO _ _⟩
 refine aJ<|bu (by simp)<|cn (aj (a:=nI 3) rfl (au rfl$ by rw[c7,Qaa])$ yn$ .inr$ by omega) ⟨_,rfl,?_⟩
 refine aJ<|bu (by simp)<|jR rfl ⟨_,rfl,?_⟩
 have Cg:(S++[SO.lst$ ((List.range P.length).map λk=>vP$ 3*k).map lsN]).length=S.length+1:=by simp
 rw[Cg,QaL];refine aJ<|dS<|fj (eN rfl) ?_
 refine(bQ (λi δ S2=>∃(A:Aae) (G:List Gt) (w:Nat) (a5 a6 a7 a8 a9 rR:Option V3),CI P.length i A G w/\δ=cE ms (a_ P gs os) S.length w a5 a6 a7 a8 a9 rR/\S2=S++[SO.lst$ A.map lsN,SO.lst$ G.map gS])
  ⟨(List.range P.length).map λk=>vP$ 3*k,[],3*P.length,none,none,none,none,none,none,⟨by simp,λa ha=>?_,rfl,λi x hx=>(by cases hx),by simp⟩,rfl,rfl⟩ ?_).mono λo S2 ⟨c_,fG,A,G,w,a5,a6,a7,a8,a9,rR,C,iS,lG⟩=>⟨c_,fG,?_⟩
 .obtain⟨k,hk,rfl⟩:=QaC.mp ha;have:=QaM.mp hk;exact⟨by simp [vP],λn hn=>by have:=(En hn).2;omega⟩
 .rintro i v δ S2 hv ⟨A,G,w,a5,a6,a7,a8,a9,rR,C,rfl,rfl⟩;obtain⟨g,hg,rfl⟩:=NT.cQ hv;have hil:=(Qae.mp hg).1;refine⟨cE ms (a_ P gs os) S.length w (some$ .d$ .str$ kS g.1) (some$ .d$ .tup$ g.2.1.map nI) (some$ .d$ .bl g.2.2) a8 a9 rR,rfl,?_⟩;exact(IH m0 C (L.g i g hg) (by omega)$ by omega).mono λo S1 ⟨A',G',w',b8,b9,Hr,x1,x2,x3⟩=>⟨_,x1,A',G',w',_,_,_,b8,b9,Hr,x3,rfl,x2⟩
 rw[Qaa,Qaa] at C;subst iS lG;have hGl:=C.l;have hw:=C.w;have hA:=C.a;refine qS rfl pa ?_;rw[qa];refine aJ$ W3.mono (Q:=λo S2=>∃(G':List Gt) (b5 b6 b7 MS:Option V3),G'.length=G.length/\CC P.length G'/\o= .nx [some$ .d$ .lst$ ms.map nI,some$ .d$ a_ P gs os,some$ .d$ .lst$ A.map lsN,some$ .d$ nI w,some$ .loc$ S.length+1,b5,b6,b7,a8,a9,rR,MS,none]/\S2=S++[SO.fm,SO.lst$ G'.map gS]) ?_ λo S2 ⟨G',b5,b6,b7,MS,YK,hG',eo,eS⟩=>⟨_,eo,?_⟩
 .have v4:∀{δ:DE},δ[4]? =some (some$ .loc$ S.length+1)->af 4 (d8 (S++[SO.fm,SO.lst$ G.map gS]) δ)= .ok (.lst$ G.map gS):=λh=>qG h (uZ pb)
  refine oH<|Se (b:=decide (h1 % 3=0) && !G.isEmpty) ?_ ?_
  .have c1:∀{δ:ay},af 0 δ= .ok (.lst$ ms.map nI)->b2 xK (e2 fF (e2 bz (af 0)$ eC$ .int 1)$ eC$ .int 3) (eC$ .int 0) δ= .ok (decide$ h1 % 3=0):=λhv=>de (aj (b:=nI 3) (aj hv rfl$ oG m1) rfl$ mU$ by omega) rfl (Sv _ _)
   unfold O6;rw[c1$ qG rfl rfl,R.aP];cases decide (h1 % 3=0) with
   | false=>rfl
   | true=>
     refine(de (v4 rfl) rfl$ RB G).trans ?_;rw[Bool.true_and]
  .cases hb:decide (h1 % 3=0) && !G.isEmpty with
   | false=>rw [QaH$ by decide];exact fI ⟨G,_,_,_,_,rfl,C.g,rfl,rfl⟩
   | true=>
     have zm:0<G.length:=by
      cases G with
      | nil=>rw [Qbn] at hb;cases hb.2
      | cons g G=>simp
     have hk:h2 % G.length<G.length:=Qcb _ zm;generalize hkk:h2 % G.length=k at hk;obtain⟨g,hg⟩:∃g,G[k]? =some g:=⟨_,Qab hk⟩;obtain⟨k1,k2,k3⟩:=C.g k g hg;refine aJ<|bu (by simp)<|Py (aj (aj (qG rfl rfl) rfl$ oG m2) (au (aq (v4 rfl) rfl)$ by rw[c7,Qaa])$ by rw[mU zm,hkk]) rfl ⟨_,rfl,?_⟩
     refine aJ<|P0<|Py (aj (v4 rfl) (qG rfl rfl)$ NT.dP$ by rw[Qac,hg];rfl) (Vm _) ⟨_,rfl,_,rfl,?_⟩
     have hgp:0<g.2.1.length:=by
      rw[k2];unfold ar;split <;> omega
     have hP3:h3 % (3*P.length)<3*P.length:=Qcb _ (by omega)
     generalize hxx:h3 % (3*P.length)=x at hP3;have har:=sP g.1;refine PF<|cn (d:=gS (g.1,x ::g.2.1.drop 1,g.2.2)) (bM (aq rfl (aq (aj (bM (aq (aj (aj rfl rfl$ oG m3) (aj (a:=nI 3) rfl (au rfl$ by rw[c7,Qaa])$ yn$ .inr$ by omega)$ by rw[mU (by omega),hxx]) rfl)$ by simp;omega) (by
      exact X4 hgp) ((BL$ by rw[Qaa,Qbm];simp;omega).trans rfl)) (aq rfl rfl))) (by simp;omega))<|w_var rfl<|cn rfl ⟨_,_,_,_,k,rfl,rfl,rfl,pb,Qa (by rw[Qaa];exact hk),G.set k (g.1,x ::g.2.1.drop 1,g.2.2),_,_,_,_,by rw[Qa6],?_,rfl,by rw[qb,List.map_set]⟩
     intro i y hy;by_cases hik:i=k
     .subst hik;rw[Qau hk] at hy;cases hy;refine⟨k1,?_,λz vx=>?_⟩
      .show(x ::g.2.1.drop 1).length=ar g.1;rw[Qao,Qbm,<-k2];omega
      .rcases QaE.mp (show z∈x ::g.2.1.drop 1 from vx) with q | q
       .omega
       .exact k3 z (List.mem_of_mem_drop q)
     .rw [Qav$ by omega] at hy
      exact C.g i y hy
 subst eS;rw[<-YK] at hw hGl;refine qS rfl pb ?_;rw[qb]
 let O0:Aad:=os.map λx=>(x.1,A.getD (x.2.getD 0 0) [])
 have Yl:∀x∈O0,x.2.length=3/\∀n∈x.2,n<w:=λx hx=>by
  obtain⟨y,hy,rfl⟩:=QaC.mp hx;obtain⟨v,hv,hvl⟩:=L.o y hy;rw[hv];show(A.getD v []).length=3/\∀n∈A.getD v [],n<w;have hvA:v<A.length:=by omega
  rw[Qag,Qab hvA];exact C.e _$ Qa7 hvA
 have hO0l:O0.length=os.length:=by show(os.map _).length=_;rw [Qaa]
 refine aJ<|bu (by simp)<|jR (ds:=O0.map oz) (bF (eN rfl) (by rw[Qaa];omega) ?_) ⟨_,rfl,?_⟩
 .rw [show O0.map oz=os.map λx=>oz (x.1,A.getD (x.2.getD 0 0) []) from Qar]
  refine NT.bc oz _ λx hx=>⟨[.val$ .str x.1, .val$ .tup$ x.2.map nI, .val$ .lst$ A.map lsN],rfl,rfl,?_⟩
  obtain⟨v,hv,hvl⟩:=L.o x hx;have hvA:v<A.length:=by omega
  rw[hv];refine bM (aq rfl$ aq (au (ds:=[lsN$ A.getD v []]) (aq (aj rfl (aj rfl rfl rfl)$ NT.dP$ by rw[Qac,Qab hvA,Qag,Qab hvA];rfl) rfl) rfl) rfl) (by simp;omega)
 have zp:(S++[SO.fm,SO.fm]).length=S.length+2:=by simp
 rw[zp];have gl:∀{X:SO},(S++[SO.fm,SO.fm]++[X])[S.length+2]? =some X:=fun {X}=>by rw[<-zp];exact aO _ _
 have sl:∀{X Y:SO},(S++[SO.fm,SO.fm]++[X]).set (S.length+2) Y=S++[SO.fm,SO.fm]++[Y]:=fun {X Y}=>by rw[<-zp];exact cc _ _ _
 refine aJ$ W3.mono (Q:=λo S2=>∃(O:Aad),O.map (·.1)=os.map (·.1)/\(∀x∈O,x.2.length=3/\∀n∈x.2,n<w)/\o= .nx [some$ .d$ .lst$ ms.map nI,some$ .d$ a_ P gs os,some$ .d$ .lst$ A.map lsN,some$ .d$ nI w,some$ .d$ .lst$ G'.map gS,b5,b6,b7,a8,a9,rR,MS,some$ .loc$ S.length+2]/\S2=S++[SO.fm,SO.fm]++[SO.lst$ O.map oz]) ?_ λo S2 ⟨O,hOn,hO,eo,eS⟩=>⟨_,eo,?_⟩
 .refine oH<|qo (de (aj (b:=nI 9) (aj rfl rfl$ oG m1) rfl$ mU$ by omega) rfl$ Sv _ _) ?_
  have WJ:O0.map (·.1)=os.map (·.1):=by show(os.map _).map _=_;rw [Qar];rfl
  cases decide (h1 % 9=1) with
  | false=>rw [QaH$ by decide];exact fI ⟨O0,WJ,Yl,rfl,rfl⟩
  | true=>
    have Yq:0<O0.length:=by omega
    obtain⟨x,hx⟩:∃x,O0[0]? =some x:=⟨_,Qab Yq⟩;obtain⟨x3,xw⟩:=Yl x$ Qap hx;obtain⟨n0,n1,n2,ex⟩:∃a b c,x.2=[a,b,c]:=match x.2,x3 with | [a,b,c],_=>⟨a,b,c,rfl⟩
    have hwp:0<w:=by omega
    have hyl:h3 % w<w:=Qcb _ hwp;generalize hyy:h3 % w=y at hyl;have v12:∀{δ:DE},δ[12]? =some (some$ .loc$ S.length+2)->e2 bz (af 12) (eC$ .int 0) (d8 (S++[SO.fm,SO.fm]++[SO.lst$ O0.map oz]) δ)= .ok (oz x):=λh=>aj (qG h$ uZ gl) rfl (NT.dP$ by rw[Qac,hx];rfl)
    refine PF<|Py (d:=oz (x.1,[n0,n1,y])) (bM (aq (aj (v12 rfl) rfl rfl) (aq (aj (a:= .tup$ [n0,n1].map nI) (by
     show(e2 bz (e2 bz (af 12)$ eC$ .int 0) (eC$ .int 1) _).bind _=_;rw[aj (r:= .ok$ .tup$ x.2.map nI) (v12 rfl) rfl rfl,R.aP];rw[ex];exact W4) (bM (aq (aj (aj (qG rfl rfl) rfl$ oG m3) (qG rfl rfl)$ by rw[mU hwp,hyy]) rfl)$ by simp;omega) (BL$ by simp;omega)) rfl)) (by simp;omega)) (R7 _)<|w_var rfl<|cn rfl ⟨_,_,_,_,0,rfl,rfl,rfl,gl,Qa (by rw[Qaa];exact Yq),O0.set 0 (x.1,[n0,n1,y]),?_,λz vx=>?_,rfl,by rw[sl,List.map_set]⟩
    .rw [List.map_set,<-WJ];refine Qcy λi=>?_
     by_cases hi:i=0
     .subst hi;rw[Qau (by rw[Qaa];exact Yq),Qac,hx];rfl
     .rw [Qav$ by omega]
    .rcases List.mem_or_eq_of_mem_set vx with q | q
     .exact Yl z q
     .subst q;refine⟨rfl,λn hn=>?_⟩
      simp at hn;rw[ex] at xw;rcases hn with rfl | rfl | rfl
      .exact xw _ (by simp)
      .exact xw _ (by simp)
      .exact hyl
 subst eS;refine qS rfl gl ?_;rw[sl];have i3:∀x∈P.map QK,x.2=3:=λx hx=>by obtain⟨y,_,rfl⟩:=QaC.mp hx;rfl
 have hwd:dk (P.map QK)=3*P.length:=by rw[Dj i3,Qaa]
 have hOl:O.length=os.length:=by rw[<-Qaa,hOn,Qaa]
 refine fM<|cn (bM (aq (bK$ bF (eN rfl) (by rw[Qaa];omega) ?_)$ aq rfl$ aq rfl rfl)$ by simp;omega) ⟨_,rfl,rfl,⟨[SO.fm,SO.fm,SO.fm],by rw[QaL];rfl⟩,_,rfl,h G' O ⟨⟨by rw[Qaa];omega,λx hx=>by rw[i3 x hx];omega,by omega,λi x hx=>by rw[hwd];exact hG' i x hx,by omega,λx hx=>⟨by rw[(hO x hx).1];omega,λn hn=>by rw[hwd,<-hw];exact(hO x hx).2 n hn⟩⟩,i3,λx hx=>(hO x hx).1⟩ (by omega) hOn⟩
 rw[show(P.map QK).map MT.inD=P.map λx=>MT.inD (x.1,3) from Qar]
 exact NT.bc MT.inD _ λx hx=>⟨[.val$ .str x.1, .val$ nI x.2],rfl,rfl,bM rfl$ by simp;omega⟩
end
def Ug{ms:List Nat}(h:ms.length=8):UA (.lst$ ms.map nI) (some 4) none= .ok (.lst$ (ms.drop 4).map nI):=by
 show R.ok (D.lst$ L2.cutD (ms.map nI) (some ((4:Nat):Int)) none)=_;unfold L2.cutD;rw[Qaa,HT.G5,HT.Cz,List.map_drop,Qcl (by omega),QaQ$ by rw[Qbm,Qaa];omega]
noncomputable def Tz(n0 n1 n2 n3:Str):D:= .lst [.str n0, .str n1, .str n2, .str n3]
def Lj{k:Nat}(h:k<4):bz (Tz n0 n1 n2 n3) (nI k)= .ok (.str$ [n0,n1,n2,n3].getD k Str.empty):=by
 match k,h with
 | 0,_=>rfl
 | 1,_=>rfl
 | 2,_=>rfl
 | 3,_=>rfl
section
variable {S:bp}{ns:List Int}{n0 n1 n2 n3:Str}
def QI{m:Nat}(h:m<=2):((List.range m).map λk=>(([n0,n1,n2,n3].getD k Str.empty,1):Str × Nat)).map QK=([n0,n1].take m).map λn=>(n,3):=by
 match m,h with
 | 0,_=>rfl
 | 1,_=>rfl
 | 2,_=>rfl
def Nb{q:Nat}(h:q<=2):(List.range q).map (λk=>[n0,n1,n2,n3].getD (2+k) Str.empty)=[n2,n3].take q:=by
 match q,h with
 | 0,_=>rfl
 | 1,_=>rfl
 | 2,_=>rfl
def DM{f:Nat}(hS:Flat S){Q:V3->bp->Prop}(h:∀(m q:Nat) (G:List Gt) (O:Aad),1<=m->m<=2->1<=q->q<=2->sM (([n0,n1].take m).map λn=>(n,3)) G O->G.length<=18->O.map (·.1)=[n2,n3].take q->Q (.d$ a_ (([n0,n1].take m).map λn=>(n,3)) G O) S) :
 W3 (nJ [.d$ .lst$ ns.map .int, .d$ nI f, .d$ Tz n0 n1 n2 n3] S) Q:=by
 have hz:=Qas;obtain⟨c,hc⟩:=BJ ns f;obtain⟨ms,Wb,em⟩:=rh c 8 (by omega)
 have at':∀i,i<8->∃x,ms[i]? =some x:=λi hi=>⟨ms[i],Qab$ by omega⟩
 obtain⟨h0,m0⟩:=at' 0 (by omega)
 obtain⟨h1,m1⟩:=at' 1 (by omega)
 obtain⟨h2,m2⟩:=at' 2 (by omega)
 refine iR hS.clo$ Cc rfl ?_;simp only[dn,lX,List.map,List.length,List.replicate,QaO,Qa2,Nat.reduceAdd,Nat.reduceSub];refine aJ<|bu (by simp)<|cn (au (aq (au rfl hc) rfl) em) ⟨_,rfl,?_⟩
 obtain⟨m,hm⟩:∃m,1+h0 % 2=m:=⟨_,rfl⟩;have S7:1<=m/\m<=2:=by omega
 let P:Aac:=(List.range m).map λk=>(([n0,n1,n2,n3].getD k Str.empty,1):Str × Nat)
 have hPl:P.length=m:=by show((List.range m).map _).length=m;rw [Qaa,Qaq]
 refine aJ<|bu (by simp)<|jZ (λj ds S2=>S2=S/\ds=(P.map MT.inD).take j)<|fj (fY ((aj rfl (aj (b:=nI 2) (aj rfl rfl$ oG m0) rfl$ mU$ by omega)$ jT _ _).trans$ by rw[hm])$ by omega) ⟨by rw[Qaa,Qaa,Qaq];omega,⟨rfl,by simp⟩,?_,?_⟩
 .rintro j v ds S2 hv ⟨rfl,rfl⟩;obtain⟨j',Jn,rfl⟩:=NT.cQ hv;have hjl:=QaM.mp$ Qap Jn;refine⟨[some$ .d$ nI j',some$ .d$ Tz n0 n1 n2 n3],rfl,D3 ?_⟩;refine cn (bM (aq (aj rfl rfl$ Lj$ by omega) rfl)$ by simp;omega) ⟨_,rfl,rfl,?_⟩
  rw[QaI,Qac,Qac,Jn];rfl
 rintro ds S2 ⟨e1,rfl⟩;subst S2;rw[Qaa,Qaa,Qaq,QaQ$ by rw[Qaa];omega]
 refine⟨_,rfl,?_⟩;have hg3:h1 % 4<=3:=by omega
 generalize hgm:h1 % 4=gm at hg3;refine aJ<|bu (by simp)<|dC<|aM<|cn rfl<|aM<|cn (aj rfl rfl$ jT _ _)<|aM<|cn ((aj (b:=nI 4) (aj rfl rfl$ oG m1) rfl$ mU$ by omega).trans$ by rw[hgm])<|aM<|cn (au rfl$ by rw[c7,Qaa,hPl])<|di<|(Iu ns (f+1) gm m (by omega) (by omega) (by omega) hS.clo).mono λv S3 ⟨gs,ev,eS3,hgl,hgs⟩=>⟨_,rfl,?_⟩
 subst ev eS3;refine aJ<|bu (by simp)<|jR rfl ⟨_,rfl,?_⟩
 obtain⟨q,hq⟩:∃q,1+h2 % 2=q:=⟨_,rfl⟩;have hq2:1<=q/\q<=2:=by omega
 refine aJ<|dS<|fj (fY ((aj rfl (aj (b:=nI 2) (aj rfl rfl$ oG m2) rfl$ mU$ by omega)$ jT _ _).trans$ by rw[hq])$ by omega) ?_
 refine(bQ (λi δ S2=>∃(os:Aad) (a7 a8 a9:Option V3),os.map (·.1)=((List.range q).take i).map (λk=>[n0,n1,n2,n3].getD (2+k) Str.empty)/\(∀x∈os,∃w,x.2=[w]/\w<P.length+gs.length)/\S2=S3++[SO.lst$ os.map oz]/\δ=[some$ .d$ .lst$ ns.map .int,some$ .d$ nI f,some$ .d$ Tz n0 n1 n2 n3,some$ .d$ .lst$ ms.map nI,some$ .d$ .lst$ P.map MT.inD,some$ .d$ .lst$ gs.map gS,some$ .loc S3.length,a7,a8,a9])
  ⟨[],_,_,_,rfl,by simp,rfl,rfl⟩ ?_).mono λo S2 ⟨c_,fG,os,a7,a8,a9,hon,hos,lG,iS⟩=>⟨c_,fG,?_⟩
 .rintro i v δ S2 hv ⟨os,a7,a8,a9,hon,hos,rfl,rfl⟩;obtain⟨k,hk,rfl⟩:=NT.cQ hv;have hkl:=QaM.mp$ Qap hk;have hil:=(Qae.mp hk).1;have hol:os.length<=2:=by
   have:=Qbh List.length hon;rw[Qaa,Qaa,QaB,Qaq] at this;omega
  refine⟨[some$ .d$ .lst$ ns.map .int,some$ .d$ nI f,some$ .d$ Tz n0 n1 n2 n3,some$ .d$ .lst$ ms.map nI,some$ .d$ .lst$ P.map MT.inD,some$ .d$ .lst$ gs.map gS,some$ .loc S3.length,some$ .d$ nI k,a8,a9],rfl,?_⟩;obtain⟨mn,hmn⟩:∃mn,P.length+gs.length=mn:=⟨_,rfl⟩;refine aJ<|bu (by simp)<|cn ((aj (au rfl$ by rw[c7,Qaa]) (au rfl$ by rw[c7,Qaa])$ jT _ _).trans$ by rw[hmn]) ⟨_,rfl,?_⟩
  simp only[List.set];obtain⟨x,hx⟩:=at' (3+k) (by omega)
  have hxm:x % min mn 3<min mn 3:=Qcb _ (by omega)
  obtain⟨w,hw⟩:∃w,mn - 1 - x % min mn 3=w:=⟨_,rfl⟩;refine aJ<|bu (by simp)<|cn (d:=nI w) ((aj (a:=nI$ mn - 1) (b:=nI$ x % min mn 3) (aj (a:=nI mn) (b:=nI 1) rfl rfl$ wD$ by omega) (aj (a:=nI x) (b:=nI$ min mn 3) (aj (a:= .lst$ ms.map nI) (b:=nI$ 3+k) rfl (aj (a:=nI 3) (b:=nI k) rfl rfl$ jT _ _)$ oG hx) (au (ds:=[nI mn,nI 3]) rfl Qj)$ mU$ by omega)$ wD$ by omega).trans$ by rw[hw]) ⟨_,rfl,?_⟩
  simp only[List.set];refine iQ (k:=S3.length) rfl ⟨_,aO _ _⟩<|cn (d:=oz ([n0,n1,n2,n3].getD (2+k) Str.empty,[w])) (bM (aq (aj (a:=Tz n0 n1 n2 n3) (b:=nI$ 2+k) rfl (aj (a:=nI 2) (b:=nI k) rfl rfl$ jT _ _)$ Lj$ by omega)$ aq (bM (ds:=[nI w]) rfl$ by simp;omega) rfl)$ by simp;omega) ⟨_,_,rfl,aO _ _,by rw[Qaa];omega,_,rfl,os++[([n0,n1,n2,n3].getD (2+k) Str.empty,[w])],_,_,_,?_,?_,by rw[cc,Qam];rfl,rfl⟩
  .rw [QaI,hk,Qam,Qam,hon];rfl
  .intro z vx;rcases QaU.mp vx with y | y
   .exact hos z y
   .rw [Qa8.mp y];exact⟨w,rfl,by omega⟩
 subst iS lG;rw[Qaa,Qaa,Qaq,QaQ (by simp),Nb hq2.2] at hon
 refine qS (i:=6) rfl (aO _ _) ?_;rw[cc];simp only[List.set];have hol:os.length=q:=by
  have:=Qbh List.length hon;rw[Qaa,QaB] at this;simp only[Qao,Qbw] at this;omega
 refine fM<|dC<|aM<|cn (d:= .lst$ (ms.drop 4).map nI) (QR (d:= .lst$ ms.map nI) (lo:=some 4) (hi:=none) rfl (K3 rfl) rfl$ Ug Wb)<|aM<|cn (d:=a_ P gs os) (bM rfl$ by simp;omega)<|di<|IE (by rw[Qbm];omega) ⟨by omega,by omega,λi x hx=>by rw[hPl];exact hgs i x hx,by omega,by omega,by omega,hos⟩ (hS.push λ_=>rfl) λG O T hG hO=>?_
 have eP:P.map QK=([n0,n1].take m).map λn=>(n,3):=QI S7.2
 rw[eP] at T ⊢;exact⟨_,rfl,rfl,⟨[SO.fm],rfl⟩,_,rfl,h m q G O S7.1 S7.2 hq2.1 hq2.2 T hG$ hO.trans hon⟩
end
noncomputable abbrev lE(n1 n2 pr:D)(x3 x4 x5 x6 x7 x8 x9 MP MU Hm Ek Jw Cj Ak Ck Ho B7 Ci:Option V3):DE:=[some$ .d n1,some$ .d n2,some$ .d pr,x3,x4,x5,x6,x7,x8,x9,MP,MU,Hm,Ek,Jw,Cj,Ak,Ck,Ho,B7,Ci]
section
variable {ins1 ins2:Aac}{gs1 cC:List Gt}{bC dG:Aad}{pairs:List (Nat × Nat)}{S:bp}{n1 n2 pr:D}{x3 x4 x5 x6 x7 x8 x9 MP MU Hm Ek Jw Cj Ak Ck Ho B7 Ci:Option V3}
def NG{q:Nat × Nat}{i:Nat}(hn:(pairs.map (·.2)).Nodup)(hl:pairs.length<1000)(hq:pairs[i]? =some q) :
 W3 (oS (lE n1 n2 pr (some$ .loc S.length) (some$ .d$ nI q.1) (some$ .d$ nI q.2) x6 x7 x8 x9 MP MU Hm Ek Jw Cj Ak Ck Ho B7 Ci)$ S++[.dct$ yZ$ pairs.take i]) λo S1=>o= .nx (lE n1 n2 pr (some$ .loc S.length) (some$ .d$ nI q.1) (some$ .d$ nI q.2) x6 x7 x8 x9 MP MU Hm Ek Jw Cj Ak Ck Ho B7 Ci)/\S1=S++[SO.dct$ yZ$ pairs.take$ i+1]:=by
 have hz:=Qas;have hno:cF (pairs.take i) q.2=none:=C9$ rq hn hq;refine Bx<|cn rfl<|w_var rfl<|cn rfl ⟨_,S.length,_,Sum.inl ((q.2:Nat):Int),yZ$ pairs.take i,rfl,rfl,rfl,rfl,aO _ _,?_,rfl,?_⟩
 .unfold yZ;rw [Qaa,QaB];omega
 .rw [cc,Bp (by
   have:=sg q.2$ pairs.take i;rw[hno] at this;unfold yZ;rw[Qar];exact this),QaI,hq]
  unfold yZ;rw[Qam];rfl
def Aq(pairs:List (Nat × Nat))(ins1 ins2:Aac)(i:Nat):Aac:=ins1++(((ins2.zipIdx.take i).filter λx=>(cF pairs x.2).isNone).map (·.1))
def IF{i:Nat}{x:Str × Nat}(hx:ins2[i]? =some x):Aq pairs ins1 ins2 (i+1)=Aq pairs ins1 ins2 i++(if(cF pairs i).isNone then [x] else []):=by
 unfold Aq;have hz:ins2.zipIdx[i]? =some (x,i):=by rw[Qbd,hx];simp
 rw[QaI,hz,QbT,Qam,QaL];congr 2;show(List.filter _ [(x,i)]).map _=_;cases hf:(cF pairs i).isNone with
 | true=>rw [Qbs,QaK hf];rfl
 | false=>rw [Qbs,QaH$ by rw[hf];decide];rfl
def RD{i:Nat}{U:bp}{x:Str × Nat}{I:Aac}(hx:ins2[i]? =some x)(hI:I.length<1000) :
 W3 (pO (lE n1 (a_ ins2 cC dG) pr (some$ .d$ dctP pairs) x4 (some$ .d$ nI i) x6 (some$ .loc U.length) x8 x9 MP MU Hm Ek Jw Cj Ak Ck Ho B7 Ci)$ U++[.lst$ I.map MT.inD]) λo S1=>o= .nx (lE n1 (a_ ins2 cC dG) pr (some$ .d$ dctP pairs) x4 (some$ .d$ nI i) x6 (some$ .loc U.length) x8 x9 MP MU Hm Ek Jw Cj Ak Ck Ho B7 Ci)/\S1=U++[SO.lst$ (I++if(cF pairs i).isNone then [x] else []).map MT.inD]:=by
 have hz:=Qas;refine oH<|qo (de rfl rfl GR) ?_
 cases(cF pairs i).isNone with
 | false=>rw [QaH (by decide),QaH (by decide),QaV];exact fI ⟨rfl,rfl⟩
 | true=>
   refine iQ rfl ⟨_,aO _ _⟩<|cn (aj (aj rfl rfl rfl) rfl$ NT.dP$ by rw[Qac,hx];rfl) ⟨_,_,rfl,aO _ _,by rw[Qaa];omega,rfl,?_⟩
   rw[cc,Qam];rfl
def bk(mine lw n:Nat):List Nat:=(List.range$ mine+n).map$ rD mine lw
def R1(mine lw n:Nat):(bk mine lw n).length=mine+n:=by unfold bk;simp
def UC{mine lw n w:Nat}(h:w<mine+n):gd (bk mine lw n) w=rD mine lw w:=by
 show(bk mine lw n).getD w 0=_;unfold bk;rw[Qag,Qac,Qci h];rfl
def L9{nums ns:List Nat}{own:List Str}{kp:List Nat}{f:FD}{δ:ay}(hf:f δ= .ok (.tup$ ns.map nI))(hc:t9 own kp δ=[.un, .val$ .lst$ nums.map nI])(h:∀n∈ns,n<nums.length)(hl:ns.length<1000):bX (cb f) (aC 0) eB (e2 bz (af 1)$ af 0) own kp δ= .ok ((ns.map$ gd nums).map nI):=by
 have hz:=Qas;refine bF (uj hf) (by rw[Qaa];omega) ?_
 rw[hc,show(ns.map$ gd nums).map nI=ns.map λn=>nI (gd nums n) from Qar]
 refine NT.bc nI _ λn hn=>⟨[.val$ nI n, .val$ .lst$ nums.map nI],rfl,rfl,aj rfl rfl$ oG ?_⟩
 show _=some (nums.getD n 0);rw[Qag,Qab$ h n hn];rfl
def Kg{i free:Nat}{nums L:List Nat}(WJ:∀o,cF pairs i=some o->∃x,bC[o]? =some x/\x.2.length<1000/\∀n∈x.2,n<nums.length)(hL:L.length<100000) :
 W3 (pG (lE (a_ ins1 gs1 bC) n2 pr (some$ .d$ dctP pairs) x4 (some$ .d$ nI i) x6 x7 x8 x9 (some$ .d$ .lst$ nums.map nI) (some$ .d$ .lst$ L.map nI) (some$ .d$ nI free) Ek Jw Cj Ak Ck Ho B7 Ci) S) λo S1=>S1=S/\o= .nx (lE (a_ ins1 gs1 bC) n2 pr (some$ .d$ dctP pairs) x4 (some$ .d$ nI i) x6 x7 x8 x9 (some$ .d$ .lst$ nums.map nI) (some$ .d$ .lst$ (L++match cF pairs i with | some o=>(si bC o).map (gd nums) | none=>List.range' free 3).map nI) (some$ .d$ nI$ match cF pairs i with | some _=>free | none=>free+3) Ek Jw Cj Ak Ck Ho B7 Ci):=by
 have hz:=Qas;refine oH<|qo (de rfl rfl vZ) ?_
 cases hf:cF pairs i with
 | none=>
   refine aJ<|bu (by simp)<|cn (d:= .lst$ (L++List.range' free 3).map nI) (aj rfl (bK$ qd (aq rfl$ aq (aj rfl rfl$ jT _ _)$ aq (aj rfl rfl$ jT _ _) rfl)$ by simp;omega)$ (zy$ by rw[Qaa];simp;omega).trans$ by rw[Qam];rfl) ⟨_,rfl,?_⟩
   refine bu (by simp)<|cn (aj rfl rfl$ jT _ _) ⟨rfl,?_⟩
   simp
 | some o=>
   obtain⟨x,hx,Jz,hxn⟩:=WJ o hf;have hos:si bC o=x.2:=by unfold si;rw [Qag,hx];rfl
   refine bu (by simp)<|cn (aj rfl (bK$ L9 (aj (aj (aj rfl rfl rfl) (aj rfl rfl$ Cs hf)$ NT.dP$ by rw[Qac,hx];rfl) rfl rfl) rfl hxn Jz)$ (zy$ by rw[Qaa,Qaa,Qaa];omega).trans$ by rw[<-Qam]) ⟨rfl,?_⟩
   simp;rw[hos]
def UI{U:bp}{nums:List Nat}{g:Gt}{G:List Gt}(hg:∀n∈g.2.1,n<nums.length)(hl:g.2.1.length<1000)(hG:G.length<10000) :
 W3 (px (lE n1 n2 pr x3 x4 x5 x6 x7 x8 x9 (some$ .d$ .lst$ nums.map nI) MU Hm Ek (some$ .loc U.length) (some$ .d$ .str$ kS g.1) (some$ .d$ .tup$ g.2.1.map nI) (some$ .d$ .bl g.2.2) Ho B7 Ci)$ U++[.lst$ G.map gS]) λo S1=>o= .nx (lE n1 n2 pr x3 x4 x5 x6 x7 x8 x9 (some$ .d$ .lst$ nums.map nI) MU Hm Ek (some$ .loc U.length) (some$ .d$ .str$ kS g.1) (some$ .d$ .tup$ g.2.1.map nI) (some$ .d$ .bl g.2.2) Ho B7 Ci)/\S1=U++[SO.lst$ (G++[js (gd nums) g]).map gS]:=by
 have hz:=Qas;refine iQ rfl ⟨_,aO _ _⟩<|cn (bM (aq rfl$ aq (au (aq (bK$ L9 rfl rfl hg hl) rfl) rfl) rfl)$ by simp;omega) ⟨_,_,rfl,aO _ _,by rw[Qaa];omega,rfl,?_⟩
 rw[cc,Qam];rfl
def UU{U:bp}{nums:List Nat}{g:Gt}{G:List Gt}(hg:∀n∈g.2.1,n<nums.length)(hl:g.2.1.length<1000)(hG:G.length<10000) :
 W3 (oX (lE n1 n2 pr x3 x4 x5 x6 x7 x8 x9 MP (some$ .d$ .lst$ nums.map nI) Hm Ek (some$ .loc U.length) (some$ .d$ .str$ kS g.1) (some$ .d$ .tup$ g.2.1.map nI) (some$ .d$ .bl g.2.2) Ho B7 Ci)$ U++[.lst$ G.map gS]) λo S1=>o= .nx (lE n1 n2 pr x3 x4 x5 x6 x7 x8 x9 MP (some$ .d$ .lst$ nums.map nI) Hm Ek (some$ .loc U.length) (some$ .d$ .str$ kS g.1) (some$ .d$ .tup$ g.2.1.map nI) (some$ .d$ .bl g.2.2) Ho B7 Ci)/\S1=U++[SO.lst$ (G++[js (gd nums) g]).map gS]:=by
 have hz:=Qas;refine iQ rfl ⟨_,aO _ _⟩<|cn (bM (aq rfl$ aq (au (aq (bK$ L9 rfl rfl hg hl) rfl) rfl) rfl)$ by simp;omega) ⟨_,_,rfl,aO _ _,by rw[Qaa];omega,rfl,?_⟩
 rw[cc,Qam];rfl
def Ux{U:bp}{nums gone:List Nat}{i:Nat}{x:Str × List Nat}{O:Aad}(hx:bC[i]? =some x)(hg:∀n∈x.2,n<nums.length)(hl:x.2.length<1000)(hO:O.length<10000) :
 W3 (o9 (lE (a_ ins1 gs1 bC) n2 pr (some$ .loc U.length) x4 x5 x6 x7 x8 x9 (some$ .d$ .lst$ nums.map nI) MU Hm Ek Jw Cj Ak Ck (some$ .d$ .lst$ gone.map nI) (some$ .d$ nI i) Ci)$ U++[.lst$ O.map oz]) λo S1=>o= .nx (lE (a_ ins1 gs1 bC) n2 pr (some$ .loc U.length) x4 x5 x6 x7 x8 x9 (some$ .d$ .lst$ nums.map nI) MU Hm Ek Jw Cj Ak Ck (some$ .d$ .lst$ gone.map nI) (some$ .d$ nI i) Ci)/\S1=U++[SO.lst$ (O++if !gone.contains i then [l7 (gd nums) x] else []).map oz]:=by
 have hz:=Qas;have ex:∀{δ:ay},af 0 δ= .ok (a_ ins1 gs1 bC)->af 19 δ= .ok (nI i)->e2 bz (e2 bz (af 0)$ eC$ .int 2) (af 19) δ= .ok (oz x):=λh0 h19=>aj (aj h0 rfl rfl) h19 (NT.dP$ by rw[Qac,hx];rfl)
 refine oH<|qo (de rfl rfl$ Hi i gone) ?_
 cases !gone.contains i with
 | false=>rw [QaH (by decide),QaH (by decide),QaV];exact fI ⟨rfl,rfl⟩
 | true=>
   refine iQ rfl ⟨_,aO _ _⟩<|cn (bM (aq (aj (ex rfl rfl) rfl rfl)$ aq (au (aq (bK$ L9 (aj (ex rfl rfl) rfl rfl) rfl hg hl) rfl) rfl) rfl)$ by simp;omega) ⟨_,_,rfl,aO _ _,by rw[Qaa];omega,rfl,?_⟩
   rw[cc,Qam];rfl
def VM{U:bp}{nums:List Nat}{x:Str × List Nat}{O:Aad}(hg:∀n∈x.2,n<nums.length)(hl:x.2.length<1000)(hO:O.length<10000) :
 W3 (o_ (lE n1 n2 pr (some$ .loc U.length) x4 x5 x6 x7 x8 x9 MP (some$ .d$ .lst$ nums.map nI) Hm Ek Jw Cj (some$ .d$ .tup$ x.2.map nI) Ck Ho B7$ some$ .d$ .str x.1)$ U++[.lst$ O.map oz]) λo S1=>o= .nx (lE n1 n2 pr (some$ .loc U.length) x4 x5 x6 x7 x8 x9 MP (some$ .d$ .lst$ nums.map nI) Hm Ek Jw Cj (some$ .d$ .tup$ x.2.map nI) Ck Ho B7$ some$ .d$ .str x.1)/\S1=U++[SO.lst$ (O++[l7 (gd nums) x]).map oz]:=by
 have hz:=Qas;refine iQ rfl ⟨_,aO _ _⟩<|cn (bM (aq rfl$ aq (au (aq (bK$ L9 rfl rfl hg hl) rfl) rfl) rfl)$ by simp;omega) ⟨_,_,rfl,aO _ _,by rw[Qaa];omega,rfl,?_⟩
 rw[cc,Qam];rfl
end
end K44
end
section
set_option maxHeartbeats 2000000
namespace K44
open PySem PySem.Spec PyProof.Rows L2 L3 MT JT
def t7{α β:Type}{l:List α}{f:α->β}{i:Nat}{x:α}(h:l[i]? =some x):(l.take$ i+1).map f=(l.take i).map f++[f x]:=by
 rw[QaI,h,Qam];rfl
section
variable {ins1 ins2:Aac}{gs1 cC:List Gt}{bC dG:Aad}{pairs:List (Nat × Nat)}{S:bp}
def FN{f:Nat->Nat}{mine i:Nat}{x:Str × Nat}(hx:ins2[i]? =some x)(h3:x.2=3) :
 dc f (si bC) ((eJ pairs ins2).take$ i+1) mine=dc f (si bC) ((eJ pairs ins2).take i) mine++(match cF pairs i with | some o=>(si bC o).map f | none=>List.range' (mine+bf ((eJ pairs ins2).take i)) 3):=by
 rw[wz hx,s_,h3];congr 1;cases cF pairs i with
 | some o=>show(si bC o).map f++[]=_;rw [QaV]
 | none=>show List.range' _ 3++[]=_;rw [QaV]
def Ig{mine i:Nat}{x:Str × Nat}(hx:ins2[i]? =some x)(h3:x.2=3) :
 mine+bf ((eJ pairs ins2).take$ i+1)=(match cF pairs i with | some _=>mine+bf ((eJ pairs ins2).take i) | none=>mine+bf ((eJ pairs ins2).take i)+3):=by
 rw[wz hx,qg,h3];cases cF pairs i with
 | some o=>show mine+(_+0)=_;rfl
 | none=>show mine+(_+(3+0))=mine+_+3;omega
def Ky:Aq pairs ins1 ins2 ins2.length=jI ins1 ins2 pairs:=by
 unfold Aq jI ij;rw[QaQ$ by rw[Qa4];exact Qak _]
def Ke{f:FD}{δ:ay}{ds:List D}(h:f δ= .ok (.lst ds)):nList f δ= .ok ds:=by
 unfold nList;rw[h];rfl
def FC(T1:sM ins1 gs1 bC)(T2:sM ins2 cC dG)(F:Fits bC ins2 pairs)(nd:(pairs.map (·.2)).Nodup)(hS:yO S){Q:V3->bp->Prop}(h:Q (.d$ a_ (jI ins1 ins2 pairs) (jG ins1 ins2 gs1 cC bC pairs)$ jO ins1 ins2 gs1 bC dG pairs) S) :
 W3 (qO [.d$ a_ ins1 gs1 bC, .d$ a_ ins2 cC dG, .d$ .lst$ pairs.map vf] S) Q:=by
 have hz:=Qas;have Ti:=T1.N.hi;have TF:=T1.N.hg;have h13:=T1.N.ho;have h21:=T2.N.hi;have h22:=T2.N.hg;have h23:=T2.N.ho;have w1:=Dj T1.i3;have w2:=Dj T2.i3;have j_:pairs.length<1000:=by
  have:=xQ nd λx hx=>by
   obtain⟨q,hq,rfl⟩:=QaC.mp hx;obtain⟨_,y,_,hy,_⟩:=F q hq;exact(Qae.mp hy).1
  rw[Qaa] at this;omega
 have hll:(ij pairs ins2).length<=ins2.length:=by
  unfold ij;rw[Qaa];have:=Qby (λx:(Str × Nat) × Nat=>(cF pairs x.2).isNone) ins2.zipIdx
  rwa [Qa4] at this
 have hlw:bf (eJ pairs ins2)=3*(ij pairs ins2).length:=by rw[<-xo,Dj λx hx=>T2.i3 x$ xc hx]
 refine iR hS$ Cc rfl ?_;simp only[dn,j9,List.map,List.length,List.replicate,QaO,Qa2,Nat.reduceAdd,Nat.reduceSub];refine aJ<|bu (by simp)<|FQ ⟨_,rfl,?_⟩
 refine aJ<|dS<|fj (eN rfl) ?_
 refine(bQ (λi δ S2=>∃x4 x5,δ=lE (a_ ins1 gs1 bC) (a_ ins2 cC dG) (.lst$ pairs.map vf) (some$ .loc S.length) x4 x5 none none none none none none none none none none none none none none none/\S2=S++[SO.dct$ yZ$ pairs.take i])
  ⟨_,_,rfl,rfl⟩ ?_).mono λo S2 ⟨c_,fG,x4,x5,iS,lG⟩=>⟨c_,fG,?_⟩
 .rintro i v δ S2 hv ⟨x4,x5,rfl,rfl⟩;obtain⟨q,hq,rfl⟩:=NT.cQ hv;exact⟨_,rfl,(NG nd j_ hq).mono λo S3 ⟨e1,e2⟩=>⟨_,e1,_,_,rfl,e2⟩⟩
 rw[Qaa,Qaa,QaY] at lG;subst iS lG;refine QF rfl (aO _ _) ?_;rw[cc,Kb];generalize ZX:S++[SO.fm]=U1;refine aJ<|bu (by simp)<|jZ (λj ds S2=>S2=U1/\ds=((List.range$ 3*ins1.length).map nI).take j)<|fj (fY (aj (a:=nI 3) rfl (au rfl$ by rw[c7,Qaa])$ yn$ .inr$ by omega)$ by omega) ⟨by rw[Qaa,Qaa,Qaq];omega,⟨rfl,by simp⟩,?_,?_⟩
 .rintro j v ds S2 hv ⟨rfl,rfl⟩;obtain⟨k,hk,rfl⟩:=NT.cQ hv;refine⟨[some$ .d$ nI k],rfl,D3 ?_⟩;refine cn rfl ⟨_,rfl,rfl,?_⟩;rw[QaI,Qac,hk];rfl
 rintro ds S2 ⟨e1,rfl⟩;subst S2;refine⟨_,rfl,?_⟩;generalize (D.lst$ ((List.range$ 3*ins1.length).map nI).take (((List.range$ 3*ins1.length).map nI).map V3.d).length)=dW;refine aJ<|bu (by simp)<|jR (Ke$ aj rfl rfl rfl) ⟨_,rfl,?_⟩
 refine aJ<|bu (by simp)<|cn (aj (a:=nI 3) rfl (au rfl$ by rw[c7,Qaa])$ yn$ .inr$ by omega) ⟨_,rfl,?_⟩
 refine aJ<|dS<|fj (fY (au rfl$ by rw[c7,Qaa])$ by omega) ?_
 refine(bQ (λi δ S2=>∃x5,δ=lE (a_ ins1 gs1 bC) (a_ ins2 cC dG) (.lst$ pairs.map vf) (some$ .d$ dctP pairs) x4 x5 (some$ .d dW) (some$ .loc U1.length) (some$ .d$ nI$ 3*ins1.length) none none none none none none none none none none none none/\S2=U1++[SO.lst$ (Aq pairs ins1 ins2 i).map MT.inD])
  ⟨_,rfl,by unfold Aq;simp⟩ ?_).mono λo S2 ⟨c_,fG,x5,iS,lG⟩=>⟨c_,fG,?_⟩
 .rintro i v δ S2 hv ⟨x5,rfl,rfl⟩;obtain⟨k,hk,rfl⟩:=NT.cQ hv;obtain⟨hkl,ek⟩:=Qae.mp hk;rw[Qbp] at ek;subst ek;rw[Qaq] at hkl;have hx:ins2[i]? =some ins2[i]:=Qab hkl;have hil:(Aq pairs ins1 ins2 i).length<1000:=by
   unfold Aq;rw[Qai,Qaa];have:=Qby (λx:(Str × Nat) × Nat=>(cF pairs x.2).isNone)$ ins2.zipIdx.take i
   rw[QaB,Qa4] at this;omega
  exact⟨_,rfl,(RD hx hil).mono λo S3 ⟨e1,e2⟩=>⟨_,e1,_,rfl,by rw[e2,IF hx]⟩⟩
 rw[Qaa,Qaa,Qaq,Ky] at lG;subst iS lG;refine qS rfl (aO _ _) ?_;rw[cc];generalize ZW:U1++[SO.fm]=U2;have hjl:(jI ins1 ins2 pairs).length=ins1.length+(ij pairs ins2).length:=Fw;generalize hlI:(ij pairs ins2).length=li at hll hlw hjl;generalize hlW:bf (eJ pairs ins2)=lw at hlw;generalize hJI:jI ins1 ins2 pairs=JI at hjl h;have n3:∀{δ:ay},af 7 δ= .ok (.lst$ JI.map MT.inD)->e2 lJ (eC$ .int 3) (aD cP$ ah (af 7) ax) δ= .ok (nI$ 3*JI.length):=λhv=>aj (a:=nI 3) rfl (au (aq hv rfl)$ by rw[c7,Qaa]) (yn$ .inr$ by omega)
 refine aJ<|bu (by simp)<|cn ((aj (n3 rfl) rfl$ wD$ by omega).trans$ by rw[show 3*JI.length - 3*ins1.length=lw by omega]) ⟨_,rfl,?_⟩
 have eG1:∀{δ:ay},af 0 δ= .ok (a_ ins1 gs1 bC)->aD cP (ah (e2 bz (af 0)$ eC$ .int 1) ax) δ= .ok (nI gs1.length):=λhv=>au (aq (aj hv rfl rfl) rfl) (by rw[c7,Qaa])
 refine aJ<|bu (by simp)<|cn (d:= .lst$ (bk (3*ins1.length) lw gs1.length).map nI) (bK$ bF (fY (aj rfl (eG1 rfl)$ jT _ _)$ by omega) (by rw[Qaa,Qaq];omega) ?_) ⟨_,rfl,?_⟩
 .unfold bk;rw[show((List.range$ 3*ins1.length+gs1.length).map$ rD (3*ins1.length) lw).map nI=(List.range$ 3*ins1.length+gs1.length).map λw=>nI (rD (3*ins1.length) lw w) from Qar]
  refine NT.bc nI _ λw hw=>⟨[.val$ nI w, .val$ nI$ 3*ins1.length, .val$ nI lw],rfl,rfl,?_⟩
  refine aj (b:= .int$ if decide (3*ins1.length<=w) then 1 else 0) (bK$ qd (aq rfl$ aq (aj rfl rfl$ jT _ _) rfl)$ by simp;omega) (au (aq (aj rfl rfl$ XJ _ _) rfl)$ by cases decide (3*ins1.length<=w) <;> rfl) ?_
  unfold rD;by_cases hc:w<3*ins1.length
  .rw [QaK hc,Qaw$ by omega];rfl
  .rw [QaH hc,Qat$ by omega];rfl
 have hbl:=R1 (3*ins1.length) lw gs1.length;have hba:∀w,w<3*ins1.length+gs1.length->gd (bk (3*ins1.length) lw gs1.length) w=rD (3*ins1.length) lw w:=λw hw=>UC hw
 generalize hBK:bk (3*ins1.length) lw gs1.length=BK at hbl hba;refine aJ<|bu (by simp)<|cn rfl ⟨_,rfl,?_⟩
 refine aJ<|bu (by simp)<|cn rfl ⟨_,rfl,?_⟩
 refine aJ<|dS<|fj (fY (au rfl$ by rw[c7,Qaa])$ by omega) ?_
 have Jv:∀o w,(some o,w)∈eJ pairs ins2->(si bC o).length=w:=λo w ho=>by obtain⟨x,_,e,e2⟩:=F.at ho;rw [e,e2]
 have thl:∀i,i<=ins2.length->(dc (gd BK) (si bC) ((eJ pairs ins2).take i)$ 3*ins1.length).length<=300:=λi hi=>by
  rw[kI _ _ λo w ho=>Jv o w$ Qbr ho]
  have h3:∀x∈(eJ pairs ins2).take i,x.2=3:=λx hx=>UK T2 x$ Qbr hx
  rw[ua h3,QaB];omega
 refine(bQ (λi δ S2=>∃x5,δ=lE (a_ ins1 gs1 bC) (a_ ins2 cC dG) (.lst$ pairs.map vf) (some$ .d$ dctP pairs) x4 x5 (some$ .d dW) (some$ .d$ .lst$ JI.map MT.inD) (some$ .d$ nI$ 3*ins1.length) (some$ .d$ nI lw) (some$ .d$ .lst$ BK.map nI) (some$ .d$ .lst$ (dc (gd BK) (si bC) ((eJ pairs ins2).take i)$ 3*ins1.length).map nI) (some$ .d$ nI$ 3*ins1.length+bf ((eJ pairs ins2).take i)) none none none none none none none none/\U2=S2)
  ⟨_,rfl,rfl⟩ ?_).mono λo S2 ⟨c_,fG,x5,iS,lG⟩=>⟨c_,fG,?_⟩
 .rintro i v δ S2 hv ⟨x5,rfl,rfl⟩;obtain⟨k,hk,rfl⟩:=NT.cQ hv;obtain⟨hkl,ek⟩:=Qae.mp hk;rw[Qbp] at ek;subst ek;rw[Qaq] at hkl;have hx:ins2[i]? =some ins2[i]:=Qab hkl;have hx3:=T2.i3 _$ Qa7 hkl;have:=thl i (by omega)
  refine⟨_,rfl,(Kg (λo ho=>?_)$ by omega).mono λo S3 ⟨e1,e2⟩=>⟨_,e2,some$ .d$ nI i,?_,e1.symm⟩⟩
  .obtain⟨x,y,q1,_,_⟩:=F (o,i)$ zA ho;have hxm:=Qap q1;exact⟨x,q1,(T1.N.o x hxm).1,λn hn=>by rw[hbl,<-w1];exact(T1.N.o x hxm).2 n hn⟩
  .rw [FN hx hx3,Ig hx hx3] <;> cases cF pairs i <;> rfl
 rw[Qaa,Qaa,Qaq,QaQ (by rw[lO];exact Qak _),hlW] at iS
 subst iS lG;have hL:dc (gd BK) (si bC) (eJ pairs ins2) (3*ins1.length)=jL ins1 ins2 bC pairs:=by
  show _=dc (rD (dk ins1)$ bf$ eJ pairs ins2) (si bC) (eJ pairs ins2) (dk ins1);rw[w1,hlW];refine nj λo w ho n hn=>?_
  obtain⟨x,x1,x2,x3⟩:=F.at ho;rw[x2] at hn;refine hba n ?_;rw[<-w1];exact(T1.N.o x$ Qap x1).2 n hn
 have hLl:(jL ins1 ins2 bC pairs).length=dk ins2:=yp F;rw[hL];obtain⟨st,Jl⟩:∃st,3*JI.length+gs1.length=st:=⟨_,rfl⟩;refine aJ<|bu (by simp)<|cn ((aj (n3 rfl) (eG1 rfl)$ jT _ _).trans$ by rw[Jl]) ⟨_,rfl,?_⟩
 refine aJ<|bu (by simp)<|cn (aj (b:= .lst$ (List.range' st cC.length).map nI) rfl (bK$ bF (fY (au rfl$ by rw[c7,Qaa])$ by omega) (by rw[Qaa,Qaq];omega) ?_)$ (zy$ by rw[Qaa,Qaa,Qa3,hLl];omega).trans$ by rw[<-Qam]) ⟨_,rfl,?_⟩
 .rw [Qcs,show((List.range cC.length).map λx=>st+x).map nI=(List.range cC.length).map λx=>nI (st+x) from Qar]
  exact NT.bc nI _ λk hk=>⟨[.val$ nI k, .val$ nI st],rfl,rfl,aj rfl rfl$ jT _ _⟩
 have est:dk ins1+bf (eJ pairs ins2)+gs1.length=st:=by rw[w1,hlW];omega
 have hta:∀w,w<dk ins2+cC.length->gd (jL ins1 ins2 bC pairs++List.range' st cC.length) w=Sb ins1 ins2 gs1 bC pairs w:=λw hw=>by
  show _=Ga (jL ins1 ins2 bC pairs) (dk ins1+bf (eJ pairs ins2)+gs1.length) w;rw[est];exact Kp (by rw[hLl];exact hw)
 have htl:(jL ins1 ins2 bC pairs++List.range' st cC.length).length=dk ins2+cC.length:=by rw[Qai,hLl,Qa3]
 generalize jL ins1 ins2 bC pairs++List.range' st cC.length=TH at hta htl;have hba':∀w,w<dk ins1+gs1.length->gd BK w=To ins1 ins2 pairs w:=λw hw=>by
  show _=rD (dk ins1) (bf$ eJ pairs ins2) w;rw[w1,hlW];exact hba w (by omega)
 refine aJ<|bu (by simp)<|jR rfl ⟨_,rfl,?_⟩
 refine aJ<|dS<|fj (eN rfl) ?_
 refine(bQ (λi δ S2=>∃Cj Ak Ck,δ=lE (a_ ins1 gs1 bC) (a_ ins2 cC dG) (.lst$ pairs.map vf) (some$ .d$ dctP pairs) x4 x5 (some$ .d dW) (some$ .d$ .lst$ JI.map MT.inD) (some$ .d$ nI$ 3*ins1.length) (some$ .d$ nI lw) (some$ .d$ .lst$ BK.map nI) (some$ .d$ .lst$ TH.map nI) (some$ .d$ nI$ 3*ins1.length+lw) (some$ .d$ nI st) (some$ .loc U2.length) Cj Ak Ck none none none/\S2=U2++[SO.lst$ ((gs1.take i).map$ js$ gd BK).map gS])
  ⟨_,_,_,rfl,rfl⟩ ?_).mono λo S2 ⟨c_,fG,Cj,Ak,Ck,iS,lG⟩=>⟨c_,fG,?_⟩
 .rintro i v δ S2 hv ⟨Cj,Ak,Ck,rfl,rfl⟩;obtain⟨g,hg,rfl⟩:=NT.cQ hv;obtain⟨g1,g2,g3⟩:=T1.N.g i g hg;have har:=sP g.1;have hil:=(Qae.mp hg).1;exact⟨_,rfl,(UI (λn hn=>by rw[hbl,<-w1];have:=g3 n hn;omega) (by omega)$ by rw[Qaa,QaB];omega).mono λo S3 ⟨e1,e2⟩=>⟨_,e1,_,_,_,rfl,by rw[e2,t7 hg]⟩⟩
 subst iS lG;refine aJ<|dS<|fj (eN rfl) ?_
 refine(bQ (λi δ S2=>∃Cj Ak Ck,δ=lE (a_ ins1 gs1 bC) (a_ ins2 cC dG) (.lst$ pairs.map vf) (some$ .d$ dctP pairs) x4 x5 (some$ .d dW) (some$ .d$ .lst$ JI.map MT.inD) (some$ .d$ nI$ 3*ins1.length) (some$ .d$ nI lw) (some$ .d$ .lst$ BK.map nI) (some$ .d$ .lst$ TH.map nI) (some$ .d$ nI$ 3*ins1.length+lw) (some$ .d$ nI st) (some$ .loc U2.length) Cj Ak Ck none none none/\S2=U2++[SO.lst$ (gs1.map (js$ gd BK)++(cC.take i).map (js$ gd TH)).map gS])
  ⟨_,_,_,rfl,by simp⟩ ?_).mono λo S2 ⟨c_,fG,Yz,ZJ,Yu,iS,lG⟩=>⟨c_,fG,?_⟩
 .rintro i v δ S2 hv ⟨Yz,ZJ,Yu,rfl,rfl⟩;obtain⟨g,hg,rfl⟩:=NT.cQ hv;obtain⟨g1,g2,g3⟩:=T2.N.g i g hg;have har:=sP g.1;have hil:=(Qae.mp hg).1;exact⟨_,rfl,(UU (λn hn=>by rw[htl];have:=g3 n hn;omega) (by omega)$ by rw[Qai,Qaa,Qaa,QaB];omega).mono λo S3 ⟨e1,e2⟩=>⟨_,e1,_,_,_,rfl,by rw[e2,t7 hg,QaL]⟩⟩
 rw[Qaa,Qaa,QaY] at lG;subst iS lG;have eG:gs1.map (js$ gd BK)++cC.map (js$ gd TH)=jG ins1 ins2 gs1 cC bC pairs:=by
  congr 1
  .refine QaS λg hg=>nC λn hn=>?_
   obtain⟨i,hi⟩:=List.mem_iff_getElem?.mp hg;refine hba' n ?_;have:=(T1.N.g i g hi).2.2 n hn;have:=(Qae.mp hi).1;omega
  .refine QaS λg hg=>nC λn hn=>?_
   obtain⟨i,hi⟩:=List.mem_iff_getElem?.mp hg;refine hta n ?_;have:=(T2.N.g i g hi).2.2 n hn;have:=(Qae.mp hi).1;omega
 rw[eG];generalize jG ins1 ins2 gs1 cC bC pairs=JG at h;refine qS rfl (aO _ _) ?_;rw[cc];generalize ZK:U2++[SO.fm]=U3;refine aJ<|bu (by simp)<|jZ (λj ds S2=>S2=U3/\ds=((pairs.map (·.1)).map nI).take j)<|fj (eN rfl) ⟨by rw[Qaa,Qaa];omega,⟨rfl,by simp⟩,?_,?_⟩
 .rintro j v ds S2 hv ⟨rfl,rfl⟩;obtain⟨q,hq,rfl⟩:=NT.cQ hv;refine⟨[some$ .d$ nI q.1,some$ .d$ nI q.2],rfl,D3 ?_⟩;refine cn rfl ⟨_,rfl,rfl,?_⟩;rw[QaI,Qac,Qac,hq];rfl
 rintro ds S2 ⟨e1,rfl⟩;subst S2;rw[Qaa,Qaa,QaQ$ by rw[Qaa,Qaa];exact Qak _]
 refine⟨_,rfl,?_⟩;refine aJ<|bu (by simp)<|jR rfl ⟨_,rfl,?_⟩
 generalize VY:pairs.map (·.1)=gone
 refine aJ<|dS<|fj (fY (au rfl$ by rw[c7,Qaa])$ by omega) ?_
 let O1:Nat->Aad:=λi=>((bC.zipIdx.take i).filter λx=>!gone.contains x.2).map λx=>l7 (gd BK) x.1
 have hO1l:∀i,(O1 i).length<=bC.length:=λi=>by
  rw[Qaa];have:=Qby (λx:(Str × List Nat) × Nat=>!gone.contains x.2)$ bC.zipIdx.take i
  rw[QaB,Qa4] at this;omega
 have Yy:∀i x,bC[i]? =some x->O1 (i+1)=O1 i++if !gone.contains i then [l7 (gd BK) x] else []:=λi x hx=>by
  have hzx:bC.zipIdx[i]? =some (x,i):=by rw[Qbd,hx];simp
  show((bC.zipIdx.take$ i+1).filter _).map _=_;rw[QaI,hzx,QbT,Qam];congr 1;show(List.filter (λx:(Str × List Nat) × Nat=>!gone.contains x.2) [(x,i)]).map _=_
  cases hf:!gone.contains i with
  | true=>rw [Qbs,QaK hf];rfl
  | false=>rw [Qbs,QaH$ by show ¬(!gone.contains i)=true;rw [hf];decide];rfl
 refine(bQ (λi δ S2=>∃B7,δ=lE (a_ ins1 gs1 bC) (a_ ins2 cC dG) (.lst$ pairs.map vf) (some$ .loc U3.length) x4 x5 (some$ .d dW) (some$ .d$ .lst$ JI.map MT.inD) (some$ .d$ nI$ 3*ins1.length) (some$ .d$ nI lw) (some$ .d$ .lst$ BK.map nI) (some$ .d$ .lst$ TH.map nI) (some$ .d$ nI$ 3*ins1.length+lw) (some$ .d$ nI st) (some$ .d$ .lst$ JG.map gS) Yz ZJ Yu (some$ .d$ .lst$ gone.map nI) B7 none/\S2=U3++[SO.lst$ (O1 i).map oz])
  ⟨_,rfl,rfl⟩ ?_).mono λo S2 ⟨c_,fG,B7,iS,lG⟩=>⟨c_,fG,?_⟩
 .rintro i v δ S2 hv ⟨B7,rfl,rfl⟩;obtain⟨k,hk,rfl⟩:=NT.cQ hv;obtain⟨hkl,ek⟩:=Qae.mp hk;rw[Qbp] at ek;subst ek;rw[Qaq] at hkl;have hx:bC[i]? =some bC[i]:=Qab hkl;have hxo:=T1.N.o _$ Qa7 hkl;have:=hO1l i;exact⟨_,rfl,(Ux hx (λn hn=>by rw[hbl,<-w1];exact hxo.2 n hn) hxo.1$ by omega).mono λo S3 ⟨e1,e2⟩=>⟨_,e1,_,rfl,by rw[e2,Yy i _ hx]⟩⟩
 subst iS lG;refine aJ<|dS<|fj (eN rfl) ?_
 have:=hO1l bC.length;refine(bQ (λi δ S2=>∃Ak Ci,δ=lE (a_ ins1 gs1 bC) (a_ ins2 cC dG) (.lst$ pairs.map vf) (some$ .loc U3.length) x4 x5 (some$ .d dW) (some$ .d$ .lst$ JI.map MT.inD) (some$ .d$ nI$ 3*ins1.length) (some$ .d$ nI lw) (some$ .d$ .lst$ BK.map nI) (some$ .d$ .lst$ TH.map nI) (some$ .d$ nI$ 3*ins1.length+lw) (some$ .d$ nI st) (some$ .d$ .lst$ JG.map gS) Yz Ak Yu (some$ .d$ .lst$ gone.map nI) B7 Ci/\S2=U3++[SO.lst$ (O1 bC.length++(dG.take i).map (l7$ gd TH)).map oz])
  ⟨_,_,rfl,by simp⟩ ?_).mono λo S2 ⟨c_,fG,Ak,Ci,iS,lG⟩=>⟨c_,fG,?_⟩
 .rintro i v δ S2 hv ⟨Ak,Ci,rfl,rfl⟩;obtain⟨x,hx,rfl⟩:=NT.cQ hv;have hxo:=T2.N.o _$ Qap hx;have hil:=(Qae.mp hx).1;exact⟨_,rfl,(VM (λn hn=>by rw[htl];exact hxo.2 n hn) hxo.1 (by rw[Qai];have e9:((dG.take i).map$ l7$ gd TH).length<=i:=(by rw[Qaa,QaB];omega);omega)).mono λo S3 ⟨e1,e2⟩=>⟨_,e1,_,_,rfl,by rw[e2,t7 hx,QaL]⟩⟩
 rw[Qaa,Qaa,QaY] at lG;subst iS lG;have eO:O1 bC.length++dG.map (l7$ gd TH)=jO ins1 ins2 gs1 bC dG pairs:=by
  unfold jO ox;rw[VY];congr 1
  .show((bC.zipIdx.take bC.length).filter λx=>!gone.contains x.2).map _=_
   rw[QaQ (by rw[Qa4];exact Qak _),Qar]
   refine QaS λx hx=>nh λn hn=>?_
   have hxm:=(Qbb.mp hx).1;rw[Qa0] at hxm;exact hba' n$ (T1.N.o _$ Qap hxm).2 n hn
  .exact QaS λx hx=>nh λn hn=>hta n$ (T2.N.o x hx).2 n hn
 rw[eO];generalize jO ins1 ins2 gs1 bC dG pairs=JO at h;have hlen:U3.length=S.length+3:=by rw[<-ZK,<-ZW,<-ZX];simp
 refine fM<|Kw<|aM<|w_var rfl<|aM<|w_var rfl<|aM<|w_var rfl<|di ⟨by simp;omega, .tup [.d$ .lst$ JI.map MT.inD, .d$ .lst$ JG.map gS, .loc U3.length],rfl,?_,⟨[SO.fm,SO.fm,SO.fm,SO.lst$ JO.map oz],by rw[<-ZK,<-ZW,<-ZX,QaL,QaL,QaL];rfl⟩,_,?_,h⟩
 .unfold iA n_ iA n_ iA n_ iA n_;rw[Qat$ by omega];rfl
 .unfold res yI;unfold yI;unfold yI;rw[uZ$ aO _ _];rfl
end
def LQ{pairs:List (Nat × Nat)}{ins:Aac}:(ij pairs ins).Sublist ins:=by
 have h:((ins.zipIdx.filter λx=>(cF pairs x.2).isNone).map (·.1)).Sublist (ins.zipIdx.map (·.1)):=List.Sublist.map _ List.filter_sublist
 have e:ins.zipIdx.map (·.1)=ins:=Qcy λi=>by
  rw[Qac,Qbd];cases ins[i]? <;> rfl
 rw[e] at h;exact h
def LD{pairs:List (Nat × Nat)}{os:Aad}:(ox pairs os).Sublist os:=by
 have h:((os.zipIdx.filter λx=>!(pairs.map (·.1)).contains x.2).map (·.1)).Sublist (os.zipIdx.map (·.1)):=List.Sublist.map _ List.filter_sublist
 have e:os.zipIdx.map (·.1)=os:=Qcy λi=>by
  rw[Qac,Qbd];cases os[i]? <;> rfl
 rw[e] at h;exact h
def T5(r:Option (List Nat × List Nat × Nat)):xK (mh r) (.tup [.str "keeps"])= .ok (.bl r.isNone):=by
 have fk:dO 1 (.tup [.str "keeps"]):=dO.tup λd hd=>by rw[Qa8.mp hd];exact dO.str (by decide+kernel)
 cases r with
 | none=>
   show(C8 (.tup [.str "keeps"])$ .tup [.str "keeps"]).bind _=_;rw[fk.eqT$ by omega];rfl
 | some q=>
   obtain⟨B,T,p⟩:=q;have ft:∀l:List Nat,dO 1 (cq l):=λl=>dO.tup λd hd=>by obtain⟨n,_,rfl⟩:=QaC.mp hd;exact dO.int _
   have fl:dO 2 (.tup [.str "loses",cq B,cq T,nI p]):=dO.tup λd hd=>by
    simp at hd;rcases hd with rfl | rfl | rfl | rfl
    .exact(dO.str$ by decide+kernel).mono (by omega)
    .exact ft B
    .exact ft T
    .exact(dO.int _).mono (by omega)
   show(C8 (.tup [.str "loses",cq B,cq T,nI p])$ .tup [.str "keeps"]).bind _=_;rw[J4,fl.pl,fk.pl,fl.sh (by omega),fk.sh$ by omega]
   rfl
def wj(r:Option (List Nat × List Nat × Nat)):∃ds,mh r= .tup ds/\dO 2 (mh r):=by
 have ft:∀l:List Nat,dO 1 (cq l):=λl=>dO.tup λd hd=>by obtain⟨n,_,rfl⟩:=QaC.mp hd;exact dO.int _
 cases r with
 | none=>exact⟨_,rfl,(dO.tup λd hd=>by rw[Qa8.mp hd];exact dO.str (by decide+kernel):dO 1 (.tup [.str "keeps"])).mono (by omega)⟩
 | some q=>
   obtain⟨B,T,p⟩:=q;refine⟨_,rfl,(dO.tup λd hd=>?_:dO 2 (.tup [.str "loses",cq B,cq T,nI p]))⟩
   simp at hd;rcases hd with rfl | rfl | rfl | rfl
   .exact(dO.str$ by decide+kernel).mono (by omega)
   .exact ft B
   .exact ft T
   .exact(dO.int _).mono (by omega)
def M9(r:Option (List Nat × List Nat × Nat)):xK (mh r) (mh r)= .ok (.bl true)/\vX (mh r) (mh r)= .ok (.bl false):=by
 obtain⟨ds,e,f⟩:=wj r;rw[e] at f ⊢;have:=f.eqT (by omega)
 exact⟨by show(C8 _ _).bind _=_;rw [this];rfl,by show(C8 _ _).bind _=_;rw [this];rfl⟩
noncomputable abbrev nA:Str:=Str.ofString "a"
noncomputable abbrev wa:Str:=Str.ofString "ab"
noncomputable abbrev nE:Str:=Str.ofString "e"
noncomputable abbrev nF:Str:=Str.ofString "f"
noncomputable abbrev nG:Str:=Str.ofString "g"
noncomputable def dh(ns:List Str)(m:Nat):Aac:=(ns.take m).map λn=>(n,3)
def Co{m:Nat}(h:m<=2):(dh [a,b] m).length=m:=by
 unfold dh;rw[Qaa,QaB];exact Qcl h
def F8{ns:List Str}{m:Nat}:(dh ns m).map (·.1)=ns.take m:=by
 unfold dh;rw[Qar];exact List.map_id _
def Xb:([nA,wa]++[nE,nF]).Nodup:=by decide+kernel
def Xy:([nE,nF]++[nG,nA]).Nodup:=by decide+kernel
def Ut:∀s∈[nA,wa,nE,nF,nG],dO 0 (.str s):=λs hs=>by
 simp at hs;rcases hs with rfl | rfl | rfl | rfl | rfl <;> exact dO.str (by decide+kernel)
section
variable {m1 m2 q1 q2:Nat}{gs1 cC:List Gt}{bC dG:Aad}{pairs:List (Nat × Nat)}
def GK:((jI (dh [nA,wa] m1) (dh [nE,nF] m2) pairs).map (·.1)).Sublist ([nA,wa]++[nE,nF]):=by
 unfold jI;rw[Qam,F8];refine List.Sublist.append (Qb6 _ _)$ (LQ.map _).trans ?_;rw[F8];exact Qb6 _ _
def KC(o1:bC.map (·.1)=[nE,nF].take q1)(o2:dG.map (·.1)=[nG,nA].take q2){ins1 ins2:Aac}:((jO ins1 ins2 gs1 bC dG pairs).map (·.1)).Sublist ([nE,nF]++[nG,nA]):=by
 unfold jO;rw[Qam,Qar,Qar];refine List.Sublist.append ?_ ?_
 .have e:(ox pairs bC).map ((λx=>x.1) ∘ l7 (To ins1 ins2 pairs))=(ox pairs bC).map (·.1):=rfl
  rw[e];refine(LD.map _).trans ?_;rw[o1];exact Qb6 _ _
 .have e:dG.map ((λx=>x.1) ∘ l7 (Sb ins1 ins2 gs1 bC pairs))=dG.map (·.1):=rfl
  rw[e,o2];exact Qb6 _ _
def jok(F:Fits bC (dh [nE,nF] m2) pairs)(nd:(pairs.map (·.2)).Nodup)(h1:gs1.length<=18)(h2:cC.length<=18)(o1:bC.map (·.1)=[nE,nF].take q1)(o2:dG.map (·.1)=[nG,nA].take q2) :
 VR (dh [nA,wa] m1) (dh [nE,nF] m2) gs1 cC bC dG pairs:=by
 have a:=(GK (m1:=m1) (m2:=m2) (pairs:=pairs)).length_le;have b:=(KC (gs1:=gs1) (pairs:=pairs) o1 o2 (ins1:=dh [nA,wa] m1) (ins2:=dh [nE,nF] m2)).length_le;rw[Qaa] at a b;exact⟨F,nd,List.Nodup.sublist GK Xb,List.Nodup.sublist (KC o1 o2) Xy,QaT a (by decide),by omega,QaT b$ by decide⟩
def NF{ins:Aac}{gs:List Gt}{os:Aad}(hi:∀x∈ins,dO 0$ .str x.1)(ho:∀x∈os,dO 0$ .str x.1):dO 4 (a_ ins gs os):=dO.tup λd hd=>by
 simp at hd;rcases hd with rfl | rfl | rfl
 .refine dO.lst λd hd=>?_
  obtain⟨x,hx,rfl⟩:=QaC.mp hd;refine(dO.tup λe he=>?_:dO 1 _).mono (by omega)
  simp at he;rcases he with rfl | rfl
  .exact hi x hx
  .exact dO.int _
 .exact dO.lst λd hd=>by obtain⟨x,hx,rfl⟩:=QaC.mp hd;exact LY
 .refine dO.lst λd hd=>?_
  obtain⟨x,hx,rfl⟩:=QaC.mp hd;refine dO.tup λe he=>?_
  simp at he;rcases he with rfl | rfl
  .exact(ho x hx).mono (by omega)
  .exact dO.tup λd hd=>by obtain⟨z,_,rfl⟩:=QaC.mp hd;exact dO.int _
def QE{ins:Aac}{gs:List Gt}{os:Aad}(h:dO 4 (a_ ins gs os)):vX (a_ ins gs os) (a_ ins gs os)= .ok (.bl false):=by
 show(C8 (.tup _)$ .tup _).bind _=_;rw[h.eqT$ by omega];rfl
end
def K0(a b:Option (List Nat × List Nat × Nat)):vX (.lst [mh a,mh b]) (.lst [mh a,mh b])= .ok (.bl false):=by
 have f:dO 3 (.lst [mh a,mh b]):=dO.lst λd hd=>by
  simp at hd;rcases hd with rfl | rfl
  .exact(wj a).choose_spec.2
  .exact(wj b).choose_spec.2
 show(C8 (.lst _)$ .lst _).bind _=_;rw[f.eqL$ by omega];rfl
def R5(a b:Option (List Nat × List Nat × Nat)):vX (.lst [mh a,mh b]) (.lst [.tup [.str "keeps"], .tup [.str "keeps"]])= .ok (.bl$ !(a.isNone && b.isNone)):=by
 have f:∀a b,dO 3 (.lst [mh a,mh b]):=λa b=>dO.lst λd hd=>by
  simp at hd;rcases hd with rfl | rfl
  .exact(wj a).choose_spec.2
  .exact(wj b).choose_spec.2
 have f1:=f a b;have f2:dO 3 (.lst [.tup [.str "keeps"], .tup [.str "keeps"]]):=f none none;show(C8 (.lst _)$ .lst _).bind _=_;rw[AE,f1.pl,f2.pl,f1.sh (by omega),f2.sh$ by omega]
 cases a with
 | none=>cases b with
   | none=>rfl
   | some q=>rfl
 | some q=>rfl
def Bo{ins:Aac}{gs:List Gt}{os:Aad}:(fu ins.length gs os).isNone=true↔yF ins.length gs os:=by
 rw[<-Og];cases fu ins.length gs os <;> simp
noncomputable def fp(b m k:Nat):Nat:=if b=0 then k else m - 1 - k
def U0{b m k:Nat}(hb:b<2):bz (.lst [nI k,nI$ m - 1 - k]) (nI b)= .ok (nI$ fp b m k):=by
 match b,hb with
 | 0,_=>rfl
 | 1,_=>rfl
def T6{b m k:Nat}(h:k<m):fp b m k<m:=by unfold fp;split <;> omega
def Sd{b m j k:Nat}(h:j<m)(h2:k<m)(e:fp b m j=fp b m k):j=k:=by unfold fp at e;split at e <;> omega
def UJ:Flat [SO.fm]:=λo ho n=>by rw[Qa8.mp ho];rfl
def JU(ns:List Int)(hn:ns.length<=63):KW [.lst$ ns.map D.int]= .ok (.bl true):=by
 have hz:=Qas;have f0:Flat ([]:bp):=Flat.nil;have key:W3 (tV vj zO [.d$ .lst$ ns.map .int] []) λv S1=>v= .d (.bl true)/\S1=[]:=by
  refine iR f0.clo$ Cc rfl ?_;simp only[dn,vj,List.map,List.length,List.replicate,QaO,Qa2,Nat.reduceAdd,Nat.reduceSub];refine aJ<|bu (by simp)<|dC<|aM<|cn rfl<|aM<|cn rfl<|aM<|cn rfl<|di<|DM f0 λm1 q1 gs1 bC a1 a2 a3 a4 T1 a5 o1=>⟨_,rfl,?_⟩
  refine aJ<|bu (by simp)<|dC<|aM<|cn rfl<|aM<|cn rfl<|aM<|cn rfl<|di<|DM f0 λm2 q2 cC dG c1 c2 c3 c4 T2 c5 o2=>⟨_,rfl,?_⟩
  change sM (dh [nA,wa] m1) gs1 bC at T1
  change sM (dh [nE,nF] m2) cC dG at T2
  have Cg:(dh [nA,wa] m1).length=m1:=Co a2;have zp:(dh [nE,nF] m2).length=m2:=Co c2;have hO1:bC.length=q1:=by
   have:=Qbh List.length o1;rw[Qaa,QaB] at this;simp at this;omega
  obtain⟨c,hc⟩:=BJ ns 12;obtain⟨hd,hhd,em⟩:=rh c 4 (by omega)
  have at':∀i,i<4->∃x,hd[i]? =some x:=λi hi=>⟨hd[i],Qab$ by omega⟩
  obtain⟨h0,e0⟩:=at' 0 (by omega)
  obtain⟨h3,e3⟩:=at' 3 (by omega)
  refine aJ<|bu (by simp)<|cn (au (aq (au rfl hc) rfl) em) ⟨_,rfl,?_⟩
  refine aJ<|bu (by simp)<|jR rfl ⟨_,rfl,?_⟩
  obtain⟨q,hq⟩:∃q,min (1+h0 % 2) m2=q:=⟨_,rfl⟩;obtain⟨b,hb⟩:∃b,h3 % 2=b:=⟨_,rfl⟩;have YM:b<2:=by omega
  refine aJ<|dS<|fj (fY (au (aq (aj rfl (aj (b:=nI 2) (aj rfl rfl$ oG e0) rfl$ mU$ by omega)$ jT _ _)$ aq (au (ds:=[.lst$ (dh [nE,nF] m2).map MT.inD]) rfl$ by rw[c7,Qaa,zp]) rfl)$ by rw[Qj,hq])$ by omega) ?_
  refine(bQ (λi δ S2=>∃(pairs:List (Nat × Nat)) (a5:Option V3),δ=[some$ .d$ .lst$ ns.map .int,some$ .d$ a_ (dh [nA,wa] m1) gs1 bC,some$ .d$ a_ (dh [nE,nF] m2) cC dG,some$ .d$ .lst$ hd.map nI,some$ .loc 0,a5,none,none,none]/\S2=[SO.lst$ pairs.map vf]/\(pairs.map (·.2))=(List.range i).map (fp b m2)/\(∀z∈pairs,z.1<bC.length))
   ⟨[],_,rfl,rfl,rfl,λz vx=>by cases vx⟩ ?_).mono λo S2 ⟨c_,fG,pairs,x5,iS,lG,Mt,WR⟩=>⟨c_,fG,?_⟩
  .rintro i v δ S2 hv ⟨pairs,x5,rfl,rfl,Mt,WR⟩;obtain⟨k,hk,rfl⟩:=NT.cQ hv;obtain⟨hkl,ek⟩:=Qae.mp hk;rw[Qbp] at ek;subst ek;rw[Qaq] at hkl;obtain⟨x,hx⟩:=at' (1+i) (by omega)
   have j_:pairs.length=i:=by have:=Qbh List.length Mt;simpa using this
   refine⟨[some$ .d$ .lst$ ns.map .int,some$ .d$ a_ (dh [nA,wa] m1) gs1 bC,some$ .d$ a_ (dh [nE,nF] m2) cC dG,some$ .d$ .lst$ hd.map nI,some$ .loc 0,some$ .d$ nI i,none,none,none],rfl,?_⟩;have hm:x % bC.length<bC.length:=Qcb _ (by omega)
   refine iQ rfl ⟨_,rfl⟩ (cn (bM (aq (aj (aj rfl (aj rfl rfl$ jT _ _)$ oG hx) (au rfl$ by rw[c7,Qaa])$ mU$ by omega)$ aq (aj (bK$ qd (aq rfl$ aq (aj (aj (b:=nI 1) (au rfl$ by rw[c7,Qaa,zp]) rfl$ wD$ by omega) rfl$ wD$ by omega) rfl)$ by simp;omega) ((aj (b:=nI 2) (aj rfl rfl$ oG e3) rfl$ mU$ by omega).trans$ by rw[hb])$ U0 YM) rfl)$ by simp;omega) ⟨_,_,rfl,rfl,by rw[Qaa];omega,_,rfl,pairs++[(x % bC.length,fp b m2 i)],_,rfl,?_,?_,λz vx=>?_⟩)
   .show [SO.lst$ pairs.map vf++_]=_;rw[Qam];rfl
   .rw [Qam,Mt,List.range_succ,Qam];rfl
   .rcases QaU.mp vx with y | y
    .exact WR z y
    .rw [Qa8.mp y];exact hm
  subst iS lG;rw[Qaa,Qaa,Qaq] at Mt;have nd:(pairs.map (·.2)).Nodup:=by
   rw[Mt];refine List.pairwise_map.mpr$ List.Pairwise.imp_of_mem (fun {j k} hj hk zm e=>?_) List.nodup_range
   rw[QaM] at hj hk;exact zm (Sd (by omega) (by omega) e)
  have F:Fits bC (dh [nE,nF] m2) pairs:=λz vx=>by
   have h1:=WR z vx;have h2:z.2<m2:=by
    have:z.2∈pairs.map (·.2):=Qch vx
    rw[Mt] at this;obtain⟨k,hk,e⟩:=QaC.mp this;rw[<-e];exact T6 (by have:=QaM.mp hk;omega)
   refine⟨bC[z.1],(dh [nE,nF] m2)[z.2]'(by rw[zp];exact h2),Qab h1,Qab _,?_⟩
   rw[T1.o3 _$ Qa7 h1,T2.i3 _$ Qa7 _]
  have J:VR (dh [nA,wa] m1) (dh [nE,nF] m2) gs1 cC bC dG pairs:=jok F nd a5 c5 o1 o2;refine qS rfl rfl ?_;have fr:=UJ;have TJ:=AA T1 T2 J;refine aJ<|bu (by simp)<|dC<|aM<|cn rfl<|aM<|cn rfl<|aM<|cn (au rfl rfl)<|di<|HE T1.N T2.N J fr.clo ⟨_,rfl,?_⟩
  have KJ:yF (dh [nA,wa] m1).length gs1 bC->yF (dh [nE,nF] m2).length cC dG->_:=λK1 K2=>CK T1 T2 F K1 K2
  have iF:∀x∈jI (dh [nA,wa] m1) (dh [nE,nF] m2) pairs,dO 0 (.str x.1):=λx hx=>Ut _ (by
   have:=(GK).subset$ Qch hx;simp at this ⊢;rcases this with e | e | e | e <;> simp [e])
  have oF:∀x∈jO (dh [nA,wa] m1) (dh [nE,nF] m2) gs1 bC dG pairs,dO 0 (.str x.1):=λx hx=>Ut _ (by
   have:=(KC o1 o2).subset$ Qch hx;simp at this ⊢;rcases this with e | e | e | e <;> simp [e])
  have jl1:1<=(jI (dh [nA,wa] m1) (dh [nE,nF] m2) pairs).length:=by rw[Fw];omega
  have jl4:(jI (dh [nA,wa] m1) (dh [nE,nF] m2) pairs).length<=4:=by
   have a:=(GK (m1:=m1) (m2:=m2) (pairs:=pairs)).length_le;rw[Qaa] at a;exact a
  have zm:=QE$ NF iF oF (gs:=jG (dh [nA,wa] m1) (dh [nE,nF] m2) gs1 cC bC pairs);refine aJ<|oH<|SV<|cn rfl<|dC<|aM<|cn rfl<|aM<|cn rfl<|aM<|cn rfl<|di<|FC T1 T2 F nd fr.clo ⟨_,_,false,rfl,rfl,zm,?_⟩
  refine fI ⟨_,rfl,?_⟩;generalize jI (dh [nA,wa] m1) (dh [nE,nF] m2) pairs=iJ at KJ TJ jl1 jl4;generalize jG (dh [nA,wa] m1) (dh [nE,nF] m2) gs1 cC bC pairs=gJ' at KJ TJ;generalize jO (dh [nA,wa] m1) (dh [nE,nF] m2) gs1 bC dG pairs=oJ at KJ TJ;obtain⟨k1,WT⟩:∃k,fu (dh [nA,wa] m1).length gs1 bC=k:=⟨_,rfl⟩;obtain⟨k2,TN⟩:∃k,fu (dh [nE,nF] m2).length cC dG=k:=⟨_,rfl⟩;obtain⟨kJ,hkJ⟩:∃k,fu iJ.length gJ' oJ=k:=⟨_,rfl⟩;refine aJ<|bu (by simp)<|P9<|aM<|dC<|aM<|cn rfl<|di<|ue T1.N rfl (by omega) T1.i3 T1.o3 fr ?_
  refine aM<|dC<|aM<|cn rfl<|di<|ue T2.N rfl (by omega) T2.i3 T2.o3 fr ?_
  refine di ⟨by simp;omega,_,rfl,?_⟩
  refine aJ<|oH<|SV<|P9<|aM<|dC<|aM<|cn rfl<|di<|yu T1.N rfl (by omega) T1.i3 T1.o3 fr ?_
  rw[WT];refine aM<|dC<|aM<|cn rfl<|di<|yu T2.N rfl (by omega) T2.i3 T2.o3 fr ?_
  rw[TN];refine di ⟨by simp;omega,cn rfl ⟨_,_,false,rfl,rfl,K0 k1 k2,?_⟩⟩
  refine fI ⟨_,rfl,?_⟩;refine aJ<|bu (by simp)<|dC<|aM<|cn rfl<|di<|yu TJ.N rfl jl4 TJ.i3 TJ.o3 fr ?_
  rw[hkJ];refine⟨_,rfl,?_⟩;have hlt:b2 Tu (aD cP$ ah (e2 bz (af 6)$ eC$ .int 0) ax) (eC$ .int 3) (down [some$ .d$ .lst$ ns.map .int,some$ .d$ a_ (dh [nA,wa] m1) gs1 bC,some$ .d$ a_ (dh [nE,nF] m2) cC dG,some$ .d$ .lst$ hd.map nI,some$ .d$ .lst$ pairs.map vf,x5,some$ .d$ a_ iJ gJ' oJ,some$ .d$ .lst [mh k1,mh k2],some$ .d$ mh kJ])= .ok (decide$ iJ.length<3):=de (au rfl$ by rw[c7,Qaa]) rfl$ XI _ _
  have fin:W3 (g8 (xP$ UO (e2 vX (af 7)$ eNew$ Ey (eF$ ah (b_$ ah (eC$ .str "keeps") ax) ax)$ eC$ .int 2)$ e2 xK (af 8)$ b_$ ah (eC$ .str "keeps") ax) [some$ .d$ .lst$ ns.map .int,some$ .d$ a_ (dh [nA,wa] m1) gs1 bC,some$ .d$ a_ (dh [nE,nF] m2) cC dG,some$ .d$ .lst$ hd.map nI,some$ .d$ .lst$ pairs.map vf,x5,some$ .d$ a_ iJ gJ' oJ,some$ .d$ .lst [mh k1,mh k2],some$ .d$ mh kJ] [SO.fm]) λo S1=>o= .rt (.d$ .bl true)/\S1=[SO.fm]:=by
   refine fM<|cn ?_ ⟨rfl,rfl⟩
   generalize iS:down [some$ .d$ .lst$ ns.map .int,some$ .d$ a_ (dh [nA,wa] m1) gs1 bC,some$ .d$ a_ (dh [nE,nF] m2) cC dG,some$ .d$ .lst$ hd.map nI,some$ .d$ .lst$ pairs.map vf,x5,some$ .d$ a_ iJ gJ' oJ,some$ .d$ .lst [mh k1,mh k2],some$ .d$ mh kJ]=δ;have v7:af 7 δ= .ok (.lst [mh k1,mh k2]):=by rw[<-iS];rfl
   have v8:af 8 δ= .ok (mh kJ):=by rw[<-iS];rfl
   have hA:MM (e2 vX (af 7)$ eNew$ Ey (eF$ ah (b_$ ah (eC$ .str "keeps") ax) ax)$ eC$ .int 2) δ= .ok (!(k1.isNone && k2.isNone)):=by
    unfold MM;rw[aj v7 (bK$ (Pz (n:=2) (qd (aq (bM rfl$ by simp;omega) rfl)$ by simp;omega) rfl (by omega)$ by simp;omega).trans rfl)$ R5 k1 k2]
    rfl
   unfold UO;rw[hA,R.aP];cases hb:k1.isNone && k2.isNone with
   | false=>rfl
   | true=>
     obtain⟨hb1,YM⟩:=Qbc.mp hb;have kj:kJ.isNone=true:=by
      rw[<-hkJ,Bo];exact KJ (Bo.mp$ by rw[WT];exact hb1) (Bo.mp$ by rw[TN];exact YM)
     exact aj v8 (bM rfl$ by simp;omega) ((T5 kJ).trans$ by rw[kj])
  refine aJ<|oH ?_
  refine W3.bind<|qo hlt ?_
  cases hj:decide (iJ.length<3) with
  | false=>
    refine W3.ok ?_;refine fI ⟨_,rfl,?_⟩;exact fin.mono λo S1 ⟨e1,e2⟩=>⟨_,e1,rfl,⟨_,e2⟩,_,rfl,rfl,trivial⟩
  | true=>
    have hj:=Qal hj;refine SV<|cn rfl<|dC<|aM<|cn rfl<|di<|ue TJ.N rfl (by omega) TJ.i3 TJ.o3 fr ⟨_,_,false,rfl,rfl,by rw[hkJ];exact(M9 kJ).2,?_⟩
    refine fI ⟨_,rfl,?_⟩;exact fin.mono λo S1 ⟨e1,e2⟩=>⟨_,e1,rfl,⟨_,e2⟩,_,rfl,rfl,trivial⟩
 obtain⟨v,S1,e1,fG,e3⟩:=key;show(match tV vj zO ([D.lst$ ns.map D.int].map V3.d) [] with | .ok (.d d) []=>R.bH d.atom (R.ok d) | _=> .no)=_
 rw[show [D.lst$ ns.map D.int].map V3.d=[V3.d$ .lst$ ns.map .int] from rfl,e1,fG,e3]
 rfl
end K44
end
open PySem PySem.W PyProof.Rows
set_option maxRecDepth 100000 in
set_option maxHeartbeats 0 in
theorem PySem.Challenge.cw_bearfaults_k44_whole_keeping_joined_holds : PySem.Challenge.rw_bearfaults_k44_whole_keeping_joined.Holds := by
 w_on;o_law;k_head;(case hw=>w_witness2)
 k_fill
 refine L2.VD (l:=PySem.Challenge.rw_bearfaults_k44_whole_keeping_joined) (n:=63) (k:=11) (x:="script") (g:=K44.KW) rfl (by decide) rfl ⟨rfl,by decide,by decide⟩ (fun w h Y=>PySem.W.kIn_of Y) ?F K44.JU
 case F=>
  intro w mg fa h KX G VW
  have nU:L2.Def (L2.dI KX) mg "has_widths" K44.g9:=by
   dsimp only[L2.dI]
   refine' L2.bV KX G ?a ?l ?c ?k;case a|l|c|k=>k_is
  have uJ:L2.Def (L2.dI KX) mg "vote_of" K44.m4:=by
   dsimp only[L2.dI]
   refine' L2.bV KX G ?a ?l ?c ?k;case a|l|c|k=>k_is
  have pY:L2.Def (L2.dI KX) mg "gate_mask" K44.ju:=by
   dsimp only[L2.dI]
   refine' L2.bV KX G ?a ?l ?c ?k;case a|l|c|k=>k_is
  have jN:L2.Def (L2.dI KX) mg "in_wire_masks" K44.eZ:=by
   dsimp only[L2.dI]
   refine' L2.bV KX G ?a ?l ?c ?k;case a|l|c|k=>k_is
  have rS:L2.Def (L2.dI KX) mg "masks_at" K44.kz:=by
   dsimp only[L2.dI]
   refine' L2.bV KX G ?a ?l ?c ?k;case a|l|c|k=>k_is
  have nQ:L2.Def (L2.dI KX) mg "wire_masks" K44.il:=by
   dsimp only[L2.dI]
   refine' L2.bV KX G ?a ?l ?c ?k;case a|l|c|k=>k_is
  have pU:L2.Def (L2.dI KX) mg "out_masks" K44.jC:=by
   dsimp only[L2.dI]
   refine' L2.bV KX G ?a ?l ?c ?k;case a|l|c|k=>k_is
  have yx:L2.Def (L2.dI KX) mg "bit_at" K44.oW:=by
   dsimp only[L2.dI]
   refine' L2.bV KX G ?a ?l ?c ?k;case a|l|c|k=>k_is
  have nY:L2.Def (L2.dI KX) mg "all_inputs" K44.hW:=by
   dsimp only[L2.dI]
   refine' L2.bV KX G ?a ?l ?c ?k;case a|l|c|k=>k_is
  have uP:L2.Def (L2.dI KX) mg "mask_of" K44.mN:=by
   dsimp only[L2.dI]
   refine' L2.bV KX G ?a ?l ?c ?k;case a|l|c|k=>k_is
  have uS:L2.Def (L2.dI KX) mg "in_mask" K44.mY:=by
   dsimp only[L2.dI]
   refine' L2.bV KX G ?a ?l ?c ?k;case a|l|c|k=>k_is
  have pX:L2.Def (L2.dI KX) mg "unlike_at" K44.jz:=by
   dsimp only[L2.dI]
   refine' L2.bV KX G ?a ?l ?c ?k;case a|l|c|k=>k_is
  have uM:L2.Def (L2.dI KX) mg "lost_at" K44.mZ:=by
   dsimp only[L2.dI]
   refine' L2.bV KX G ?a ?l ?c ?k;case a|l|c|k=>k_is
  have rL:L2.Def (L2.dI KX) mg "bad_sets" K44.ky:=by
   dsimp only[L2.dI]
   refine' L2.bV KX G ?a ?l ?c ?k;case a|l|c|k=>k_is
  have jd:L2.Def (L2.dI KX) mg "keeping_faults" K44.el:=by
   dsimp only[L2.dI]
   refine' L2.bV KX G ?a ?l ?c ?k;case a|l|c|k=>k_is
  have B9:L2.Def (L2.dI KX) mg "keeps" K44.sH:=by
   dsimp only[L2.dI]
   refine' L2.bV KX G ?a ?l ?c ?k;case a|l|c|k=>k_is
  have nX:L2.Def (L2.dI KX) mg "check_fits" K44.hJ:=by
   dsimp only[L2.dI]
   refine' L2.bV KX G ?a ?l ?c ?k;case a|l|c|k=>k_is
  have mG:L2.Def (L2.dI KX) mg "outs_of_ins" K44.gn:=by
   dsimp only[L2.dI]
   refine' L2.bV KX G ?a ?l ?c ?k;case a|l|c|k=>k_is
  have mq:L2.Def (L2.dI KX) mg "check_names" K44.gc:=by
   dsimp only[L2.dI]
   refine' L2.bV KX G ?a ?l ?c ?k;case a|l|c|k=>k_is
  have nV:L2.Def (L2.dI KX) mg "check_room" K44.ik:=by
   dsimp only[L2.dI]
   refine' L2.bV KX G ?a ?l ?c ?k;case a|l|c|k=>k_is
  have nT:L2.Def (L2.dI KX) mg "many_wires" K44.g_:=by
   dsimp only[L2.dI]
   refine' L2.bV KX G ?a ?l ?c ?k;case a|l|c|k=>k_is
  have uK:L2.Def (L2.dI KX) mg "rewired" K44.mJ:=by
   dsimp only[L2.dI]
   refine' L2.bV KX G ?a ?l ?c ?k;case a|l|c|k=>k_is
  have jP:L2.Def (L2.dI KX) mg "rewired_gates" K44.eX:=by
   dsimp only[L2.dI]
   refine' L2.bV KX G ?a ?l ?c ?k;case a|l|c|k=>k_is
  have lB:L2.Def (L2.dI KX) mg "rewired_outs" K44.fL:=by
   dsimp only[L2.dI]
   refine' L2.bV KX G ?a ?l ?c ?k;case a|l|c|k=>k_is
  have mr:L2.Def (L2.dI KX) mg "one_numbers" K44.gf:=by
   dsimp only[L2.dI]
   refine' L2.bV KX G ?a ?l ?c ?k;case a|l|c|k=>k_is
  have jQ:L2.Def (L2.dI KX) mg "other_numbers" K44.eR:=by
   dsimp only[L2.dI]
   refine' L2.bV KX G ?a ?l ?c ?k;case a|l|c|k=>k_is
  have yA:L2.Def (L2.dI KX) mg "joined" K44.pj:=by
   dsimp only[L2.dI]
   refine' L2.bV KX G ?a ?l ?c ?k;case a|l|c|k=>k_is
  have mz:L2.Def (L2.dI KX) mg "_law_cell_at" K44.gz:=by
   dsimp only[L2.dI]
   refine' L2.bV KX G ?a ?l ?c ?k;case a|l|c|k=>k_is
  have my:L2.Def (L2.dI KX) mg "_law_numbers" K44.gg:=by
   dsimp only[L2.dI]
   refine' L2.bV KX G ?a ?l ?c ?k;case a|l|c|k=>k_is
  have rO:L2.Def (L2.dI KX) mg "_law_kind" K44.kL:=by
   dsimp only[L2.dI]
   refine' L2.bV KX G ?a ?l ?c ?k;case a|l|c|k=>k_is
  have pS:L2.Def (L2.dI KX) mg "_law_gates" K44.jF:=by
   dsimp only[L2.dI]
   refine' L2.bV KX G ?a ?l ?c ?k;case a|l|c|k=>k_is
  have rP:L2.Def (L2.dI KX) mg "_law_told" K44.kW:=by
   dsimp only[L2.dI]
   refine' L2.bV KX G ?a ?l ?c ?k;case a|l|c|k=>k_is
  have rK:L2.Def (L2.dI KX) mg "_law_outs" K44.k_:=by
   dsimp only[L2.dI]
   refine' L2.bV KX G ?a ?l ?c ?k;case a|l|c|k=>k_is
  have rN:L2.Def (L2.dI KX) mg "_law_bits" K44.kY:=by
   dsimp only[L2.dI]
   refine' L2.bV KX G ?a ?l ?c ?k;case a|l|c|k=>k_is
  have nS:L2.Def (L2.dI KX) mg "_law_copied" K44.ix:=by
   dsimp only[L2.dI]
   refine' L2.bV KX G ?a ?l ?c ?k;case a|l|c|k=>k_is
  have pT:L2.Def (L2.dI KX) mg "_law_plain" K44.jD:=by
   dsimp only[L2.dI]
   refine' L2.bV KX G ?a ?l ?c ?k;case a|l|c|k=>k_is
  have uN:L2.Def (L2.dI KX) mg "_law_odd" K44.mS:=by
   dsimp only[L2.dI]
   refine' L2.bV KX G ?a ?l ?c ?k;case a|l|c|k=>k_is
  have pW:L2.Def (L2.dI KX) mg "_law_wires" K44.jw:=by
   dsimp only[L2.dI]
   refine' L2.bV KX G ?a ?l ?c ?k;case a|l|c|k=>k_is
  have p_:L2.Def (L2.dI KX) mg "_law_keeps" K44.jy:=by
   dsimp only[L2.dI]
   refine' L2.bV KX G ?a ?l ?c ?k;case a|l|c|k=>k_is
  have nW:L2.Def (L2.dI KX) mg "_law_joined" K44.iq:=by
   dsimp only[L2.dI]
   refine' L2.bV KX G ?a ?l ?c ?k;case a|l|c|k=>k_is
  have D_law:L2.Def (L2.dI KX) mg "law" K44.GB:=by
   dsimp only[L2.dI]
   refine' L2.bV KX G ?a ?l ?c ?k;case a|l|c|k=>k_is
  have F0:L2.Glob (L2.dI KX) mg "MOST_INS" K44.iY:=by
   dsimp only[L2.dI]
   refine' L2.xN KX G ?a
   (case a=>k_is)
  have B6:L2.Glob (L2.dI KX) mg "MOST_GATES" K44.fS:=by
   dsimp only[L2.dI]
   refine' L2.xN KX G ?a
   (case a=>k_is)
  have Ea:L2.Glob (L2.dI KX) mg "MOST_OUTS" K44.gW:=by
   dsimp only[L2.dI]
   refine' L2.xN KX G ?a
   (case a=>k_is)
  obtain⟨cl,CF⟩:∃cl,K44.Cf (L2.dI KX) mg cl:=by
   dsimp only[L2.dI]
   refine' K44.VC KX G ?jYt ?jYE ?jV4 ?jYU ?jYI ?jYd ?jYw ?jFW ?jlA ?jB_ ?jp7 ?jjb ?ji9 ?ji_ ?jef ?jje ?jmF ?jmH ?jmE ?jgu ?jjo ?jiH ?jiE ?jiC ?jdU ?jfE
   (case jYt=>k_is)
   (case jYE=>k_is)
   (case jV4=>k_is)
   (case jYU=>k_is)
   (case jYI=>k_is)
   (case jYd=>k_is)
   (case jYw=>k_is)
   (case jFW=>k_is)
   (case jlA=>k_is)
   (case jB_=>k_is)
   (case jp7=>k_is)
   (case jjb=>k_is)
   (case ji9=>k_is)
   (case ji_=>k_is)
   (case jef=>k_is)
   (case jje=>k_is)
   (case jmF=>k_is)
   (case jmH=>k_is)
   (case jmE=>k_is)
   (case jgu=>k_is)
   (case jjo=>k_is)
   (case jiH=>k_is)
   (case jiE=>k_is)
   (case jiC=>k_is)
   (case jdU=>k_is)
   (case jfE=>k_is)
  have eu:=CF.eu
  have gA:=CF.gA
  have dY:=CF.dY
  have T:K44.Tp (L2.dI KX) mg cl:=by
   dsimp only[L2.dI]
   refine' ⟨PySem.W.mg_none_of KX G ?jz_all,PySem.W.mg_none_of KX G ?jz_len,PySem.W.mg_none_of KX G ?jz_enumerate,PySem.W.mg_none_of KX G ?jz_range,PySem.W.mg_none_of KX G ?jz_tuple,PySem.W.mg_none_of KX G ?jz_reversed,PySem.W.mg_none_of KX G ?jz_zip,PySem.W.mg_none_of KX G ?jz_sum,PySem.W.mg_none_of KX G ?jz_list,PySem.W.mg_none_of KX G ?jz_abs,PySem.W.mg_none_of KX G ?jz_min,PySem.W.mg_none_of KX G ?jz_int,PySem.W.mg_none_of KX G ?jz_max,PySem.W.mg_none_of KX G ?jz_sorted,F0,B6,Ea,CF.C_Bench,CF.N_Bench_net,CF.N_Bench_many_inputs,CF.N_Bench_full,CF.N_Bench_in_masks,CF.M_Bench⟩
   (case jz_all=>k_is);(case jz_len=>k_is);(case jz_enumerate=>k_is);(case jz_range=>k_is);(case jz_tuple=>k_is);(case jz_reversed=>k_is);(case jz_zip=>k_is);(case jz_sum=>k_is);(case jz_list=>k_is);(case jz_abs=>k_is);(case jz_min=>k_is);(case jz_int=>k_is);(case jz_max=>k_is);(case jz_sorted=>k_is)
  obtain⟨fl,fd,Fl,hl⟩:=D_law
  have e0:=VW.symm.trans hl
  cases e0
  refine' ⟨fd,?b,fun base kb nb=>K44.Sn T nU uJ pY jN rS nQ pU yx nY uP uS pX uM rL jd eu gA dY B9 nX mG mq nV nT uK jP lB mr jQ yA mz my rO pS rP rK rN nS pT uN pW p_ nW Fl⟩
  obtain⟨_,_,_,_,_,_,_,_,_,e,_,_⟩:=Fl.ex
  subst e
  exact fun s u=> .of_eq rfl
