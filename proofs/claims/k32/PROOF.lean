import PyProof.Rows.All
import Wide.All
import OpenK.AllK
import Wide.FinOn
import Lean
import PyProof.EqAt
import PyProof.EqKinds
import PyProof.TupleCall
import PyProof.Rows.StrJoin2
import PyProof.TupleOfGen
import PyProof.ListRange
import PyProof.Draws
import PyProof.Rows.StrClose3
import KE.KSortedM
import PyProof.Rows.SortWalk
import PyProof.WalkInts
import PyProof.Rows.Range3
import PyProof.ZipIter
import PyProof.ConsumeWalk
import PyProof.Rows.SeqMore
import KE.KRevIter
import KE.KRevSl
import KE.KUnpack
import KE.KDictSum
import KE.KTupSum
import KE.KSortTup
import KE.KDictOf
import OpenK.KRaise
import KE.KTryMore
import PyProof.ExcArgs
import PyProof.ExcBaseAll.ValueError
import PyProof.NsDelKeeps
import PyProof.AttrMissSeq
import PyProof.FString4
import PyProof.StrLawsRepr
import PyProof.Rows.StrSplitAre
import PyProof.Rows.StrNews2
import PyProof.StrLawsChain
import PyProof.StrLawsTight
import PyProof.Rows.StrJoinRep
import PyProof.Rows.StrMul
import PyProof.StrReplace2
import PyProof.StrLawsReplace
import PyProof.Rows.SetFrom
import PyProof.WalksMore
import PyProof.Rows.SortStr
import PySem.Challenge.RW_bearfaults_k32_keeps_or_loses
noncomputable section
abbrev Qdj:=PySem.Shared
abbrev Qdi:=PySem.W.Frag
abbrev Qdf{α:Sort _}{a:α}{b:Prop}:a=a\/b:=Or.inl rfl
abbrev Qaa:=@List.length_map
abbrev Qab:=@PySem.wpAny_bind
abbrev Qac:=@PySem.Heap.get?_push_of_some
abbrev Qad:=@List.getElem?_eq_getElem
abbrev Qae:=@List.getElem?_eq_some_iff
abbrev Qaf:=@List.getElem?_map
abbrev Qag:=@List.mem_cons_of_mem
abbrev Qah:=@of_decide_eq_true
abbrev Qai:=@Nat.le_refl
abbrev Qaj:=@PySem.wpAny_pure
abbrev Qak:=@List.getD_eq_getElem?_getD
abbrev Qal:=@List.getElem?_append_right
abbrev Qam:=@PySem.sizeLine_eq
abbrev Qan:=@decide_eq_true
abbrev Qao:=@List.size_toArray
abbrev Qap:=@List.length_range
abbrev Qaq:=@List.getElem?_set_self
abbrev Qar:=@PySem.Heap.lt_size
abbrev Qas:=@List.getElem?_set_ne
abbrev Qat:=@List.mem_cons_self
abbrev Qau:=@List.length_append
abbrev Qav:=@List.lookup_cons
abbrev Qaw:=@List.mem_cons
abbrev Qax:=@decide_eq_false
abbrev Qay:=@Bool.false_ne_true
abbrev Qaz:=@List.getElem?_append_left
abbrev QaA:=@if_neg
abbrev QaB:=@List.length_cons
abbrev QaC:=@Nat.lt_of_lt_of_le
abbrev QaD:=@List.mem_of_getElem?
abbrev QaE:=@Nat.ne_of_lt
abbrev QaF:=@PySem.Heap.get?_push_size
abbrev QaG:=@if_pos
abbrev QaH:=@List.map_append
abbrev QaI:=@List.mem_range
abbrev QaJ:=@List.length_replicate
abbrev QaK:=@List.length_take
abbrev QaL:=@List.map_map
abbrev QaM:=@List.cons_append
abbrev QaN:=@List.take_add_one
abbrev QaO:=@List.map_cons
abbrev QaP:=@Nat.le_trans
abbrev QaQ:=@PySem.boot_len
abbrev QaR:=@List.append_assoc
abbrev QaS:=@Option.some.inj
abbrev QaT:=@List.length_set
abbrev QaU:=@List.take_of_length_le
abbrev QaV:=@List.getElem?_replicate
abbrev QaW:=@Bool.and_eq_true
abbrev QaX:=@List.take_length
abbrev QaY:=@List.nil_append
abbrev QaZ:=@List.mem_map
abbrev Qa0:=@Bool.and_eq_true_iff
abbrev Qa1:=@List.mem_singleton
abbrev Qa2:=@List.mem_append_right
abbrev Qa3:=@PyProof.Rows.boot_tuple
abbrev Qa4:=@PySem.W.kia_one
abbrev Qa5:=@PySem.wpAny_field
abbrev Qa6:=@List.all_eq_true
abbrev Qa7:=@PySem.W.mg_of
abbrev Qa8:=@PySem.wpAny_newObj_type
abbrev Qa9:=@beq_eq_false_iff_ne
abbrev Qba:=@PyProof.Rows.callWith_type1
abbrev Qbb:=@PySem.Heap.size_push
abbrev Qbc:=@List.append_nil
abbrev Qbd:=@List.getElem_range
abbrev Qbe:=@List.getElem_mem
abbrev Qbf:=@Nat.zero_le
abbrev Qbg:=@List.getElem?_take
abbrev Qbh:=@PySem.wpAny_callSpecial?_slot
abbrev Qbi:=@congrArg
abbrev Qbj:=@beq_iff_eq
abbrev Qbk:=@PySem.wpAny_holding
abbrev Qbl:=@Nat.sub_self
abbrev Qbm:=@PyProof.Rows.slot_tuple_getitem
abbrev Qbn:=@PySem.mem_of_lookup
abbrev Qbo:=@List.mem_filter
abbrev Qbp:=@List.mem_append
abbrev Qbq:=@Bool.eq_iff_iff
abbrev Qbr:=@PySem.wpAny_call_entry
abbrev Qbs:=@List.mem_of_mem_take
abbrev Qbt:=@Nat.pow_le_pow_right
abbrev Qbu:=@Int.toNat_natCast
abbrev Qbv:=@Array.length_toList
abbrev Qbw:=@List.replicate_succ
abbrev Qbx:=@List.length_reverse
abbrev Qby:=@PyProof.Rows.boot_int
abbrev Qbz:=@List.length_range'
abbrev QbA:=@List.drop_eq_getElem_cons
abbrev QbB:=@List.getElem?_take_of_lt
abbrev QbC:=@List.getElem?_zipIdx
abbrev QbD:=@Nat.min_eq_left
abbrev QbE:=@Ne.symm
abbrev QbF:=@Nat.lt_irrefl
abbrev QbG:=@List.any_cons
abbrev QbH:=@List.filterMap_cons
abbrev QbI:=@PySem.Heap.get?_update_ne
abbrev QbJ:=@List.length_flatMap
abbrev QbK:=@beq_self_eq_true
abbrev QbL:=@PySem.wpAny_seqItems
abbrev QbM:=@PySem.wpAny_mono
abbrev QbN:=@PySem.wpAny_setField_rec
abbrev QbO:=@List.find?_cons
abbrev QbP:=@if_true
abbrev QbQ:=@PySem.F.slot_tuple_iterator_next
abbrev QbR:=@List.flatten_cons
abbrev QbS:=@Nat.lt_succ_of_lt
abbrev QbT:=@Nat.le_succ
abbrev QbU:=@List.findSome?_cons
abbrev QbV:=@PySem.wpAny_getItem_str_slice
abbrev QbW:=@List.length_nil
abbrev QbX:=@Bool.false_eq_true
abbrev QbY:=@List.mem_range'
abbrev QbZ:=@Nat.mod_lt
abbrev Qb0:=@List.length_zipIdx
abbrev Qb1:=@PySem.wpAny_truthy_bool
abbrev Qb2:=@Array.map_extract
abbrev Qb3:=@List.mem_append_left
abbrev Qb4:=@PySem.W.looks_findIn
abbrev Qb5:=@List.length_drop
abbrev Qb6:=@List.getElem?_of_mem
abbrev Qb7:=@List.not_mem_nil
abbrev Qb8:=@PySem.wpAny_attempt
abbrev Qb9:=@Std.Legacy.Range.forIn_eq_forIn_range'
abbrev Qca:=@List.map_congr_left
abbrev Qcb:=@List.flatMap_append
abbrev Qcc:=@PySem.wpAny_passesOwn
abbrev Qcd:=@List.nodup_cons
abbrev Qce:=@List.foldl_cons
abbrev Qcf:=@List.forIn_cons
abbrev Qcg:=@Nat.ne_of_gt
abbrev Qch:=@PySem.wpAny_Call_Name_kw
abbrev Qci:=@Option.isSome_iff_exists
abbrev Qcj:=@PySem.F.args_tuple_add_2
abbrev Qck:=@PySem.wpAny_pyIter_tuple
abbrev Qcl:=@List.forIn_nil
abbrev Qcm:=@PySem.F.entry_tuple_add
abbrev Qcn:=@PySem.F.plainAttrs_list
abbrev Qco:=@PySem.W.kitx_list
abbrev Qcp:=@PySem.wpAny_pyIter_list
abbrev Qcq:=@PySem.wpAny_pyIter_enum
abbrev Qcr:=@List.reverse_cons
abbrev Qcs:=@PySem.Heap.get?_push_ne
abbrev Qct:=@PySem.F.slot_tuple_add
abbrev Qcu:=@PyProof.Rows.boot_list
abbrev Qcv:=@List.all_cons
abbrev Qcw:=@List.sum_cons
abbrev Qcx:=@List.drop_length
abbrev Qcy:=@List.zipIdx_cons
abbrev Qcz:=@PySem.F.slot_dict_get
abbrev QcA:=@List.length_singleton
abbrev QcB:=@List.getElem?_eq_none
abbrev QcC:=@List.set_append_right
abbrev QcD:=@PySem.wpAny_execs_nil
abbrev QcE:=@List.map_nil
abbrev QcF:=@PySem.Calls.evalArgs_plain
abbrev QcG:=@PySem.post_val_or_str
abbrev QcH:=@Nat.zero_add
abbrev QcI:=@PyProof.Rows.boot_isinstance
abbrev QcJ:=@PySem.wpAny_rule
abbrev QcK:=@PySem.wpAny_updateSeq_pair
abbrev QcL:=@PySem.F.slot_zip_next
abbrev QcM:=@PyProof.Rows.get?_update_seq
abbrev QcN:=@Nat.eq_of_testBit_eq
abbrev QcO:=@List.eq_nil_of_length_eq_zero
abbrev QcP:=@List.take_append_of_le_length
abbrev QcQ:=@PySem.W.hideAll_get
abbrev QcR:=@PySem.W.plainGet_of
abbrev QcS:=@List.getElem_of_mem
abbrev QcT:=@List.getElem?_range
abbrev QcU:=@List.mem_map_of_mem
abbrev QcX:=@List.mem_filterMap
abbrev QcY:=@PySem.W.kitx_tuple
abbrev QcZ:=@PySem.Calls.spliced_cons
abbrev Qc0:=@PySem.W.callWith_K
abbrev Qc3:=@Int.fdiv_eq_ediv_of_nonneg
abbrev Qc5:=@PySem.F.excAttr_ValueError
abbrev Qc6:=@PySem.F.excBase_ValueError
abbrev Qc7:=@PySem.W.kitx_none
abbrev Qc8:=@Bool.eq_false_iff
abbrev Qc9:=@List.getElem?_zip_eq_some
abbrev Qdb:=@List.mem_or_eq_of_mem_set
abbrev Qdd:=@PySem.F.slot_list_append
abbrev Qde:=@PySem.F.type_list_append
set_option bootstrap.genMatcherCode false
set_option compiler.extract_closed false
section
open PySem
abbrev Aaa:=List$ Addr×Obj
abbrev Aab:=Value->Qdj->Prop
abbrev Aac:=List$ Str×Nat
abbrev Aad:=List$ Str×List Nat
abbrev Aae:=List$ List Nat
abbrev Aaf:=Str->Option Value
abbrev Aag:=Nat->Addr
end
namespace PySem.W.Fast
noncomputable def tw4681371035976324893:=0
noncomputable def tw14472491762051705474:=0
def tw13245150271486983578:=0
noncomputable def tw10082709188198757661:=0
def tw9795319317932916007:=0
noncomputable def tw13279941957985108943:=0
def tw10312434274293054841:=0
def tw14974960954543962222:=0
def tw2299909111384812813:=0
noncomputable def tw14626307927209588281:=0
noncomputable def tw6934270144911056809:=0
noncomputable def tw3697936807892574212:=0
noncomputable def tw12492570549324924347:=0
def tw9433097218972653762:=0
def tw9817740029674784838:=0
noncomputable def tw14011773814710853598:=0
def tw5795980747591213220:=0
def tw17122486865921426226:=0
def tw3415819929925363995:=0
def tw7817195893961226060:=0
def tw2501632330106090506:=0
def tw10777304965985417834:=0
noncomputable def tw17289028071688731863:=0
def tw878302843472493031:=0
def tw5400546202946728534:=0
def tw3266083641549547584:=0
def tw17577988043552607474:=0
noncomputable def tw9162647642012883065:=0
def tw1655542007426940194:=0
noncomputable def tw11478426887251719740:=0
noncomputable def tw2628730719335512803:=0
noncomputable def tw12878314882851732691:=0
def tw7123954179602296064:=0
def tw10481633510016036494:=0
def tw18016276009062836915:=0
def tw5508699994585964880:=0
noncomputable def tw15198259552960463040:=0
noncomputable def tw17513818334711637491:=0
def tw4721735261394140322:=0
def tw4263506647411997460:=0
noncomputable def tw5503322702489753895:=0
def tw9918972477048559988:=0
def tw14137946144579770814:=0
def tw7789987295893268258:=0
def tw5432981357809712983:=0
def tw17364782059198380301:=0
noncomputable def tw9576786816967463711:=0
def tw682438573904831176:=0
def tw7611765309498544697:=0
def tw14396336615890921222:=0
def tw5620669787238396759:=0
def tw8556787698369494824:=0
noncomputable def tw12122425211245643676:=0
noncomputable def tw4999350083198196652:=0
noncomputable def tw10234582341445063605:=0
def tw15228817352436160162:=0
def tw7135723799602075112:=0
def tw10080229880163579179:=0
def tw3120378866662762477:=0
def tw6513451181218231876:=0
noncomputable def tw16080830194610759859:=0
def tw14324018632427002407:=0
noncomputable def tw12284509574212702060:=0
def tw3391508721063531761:=0
def tw10536757601518306523:=0
noncomputable def tw15817159068945330614:=0
def tw1871871401586827698:=0
noncomputable def tw3412425610695980066:=0
def tw9217799510510558062:=0
noncomputable def tw10260265416201171871:=0
def tw11000341382197842203:=0
noncomputable def tw5162689678566212139:=0
noncomputable def tw9618129093162585003:=0
def tw17084965386362128776:=0
noncomputable def tw17728054452554106682:=0
def tw9574215198409603961:=0
noncomputable def tw13973130600279197584:=0
def tw5943275923867075057:=0
def tw14805671555478017381:=0
def tw6371362642878228806:=0
noncomputable def tw10144700768379868565:=0
def tw10397495084499849668:=0
noncomputable def tw9924444178231801035:=0
noncomputable def tw14383600680066402219:=0
def tw5360890260673427825:=0
def tw6607028077839586798:=0
noncomputable def tw13293650905479803670:=0
noncomputable def tw174164322904995206:=0
def tw8423637913859467862:=0
def tw9722737415354340119:=0
def tw152941494426401391:=0
noncomputable def tw13505906867765462551:=0
def tw1157206625261713073:=0
noncomputable def tw10405606921292125984:=0
def tw8971277594421965058:=0
noncomputable def tw14913570251397520390:=0
def tw6128996470595525423:=0
noncomputable def tw9849571393200115497:=0
def tw7723053323003098422:=0
def tw8789819077079637989:=0
end PySem.W.Fast
set_option Elab.async false
set_option linter.all false
set_option maxRecDepth 100000
set_option maxHeartbeats 4000000
section
namespace L2
open PySem PySem.Spec PyProof.Rows
abbrev Key:=Sum Int Str
noncomputable def xi:Key->Value->Bool
 | .inl k,v=>Value.isInt k v
 | .inr x,v=>Value.isStrOf x v
noncomputable def UZ(w:World):Key->Int
 | .inl k=>hashInt k
 | .inr x=>hashStr w x
theorem dC:∀{k:Key} {v:Value},xi k v=true->(∃i t,k=Sum.inl i/\v=Value.int i t)\/(∃x t,k=Sum.inr x/\v=Value.str x t)
 | .inl i,v,h=>by
   obtain⟨t,e⟩:=Value.isInt_shape (k:=i) (v:=v) h;exact .inl ⟨i,t,rfl,e⟩
 | .inr x,v,h=>by
   obtain⟨t,e⟩:=Value.isStrOf_shape (x:=x) (v:=v) h;exact .inr ⟨x,t,rfl,e⟩
def Ga(i:Int)(t:Tok):xi (.inl i) (.int i t)=true:=by simp [xi,Value.isInt]
def Ez(x:Str)(t:Tok):xi (.inr x) (.str x t)=true:=by simp [xi,Value.isStrOf]
def P7(a b:Int):decide ((Sum.inl a:Key)=Sum.inl b)=(a==b):=by
 by_cases e:a=b
 .subst e;simp
 .have h:¬(Sum.inl a:Key)=Sum.inl b:=λq=>e (Sum.inl.inj q)
  rw[Qax h];exact(Qa9.mpr e).symm
def Om(a b:Str):decide ((Sum.inr a:Key)=Sum.inr b)=decide (a=b):=by
 by_cases e:a=b
 .subst e;simp
 .have h:¬(Sum.inr a:Key)=Sum.inr b:=λq=>e (Sum.inr.inj q)
  rw[Qax h,Qax e]
def O3(a:Int)(b:Str):decide ((Sum.inl a:Key)=Sum.inr b)=false:=Qax$ λq=>nomatch q
def NW(a:Str)(b:Int):decide ((Sum.inr a:Key)=Sum.inl b)=false:=Qax$ λq=>nomatch q
def dD(prog:Program)(w:World):PySem.KeyKind prog w Key where
 is:=xi
 hash:=UZ w
 inj:=λv a b ha hb=>by
  rcases dC ha with⟨i,t,rfl,rfl⟩ | ⟨x,t,rfl,rfl⟩
  .rcases dC hb with⟨j,u,rfl,e⟩ | ⟨y,u,rfl,e⟩
   .injection e with e1 _;rw [e1]
   .exact nomatch e
  .rcases dC hb with⟨j,u,rfl,e⟩ | ⟨y,u,rfl,e⟩
   .exact nomatch e
   .injection e with e1 _;rw [e1]
 byValue:=λk v h=>by
  rcases dC h with⟨i,t,rfl,rfl⟩ | ⟨x,t,rfl,rfl⟩ <;> rfl
 pyHash:=λhv h=>by
  rcases dC hv with⟨i,t,rfl,rfl⟩ | ⟨x,t,rfl,rfl⟩
  .exact wpAny_pyHash_int h
  .exact wpAny_pyHash_str h
 eqBool:=λhu hv h=>by
  rcases dC hu with⟨i,t,rfl,rfl⟩ | ⟨x,t,rfl,rfl⟩
  .rcases dC hv with⟨j,u,rfl,rfl⟩ | ⟨y,u,rfl,rfl⟩
   .rw [P7] at h;exact wpAny_eqBool_int h
   .rw [O3] at h;exact SeqAt.EqAt.int_str i t y u _ _ _ _ h
  .rcases dC hv with⟨j,u,rfl,rfl⟩ | ⟨y,u,rfl,rfl⟩
   .rw [NW] at h;exact SeqAt.EqAt.str_int x t j u _ _ _ _ h
   .rw [Om] at h;exact wpAny_eqBool_str h
 «strs»:=λk x t v h=>by
  rcases dC h with⟨i,u,rfl,e⟩ | ⟨y,u,rfl,e⟩
  .exact nomatch e
  .injection e with e1 _
   subst e1;cases v <;> rfl
def Aw(prog:Program)(w:World)(i:Int)(t:Tok):(dD prog w).is (.inl i) (.int i t)=true:=Ga i t
def Ax(prog:Program)(w:World)(x:Str)(t:Tok):(dD prog w).is (.inr x) (.str x t)=true:=Ez x t
inductive V where
 | cI | bl (b:Bool) | int (i:Int) | str (x:Str) | byt (b:Array UInt8) | flt (b:UInt64) | ref (a:Addr) | ty (n:String)
 deriving DecidableEq
def RelV:V->Value->Prop
 | .cI,u=>u=Value.none
 | .bl b,u=>u=Value.bool b
 | .int i,u=>∃t,u=Value.int i t
 | .str x,u=>∃t,u=Value.str x t
 | .byt b,u=>∃t,u=Value.bytes b t
 | .flt b,u=>∃t,u=Value.float b t
 | .ref a,u=>u=Value.ref a
 | .ty n,u=>u=Value.type n
abbrev Vals:List V->List Value->Prop:=Paired RelV
def Vals.length{xs:List V}{us:List Value}(r:Vals xs us):xs.length=us.length:=Paired.length r
theorem Vals.get:∀{xs:List V} {us:List Value} {i:Nat} {x:V},Vals xs us->xs[i]? =some x->∃u,us[i]? =some u/\RelV x u
 | _,_,_,_, .nil,e=>by simp at e
 | _,_,0,_, .cons r _,e=>by simp at e;subst e;exact⟨_,rfl,r⟩
 | _,_,i+1,x, .cons _ t,e=>by
   obtain⟨u,h1,h2⟩:=Vals.get (i:=i) (x:=x) t (by simpa using e)
   exact⟨u,by simpa using h1,h2⟩
theorem Vals.set{x:V}{u:Value}(r:RelV x u):∀{xs:List V} {us:List Value} (i:Nat),Vals xs us->Vals (xs.set i x) (us.set i u)
 | _,_,_, .nil=> .nil
 | _,_,0, .cons _ t=> .cons r t
 | _,_,i+1, .cons q t=> .cons q$ Vals.set r i t
theorem Vals.append:∀{xs ys:List V} {us ws:List Value},Vals xs us->Vals ys ws->Vals (xs++ys) (us++ws)
 | _,_,_,_, .nil,s=>s
 | _,_,_,_, .cons r t,s=> .cons r$ Vals.append t s
theorem Vals.take:∀{xs:List V} {us:List Value} (n:Nat),Vals xs us->Vals (xs.take n) (us.take n)
 | _,_,0,_=> .nil
 | _,_,_+1, .nil=> .nil
 | _,_,n+1, .cons r t=> .cons r$ Vals.take n t
theorem Vals.drop:∀{xs:List V} {us:List Value} (n:Nat),Vals xs us->Vals (xs.drop n) (us.drop n)
 | _,_,0,r=>r
 | _,_,_+1, .nil=> .nil
 | _,_,n+1, .cons _ t=>Vals.drop n t
def qM:Option V->Option Value->Prop
 | some v,some u=>RelV v u
 | none,none=>True
 | _,_=>False
def KV{κ:Type}:List (κ × V)->List (κ × Value)->Prop:=Paired λ(p:κ × V) (q:κ × Value)=>p.1=q.1/\RelV p.2 q.2
noncomputable def kV:Key->V
 | .inl i=> .int i
 | .inr x=> .str x
inductive HO where
 | lst (xs:List V)
 | tup (xs:List V)
 | dK (aW:List (Key × V)) | dT (aW:List (List Key × V))
 | set (S:Int->Bool) (n:Nat)
 | ins (C dx:Addr) (fs:List (Str × V))
 | own (x:Addr)
 | xd (fs:List (Str × V))
 | met (f x:Addr)
 | rng (lo hi:Int)
 | jU (o:Obj) (u:HO)
 | JQ (ps:Array Value)
 | ext (φ:Heap->Prop)
abbrev Hp:=Addr->Option HO
noncomputable def upd(H:Hp)(a:Addr)(o:HO):Hp:=λb=>if b=a then some o else H b
def aU{a:Addr}{o:HO}:upd H a o a=some o:=by unfold upd;rw [QaG rfl]
def bg{H:Hp}{a b:Addr}{o:HO}(h:b≠a):upd H a o b=H b:=by unfold upd;rw [QaA h]
def LS{a:Addr}{o u:HO}:upd (upd H a o) a u=upd H a u:=by
 funext b;unfold upd;split <;> rfl
def bJ{H:Hp}{a b:Addr}{o:HO}(h:H a=some o)(h':H b=none):a≠b:=by
 intro e;subst e;rw [h] at h';cases h'
section
variable (P:Program)(w:World)
def dk(H:Hp)(h:Heap)(a:Addr):HO->Prop
 | .lst xs=>xs.length<=sizeLine/\∃(its:List Value) (n:Nat),Vals xs its/\h.get? a=some {cls:= .type "list",data:= .seq its.toArray n}
 | .tup xs=>xs.length<=sizeLine/\∃its:List Value,Vals xs its/\IsTup h a its.toArray
 | .dK aW=>aW.length<=sizeLine/\(a==sysModules)=false/\∃vs,KV aW vs/\h.DictOf (dD P w) a vs
 | .dT aW=>aW.length<=sizeLine/\(a==sysModules)=false/\∃xs:List (List Key × Addr × Value),
    Paired (λ(p:List Key × V) (q:List Key × Addr × Value)=>p.1=q.1/\H q.2.1=some (.tup$ p.1.map kV)/\RelV p.2 q.2.2) aW xs/\
    ∃o es ep,h.get? a=some o/\o.ExactDict/\o.data= .dict es ep/\es.toList=xs.map (entryOfKey$ tupleKind$ dD P w)/\(xs.map (·.1)).Nodup
 | .set S n=>h.SetOf (intKind P w) a S n
 | .ins C dx fs=>H dx=some (.own a)/\fs.length<=1000/\dx≠a/\h.get? a=some (PySem.W.instObj C dx)/\
    ∃mA,h.Ns1 dx mA/\(∀f,qM (fs.lookup f)$ mA f)/\PySem.Within mA (fs.map (·.1))
 | .own _=>∃o,h.get? a=some o
 | .xd fs=>∃mA,h.Ns1 a mA/\∀f,qM (fs.lookup f)$ mA f
 | .rng lo hi=>∃t u v,h.get? a=some {cls:= .type "range",data:= .fields #[.int lo t, .int hi u, .int 1 v]}
 | .jU o u=>h.get? a=some o/\dk H h a u
 | .JQ ps=>h.get? a=some {cls:= .none,data:= .fields ps}
 | .met f x=>h.get? a=some (PySem.W.methodObj (.ref f)$ .ref x)
 | .ext φ=>φ h/\(∃o,h.get? a=some o)/\∀h1 h2:Heap,φ h1->(∀o,h1.get? a=some o->h2.get? a=some o)->φ h2
def mF(H:Hp)(h:Heap):Prop:=∀a o,H a=some o->dk P w H h a o
end
section
variable {P:Program}{w:World}{H H':Hp}{h h':Heap}{a:Addr}{o:HO}
def dk.lt(x:dk P w H h a o):a<h.objs.size:=by
 cases o with
 | lst xs=>obtain⟨_,_,_,_,e⟩:=x;exact Qar e
 | tup xs=>obtain⟨_,_,_,p⟩:=x;exact p.lt
 | dK aW=>obtain⟨_,_,_,_,o,_,_,e,_⟩:=x;exact Qar e
 | dT aW=>obtain⟨_,_,_,_,o,_,_,e,_⟩:=x;exact Qar e
 | set S n=>obtain⟨o,_,_,_,e,_⟩:=x;exact Qar e
 | ins C dx fs=>obtain⟨_,_,_,e,_⟩:=x;exact Qar e
 | own y=>obtain⟨_,e⟩:=x;exact Qar e
 | xd fs=>obtain⟨_,⟨_,_,_,e,_⟩,_⟩:=x;exact Qar e
 | rng lo hi=>obtain⟨_,_,_,e⟩:=x;exact Qar e
 | jU ob u=>obtain⟨e,_⟩:=x;exact Qar e
 | JQ ps=>exact Qar$ show h.get? a=some _ from x
 | met f y=>exact Qar$ show h.get? a=some _ from x
 | ext φ=>obtain⟨_,⟨_,e⟩,_⟩:=x;exact Qar e
theorem Paired.SK{α β:Type}{F G:α->β->Prop}:∀{l₁:List α} {Uj:List β},Paired F l₁ Uj->(∀a b,F a b->G a b)->Paired G l₁ Uj
 | _,_, .nil,_=> .nil
 | _,_, .cons r t,f=> .cons (f _ _ r)$ Paired.SK t f
def dk.t7(x:dk P w H h a o)(k:∀b u,(b=a\/H b=some (.own a))->h.get? b=some u->h'.get? b=some u)
 (ho:∀b,H b=some (.own a)->H' b=some (.own a)) (ht:∀b xs,H b=some (.tup xs)->H' b=some (.tup xs)):dk P w H' h' a o:=by
 induction o with
 | lst xs=>obtain⟨z,its,n,r,e⟩:=x;exact⟨z,its,n,r,k _ _ (.inl rfl) e⟩
 | tup xs=>obtain⟨z,its,r,ob,e,c⟩:=x;exact⟨z,its,r,ob,k _ _ (.inl rfl) e,c⟩
 | dK aW=>obtain⟨z,y,vs,r,ob,es,ep,e,c⟩:=x;exact⟨z,y,vs,r,ob,es,ep,k _ _ (.inl rfl) e,c⟩
 | dT aW=>
   obtain⟨z,y,xs,r,ob,es,ep,e,c⟩:=x;exact⟨z,y,xs,Paired.SK r λp q z=>⟨z.1,ht _ _ z.2.1,z.2.2⟩,ob,es,ep,k _ _ (.inl rfl) e,c⟩
 | set S n=>obtain⟨ob,es,ep,t,e,c⟩:=x;exact⟨ob,es,ep,t,k _ _ (.inl rfl) e,c⟩
 | ins C dx fs=>
   obtain⟨d,z,ne,e,mA,⟨od,es,ep,e2,c⟩,r⟩:=x;exact⟨ho _ d,z,ne,k _ _ (.inl rfl) e,mA,⟨od,es,ep,k _ _ (.inr d) e2,c⟩,r⟩
 | own y=>obtain⟨ob,e⟩:=x;exact⟨ob,k _ _ (.inl rfl) e⟩
 | xd fs=>obtain⟨mA,⟨od,es,ep,e,c⟩,r⟩:=x;exact⟨mA,⟨od,es,ep,k _ _ (.inl rfl) e,c⟩,r⟩
 | rng lo hi=>obtain⟨t,u,v,e⟩:=x;exact⟨t,u,v,k _ _ (.inl rfl) e⟩
 | jU ob u ih=>obtain⟨e,q⟩:=x;exact⟨k _ _ (.inl rfl) e,ih q⟩
 | JQ ps=>
   have e:h.get? a=some {cls:= .none,data:= .fields ps}:=x;show h'.get? a=some {cls:= .none,data:= .fields ps};exact k a _ (.inl rfl) e
 | met f y=>
   have e:h.get? a=some (PySem.W.methodObj (.ref f)$ .ref y):=x;show h'.get? a=some (PySem.W.methodObj (.ref f)$ .ref y);exact k a _ (.inl rfl) e
 | ext φ=>obtain⟨p,⟨o,e⟩,st⟩:=x;exact⟨st _ _ p λo q=>k _ _ (.inl rfl) q,⟨o,k _ _ (.inl rfl) e⟩,st⟩
def mF.lt(x:mF P w H h)(e:H a=some o):a<h.objs.size:=(x a o e).lt
def mF.fresh(x:mF P w H h)(e:h.objs.size<=a):H a=none:=by
 cases q:H a with
 | none=>rfl
 | some u=>exact absurd (QaC (x.lt q) e)$ QbF _
def mF.kept(x:mF P w H h)(k:∀b u,h.get? b=some u->h'.get? b=some u):mF P w H h':=λa o e=>
 (x a o e).t7 (λb u _ q=>k b u q) (λ_ q=>q) λ_ _ q=>q
def mF.laid(x:mF P w H h)(k:∀b u,h.get? b=some u->h'.get? b=some u)(hp:h.objs.size<=a)(new:dk P w (upd H a o) h' a o):mF P w (upd H a o) h':=λb u e=>by
 have hn:=x.fresh hp;by_cases hb:b=a
 .subst hb;rw [aU] at e;cases e;exact new
 .rw [bg hb] at e;exact(x b u e).t7 (λc v _ q=>k c v q) (λc q=>by rw[bg$ bJ q hn];exact q) λc xs q=>by rw[bg$ bJ q hn];exact q
end
def Rd(H:Hp)(a:Addr)(u:HO):Prop:=H a=some u\/∃o,H a=some (.jU o u)
def Rd.of{H:Hp}{a:Addr}{u:HO}(h:H a=some u):Rd H a u:= .inl h
def Rd.ok{a:Addr}{u:HO}(r:Rd H a u)(x:mF P w H h):dk P w H h a u:=by
 rcases r with r | ⟨o,r⟩
 .exact x a u r
 .obtain⟨_,q⟩:=x a _ r;exact q
def TJ:Option HO->Prop
 | some (.lst _)=>True
 | some (.dK _)=>True
 | some (.dT _)=>True
 | some (.set _ _)=>True
 | some (.ins _ _ _)=>True
 | some (.ext _)=>True
 | _=>False
section
variable {P:Program}{w:World}{H:Hp}{h h':Heap}{x e:Addr}{o':HO}
def mF.write(ok:mF P w H h)(mu:TJ (H x))(he:e=x\/H e=some (.own x))(k:∀b u,b≠e->h.get? b=some u->h'.get? b=some u)(Kp:∃u,h'.get? e=some u)
 (new:dk P w (upd H x o') h' x o'):mF P w (upd H x o') h':=λb u q=>by
 have nown:∀c y,H c=some (.own y)->c≠x:=λc y r z=>by subst z;rw [r] at mu;exact mu
 have ntup:∀c xs,H c=some (.tup xs)->c≠x:=λc xs r z=>by subst z;rw [r] at mu;exact mu
 by_cases hb:b=x
 .subst hb;rw [aU] at q;cases q;exact new
 .rw [bg hb] at q;by_cases hbe:b=e
  .have q':H b=some (.own x):=by
    rcases he with z | z
    .exact absurd (hbe.trans z) hb
    .rw [hbe];exact z
   rw[q] at q';cases q';obtain⟨v,hv⟩:=Kp;exact⟨v,by rw[hbe];exact hv⟩
  .refine(ok b u q).t7 (λc v hc r=>k c v ?_ r) (λc r=>by rw[bg$ nown c b r];exact r) λc xs r=>by rw[bg$ ntup c xs r];exact r
   rcases hc with rfl | hc
   .exact hbe
   .rintro rfl;rcases he with z | z
    .exact nown c b hc z
    .rw [hc] at z;cases z;exact hb rfl
end
structure Un (fs ex:List Addr) (H H':Hp) (h h':Heap):Prop where
 keep:∀b o,h.get? b=some o->H b=none->b ∉ fs->b ∉ ex->h'.get? b=some o
 slot:∀b o,h.get? b=some o->H b=none->b∈fs->b ∉ ex->∃sl,h'.get? b=some {o with slots:=sl}
 free:∀b o,h.get? b=some o->H b=none->b ∉ ex->H' b=none
 there:∀b o,h.get? b=some o->b ∉ ex->∃o',h'.get? b=some o'
 tups:∀b xs,H b=some (.tup xs)->H' b=some (.tup xs)
 frzs:∀b o u,H b=some (.jU o u)->H' b=some (.jU o u)
 tbls:∀b ps,H b=some (.JQ ps)->∃more,H' b=some (.JQ (ps++more))
section
variable {fs ex:List Addr}{H H1:Hp}{h h1 h':Heap}{a x e:Addr}{o:HO}
def Un.any(u:Un fs ex H H1 h h1){b:Addr}{ob:Obj}(q:h.get? b=some ob)(n:H b=none)(hx:b ∉ ex):∃sl,h1.get? b=some {ob with slots:=sl}:=by
 by_cases hb:b∈fs
 .exact u.slot b ob q n hb hx
 .exact⟨ob.slots,u.keep b ob q n hb hx⟩
def Un.kept(k:∀b u,h.get? b=some u->h'.get? b=some u):Un fs ex H H h h':=
 ⟨λb ob q _ _ _=>k b ob q,λb ob q _ _ _=>⟨ob.slots,k b ob q⟩,λ_ _ _ n _=>n,λb ob q _=>⟨ob,k b ob q⟩,λ_ _ q=>q,λ_ _ _ q=>q,λ_ ps q=>⟨#[],by rw[q];simp⟩⟩
def Un.refl:Un fs ex H H h h:=Un.kept λ_ _ q=>q
def Un.laid(k:∀b u,h.get? b=some u->h'.get? b=some u)(hp:h.objs.size<=a)(hn:H a=none):Un fs ex H (upd H a o) h h' where
 keep:=λb u q _ _ _=>k b u q
 slot:=λb u q _ _ _=>⟨u.slots,k b u q⟩
 free:=λb u q n _=>by rw[bg$ QaE$ QaC (Qar q) hp];exact n
 there:=λb u q _=>⟨u,k b u q⟩
 tups:=λb xs q=>by rw[bg$ bJ q hn];exact q
 frzs:=λb u xs q=>by rw[bg$ bJ q hn];exact q
 tbls:=λb ps q=>⟨#[],by rw[bg$ bJ q hn,q];simp⟩
def Un.write(mu:TJ (H x))(he:e=x\/H e=some (.own x))(k:∀b u,b≠e->h.get? b=some u->h'.get? b=some u)(Kp:∃u,h'.get? e=some u):Un fs ex H (upd H x o) h h':=by
 have hx:∀b,H b=none->b≠x:=λb n z=>by subst z;rw [n] at mu;exact mu
 have hb:∀b,H b=none->b≠e:=λb n z=>by
  subst z;rcases he with r | r
  .exact hx b n r
  .rw [n] at r;cases r
 have hm:∀b u,H b=some u->¬TJ (some u)->b≠x:=λb u q nm z=>by subst z;rw [q] at mu;exact nm mu
 refine⟨λb u q n _ _=>k b u (hb b n) q,λb u q n _ _=>⟨u.slots,k b u (hb b n) q⟩,λb u q n _=>by rw[bg$ hx b n];exact n,λb u q _=>?_,
  λb xs q=>by rw[bg$ hm b _ q λz=>z];exact q,λb u xs q=>by rw[bg$ hm b _ q λz=>z];exact q,λb ps q=>⟨#[],by rw[bg (hm b _ q λz=>z),q];simp⟩⟩
 by_cases hbe:b=e
 .subst hbe;exact Kp
 .exact⟨u,k b u hbe q⟩
end
noncomputable def Kg(h:Heap)(H:Hp):List Addr:=(List.range h.objs.size).filter λa=>(H a).isSome
def yU(h:Heap)(H:Hp):Heap:=PySem.W.hideAll h$ Kg h H
def Ge(h:Heap)(H:Hp):(yU h H).objs.size=h.objs.size:=PySem.W.hideAll_size _ _
def HG{h:Heap}{H:Hp}{b:Addr}{o:Obj}(e:h.get? b=some o)(n:H b=none):(yU h H).get? b=some o:=
 QcQ _ e λhm=>by
  have q:(H b).isSome=true:=(Qbo.mp hm).2;rw[n] at q;simp at q
def KN{h:Heap}{H:Hp}{b:Addr}{o:Obj}(e:(yU h H).get? b=some o):h.get? b=some o/\H b=none:=by
 have e':h.get? b=some o:=PySem.W.of_hideAll (Kg h H) e;refine⟨e',?_⟩;cases q:H b with
 | none=>rfl
 | some x=>
   have hm:b∈Kg h H:=Qbo.mpr ⟨QaI.mpr$ Qar e',by simp [q]⟩
   have z:(yU h H).get? b=none:=PySem.W.hideAll_none (Kg h H) hm;rw[z] at e;cases e
noncomputable def Mo(g h:Heap)(L:Addr):Aaa:=(List.range h.objs.size).filterMap λa=>if a=L\/(g.get? a).isSome=true then none else(h.get? a).map λo=>(a,o)
def rest(g h:Heap)(L d:Addr):Aaa:=(Mo g h L).filter λp=>decide$ p.1≠d
structure Mod (K:Qdi) (mg:Aaf) (base:Heap):Prop where
 kin:K.In base
 glob:base.Ns mainGlobals mg
 blt:∃mb,base.Ns builtinsNs mb/\∀x:Str,x≠"__name__"->mb x=bootBuiltins x
 nolimit:base.NoLimit
structure Cx where
 prog:Program
 w:World
 K:Qdi
 mg:Aaf
 base:Heap
 A:Around
 N:List Str
 s₀:Qdj
 H₀:Hp
 env:Env
 outer:List Env
 stack:List Env
 ex:List Addr
 fn:Str->Bool
 calm:Bool
 pn:Aaa
 xe:Aab
noncomputable def pN(l:List Env):List Addr:=l.filterMap (·.frame)
abbrev Cx.fs(X:Cx):List Addr:=pN X.outer
def Kk(sc:Scope)(x:Str):Prop:=sc.names.lookup x=some .local\/sc.names.lookup x=some .cell\/sc.names.lookup x=some .free
def Loc(sc:Scope)(x:Str):Prop:=sc.names.lookup x=some .local\/sc.names.lookup x=some .cell
def Look(env:Env)(h:Heap)(m:Aaf)(x:Str)(u:Value):Prop:=
 (env.kindOf x=some .local/\m x=some u)\/((env.kindOf x=some .cell\/env.kindOf x=some .free)/\∃c,env.cells.lookup x=some c/\h.IsCell c (some u))
structure Cx.Ok (X:Cx):Prop where
 mod:Mod X.K X.mg X.base
 kind:X.env.scope.kind= .function
 glob:X.env.globals=mainGlobals
 blt:X.env.builtins=builtinsNs
 above:X.s₀.heap.objs.size<=X.env.locals
 inj:∀x y c,X.env.cells.lookup x=some c->X.env.cells.lookup y=some c->x=y
 has:∀x,(X.env.kindOf x=some .cell\/X.env.kindOf x=some .free)->∃c,X.env.cells.lookup x=some c
 cab:∀x c,X.fn x=true->X.env.cells.lookup x=some c->X.s₀.heap.objs.size<=c
 hd:X.calm=true->X.A.handled=none
 frames:X.A.frames=some X.stack
 stk:X.stack=X.outer\/(X.stack=X.env ::X.outer/\X.env.frame=some X.env.locals)
 exf:∀b∈X.ex,b≠X.env.locals/\∀x c,X.env.cells.lookup x=some c->c≠b
 bs:∀b o,X.base.get? b=some o->X.s₀.heap.get? b=some o/\X.H₀ b=none
 bsz:X.base.objs.size<=X.s₀.heap.objs.size
 noex:∀b o,X.base.get? b=some o->b ∉ X.ex
 exfs:∀b∈X.ex,b ∉ X.fs
 qS:X.s₀.heap.FunFrames X.base X.outer
 frf:∀b∈X.fs,X.H₀ b=none
structure Inv (X:Cx) (pins:Aaa) (σ:List (Option V)) (H:Hp) (s:Qdj):Prop where
 ok:X.Ok
 os:s.os=X.s₀.os
 bare:AllBare s.gens
 base:Un X.fs X.ex X.H₀ H X.s₀.heap s.heap
 loc:∃m,s.heap.Ns X.env.locals m/\∀(i:Nat) (x:Str) (v:V),X.N[i]? =some x->σ[i]? =some (some v)->Kk X.env.scope x->∃u,RelV v u/\Look X.env s.heap m x u
 cell:∀x c,X.env.cells.lookup x=some c->∃v,s.heap.IsCell c v
 free:H X.env.locals=none
 freeC:∀x c,X.env.cells.lookup x=some c->H c=none
 pin:∀p∈X.pn++pins,s.heap.get? p.1=some p.2/\H p.1=none/\p.1≠X.env.locals/\p.1 ∉ X.fs/\∀v,p.2.data≠ .cell v
 hok:mF X.prog X.w H s.heap
 len:σ.length=X.N.length
section
variable {X:Cx}{pins:Aaa}{σ:List (Option V)}{H H':Hp}{s:Qdj}{h':Heap}
def Cx.Ok.Vf(ok:X.Ok){b:Addr}{o:Obj}(e:X.base.get? b=some o):b ∉ X.fs:=λhb=>by
 have:=(ok.qS.mem hb).1;rw[e] at this;cases this
def Inv.bs(I:Inv X pins σ H s):∀b o,X.base.get? b=some o->s.heap.get? b=some o/\H b=none:=λb o e=>
 ⟨I.base.keep b o (I.ok.bs b o e).1 (I.ok.bs b o e).2 (I.ok.Vf e)$ I.ok.noex b o e,I.base.free b o (I.ok.bs b o e).1 (I.ok.bs b o e).2$ I.ok.noex b o e⟩
def Inv.bk(I:Inv X pins σ H s):∀b o,X.base.get? b=some o->s.heap.get? b=some o:=λb o e=>(I.bs b o e).1
def Inv.mod(I:Inv X pins σ H s):Mod X.K X.mg X.base:=I.ok.mod
def Inv.pz(I:Inv X pins σ H s):X.K.In s.heap:=I.ok.mod.kin.keeps I.bk
def Inv.lt(I:Inv X pins σ H s):X.env.locals<s.heap.objs.size:=let⟨_,hn,_⟩:=I.loc;hn.lt
def Inv.sz(I:Inv X pins σ H s):X.s₀.heap.objs.size<=s.heap.objs.size:=QaP I.ok.above$ Nat.le_of_lt I.lt
def Inv.WA(I:Inv X pins σ H s){a:Addr}(h:s.heap.objs.size<=a):a ∉ X.fs:=λhb=>by
 obtain⟨_,o,ho,_⟩:=I.ok.qS.mem hb;exact absurd (QaC (Qar ho)$ QaP I.sz h)$ QbF _
def Inv.JG(I:Inv X pins σ H s):∀x c,X.env.cells.lookup x=some c->c≠X.env.locals:=λx c e z=>by
 obtain⟨v,o,ho,hd⟩:=I.cell x c e;obtain⟨m,⟨o',es,ep,Ba,Xj,_⟩,_⟩:=I.loc;rw[z,Ba] at ho;cases ho;rw [Xj] at hd;cases hd
def Inv.qS(I:Inv X pins σ H s):s.heap.FunFrames X.base X.outer:=by
 have all:∀(l:List Env),(∀b∈pN l,b∈X.fs)->X.s₀.heap.FunFrames X.base l->s.heap.FunFrames X.base l:=by
  intro l
  induction l with
  | nil=>intro _ _;trivial
  | cons env r ih=>
    intro hs hl;obtain⟨hk,⟨L,o,hf,hn,ho,hd⟩,hr⟩:=hl;have hL:L∈X.fs:=hs L (by unfold pN;rw [QbH,hf];exact Qat)
    obtain⟨sl,e⟩:=I.base.slot L o ho (I.ok.frf L hL) hL λz=>I.ok.exfs L z hL
    exact⟨hk,⟨L,_,hf,hn,e,hd⟩,ih (λb hb=>hs b$ by unfold pN;rw [QbH,hf];exact Qag _ hb) hr⟩
 exact all X.outer (λ_ hb=>hb) I.ok.qS
def Inv.stack(I:Inv X pins σ H s):s.heap.FunFrames X.base X.stack:=by
 rcases I.ok.stk with e | ⟨e,hf⟩
 .rw [e];exact I.qS
 .rw [e];obtain⟨m,hn,_⟩:=I.loc;refine .cons (by rw[I.ok.kind];decide) hf hn ?_ I.qS
  exact Heap.get?_none_of_le$ QaP I.ok.bsz I.ok.above
def Inv.B6(I:Inv X pins σ H s):∀b∈pN X.stack,b∈X.env.locals ::X.fs:=λb hb=>by
 rcases I.ok.stk with e | ⟨e,hf⟩
 .rw [e] at hb;exact Qag _ hb
 .rw [e] at hb;unfold pN at hb;rw[QbH,hf] at hb;exact hb
def Inv.oC(I:Inv X pins σ H s):∀b∈pN X.stack,H b=none:=λb hb=>by
 rcases Qaw.mp (I.B6 b hb) with e | hb
 .rw [e];exact I.free
 .obtain⟨_,o,ho,_⟩:=I.ok.qS.mem hb;exact I.base.free b o ho (I.ok.frf b hb) λz=>I.ok.exfs b z hb
def Inv.step{g':Array GenState}{t':Nat}{d':Drawn}{ch:List Addr}(I:Inv X pins σ H s)
 (Kq:∀b∈ch,(b∈X.ex\/X.s₀.heap.objs.size<=b)/\b≠X.env.locals/\(∀x c,X.env.cells.lookup x=some c->c≠b)/\∀p∈X.pn++pins,p.1≠b)
 (keep:∀b o,b≠X.env.locals->b ∉ X.fs->b ∉ ch->s.heap.get? b=some o->H b=none->h'.get? b=some o)
 (slot:∀b o,b≠X.env.locals->b∈X.fs->b ∉ ch->s.heap.get? b=some o->H b=none->∃sl,h'.get? b=some {o with slots:=sl}) (free:∀b o,b ∉ ch->s.heap.get? b=some o->H b=none->H' b=none)
 (there:∀b o,b ∉ ch->s.heap.get? b=some o->∃o',h'.get? b=some o')
 (tups:∀b xs,H b=some (.tup xs)->H' b=some (.tup xs)) (frzs:∀b o u,H b=some (.jU o u)->H' b=some (.jU o u)) (tbls:∀b ps,H b=some (.JQ ps)->∃more,H' b=some (.JQ$ ps++more))
 (ns:∀m,s.heap.Ns X.env.locals m->h'.Ns X.env.locals m) (hok:mF X.prog X.w H' h') (hg:AllBare g') :
 Inv X pins σ H' {s with heap:=h',gens:=g',drawn:=d',toks:=t'}:=by
 have neL:∀b o,X.s₀.heap.get? b=some o->b≠X.env.locals:=λb o e=>QaE$ QaC (Qar e) I.ok.above
 have neC:∀b o,X.s₀.heap.get? b=some o->b ∉ X.ex->b ∉ ch:=λb o e hx hb=>by
  rcases(Kq b hb).1 with z | z
  .exact hx z
  .exact absurd (QaC (Qar e) z) (QbF _)
 have cellK:∀x c,X.env.cells.lookup x=some c->∀v,s.heap.IsCell c v->h'.IsCell c v:=λx c e v ⟨o,ho,hd⟩=>by
  have nch:c ∉ ch:=λz=>(Kq c z).2.2.1 x c e rfl
  by_cases hc:c∈X.fs
  .obtain⟨sl,q⟩:=slot c o (I.JG x c e) hc nch ho$ I.freeC x c e;exact⟨_,q,hd⟩
  .exact⟨o,keep c o (I.JG x c e) hc nch ho$ I.freeC x c e,hd⟩
 refine⟨I.ok,I.os,hg,⟨λb o e n hb hx=>?_,λb o e n hb hx=>?_,λb o e n hx=>?_,λb o e hx=>?_,λb xs e=>tups b xs$ I.base.tups b xs e,λb o xs e=>frzs b o xs$ I.base.frzs b o xs e,λb ps e=>?_⟩,?_,λx c e=>?_,?_,λx c e=>?_,λp hp=>?_,hok,I.len⟩
 .exact keep b o (neL b o e) hb (neC b o e hx) (I.base.keep b o e n hb hx) (I.base.free b o e n hx)
 .obtain⟨sl,e1⟩:=I.base.slot b o e n hb hx;obtain⟨sl',e2⟩:=slot b _ (neL b o e) hb (neC b o e hx) e1$ I.base.free b o e n hx;exact⟨sl',e2⟩
 .obtain⟨o',e1⟩:=I.base.there b o e hx;exact free b o' (neC b o e hx) e1$ I.base.free b o e n hx
 .obtain⟨o',e1⟩:=I.base.there b o e hx;exact there b o' (neC b o e hx) e1
 .obtain⟨m1,e1⟩:=I.base.tbls b ps e;obtain⟨m2,e2⟩:=tbls b _ e1;exact⟨m1++m2,by rw[e2,Array.append_assoc]⟩
 .obtain⟨m,hn,hl⟩:=I.loc;refine⟨m,ns m hn,λi x v e1 e2 e3=>?_⟩
  obtain⟨u,r,l⟩:=hl i x v e1 e2 e3;refine⟨u,r,?_⟩;rcases l with l | ⟨k,c,e,z⟩
  .exact .inl l
  .exact .inr ⟨k,c,e,cellK x c e _ z⟩
 .obtain⟨v,z⟩:=I.cell x c e;exact⟨v,cellK x c e v z⟩
 .obtain⟨m,⟨o,_,_,ho,_⟩,_⟩:=I.loc;exact free _ o (λz=>(Kq _ z).2.1 rfl) ho I.free
 .obtain⟨v,o,ho,hd⟩:=I.cell x c e;exact free c o (λz=>(Kq c z).2.2.1 x c e rfl) ho$ I.freeC x c e
 .obtain⟨e,n,ne,nf,d⟩:=I.pin p hp;have nch:p.1 ∉ ch:=λz=>(Kq p.1 z).2.2.2 p hp rfl
  exact⟨keep p.1 p.2 ne nf nch e n,free p.1 p.2 nch e n,ne,nf,d⟩
def Inv.un{t':Nat}(I:Inv X pins σ H s)(u:Un X.fs [] H H' s.heap h')(hok:mF X.prog X.w H' h'):Inv X pins σ H' {s with heap:=h',toks:=t'}:=by
 obtain⟨m,⟨o,es,ep,ho,r⟩,_⟩:=id I.loc;obtain⟨sl,hL⟩:=u.any ho I.free (by simp)
 exact I.step (g':=s.gens) (d':=s.drawn) (ch:=[]) (λ_ z=>nomatch z) (λb o _ hb _ e n=>u.keep b o e n hb$ by simp) (λb o _ hb _ e n=>u.slot b o e n hb$ by simp) (λb o _ e n=>u.free b o e n$ by simp) (λb o _ e=>u.there b o e$ by simp) u.tups u.frzs u.tbls (λm' hm=>by
  obtain⟨o',W_,XH,Ba,r'⟩:=hm;rw[ho] at Ba;cases Ba;exact⟨_,W_,XH,hL,r'⟩) hok I.bare
def Inv.call{g':Array GenState}{t':Nat}{d':Drawn}{ch:List Addr}(I:Inv X pins σ H s)(u:Un (pN X.stack) ch H H' s.heap h')(hok:mF X.prog X.w H' h')(hg:AllBare g')
 (Kq:∀b∈ch,(b∈X.ex\/X.s₀.heap.objs.size<=b)/\b≠X.env.locals/\(∀x c,X.env.cells.lookup x=some c->c≠b)/\∀p∈X.pn++pins,p.1≠b) :
 Inv X pins σ H' {s with heap:=h',gens:=g',drawn:=d',toks:=t'}:=by
 obtain⟨m,⟨o,es,ep,ho,r⟩,_⟩:=id I.loc;obtain⟨sl,hL⟩:=u.any ho I.free λz=>(Kq _ z).2.1 rfl
 exact I.step (ch:=ch) Kq (λb o hL hb hc e n=>u.keep b o e n (λz=>(Qaw.mp$ I.B6 b z).elim hL hb) hc) (λb o _ _ hc e n=>u.any e n hc) (λb o hc e n=>u.free b o e n hc) (λb o hc e=>u.there b o e hc) u.tups u.frzs u.tbls (λm' hm=>by
  obtain⟨o',W_,XH,Ba,r'⟩:=hm;rw[ho] at Ba;cases Ba;exact⟨_,W_,XH,hL,r'⟩) hok hg
def Inv.turned{t':Nat}{it:Addr}(I:Inv X pins σ H s)(k:∀b o,b≠it->s.heap.get? b=some o->h'.get? b=some o)(hn:H it=none)(hL:it≠X.env.locals)
 (h1:it∈X.ex\/X.s₀.heap.objs.size<=it) (h2:∀x c,X.env.cells.lookup x=some c->c≠it) (h3:∀p∈X.pn++pins,p.1≠it):Inv X pins σ H {s with heap:=h',toks:=t'}:=by
 have nit:∀b u,H b=some u->b≠it:=λb u e z=>by rw[z,hn] at e;cases e
 refine I.step (g':=s.gens) (d':=s.drawn) (ch:=[it]) (λb hb=>?_) (λb o _ _ hc e _=>k b o (λz=>hc$ by simp [z]) e) (λb o _ _ hc e _=>⟨o.slots,k b o (λz=>hc$ by simp [z]) e⟩) (λ_ _ _ _ n=>n)
  (λb o hc e=>⟨o,k b o (λz=>hc$ by simp [z]) e⟩) (λ_ _ e=>e) (λ_ _ _ e=>e) (λb ps e=>⟨#[],by rw[e];simp⟩) (λm hm=>?_) (λb u e=>?_) I.bare
 .have e:b=it:=by simpa using hb
  subst e;exact⟨h1,hL,h2,h3⟩
 .obtain⟨o,es,ep,ho,r⟩:=hm;exact⟨o,es,ep,k _ o (QbE hL) ho,r⟩
 .refine(I.hok b u e).t7 (λc v hc q=>k c v ?_ q) (λ_ q=>q) λ_ _ q=>q
  rcases hc with z | z
  .rw [z];exact nit b u e
  .exact nit c _ z
def Inv.tok(I:Inv X pins σ H s)(t:Nat):Inv X pins σ H {s with toks:=t}:=I.un (h':=s.heap) (t':=t) Un.refl I.hok
def Inv.kept{t':Nat}(I:Inv X pins σ H s)(k:∀b u,s.heap.get? b=some u->h'.get? b=some u):Inv X pins σ H {s with heap:=h',toks:=t'}:=I.un (Un.kept k)$ I.hok.kept k
def Inv.laid{a:Addr}{o:HO}{t':Nat}(I:Inv X pins σ H s)(k:∀b u,s.heap.get? b=some u->h'.get? b=some u)(hp:s.heap.objs.size<=a)(new:dk X.prog X.w (upd H a o) h' a o) :
 Inv X pins σ (upd H a o) {s with heap:=h',toks:=t'}:=I.un (Un.laid k hp$ I.hok.fresh hp)$ I.hok.laid k hp new
def Inv.write{x e:Addr}{o:HO}{t':Nat}(I:Inv X pins σ H s)(mu:TJ (H x))(he:e=x\/H e=some (.own x))(k:∀b u,b≠e->s.heap.get? b=some u->h'.get? b=some u)(Kp:∃u,h'.get? e=some u)
 (new:dk X.prog X.w (upd H x o) h' x o):Inv X pins σ (upd H x o) {s with heap:=h',toks:=t'}:=I.un (Un.write mu he k Kp)$ I.hok.write mu he k Kp new
def Inv.CU{lZ:Aaa}(I:Inv X pins σ H s)(h:∀p∈lZ,s.heap.get? p.1=some p.2/\H p.1=none/\p.1≠X.env.locals/\p.1 ∉ X.fs/\∀v,p.2.data≠ .cell v):Inv X lZ σ H s:=
 ⟨I.ok,I.os,I.bare,I.base,I.loc,I.cell,I.free,I.freeC,λp hp=>(Qbp.mp hp).elim (λz=>I.pin p$ Qb3 _ z)$ h p,I.hok,I.len⟩
def vR{N:List Str}(hN:N.Nodup){i j:Nat}(a:N[i]? =some x)(b:N[j]? =some x):i=j:=by
 obtain⟨h1,e1⟩:=Qae.mp a;obtain⟨h2,e2⟩:=Qae.mp b;exact(List.getElem_inj hN).mp (e1.trans e2.symm)
def wX{M:Model}{A:Around}{E:Aab}{i:Nat}{x:Str}{v:V}{u:Value}{Q:Unit->Qdj->Prop}(I:Inv X pins σ H s)(hN:X.N.Nodup)(hi:X.N[i]? =some x)(hx:Loc X.env.scope x)(r:RelV v u)
 (h:∀s',Inv X pins (σ.set i$ some v) H s'->(∃a,Heap.SameBut a s.heap s'.heap/\(a=X.env.locals\/X.env.cells.lookup x=some a))->Q () s') (hf:X.fn x=true\/X.env.scope.names.lookup x=some .local:=by first | exact .inl rfl | exact .inr rfl | assumption):wpAny M A (storeName X.env x u) Q E s:=by
 obtain⟨m,hn,hl⟩:=id I.loc;have hcls:(X.env.scope.kind== .class || (X.env.scope.kind== .module && X.env.locals !=X.env.globals))=false:=by rw[I.ok.kind];rfl
 have hiσ:i<σ.length:=by rw[I.len];exact(Qae.mp hi).1
 have JG:=I.JG;have tracked:∀{a:Addr} {h':Heap},(∃o,s.heap.get? a=some o/\H a=none)->Heap.SameBut a s.heap h'->mF X.prog X.w H h':=fun {a h'} ha hs b ob e=>by
  obtain⟨_,_,hfree⟩:=ha;refine(I.hok b ob e).t7 (λc w' hc q=>(hs.2 c ?_).trans q) (λ_ q=>q) λ_ _ q=>q
  rintro rfl;rcases hc with rfl | hc
  .rw [hfree] at e;cases e
  .rw [hfree] at hc;cases hc
 rcases hx with hk | hk
 .refine wpAny_storeName_local hk hn (λh' T6 hs=>?_) hcls
  obtain⟨oL,_,_,hoL,_⟩:=id hn;refine h _ ⟨I.ok,I.os,I.bare,⟨λb o e n hb hx=>?_,λb o e n hb hx=>?_,I.base.free,λb o e hx=>?_,I.base.tups,I.base.frzs,I.base.tbls⟩,⟨_,T6,λj y v' e1 e2 e3=>?_⟩,λy c e=>?_,I.free,I.freeC,λp hp=>?_,tracked ⟨oL,hoL,I.free⟩ hs,by simpa using I.len⟩ ⟨_,hs, .inl rfl⟩
  .exact(hs.2 b$ QaE$ QaC (Qar e) I.ok.above).trans (I.base.keep b o e n hb hx)
  .obtain⟨sl,e1⟩:=I.base.slot b o e n hb hx;exact⟨sl,(hs.2 b$ QaE$ QaC (Qar e) I.ok.above).trans e1⟩
  .obtain⟨o',e1⟩:=I.base.there b o e hx;exact⟨o',(hs.2 b$ QaE$ QaC (Qar e) I.ok.above).trans e1⟩
  .by_cases hj:j=i
   .subst hj;rw[hi] at e1;cases e1;rw[Qaq hiσ] at e2;cases e2;exact⟨u,r, .inl ⟨hk,by simp⟩⟩
   .rw [Qas$ QbE hj] at e2;obtain⟨u',r',q⟩:=hl j y v' e1 e2 e3;refine⟨u',r',?_⟩;rcases q with⟨k,e⟩ | ⟨k,c,e,z⟩
    .refine .inl ⟨k,?_⟩;have:y≠x:=λe=>hj (vR hN e1$ e▸hi)
     simp [this,e]
    .exact .inr ⟨k,c,e,z.sameBut hs$ JG y c e⟩
  .obtain⟨w',z⟩:=I.cell y c e;exact⟨w',z.sameBut hs$ JG y c e⟩
  .obtain⟨e,n,ne,nf,d⟩:=I.pin p hp;exact⟨(hs.2 p.1 ne).trans e,n,ne,nf,d⟩
 .have hfn:X.fn x=true:=by
   rcases hf with z | z
   .exact z
   .rw [z] at hk;cases hk
  obtain⟨c,hc⟩:=I.ok.has x$ .inl hk;obtain⟨w',z⟩:=I.cell x c hc;refine wpAny_storeName_cell I.ok.kind hk hc z$ λh' Gz hs=>?_
  obtain⟨oc,hoc,hocd⟩:=id z;refine h {s with heap:=h'} ⟨I.ok,I.os,I.bare,⟨λb o e n hb hx=>?_,λb o e n hb hx=>?_,I.base.free,λb o e hx=>?_,I.base.tups,I.base.frzs,I.base.tbls⟩,⟨m,hn.sameBut hs$ QbE$ JG x c hc,λj y v' e1 e2 e3=>?_⟩,λy c' e=>?_,I.free,I.freeC,λp hp=>?_,tracked ⟨oc,hoc,I.freeC x c hc⟩ hs,by simpa using I.len⟩ ⟨c,hs, .inr hc⟩
  .exact(hs.2 b$ QaE$ QaC (Qar e)$ I.ok.cab x c hfn hc).trans (I.base.keep b o e n hb hx)
  .obtain⟨sl,e1⟩:=I.base.slot b o e n hb hx;exact⟨sl,(hs.2 b$ QaE$ QaC (Qar e)$ I.ok.cab x c hfn hc).trans e1⟩
  .obtain⟨o',e1⟩:=I.base.there b o e hx;exact⟨o',(hs.2 b$ QaE$ QaC (Qar e)$ I.ok.cab x c hfn hc).trans e1⟩
  .by_cases hj:j=i
   .subst hj;rw[hi] at e1;cases e1;rw[Qaq hiσ] at e2;cases e2;exact⟨u,r, .inr ⟨.inl hk,c,hc,Gz⟩⟩
   .rw [Qas$ QbE hj] at e2;obtain⟨u',r',q⟩:=hl j y v' e1 e2 e3;refine⟨u',r',?_⟩;rcases q with q | ⟨k,c',e,z'⟩
    .exact .inl q
    .refine .inr ⟨k,c',e,z'.sameBut hs ?_⟩;rintro rfl;exact hj$ vR hN e1$ I.ok.inj _ _ _ e hc▸hi
  .by_cases hcc:c'=c
   .subst hcc;exact⟨_,Gz⟩
   .obtain⟨w2,z2⟩:=I.cell y c' e;exact⟨w2,z2.sameBut hs hcc⟩
  .obtain⟨e,n,ne,nf,d⟩:=I.pin p hp;refine⟨(hs.2 p.1 ?_).trans e,n,ne,nf,d⟩;intro q;rw[q,hoc] at e;have q':oc=p.2:=QaS e;exact d w' (by rw[<-q'];exact hocd)
def uI{M:Model}{A:Around}{E:Aab}{i:Nat}{x:Str}{v:V}{u:Value}{Q:Unit->Qdj->Prop}(I:Inv X pins σ H s)(hN:X.N.Nodup)(hi:X.N[i]? =some x)(hx:Loc X.env.scope x)(r:RelV v u)
 (h:∀s',Inv X pins (σ.set i$ some v) H s'->Q () s') (hf:X.fn x=true\/X.env.scope.names.lookup x=some .local:=by first | exact .inl rfl | exact .inr rfl | assumption):wpAny M A (storeName X.env x u) Q E s:=
 wX I hN hi hx r (λs' I' _=>h s' I') hf
def Inv.M9{s':Qdj}{ch:List Addr}(I:Inv X pins σ H s)(ho:s'.os=s.os)(u:Un (pN X.stack) ch H H' s.heap s'.heap)(hok:mF X.prog X.w H' s'.heap)(hg:AllBare s'.gens)
 (Kq:∀b∈ch,(b∈X.ex\/X.s₀.heap.objs.size<=b)/\b≠X.env.locals/\(∀x c,X.env.cells.lookup x=some c->c≠b)/\∀p∈X.pn++pins,p.1≠b):Inv X pins σ H' s':=by
 obtain⟨h',g',d',t',o'⟩:=s';have e:o'=s.os:=ho;subst e;exact I.call (g':=g') (t':=t') (d':=d') u hok hg Kq
end
abbrev XK:=Value->Option Addr->Hp->Prop
abbrev St:=List$ Option V
abbrev VK:=V->Hp->Prop
abbrev TE:=St->Hp->VK->Prop
abbrev TT:=St->Hp->(Bool->Hp->Prop)->Prop
abbrev TA:=St->Hp->(List V->Hp->Prop)->Prop
structure Ends where
 nx:St->Hp->Prop
 rt:VK
 bk:St->Hp->Prop:=fun _ _=>False
 ct:St->Hp->Prop:=fun _ _=>False
abbrev TS:=Ends->St->Hp->Prop
def EP(X:Cx)(pins:Aaa)(σ:St)(Q:VK)(u:Value)(s':Qdj):Prop:=∃v H',Inv X pins σ H' s'/\RelV v u/\Q v H'
def TP(X:Cx)(pins:Aaa)(σ:St)(Q:Bool->Hp->Prop)(b:Bool)(s':Qdj):Prop:=∃H',Inv X pins σ H' s'/\Q b H'
def AP(X:Cx)(pins:Aaa)(σ:St)(Q:List V->Hp->Prop)(us:List Value)(s':Qdj):Prop:=∃vs H',Inv X pins σ H' s'/\Vals vs us/\Q vs H'
def SP(X:Cx)(pins:Aaa)(D:Ends)(f:Flow)(s':Qdj):Prop:=
 match f with
 | .next=>∃c9 H',Inv X pins c9 H' s'/\D.nx c9 H'
 | .brk=>∃c9 H',Inv X pins c9 H' s'/\D.bk c9 H'
 | .cont=>∃c9 H',Inv X pins c9 H' s'/\D.ct c9 H'
 | .ret u=>∃v c9 H',Inv X pins c9 H' s'/\RelV v u/\D.rt v H'
def PE(X:Cx)(e:Expr)(t:TE):Prop:=
 ∀(pins:Aaa) (s:Qdj) (σ:St) (H:Hp) (Q:VK),Inv X pins σ H s->t σ H Q->wpAny (model X.prog X.w) X.A (eval e X.env) (EP X pins σ Q) X.xe s
def PT(X:Cx)(e:Expr)(t:TT):Prop:=
 ∀(pins:Aaa) (s:Qdj) (σ:St) (H:Hp) (Q:Bool->Hp->Prop),Inv X pins σ H s->t σ H Q->wpAny (model X.prog X.w) X.A (isTrue e X.env$ eval e X.env) (TP X pins σ Q) X.xe s
def PW(X:Cx)(e:Expr)(t:TT):Prop:=
 ∀(whole:Sem Value) (pins:Aaa) (s:Qdj) (σ:St) (H:Hp) (Q:Bool->Hp->Prop),Inv X pins σ H s->t σ H Q->wpAny (model X.prog X.w) X.A (isTrue e X.env whole) (TP X pins σ Q) X.xe s
def PW.pt{X:Cx}{t:TT}(h:PW X e t):PT X e t:=h _
def PA(X:Cx)(es:List Expr)(t:TA):Prop:=
 ∀(pos:Pos) (pins:Aaa) (s:Qdj) (σ:St) (H:Hp) (Q:List V->Hp->Prop),Inv X pins σ H s->t σ H Q->wpAny (model X.prog X.w) X.A (spliced$ backTo pos$ starEach es X.env) (AP X pins σ Q) X.xe s
def PS(X:Cx)(st:Stmt)(t:TS):Prop:=
 ∀(pins:Aaa) (s:Qdj) (σ:St) (H:Hp) (D:Ends),Inv X pins σ H s->t D σ H->wpAny (model X.prog X.w) X.A (exec st X.env) (SP X pins D) X.xe s
def y4(X:Cx)(st:List Stmt)(t:TS):Prop:=
 ∀(pins:Aaa) (s:Qdj) (σ:St) (H:Hp) (D:Ends),Inv X pins σ H s->t D σ H->wpAny (model X.prog X.w) X.A (execs st X.env) (SP X pins D) X.xe s
def dP{α:Type}{t:Sem α}{Q Q':α->Qdj->Prop}{M:Model}{E:Aab}{s:Qdj}(h:wpAny M A t Q E s)(hQ:∀a s,Q a s->Q' a s):wpAny M A t Q' E s:=QbM h hQ λ_ _ x=>x
section
variable {X:Cx}
def U6(i:Nat):TE:=λσ H Q=>∃v,σ[i]? =some (some v)/\Q v H
def tC(v:V):TE:=λ_ H Q=>Q v H
def vP{i:Nat}{pos:Pos}(hN:X.N[i]? =some x)(hv:Kk X.env.scope x)(hd:(x==("__debug__":Str))=false:=by decide)(sL:(x==("__classdict__":Str))=false:=by decide):PE X (.Name x pos) (U6 i):=by
 intro pins s σ H Q I h;obtain⟨v,e,h⟩:=h;obtain⟨m,hn,hl⟩:=I.loc;obtain⟨u,r,l⟩:=hl i x v hN e hv;have fin:EP X pins σ Q u s:=⟨v,H,I,r,h⟩;rcases l with⟨hk,hm⟩ | ⟨hk,c,hc,hcell⟩
 .exact wpAny_Name (wpAny_loadName_local I.ok.kind hk hn hm fin) hd
 .rcases hk with hk | hk
  .exact wpAny_Name (wpAny_loadName_cell I.ok.kind hk hc hcell fin) hd
  .exact wpAny_Name (wpAny_loadName_free I.ok.kind hk hc hcell fin sL) hd
def uS{i j pos}:PE X (.Constant (.int i) j pos) (tC$ .int i):=λ_ _ _ H _ I h=>wpAny_Constant_int ⟨.int i,H,I.tok _,⟨_,rfl⟩,h⟩
def SX{b j pos}:PE X (.Constant (.bool b) j pos) (tC$ .bl b):=λ_ _ _ H _ I h=>Constant_bool ⟨.bl b,H,I,rfl,h⟩
def Pt{j pos}:PE X (.Constant .none j pos) (tC .cI):=λ_ _ _ H _ I h=>Constant_none ⟨.cI,H,I,rfl,h⟩
def uU{x j pos}:PE X (.Constant (.str x) j pos) (tC$ .str x):=λ_ _ _ H _ I h=>Calls.Constant_str ⟨.str x,H,I.tok _,⟨_,rfl⟩,h⟩
def Gl(X:Cx)(x:Str):Prop:=X.env.kindOf x=some .globalImplicit
def qx{E:Aab}{pins:Aaa}{s:Qdj}{σ:St}{H:Hp}{x:Str}{u:Value}{pos:Pos}{Q:Aab}(I:Inv X pins σ H s)(hg:Gl X x)(hm:X.mg x=some u)(h:Q u s)
 (hd:(x==("__debug__":Str))=false:=by decide):wpAny (model X.prog X.w) X.A (eval (.Name x pos) X.env) Q E s:=
 Calls.Name_function_global I.ok.kind hg (Calls.loadGlobal_global (by rw[I.ok.glob];exact I.mod.glob.keeps I.bk) hm h) hd
def l8{E:Aab}{pins:Aaa}{s:Qdj}{σ:St}{H:Hp}{x:Str}{u:Value}{pos:Pos}{Q:Aab}(I:Inv X pins σ H s)(hg:Gl X x)(hm:X.mg x=none)(hv:bootBuiltins x=some u)(h:Q u s)
 (hn:x≠"__name__":=by decide) (hd:(x==("__debug__":Str))=false:=by decide):wpAny (model X.prog X.w) X.A (eval (.Name x pos) X.env) Q E s:=by
 obtain⟨mb,h1,h2⟩:=I.mod.blt;exact Calls.Name_function_global I.ok.kind hg (Calls.loadGlobal_builtin (by rw[I.ok.glob];exact I.mod.glob.keeps I.bk) hm (by rw[I.ok.blt];exact h1.keeps I.bk) ((h2 x hn).trans hv) h) hd
def fj{v:V}{u:Value}{pos:Pos}(hg:Gl X x)(hm:X.mg x=some u)(r:RelV v u)(hd:(x==("__debug__":Str))=false:=by decide):PE X (.Name x pos) (tC v):=
 λ_ _ _ H _ I h=>qx I hg hm ⟨v,H,I,r,h⟩ hd
def uc{v:V}{u:Value}{pos:Pos}(hg:Gl X x)(hm:X.mg x=none)(hv:bootBuiltins x=some u)(r:RelV v u)(hn:x≠"__name__":=by decide)(hd:(x==("__debug__":Str))=false:=by decide):PE X (.Name x pos) (tC v):=
 λ_ _ _ H _ I h=>l8 I hg hm hv ⟨v,H,I,r,h⟩ hn hd
def Uy(ta tb:TE)(k:Int->Int->Hp->Prop):St->Hp->Prop:=λσ H=>ta σ H λx H1=>tb σ H1 λy H2=>∃i j,x= .int i/\y= .int j/\k i j H2
def aai(ta tb:TE):TE:=λσ H Q=>Uy ta tb (λi j H2=>Q (.int$ i+j) H2) σ H
def aak(ta tb:TE):TE:=λσ H Q=>Uy ta tb (λi j H2=>Q (.int$ i - j) H2) σ H
def aaY(ta tb:TE):TE:=λσ H Q=>Uy ta tb (λi j H2=>(-(2 ^ 64)<i/\i<2 ^ 64)/\Q (.int$ i*j) H2) σ H
variable {a b:Expr}{ta tb:TE}{pos:Pos}
def PC(X:Cx)(op:CmpOp)(a b:Expr)(t:TE):Prop:=
 ∀(pins:Aaa) (s:Qdj) (σ:St) (H:Hp) (Q:VK),Inv X pins σ H s->t σ H Q->
  wpAny (model X.prog X.w) X.A (eval a X.env) (λv s₁=>wpAny (model X.prog X.w) X.A (eval b X.env) (λu J3=>wpAny (model X.prog X.w) X.A (compareOp op v u) (EP X pins σ Q) X.xe J3) X.xe s₁) X.xe s
def Fc(p:Int->Int->Bool)(ta tb:TE):TE:=λσ H Q=>Uy ta tb (λi j H2=>Q (.bl$ p i j) H2) σ H
abbrev tLt:TE->TE->TE:=Fc fun i j=>decide$ i<j
abbrev tLe:TE->TE->TE:=Fc fun i j=>decide$ i<=j
abbrev tGt:TE->TE->TE:=Fc fun i j=>decide$ j<i
abbrev tGe:TE->TE->TE:=Fc fun i j=>decide$ j<=i
abbrev aae:TE->TE->TE:=Fc fun i j=>decide$ i=j
abbrev aaM:TE->TE->TE:=Fc fun i j=>!decide (i=j)
def aap(ta:TE):TE:=λσ H Q=>ta σ H λx H1=>Q (.bl$ decide$ x= .cI) H1
def Yp(ta:TE):TE:=λσ H Q=>ta σ H λx H1=>Q (.bl$ !decide (x= .cI)) H1
def tB(t:TE):TT:=λσ H Q=>t σ H λx H1=>∃c,x= .bl c/\Q c H1
variable {tA UP:TT}{rest:List Expr}
def VH(t u:TT):TT:=λσ H Q=>t σ H λc H1=>if c=true then u σ H1 Q else Q false H1
def tOr(t u:TT):TT:=λσ H Q=>t σ H λc H1=>if c=true then Q true H1 else u σ H1 Q
def Wl(t:TT):TT:=λσ H Q=>t σ H λc H1=>Q (!c) H1
def KH(ha:PT X a tA):PW X (.BoolOp .And [a] pos) tA:=by
 intro wh pins s σ H Q I h;refine isTrue_and$ dP (ha pins s σ H Q I h) λc s1 e=>?_
 cases c with
 | true=>exact isTrue_and_nil e
 | false=>exact e
def GW(ha:PT X a tA):PW X (.BoolOp .Or [a] pos) tA:=by
 intro wh pins s σ H Q I h;refine isTrue_or$ dP (ha pins s σ H Q I h) λc s1 e=>?_
 cases c with
 | false=>exact isTrue_or_nil e
 | true=>exact e
def Py(ha:PT X a tA)(hb:PW X (.BoolOp .And (b ::rest) pos) UP):PW X (.BoolOp .And (a ::b ::rest) pos) (VH tA UP):=by
 intro wh pins s σ H Q I h;refine isTrue_and$ dP (ha pins s σ H _ I h) λc s1 ⟨H1,I1,q1⟩=>?_
 cases c with
 | true=>exact hb wh pins s1 σ H1 Q I1 q1
 | false=>exact⟨H1,I1,q1⟩
def Nd(ha:PT X a tA)(hb:PW X (.BoolOp .Or (b ::rest) pos) UP):PW X (.BoolOp .Or (a ::b ::rest) pos) (tOr tA UP):=by
 intro wh pins s σ H Q I h;refine isTrue_or$ dP (ha pins s σ H _ I h) λc s1 ⟨H1,I1,q1⟩=>?_
 cases c with
 | true=>exact⟨H1,I1,q1⟩
 | false=>exact hb wh pins s1 σ H1 Q I1 q1
def JJ(ha:PT X a tA):PT X (.UnaryOp .Not a pos) (Wl tA):=by
 intro pins s σ H Q I h;exact isTrue_not$ ha pins s σ H (λc H1=>Q (!c) H1) I h
def RL(ta tb:TE):TE:=λσ H Q=>ta σ H λx H1=>∃c,x= .bl c/\if c=true then tb σ H1 Q else Q (.bl false) H1
def ZP(ta tb:TE):TE:=λσ H Q=>ta σ H λx H1=>∃c,x= .bl c/\if c=true then Q (.bl true) H1 else tb σ H1 Q
def Sa(ta:TE):TE:=λσ H Q=>ta σ H λx H1=>∃c,x= .bl c/\Q (.bl$ !c) H1
def Hy{op}{t:TE}(h:PE X a t):PE X (.BoolOp op [a] pos) t:=λpins s σ H Q I hw=>BoolOp_one$ h pins s σ H Q I hw
def GD(ha:PE X a ta)(hb:PE X (.BoolOp .And (b ::rest) pos) tb):PE X (.BoolOp .And (a ::b ::rest) pos) (RL ta tb):=by
 intro pins s σ H Q I h;refine BoolOp_and$ dP (ha pins s σ H _ I h) λv s1 ⟨x,H1,I1,r1,q1⟩=>?_
 obtain⟨c,rfl,q1⟩:=q1;cases r1;refine Qb1 ?_;cases c with
 | true=>exact hb pins s1 σ H1 Q I1 q1
 | false=>exact⟨.bl false,H1,I1,rfl,q1⟩
def HR(ha:PE X a ta):PE X (.UnaryOp .Not a pos) (Sa ta):=by
 intro pins s σ H Q I h;refine UnaryOp_$ dP (ha pins s σ H _ I h) λv s1 ⟨x,H1,I1,r1,q1⟩=>?_
 obtain⟨c,rfl,q1⟩:=q1;cases r1;exact not_of$ Qb1 ⟨.bl$ !c,H1,I1,rfl,q1⟩
def Zr(t:TT)(ta tb:TE):TE:=λσ H Q=>t σ H λc H1=>if c=true then ta σ H1 Q else tb σ H1 Q
def G3(hc:PT X c tA)(ha:PE X a ta)(hb:PE X b tb):PE X (.IfExp c a b pos) (Zr tA ta tb):=by
 intro pins s σ H Q I h;refine wpAny_IfExp$ dP (hc pins s σ H _ I h) λd s1 ⟨H1,I1,q1⟩=>?_
 cases d with
 | true=>exact ha pins s1 σ H1 Q I1 q1
 | false=>exact hb pins s1 σ H1 Q I1 q1
end
def pI(K:Qdi)(H:Hp)(a:Addr)(xs:List V):Prop:=
 Rd H a (.lst xs)\/
  ∃(o:Obj) (its:Array Value) (n:Nat),K.lookup a=some o/\o.cls= .type "list"/\o.dict=none/\o.data= .seq its n/\its.size<=sizeLine/\Vals xs its.toList
def rA(K:Qdi)(H:Hp)(a:Addr)(xs:List V):Prop:=
 Rd H a (.tup xs)\/
  ∃(o:Obj) (its:Array Value) (n:Nat),K.lookup a=some o/\o.cls= .type "tuple"/\o.data= .seq its n/\its.size<=sizeLine/\Vals xs its.toList
noncomputable def Wr:Value->Option V
 | .none=>some .cI
 | .bool b=>some$ .bl b
 | .int i _=>some$ .int i
 | .str x _=>some$ .str x
 | .bytes b _=>some$ .byt b
 | .float b _=>some$ .flt b
 | .ref a=>some$ .ref a
 | .type n=>some$ .ty n
 | _=>none
def RelV.abs{x:V}{u:Value}(r:RelV x u):Wr u=some x:=by
 cases x with
 | cI=>cases r;rfl
 | bl _=>cases r;rfl
 | int _=>obtain⟨t,rfl⟩:=r;rfl
 | str _=>obtain⟨t,rfl⟩:=r;rfl
 | byt _=>obtain⟨t,rfl⟩:=r;rfl
 | flt _=>obtain⟨t,rfl⟩:=r;rfl
 | ref _=>cases r;rfl
 | ty _=>cases r;rfl
def RelV.inj{x y:V}{u:Value}(r:RelV x u)(q:RelV y u):x=y:=QaS$ r.abs.symm.trans q.abs
theorem Vals.inj:∀{xs ys:List V} {us:List Value},Vals xs us->Vals ys us->xs=ys
 | _,_,_, .nil, .nil=>rfl
 | _,_,_, .cons r t, .cons r' t'=>by rw[r.inj r',Vals.inj t t']
section
variable {X:Cx}{pins:Aaa}{σ:St}{H:Hp}{s:Qdj}{a:Addr}{xs ys:List V}
def pI.of{K:Qdi}(h:H a=some (.lst xs)):pI K H a xs:= .inl$ .inl h
def Inv.list(I:Inv X pins σ H s)(h:pI X.K H a xs):∃its:List Value,Vals xs its/\PlainL s.heap a its.toArray/\xs.length<=sizeLine:=by
 rcases h with h | ⟨o,its,n,hk,hc,hd,hs,hz,r⟩
 .obtain⟨z,its,n,r,e⟩:=h.ok I.hok;exact⟨its,r,⟨_,n,e,rfl,rfl,rfl⟩,z⟩
 .refine⟨its.toList,r,⟨o,n,I.pz a o hk,hc,hd,by simpa using hs⟩,?_⟩
  have e:=r.length;simp only[Qbv] at e;omega
def Inv.tuple(I:Inv X pins σ H s)(h:rA X.K H a xs):∃its:List Value,Vals xs its/\IsTup s.heap a its.toArray/\xs.length<=sizeLine:=by
 rcases h with h | ⟨o,its,n,hk,hc,hs,hz,r⟩
 .obtain⟨z,its,r,p⟩:=h.ok I.hok;exact⟨its,r,p,z⟩
 .refine⟨its.toList,r,⟨o,I.pz a o hk,hc,n,by simpa using hs⟩,?_⟩
  have e:=r.length;simp only[Qbv] at e;omega
def Inv.qJ(I:Inv X pins σ H s)(h:pI X.K H a xs)(h':pI X.K H a ys):xs=ys:=by
 obtain⟨its,r,⟨o,n,e,_,_,d⟩,_⟩:=I.list h;obtain⟨its',r',⟨o',n',e',_,_,d'⟩,_⟩:=I.list h';rw[e] at e';cases e';rw[d] at d';injection d' with d1 _
 have:its=its':=by simpa using Qbi Array.toList d1
 subst this;exact r.inj r'
def Inv.rG(I:Inv X pins σ H s)(h:rA X.K H a xs)(h':rA X.K H a ys):xs=ys:=by
 obtain⟨its,r,⟨o,e,_,n,d⟩,_⟩:=I.tuple h;obtain⟨its',r',⟨o',e',_,n',d'⟩,_⟩:=I.tuple h';rw[e] at e';cases e';rw[d] at d';injection d' with d1 _
 have:its=its':=by simpa using Qbi Array.toList d1
 subst this;exact r.inj r'
end
noncomputable abbrev Cx.wq(X:Cx)(E:Aab):Cx:={X with xe:=E}
abbrev Cx.JA(X:Cx):Cx:=X.wq fun _ _=>False
def Cx.Ok.wq{X:Cx}(ok:X.Ok)(E:Aab):(X.wq E).Ok:=
 ⟨ok.mod,ok.kind,ok.glob,ok.blt,ok.above,ok.inj,ok.has,ok.cab,ok.hd,ok.frames,ok.stk,ok.exf,ok.bs,ok.bsz,ok.noex,ok.exfs,ok.qS,ok.frf⟩
def Cx.Ok.m_{X:Cx}{E:Aab}(ok:(X.wq E).Ok):X.Ok:=
 ⟨ok.mod,ok.kind,ok.glob,ok.blt,ok.above,ok.inj,ok.has,ok.cab,ok.hd,ok.frames,ok.stk,ok.exf,ok.bs,ok.bsz,ok.noex,ok.exfs,ok.qS,ok.frf⟩
section
variable {X:Cx}{pins:Aaa}{σ:St}{H:Hp}{s:Qdj}{E:Aab}
def Inv.wq(I:Inv X pins σ H s)(E:Aab):Inv (X.wq E) pins σ H s:=⟨I.ok.wq E,I.os,I.bare,I.base,I.loc,I.cell,I.free,I.freeC,I.pin,I.hok,I.len⟩
def Inv.m_(I:Inv (X.wq E) pins σ H s):Inv X pins σ H s:=⟨I.ok.m_,I.os,I.bare,I.base,I.loc,I.cell,I.free,I.freeC,I.pin,I.hok,I.len⟩
def SP.m_{D:Ends}{f:Flow}{s':Qdj}(h:SP (X.wq E) pins D f s'):SP X pins D f s':=by
 cases f with
 | next=>obtain⟨c9,H',I,q⟩:=h;exact⟨c9,H',I.m_,q⟩
 | brk=>obtain⟨c9,H',I,q⟩:=h;exact⟨c9,H',I.m_,q⟩
 | cont=>obtain⟨c9,H',I,q⟩:=h;exact⟨c9,H',I.m_,q⟩
 | ret u=>obtain⟨v,c9,H',I,r,q⟩:=h;exact⟨v,c9,H',I.m_,r,q⟩
def y4.JA{st:List Stmt}{t:TS}(h:y4 X.JA st t):y4 X st t:=λpins s σ H D I hw=>
 QbM (h pins s σ H D (I.wq _) hw) (λ_ _ q=>q.m_) λ_ _ z=>False.elim z
end
section
variable {X:Cx}{st:Stmt}{rest:List Stmt}{t u:TS}{e:Expr}{te:TE}{pos:Pos}
def RK:TS:=λD σ H=>D.nx σ H
def SH(t u:TS):TS:=λD σ H=>t {D with nx:=u D} σ H
def yR:y4 X [] RK:=λ_ _ σ H _ I h=>QcD ⟨σ,H,I,h⟩
def vJ(h1:PS X st t)(h2:y4 X rest u):y4 X (st ::rest) (SH t u):=by
 intro pins s σ H D I h;refine wpAny_execs_cons$ dP (h1 pins s σ H {D with nx:=u D} I h) λf s1 q=>?_
 cases f with
 | next=>
   obtain⟨c9,H',I',q⟩:=q;exact h2 pins s1 c9 H' D I' q
 | ret v=>exact q
 | brk=>exact q
 | cont=>exact q
def yk(h1:PS X st t):y4 X [st] t:=by
 intro pins s σ H D I h;refine wpAny_execs_cons$ dP (h1 pins s σ H D I h) λf s1 q=>?_
 cases f with
 | next=>exact QcD q
 | ret v=>exact q
 | brk=>exact q
 | cont=>exact q
def VF:TS:=λD σ H=>D.bk σ H
def Yc:TS:=λD σ H=>D.ct σ H
def Inv.quiet{pins:Aaa}{s:Qdj}(I:Inv X pins σ H s):interactive X.env=false:=by simp [interactive,I.ok.kind]
def Sg(te:TE):TS:=λD σ H=>te σ H λ_ H1=>D.nx σ H1
def uf(he:PE X e te)(hs:swapsWith e none pos.line X.env=pure false:=by rfl):PS X (.Expr e pos) (Sg te):=by
 intro pins s σ H D I h;exact wpAny_Expr_any (dP (he pins s σ H _ I h) λv s1 ⟨x,H1,I1,r1,q1⟩=>⟨σ,H1,I1,q1⟩) I.quiet hs
def VB(te:TE):TS:=λD σ H=>te σ H D.rt
def IK(he:PE X e te):PS X (.Return (some e) pos) (VB te):=by
 intro pins s σ H D I h;exact wpAny_Return_some$ dP (he pins s σ H _ I h) λv s1 ⟨x,H1,I1,r1,q1⟩=>⟨x,σ,H1,I1,r1,q1⟩
def XZ:TS:=λD _ H=>D.rt .cI H
def RF(c:TT)(t u:TS):TS:=λD σ H=>c σ H λb H1=>if b=true then t D σ H1 else u D σ H1
def HS{tc:TT}(hc:PT X c tc)(ha:y4 X a t)(hb:y4 X b u):PS X (.If c a b pos) (RF tc t u):=by
 intro pins s σ H D I h;refine wpAny_If$ dP (hc pins s σ H _ I h) λd s1 ⟨H1,I1,q1⟩=>?_
 cases d with
 | true=>exact ha pins s1 σ H1 D I1 q1
 | false=>exact hb pins s1 σ H1 D I1 q1
def Wx:TS:=λ_ _ _=>False
end
abbrev TG:=V->St->Hp->(St->Hp->Prop)->Prop
abbrev IY:=List V->St->Hp->(St->Hp->Prop)->Prop
def PG(X:Cx)(target:Expr)(t:TG):Prop:=
 ∀(pins:Aaa) (s:Qdj) (σ:St) (H:Hp) (v:V) (u:Value) (Q:St->Hp->Prop),Inv X pins σ H s->RelV v u->t v σ H Q->
  wpAny (model X.prog X.w) X.A (assign target X.env u) (λ_ s'=>∃c9 H',Inv X pins c9 H' s'/\Q c9 H') X.xe s
def K4(X:Cx)(ts:List Expr)(t:IY):Prop:=
 ∀(pins:Aaa) (s:Qdj) (σ:St) (H:Hp) (vs:List V) (us:List Value) (Q:St->Hp->Prop),Inv X pins σ H s->Vals vs us->t vs σ H Q->
  wpAny (model X.prog X.w) X.A (assignInOrder ((assignEach ts X.env).map (·.2)) us) (λ_ s'=>∃c9 H',Inv X pins c9 H' s'/\Q c9 H') X.xe s
abbrev MG:=V->V->V->Hp->(Hp->Prop)->Prop
def Rz(X:Cx)(t:MG):Prop:=
 ∀(pins:Aaa) (s:Qdj) (σ:St) (H:Hp) (o i v:V) (ov iv u:Value) (Q:Hp->Prop),Inv X pins σ H s->RelV o ov->RelV i iv->RelV v u->t o i v H Q->
  wpAny (model X.prog X.w) X.A (setItem ov iv u) (λ_ s'=>∃H',Inv X pins σ H' s'/\Q H') X.xe s
abbrev UD:=V->V->Hp->VK->Prop
def PIp(X:Cx)(op:Operator)(t:UD):Prop:=
 ∀(pins:Aaa) (s:Qdj) (σ:St) (H:Hp) (x y:V) (v u:Value) (Q:VK),Inv X pins σ H s->RelV x v->RelV y u->t x y H Q->
  wpAny (model X.prog X.w) X.A (inplaceOp op v u) (EP X pins σ Q) X.xe s
section
variable {X:Cx}{pos:Pos}
def vS(i:Nat):TG:=λv σ H Q=>Q (σ.set i$ some v) H
def DR{i:Nat}(hN:X.N.Nodup)(hi:X.N[i]? =some x)(hx:Loc X.env.scope x)(hf:X.fn x=true\/X.env.scope.names.lookup x=some .local:=by first | exact .inl rfl | exact .inr rfl | assumption):PG X (.Name x pos) (vS i):=by
 intro pins s σ H v u Q I r h;exact wpAny_assign_Name$ uI I hN hi hx r (λs' I'=>⟨_,H,I',h⟩) hf
def U7:IY:=λvs σ H Q=>vs=[]/\Q σ H
def RZ(t:TG)(u:IY):IY:=λvs σ H Q=>∃v r,vs=v ::r/\t v σ H λc9 H'=>u r c9 H' Q
def Dg:K4 X [] U7:=by
 intro pins s σ H vs us Q I r h;obtain⟨e,h⟩:=h;subst e;cases r;exact assignInOrder_nil ⟨σ,H,I,h⟩
def zO{e:Expr}{es:List Expr}{t:TG}{u:IY}(h1:PG X e t)(h2:K4 X es u)
 (hs:(assignEach (e ::es) X.env).map (·.2)=assign e X.env ::(assignEach es X.env).map (·.2):=by rfl):K4 X (e ::es) (RZ t u):=by
 intro pins s σ H vs us Q I r h;obtain⟨v,vr,e1,h⟩:=h;subst e1;cases r with
 | cons r rr=>
   rw[hs];refine assignInOrder_cons$ dP (h1 pins s σ H _ _ _ I r h) λ_ s1 ⟨Q4,H1,I1,q1⟩=>?_
   exact h2 pins s1 Q4 H1 _ _ Q I1 rr q1
def WO(K:Qdi)(n:Nat)(t:IY):TG:=λv σ H Q=>∃a xs,v= .ref a/\rA K H a xs/\xs.length=n/\t xs σ H Q
def HF{es:List Expr}{k:Nat}{t:IY}{n:Nat}(hc:X.calm=true)(h:K4 X es t)
 (hn:(assignEach es X.env).length=n:=by rfl) (ub:(assignEach es X.env).findIdx? (·.1)=none:=by rfl):PG X (.Tuple es k pos) (WO X.K n t):=by
 intro pins s σ H v u Q I r hw;obtain⟨a,xs,e1,hq,hl,hw⟩:=hw;subst e1;cases r;obtain⟨its,rv,ht,hz⟩:=I.tuple hq;refine assign_Tuple_tuple (I.ok.hd hc) ht (by simp [hn,<-hl,rv.length]) ub λh' hx=>?_
 have I1:Inv X pins σ H {s with heap:=h'}:=I.kept (t':=s.toks) λb o e=>hx b o (QaE$ Qar e) e
 exact h pins _ σ H xs _ Q I1 (by simpa using rv) hw
def Tg(to ti:TE)(t:MG):TG:=λv σ H Q=>to σ H λo H1=>ti σ H1 λi H2=>t o i v H2 λH3=>Q σ H3
def GO{o i:Expr}{to ti:TE}{t:MG}(ho:PE X o to)(hi:PE X i ti)(hs:Rz X t)
 (ha:∀v,assign (.Subscript o i pos) X.env v=(do
   let ov <-holding [v] (eval o X.env)
   let iv <-holding [v,ov] (eval i X.env)
   standAt pos
   holding [v,ov,iv] (setItem ov iv v)
   release [v,ov,iv] []):=by intro _;rfl):PG X (.Subscript o i pos) (Tg to ti t):=by
 intro pins s σ H v u Q I r h;rw[ha];refine Qab$ Qbk$ dP (ho pins s σ H _ I h) λov s1 ⟨x,H1,I1,r1,q1⟩=>?_
 refine Qab$ Qbk$ dP (hi pins s1 σ H1 _ I1 q1) λiv s2 ⟨y,H2,I2,r2,q2⟩=>?_
 refine Qab$ wpAny_standAt$ Qab$ Qbk$ dP (hs pins s2 σ H2 x y v ov iv u _ I2 r1 r2 r q2) λ_ s3 ⟨H3,I3,q3⟩=>?_
 exact wpAny_release ⟨σ,H3,I3,q3⟩
def EX(te:TE)(g:TG):TS:=λD σ H=>te σ H λx H1=>g x σ H1 D.nx
def Px{tg e:Expr}{te:TE}{g:TG}(he:PE X e te)(hg:PG X tg g)(hs:swapsWithSole [tg] e pos.line X.env=pure false:=by rfl)(hw:swappedStores [tg] e X.env=pure none:=by rfl)
 (h1:(assignEach [tg] X.env).map (·.2)=[assign tg X.env]:=by rfl):PS X (.Assign [tg] e pos) (EX te g):=by
 intro pins s σ H D I h;refine wpAny_Assign_stores (dP (he pins s σ H _ I h) λv s1 ⟨x,H1,I1,r1,q1⟩=>?_) hs hw
 rw[h1];exact dP (hg pins s1 σ H1 x v _ I1 r1 q1) λ_ s2 q=>q
def CD{i:Nat}{te:TE}(hN:X.N.Nodup)(hi:X.N[i]? =some x)(hx:Loc X.env.scope x)(he:PE X e te)(hs:swapsWith e (some$ .Name x pos') pos.line X.env=pure false:=by rfl)(hf:X.fn x=true\/X.env.scope.names.lookup x=some .local:=by first | exact .inl rfl | exact .inr rfl | assumption) :
 PS X (.Assign [.Name x pos'] e pos) (EX te$ vS i):=by
 intro pins s σ H D I h;refine wpAny_Assign_Name (dP (he pins s σ H _ I h) λv s1 ⟨y,H1,I1,r1,q1⟩=>?_) hs
 exact uI I1 hN hi hx r1 (λs2 I2=>⟨_,H1,I2,q1⟩) hf
def ZI(i j:Nat)(ta:TA):TS:=λD σ H=>ta σ H λvs H1=>∃v w,vs=[v,w]/\D.nx ((σ.set i$ some v).set j$ some w) H1
def Zq(i:Nat)(te:TE)(ti:UD):TS:=λD σ H=>∃x,σ[i]? =some (some x)/\te σ H λy H1=>ti x y H1 λz H2=>D.nx (σ.set i$ some z) H2
def Yn(to ti te:TE)(Xz:V->V->Hp->VK->Prop)(tip:UD)(XI:MG):TS:=λD σ H=>to σ H λo H1=>ti σ H1 λi H2=>Xz o i H2 λx H3=>te σ H3 λy H4=>tip x y H4 λz H5=>XI o i z H5 λH6=>D.nx σ H6
def aaz(X:Cx)(t:V->V->Hp->VK->Prop):Prop:=
 ∀(pins:Aaa) (s:Qdj) (σ:St) (H:Hp) (o i:V) (ov iv:Value) (Q:VK),Inv X pins σ H s->RelV o ov->RelV i iv->t o i H Q->
  wpAny (model X.prog X.w) X.A (getItem ov iv) (EP X pins σ Q) X.xe s
def ipI(f:Int->Int->Int):UD:=λx y H Q=>∃i j,x= .int i/\y= .int j/\Q (.int$ f i j) H
end
section
def U1(c:TT)(tb:TS):TS:=λD σ H=>∃W:Nat->St->Hp->Prop,(∃m,W m σ H)/\∀m σ H,W m σ H->
 c σ H λb H1=>if b=true then ∃N:St->Hp->Prop,(∀c9 H',N c9 H'->∃m',m'<m/\W m' c9 H')/\tb {D with nx:=N,ct:=N,bk:=D.nx} σ H1 else D.nx σ H1
end
structure It where
 go:Nat->Hp->Prop
 yld:Nat->Hp->V->Hp->Prop
 stop:Nat->Hp->Prop
def tR(X:Cx)(pins:Aaa)(H:Hp)(b:Addr):Prop:=
 H b=none/\b≠X.env.locals/\b ∉ X.fs/\(b∈X.ex\/X.s₀.heap.objs.size<=b)/\(∀x c,X.env.cells.lookup x=some c->c≠b)/\∀p∈X.pn++pins,p.1≠b
def Inv.wu{X:Cx}{pins:Aaa}{H H':Hp}{s:Qdj}{b:Addr}(I:Inv X pins σ H s)(hb:s.heap.objs.size<=b)(hn:H' b=none):tR X pins H' b:=by
 refine⟨hn,Qcg$ QaC I.lt hb,I.WA hb, .inr$ QaP I.sz hb,λx c e z=>?_,λp hp z=>?_⟩
 .obtain⟨v,q⟩:=I.cell x c e;exact absurd (QaC q.lt$ by rw[z];exact hb)$ QbF _
 .exact absurd (QaC (Qar (I.pin p hp).1)$ by rw[z];exact hb) (QbF _)
structure Turn (P:Program) (w:World) (K:Qdi) (tg:Expr) (J:It) (fp:List Addr) (it:Addr) (tn:Nat->Heap->Prop):Prop where
 mem:it∈fp
 obj:∀i h,tn i h->∀b∈fp,∃o,h.get? b=some o/\∀v,o.data≠ .cell v
 keep:∀i h h',tn i h->(∀b∈fp,∀o,h.get? b=some o->h'.get? b=some o)->tn i h'
 item:∀(X:Cx),X.prog=P->X.w=w->X.K=K->X.calm=true->∀(i:Nat) (pins:Aaa) (s:Qdj) (σ:St) (H:Hp) (E:Aab),Inv X pins σ H s->(∀b∈fp,tR X pins H b)->tn i s.heap->J.go i H->
  wpAny (model P w) X.A (pyNext (.ref it)) (fun r s1=>∃u,r=some u/\
   wpAny (model P w) X.A (letOwnedTupleGo tg (.ref it) u) (fun _ s2=>∃x H',Inv X pins σ H' s2/\RelV x u/\J.yld i H x H'/\tn (i+1) s2.heap/\∀b∈fp,H' b=none) E s1) E s
 done:∀(X:Cx),X.prog=P->X.w=w->X.K=K->X.calm=true->∀(i:Nat) (pins:Aaa) (s:Qdj) (σ:St) (H:Hp) (E:Aab),Inv X pins σ H s->(∀b∈fp,tR X pins H b)->tn i s.heap->J.stop i H->
  wpAny (model P w) X.A (pyNext (.ref it)) (fun r s1=>r=none/\Inv X pins σ H s1) E s
 self:∀(A:Around) (i:Nat) (s:Qdj) (Q:Aab) (E:Aab),tn i s.heap->Q (.ref it) s->wpAny (model P w) A (pyIter (.ref it)) Q E s
abbrev TI:=St->Hp->(It->Hp->Prop)->Prop
def YO(X:Cx)(pins:Aaa)(σ:St)(tg:Expr)(R:It->Hp->Prop)(UR:Value)(s2:Qdj):Prop:=
 ∃(it:Addr) (fp:List Addr) (tn:Nat->Heap->Prop) (J:It) (H':Hp),UR= .ref it/\Inv X pins σ H' s2/\Turn X.prog X.w X.K tg J fp it tn/\tn 0 s2.heap/\(∀b∈fp,tR X pins H' b)/\R J H'
def PI(X:Cx)(tg iter:Expr)(wi:TI):Prop:=
 ∀(pins:Aaa) (s:Qdj) (σ:St) (H:Hp) (R:It->Hp->Prop),Inv X pins σ H s->wi σ H R->
  wpAny (model X.prog X.w) X.A (eval iter X.env) (λv s1=>wpAny (model X.prog X.w) X.A (pyIter v) (YO X pins σ tg R) X.xe s1) X.xe s
def De{M:Model}{A:Around}{E:Aab}{s:Qdj}{tg:Expr}{it:Addr}{u:Value}{o:Obj}{n:String}{vs:Array Value}{Q:Unit->Qdj->Prop}(ho:s.heap.get? it=some o)(hc:o.cls= .type n)(hd:o.data= .fields vs)
 (hn:["enumerate","zip","dict_itemiterator","dict_reverseitemiterator","odict_iterator","itertools.zip_longest","itertools.pairwise"].contains n=false) (hQ:Q () s):wpAny M A (letOwnedTupleGo tg (.ref it) u) Q E s:=by
 unfold letOwnedTupleGo;cases tg <;> first
  | exact Qaj hQ
  | (cases u <;> first
      | exact Qaj hQ
      | (refine Qab (wpAny_load ho ?_)
         rw[hc,hd];show wpAny M A (if(["enumerate","zip","dict_itemiterator","dict_reverseitemiterator","odict_iterator","itertools.zip_longest","itertools.pairwise"].contains n && vs[0]? ==some (rawInt _))=true then _ else _) Q E s
         rw[QaA$ by intro h;rw [hn,Bool.false_and] at h;cases h]
         exact Qaj hQ))
noncomputable def YK(K:Qdi)(a:Addr):It:=
 ⟨λi H=>∃xs x,pI K H a xs/\xs[i]? =some x,λi H x H'=>H'=H/\∀xs,pI K H a xs->xs[i]? =some x,λi H=>∃xs,pI K H a xs/\xs.length<=i⟩
noncomputable def YZ(K:Qdi)(a:Addr):It:=
 ⟨λi H=>∃xs x,rA K H a xs/\xs[i]? =some x,λi H x H'=>H'=H/\∀xs,rA K H a xs->xs[i]? =some x,λi H=>∃xs,rA K H a xs/\xs.length<=i⟩
noncomputable def S9(lo:Int)(n:Nat):It:=⟨λi _=>i<n,λi H x H'=>H'=H/\x= .int (lo+i),λi _=>n<=i⟩
def w9{K:Qdi}(a it:Addr):Turn P w K tg (YK K a) [it] it (λi h=>h.IsListIter it a i) where
 mem:=by simp
 obj:=λi h st b hb=>by
  have e:b=it:=by simpa using hb
  subst e;obtain⟨o,e,c,d⟩:=st;exact⟨o,e,λv z=>by rw[d] at z;cases z⟩
 keep:=λi h h' st k=>st.at λo e=>k it (by simp) o e
 item:=by
  intro X hP hw hK hc i pins s σ H E I hf st hg;subst hP hw hK;obtain⟨xs,x,hq,hx⟩:=hg;obtain⟨its,rv,p,hz⟩:=I.list hq;obtain⟨u,hu,ru⟩:=rv.get hx;obtain⟨f0,f1,f2,f3,f4,f5⟩:=hf it (by simp)
  refine wpAny_pyNext_list_item st p.isList (x:=u) (by simpa using hu) λh' ua sb=>?_
  have I1:Inv X pins σ H {s with heap:=h'}:=I.turned (t':=s.toks) (λb o hb e=>(sb.2 b hb).trans e) f0 f1 f3 f4 f5
  obtain⟨o,e,c,d⟩:=id ua;exact⟨u,rfl,De (s:={s with heap:=h'}) e c d (by decide) ⟨x,H,I1,ru,⟨rfl,λys hy=>by rw[I.qJ hy hq];exact hx⟩,ua,λb hb=>(hf b hb).1⟩⟩
 done:=by
  intro X hP hw hK hc i pins s σ H E I hf st hg;subst hP hw hK;obtain⟨xs,hq,hx⟩:=hg;obtain⟨its,rv,p,hz⟩:=I.list hq;obtain⟨f0,f1,f2,f3,f4,f5⟩:=hf it (by simp)
  have hl:=rv.length;exact wpAny_pyNext_list_end (I.ok.hd hc) st p.isList (by simp;omega) λh' eb=>⟨rfl,I.turned (t':=s.toks) (λb o hb e=>eb b o hb e) f0 f1 f3 f4 f5⟩
 self:=λ_ _ _ _ _ st h=>wpAny_pyIter_listiter st h
def Bo{K:Qdi}(a it:Addr):Turn P w K tg (YZ K a) [it] it (λi h=>h.IsTupleIter it a i) where
 mem:=by simp
 obj:=λi h st b hb=>by
  have e:b=it:=by simpa using hb
  subst e;obtain⟨o,e,c,d⟩:=st;exact⟨o,e,λv z=>by rw[d] at z;cases z⟩
 keep:=λi h h' st k=>st.at λo e=>k it (by simp) o e
 item:=by
  intro X hP hw hK hc i pins s σ H E I hf st hg;subst hP hw hK;obtain⟨xs,x,hq,hx⟩:=hg;obtain⟨its,rv,p,hz⟩:=I.tuple hq;obtain⟨u,hu,ru⟩:=rv.get hx;obtain⟨f0,f1,f2,f3,f4,f5⟩:=hf it (by simp)
  refine wpAny_pyNext_tuple_item st (show s.heap.IsTuple a its.toArray from p) (x:=u) (by simpa using hu) λh' ua sb=>?_
  have I1:Inv X pins σ H {s with heap:=h'}:=I.turned (t':=s.toks) (λb o hb e=>(sb.2 b hb).trans e) f0 f1 f3 f4 f5
  obtain⟨o,e,c,d⟩:=id ua;exact⟨u,rfl,De (s:={s with heap:=h'}) e c d (by decide) ⟨x,H,I1,ru,⟨rfl,λys hy=>by rw[I.rG hy hq];exact hx⟩,ua,λb hb=>(hf b hb).1⟩⟩
 done:=by
  intro X hP hw hK hc i pins s σ H E I hf st hg;subst hP hw hK;obtain⟨xs,hq,hx⟩:=hg;obtain⟨its,rv,p,hz⟩:=I.tuple hq;obtain⟨f0,f1,f2,f3,f4,f5⟩:=hf it (by simp)
  have hl:=rv.length;exact wpAny_pyNext_tuple_end (I.ok.hd hc) st (show s.heap.IsTuple a its.toArray from p) (by simp;omega) λh' eb=>⟨rfl,I.turned (t':=s.toks) (λb o hb e=>eb b o hb e) f0 f1 f3 f4 f5⟩
 self:=λ_ _ _ _ _ st h=>wpAny_pyIter_tupleiter st h
def BI{K:Qdi}(it:Addr)(lo:Int)(n:Nat):Turn P w K tg (S9 lo n) [it] it (λi h=>IsRangeIter h it (lo+(i:Nat)*1) ((n:Int) - (i:Nat)) 1) where
 mem:=by simp
 obj:=λi h st b hb=>by
  have e:b=it:=by simpa using hb
  subst e;exact⟨_,st,λv z=>by
   have z':Data.fields _=Data.cell v:=z;cases z'⟩
 keep:=λi h h' st k=>k it (by simp) _ st
 item:=by
  intro X hP hw hK hc i pins s σ H E I hf st hg;subst hP hw hK;obtain⟨f0,f1,f2,f3,f4,f5⟩:=hf it (by simp)
  have W:=Walks.range (prog:=X.prog) (w:=X.w) (I.ok.hd hc) it lo 1 n;refine W.item i s _ _ hg st λv h' tk hv ua kk=>?_
  obtain⟨t,rfl⟩:=hv;have I1:Inv X pins σ H {s with heap:=h',toks:=tk}:=I.turned (λb o hb e=>kk b o (by simpa using hb) e) f0 f1 f3 f4 f5
  refine⟨_,rfl,De (s:={s with heap:=h',toks:=tk}) (n:="range_iterator") ua rfl rfl (by decide) ⟨.int$ lo+i,H,I1,⟨t,?_⟩,⟨rfl,rfl⟩,ua,λb hb=>(hf b hb).1⟩⟩
  rw[Int.mul_one]
 done:=by
  intro X hP hw hK hc i pins s σ H E I hf st hg;subst hP hw hK;obtain⟨f0,f1,f2,f3,f4,f5⟩:=hf it (by simp)
  exact wpAny_pyNext_range_end (I.ok.hd hc) st (by have:n<=i:=hg;omega) λh' eb=>⟨rfl,I.turned (t':=s.toks) (λb o hb e=>eb b o hb e) f0 f1 f3 f4 f5⟩
 self:=λ_ _ _ _ _ st h=>wpAny_pyIter_rangeiter st h
section
variable {X:Cx}{tg:Expr}
def XX(K:Qdi)(tl:TE):TI:=λσ H R=>tl σ H λx H1=>∃a,x= .ref a/\(∃xs,pI K H1 a xs)/\R (YK K a) H1
def VI(K:Qdi)(tl:TE):TI:=λσ H R=>tl σ H λx H1=>∃a,x= .ref a/\(∃xs,rA K H1 a xs)/\R (YZ K a) H1
def Aj{pins:Aaa}{σ:St}{H:Hp}{s:Qdj}{R:It->Hp->Prop}{E:Aab}{lo hi:Int}{t u v:Tok}{tk:Nat}(I:Inv X pins σ H s)(h1: -(2 ^ 62)<=lo)(h2:lo<2 ^ 62)(h3: -(2 ^ 62)<=hi)(h4:hi<2 ^ 62)
 (q:R (S9 lo (hi - lo).toNat) H):wpAny (model X.prog X.w) X.A (pyIter$ .ref s.heap.objs.size) (YO X pins σ tg R) E {s with heap:=s.heap.push {cls:= .type "range",data:= .fields #[.int lo t, .int hi u, .int 1 v]},toks:=tk}:=by
 refine wpAny_pyIter_range (IsRange.new ..) (small_one h1 h2 h3 h4) ?_;have I1:Inv X pins σ H {s with heap:=s.heap.push {cls:= .type "range",data:= .fields #[.int lo t, .int hi u, .int 1 v]},toks:=tk}:=I.kept λb o e=>Qac _ e
 refine⟨(s.heap.push {cls:= .type "range",data:= .fields #[.int lo t, .int hi u, .int 1 v]}).objs.size,[(s.heap.push {cls:= .type "range",data:= .fields #[.int lo t, .int hi u, .int 1 v]}).objs.size],_,_,H,rfl,
  I1.kept (t':=tk) λb o e=>Qac _ e,BI _ lo (hi - lo).toNat,?_,λb hb=>?_,q⟩
 .have e1:lo+((0:Nat):Int)*1=lo:=by simp
  have e2:(((hi - lo).toNat:Nat):Int) - ((0:Nat):Int)=Builtin.Range.rangeSize lo hi 1:=by rw[rangeSize_one];split <;> omega
  show IsRangeIter _ _ (lo+((0:Nat):Int)*1) ((((hi - lo).toNat:Nat):Int) - ((0:Nat):Int)) 1;rw[e1,e2];exact QaF _ rfl
 .have e:b=(s.heap.push {cls:= .type "range",data:= .fields #[.int lo t, .int hi u, .int 1 v]}).objs.size:=by simpa using hb
  subst e;exact I1.wu (Qai _)$ I1.hok.fresh$ Qai _
def Ak(ta:TA):TI:=λσ H R=>ta σ H λvs H1=>∃j:Int,vs=[.int j]/\ -(2 ^ 62)<=j/\j<2 ^ 62/\R (S9 0 j.toNat) H1
def S5(ta:TA):TI:=λσ H R=>ta σ H λvs H1=>∃i j:Int,vs=[.int i, .int j]/\(-(2 ^ 62)<=i/\i<2 ^ 62/\ -(2 ^ 62)<=j/\j<2 ^ 62)/\R (S9 i (j - i).toNat) H1
def xc{ta:TA}{p pos:Pos}(hg:Gl X "range")(hm:X.mg "range"=none)(ha:PA X [a] ta)(hs:starEach [a] X.env=[(false,eval a X.env)]:=by rfl):PI X tg (.Call (.Name "range" p) [a] [] pos) (Ak ta):=by
 intro pins s σ H R I h;refine Call_$ l8 I hg hm boot_range$ Qba (dP (ha pos pins s σ H _ I h) λus s1 ⟨vs,H1,I1,r1,q1⟩=>?_) hs rfl
 obtain⟨j,e,q1,q2,q⟩:=q1;subst e;cases r1 with
 | cons r rr=>
   cases rr;obtain⟨t,rfl⟩:=r;exact call_range_1 (Aj I1 (by omega) (by omega) q1 q2$ by simpa using q)
def Fj{ta:TA}{p pos:Pos}(hg:Gl X "range")(hm:X.mg "range"=none)(ha:PA X [a,b] ta)(hs:starEach [a,b] X.env=[(false,eval a X.env),(false,eval b X.env)]:=by rfl)(hs2:starEach [b] X.env=[(false,eval b X.env)]:=by rfl) :
 PI X tg (.Call (.Name "range" p) [a,b] [] pos) (S5 ta):=by
 intro pins s σ H R I h;refine Call_ (l8 I hg hm boot_range$ Qba (dP (ha pos pins s σ H _ I h) λus s1 ⟨vs,H1,I1,r1,q1⟩=>?_) (by rw[hs,hs2]) (by rw[hs2];rfl))
 obtain⟨i,j,e,⟨q1,q2,q3,q4⟩,q⟩:=q1;subst e;cases r1 with
 | cons r rr=>
   cases rr with
   | cons r' rr=>
     cases rr;obtain⟨t,rfl⟩:=r;obtain⟨t',rfl⟩:=r';exact call_range_2$ Aj I1 q1 q2 q3 q4 q
def Wi(wi:TI)(g:TG)(tb:TS):TS:=λD σ H=>wi σ H λJ H1=>∃W:Nat->Nat->St->Hp->Prop,(∃m,W 0 m σ H1)/\∀i m σ H,W i m σ H->
 (J.stop i H/\D.nx σ H)\/(J.go i H/\∃N:St->Hp->Prop,(∀c9 H',N c9 H'->∃m',m'<m/\W (i+1) m' c9 H')/\∀x H',J.yld i H x H'->g x σ H' λzk H2=>tb {D with nx:=N,ct:=N,bk:=D.nx} zk H2)
noncomputable def pH(fp:List Addr)(h:Heap):Aaa:=fp.filterMap λb=>(h.get? b).map λo=>(b,o)
def mi{fp:List Addr}{h:Heap}{b:Addr}{o:Obj}(hb:b∈fp)(e:h.get? b=some o):(b,o)∈pH fp h:=QcX.mpr ⟨b,hb,by rw[e];rfl⟩
def EE{fp:List Addr}{h:Heap}{p:Addr × Obj}(hp:p∈pH fp h):p.1∈fp/\h.get? p.1=some p.2:=by
 obtain⟨b,hb,e⟩:=QcX.mp hp;cases q:h.get? b with
 | none=>rw [q] at e;cases e
 | some o=>
   rw[q] at e;have e':(b,o)=p:=QaS e;subst e';exact⟨hb,q⟩
def Inv.pinned{pins:Aaa}{s:Qdj}{fp:List Addr}(I:Inv X pins σ H s)(hf:∀b∈fp,tR X pins H b)(ho:∀b∈fp,∃o,s.heap.get? b=some o/\∀v,o.data≠ .cell v):Inv X (pins++pH fp s.heap) σ H s:=
 I.CU λp hp=>(Qbp.mp hp).elim (λz=>I.pin p$ Qa2 _ z) λz=>by
  obtain⟨hb,e⟩:=EE z;obtain⟨f0,f1,f2,_⟩:=hf p.1 hb;obtain⟨o,e',d⟩:=ho p.1 hb;rw[e] at e';cases e';exact⟨e,f0,f1,f2,d⟩
def Inv.rh{pins pl:Aaa}{s:Qdj}(I:Inv X (pins++pl) σ H s):Inv X pins σ H s:=I.CU λp hp=>I.pin p$ Qa2 _$ Qb3 _ hp
def Hd{iter:Expr}{body:List Stmt}{wi:TI}{g:TG}{tb:TS}{pos:Pos}(hp:PassesOwn (model X.prog X.w) X.A X.env X.xe)(hc:X.calm=true)(hi:PI X tg iter wi)(hg:PG X tg g)(hb:y4 X body tb)
 (hs:∀x,foldedSetIterable iter X.env x=pure x:=by intro _;rfl):PS X (.For tg iter body [] pos) (Wi wi g tb):=by
 intro pins s σ H D I h;refine wpAny_For (dP (hi pins s σ H _ I h) λv s1 h1=>dP h1 λUR s2 h2=>?_) hs
 obtain⟨it,fp,tn,J,H2,e,I2,T,Ko,f2,W,⟨m0,w0⟩,turn⟩:=h2;subst e;have stat:∀{H':Hp},(∀b∈fp,H' b=none)->∀b∈fp,tR X pins H' b:=λhn b hb=>⟨hn b hb,(f2 b hb).2⟩
 refine codeAny_forLoop_any (λn s'=>∃i c9 H',Inv X pins c9 H' s'/\tn i s'.heap/\(∀b∈fp,H' b=none)/\W i n c9 H') ?_ m0 ⟨0,σ,H2,I2,Ko,λb hb=>(f2 b hb).1,w0⟩
 rintro n s3 ⟨i,MU,H3,I3,MQ,T_,w3⟩;rcases turn i n MU H3 w3 with⟨stop,qn⟩ | ⟨go,N,hN,step⟩
 .refine Qcc hp (dP (T.done X rfl rfl rfl hc i pins s3 MU H3 X.xe I3 (stat T_) MQ stop) λr s4 ⟨hr,I4⟩=>?_)
  subst hr;exact QcD ⟨MU,H3,I4,qn⟩
 .refine Qcc hp (dP (T.item X rfl rfl rfl hc i pins s3 MU H3 X.xe I3 (stat T_) MQ go) λr s4 ⟨u,hr,h4⟩=>?_)
  subst hr;refine Qcc hp$ dP h4 λ_ s5 ⟨x,H5,I5,r5,y5,QE,Xo⟩=>?_
  have I5':=I5.pinned (stat Xo)$ T.obj _ _ QE;refine Qcc hp$ dP (hg _ s5 MU H5 x u _ I5' r5$ step x H5 y5) λ_ s6 ⟨TV,H6,I6,q6⟩=>?_
  refine Qcc hp$ dP (hb _ s6 TV H6 _ I6 q6) λf s7 q7=>?_
  have again:∀{Bb:St} {H7:Hp},Inv X (pins++pH fp s5.heap) Bb H7 s7->N Bb H7->∃m,m<n/\∃i c9 H',Inv X pins c9 H' s7/\tn i s7.heap/\(∀b∈fp,H' b=none)/\W i m c9 H':=fun {Bb H7} I7 n7=>by
   obtain⟨m',hm,w7⟩:=hN Bb H7 n7;refine⟨m',hm,i+1,Bb,H7,I7.rh,T.keep _ _ _ QE λb hb o e=>(I7.pin (b,o)$ Qa2 _$ Qa2 _$ mi hb e).1,λb hb=>?_,w7⟩
   obtain⟨o,e,d⟩:=T.obj _ _ QE b hb;exact(I7.pin (b,o)$ Qa2 _$ Qa2 _$ mi hb e).2.1
  cases f with
  | next=>obtain⟨Bb,H7,I7,n7⟩:=q7;exact again I7 n7
  | cont=>obtain⟨Bb,H7,I7,n7⟩:=q7;exact again I7 n7
  | brk=>obtain⟨Bb,H7,I7,q7⟩:=q7;exact⟨Bb,H7,I7.rh,q7⟩
  | ret v=>obtain⟨x7,Bb,H7,I7,r7,q7⟩:=q7;exact⟨x7,Bb,H7,I7.rh,r7,q7⟩
end
abbrev R2:=V->V->Hp->VK->Prop
def nB(X:Cx)(f:Value->Value->Sem Value)(r:R2):Prop:=
 ∀(pins:Aaa) (s:Qdj) (σ:St) (H:Hp) (x y:V) (v u:Value) (Q:VK),Inv X pins σ H s->RelV x v->RelV y u->r x y H Q->
  wpAny (model X.prog X.w) X.A (f v u) (EP X pins σ Q) X.xe s
def VT(X:Cx)(f:Value->Sem Value)(r:V->Hp->VK->Prop):Prop:=
 ∀(pins:Aaa) (s:Qdj) (σ:St) (H:Hp) (x:V) (v:Value) (Q:VK),Inv X pins σ H s->RelV x v->r x H Q->
  wpAny (model X.prog X.w) X.A (f v) (EP X pins σ Q) X.xe s
def iU(X:Cx)(f:Value)(r:List V->Hp->VK->Prop):Prop:=
 ∀(pins:Aaa) (s:Qdj) (σ:St) (H:Hp) (xs:List V) (us:List Value) (Q:VK),Inv X pins σ H s->Vals xs us->r xs H Q->
  wpAny (model X.prog X.w) X.A (call f us) (EP X pins σ Q) X.xe s
def Wm(X:Cx)(r:V->Hp->(Bool->Hp->Prop)->Prop):Prop:=
 ∀(pins:Aaa) (s:Qdj) (σ:St) (H:Hp) (x:V) (v:Value) (Q:Bool->Hp->Prop),Inv X pins σ H s->RelV x v->r x H Q->
  wpAny (model X.prog X.w) X.A (truthy v) (TP X pins σ Q) X.xe s
def Rg(r:R2)(ta tb:TE):TE:=λσ H Q=>ta σ H λx H1=>tb σ H1 λy H2=>r x y H2 Q
def Z7(r:V->Hp->VK->Prop)(ta:TE):TE:=λσ H Q=>ta σ H λx H1=>r x H1 Q
def rI(C:Int->Int->Prop)(g:Int->Int->V):R2:=λx y H Q=>∃i j,x= .int i/\y= .int j/\C i j/\Q (g i j) H
def Gv(g:Int->Int->V):R2:=λx y H Q=>∃i j,x= .int i/\y= .int j/\Q (g i j) H
def rU(g:Int->V):V->Hp->VK->Prop:=λx H Q=>∃i,x= .int i/\Q (g i) H
section
variable {X:Cx}{a b:Expr}{ta tb:TE}{pos:Pos}
def Of(ha:PE X a ta)(hb:PE X b tb){pins:Aaa}{s:Qdj}{σ:St}{H:Hp}{R:V->V->Hp->Prop}(I:Inv X pins σ H s)
 (h:ta σ H λx H1=>tb σ H1 λy H2=>R x y H2) {Q:Aab} {f:Value->Value->Sem Value}
 (hf:∀v u s2 x y H2,Inv X pins σ H2 s2->RelV x v->RelV y u->R x y H2->wpAny (model X.prog X.w) X.A (f v u) Q X.xe s2) :
 wpAny (model X.prog X.w) X.A (eval a X.env) (λv s₁=>wpAny (model X.prog X.w) X.A (eval b X.env) (λu J3=>wpAny (model X.prog X.w) X.A (f v u) Q X.xe J3) X.xe s₁) X.xe s:=by
 refine dP (ha pins s σ H _ I h) λv s1 ⟨x,H1,I1,r1,q1⟩=>?_
 refine dP (hb pins s1 σ H1 _ I1 q1) λu s2 ⟨y,H2,I2,r2,q2⟩=>?_
 exact hf v u s2 x y H2 I2 r1 r2 q2
def D7{op:Operator}{r:R2}(ho:nB X (binaryOp op) r)(ha:PE X a ta)(hb:PE X b tb):PE X (.BinOp a op b pos) (Rg r ta tb):=by
 intro pins s σ H Q I h;exact wpAny_BinOp$ Of ha hb I h λv u s2 x y H2 I2 rx ry q=>ho pins s2 σ H2 x y v u Q I2 rx ry q
def To{op:UnaryOp}{r:V->Hp->VK->Prop}(ho:VT X (unaryOp op) r)(ha:PE X a ta):PE X (.UnaryOp op a pos) (Z7 r ta):=by
 intro pins s σ H Q I h;exact UnaryOp_$ dP (ha pins s σ H _ I h) λv s1 ⟨x,H1,I1,r1,q1⟩=>ho pins s1 σ H1 x v Q I1 r1 q1
def Rm{f:Value->Value->Sem Value}{C:Int->Int->Prop}{g:Int->Int->Int}
 (rule:∀(i j:Int) (t u:Tok) (s:Qdj) (Q:Aab) (E:Aab),C i j->Q (.int (g i j) s.toks) {s with toks:=s.toks+1}->wpAny (model X.prog X.w) X.A (f (.int i t)$ .int j u) Q E s) :
 nB X f (rI C λi j=> .int$ g i j):=by
 intro pins s σ H x y v u Q I rx ry h;obtain⟨i,j,rfl,rfl,hc,q⟩:=h;obtain⟨t,rfl⟩:=rx;obtain⟨t',rfl⟩:=ry;exact rule i j t t' s _ _ hc ⟨.int$ g i j,H,I.tok _,⟨_,rfl⟩,q⟩
def GA{f:Value->Value->Sem Value}{g:Int->Int->Int}
 (rule:∀(i j:Int) (t u:Tok) (s:Qdj) (Q:Aab) (E:Aab),Q (.int (g i j) s.toks) {s with toks:=s.toks+1}->wpAny (model X.prog X.w) X.A (f (.int i t)$ .int j u) Q E s) :
 nB X f (Gv λi j=> .int$ g i j):=by
 intro pins s σ H x y v u Q I rx ry h;obtain⟨i,j,rfl,rfl,q⟩:=h;obtain⟨t,rfl⟩:=rx;obtain⟨t',rfl⟩:=ry;exact rule i j t t' s _ _ ⟨.int$ g i j,H,I.tok _,⟨_,rfl⟩,q⟩
def NZ{f:Value->Value->Sem Value}{g:Int->Int->Bool}
 (rule:∀(i j:Int) (t u:Tok) (s:Qdj) (Q:Aab) (E:Aab),Q (.bool$ g i j) s->wpAny (model X.prog X.w) X.A (f (.int i t)$ .int j u) Q E s) :
 nB X f (Gv λi j=> .bl$ g i j):=by
 intro pins s σ H x y v u Q I rx ry h;obtain⟨i,j,rfl,rfl,q⟩:=h;obtain⟨t,rfl⟩:=rx;obtain⟨t',rfl⟩:=ry;exact rule i j t t' s _ _ ⟨.bl$ g i j,H,I,rfl,q⟩
def V4(i j:Int):Prop:=0<j/\j<1073741824
def Yl(i j:Int):Prop:=j≠0/\j.natAbs<1073741824
def TL(i j:Int):Prop:=0<=j/\j<=1000000/\i.natAbs<2 ^ 64
def PF(i j:Int):Prop:=(-(2 ^ 64)<i/\i<2 ^ 64)\/(-(2 ^ 64)<j/\j<2 ^ 64)
def PF.ok{i j:Int}(h:PF i j):IntMulOk i j:=by
 rcases h with⟨h1,h2⟩ | ⟨h1,h2⟩
 .exact .of_left (intBits_le_64 h1 h2)
 .exact .of_right (intBits_le_64 h1 h2)
def BD(k:Nat):(0:Int)<=2 ^ k:=by
 rw[two_pow_cast];exact Int.natCast_nonneg _
def Ot:nB X (binaryOp .Add) (Gv λi j=> .int$ i+j):=GA λ_ _ _ _ _ _ _ q=>add_int q
def Pm:nB X (binaryOp .Sub) (Gv λi j=> .int$ i - j):=GA λ_ _ _ _ _ _ _ q=>sub_int q
def N8:nB X (binaryOp .Mult) (rI PF λi j=> .int$ i*j):=Rm λ_ _ _ _ _ _ _ hc q=>mul_int q hc.ok
def Lz:nB X (binaryOp .FloorDiv) (rI V4 λi j=> .int$ i / j):=Rm λi j _ _ _ _ _ hc q=>by
 have h1:(0:Int)<j:=hc.1;have h2:j<1073741824:=hc.2;exact floordiv_int (by omega) (by rw[Qc3 i$ by omega];exact q) (.inl$ PyProof.noPylong_small$ by omega)
def P5:nB X (binaryOp .Mod) (rI (λ_ j=>0<j) λi j=> .int$ i % j):=Rm λi j _ _ _ _ _ hc q=>by
 have h1:(0:Int)<j:=hc;exact mod_int' (by omega) (by rw[Int.fmod_eq_emod_of_nonneg i$ by omega];exact q)
def PL:nB X (binaryOp .Pow) (rI TL λi j=> .int$ i ^ j.toNat):=Rm λ_ _ _ _ _ _ _ hc q=>pow_int_small hc.1 hc.2.1 hc.2.2 q
def Pq:nB X (binaryOp .LShift) (rI TL λi j=> .int$ i*2 ^ j.toNat):=Rm λ_ _ _ _ _ _ _ hc q=>lshift_int_small hc.1 hc.2.1 hc.2.2 q
def O0:nB X (binaryOp .RShift) (rI (λ_ j=>0<=j) λi j=> .int$ i / 2 ^ j.toNat):=Rm λi j _ _ _ _ _ hc q=>
 rshift_int hc (by rw[Qc3 i$ BD _];exact q)
def OZ:nB X (binaryOp .BitAnd) (Gv λi j=> .int$ Builtin.bitAnd i j):=GA λ_ _ _ _ _ _ _ q=>and_int q
def S_:nB X (binaryOp .BitOr) (Gv λi j=> .int$ Builtin.bitOr i j):=GA λ_ _ _ _ _ _ _ q=>or_int q
def Pp:nB X (binaryOp .BitXor) (Gv λi j=> .int$ Builtin.bitXor i j):=GA λ_ _ _ _ _ _ _ q=>xor_int q
def unI{f:Value->Sem Value}{g:Int->Int}
 (rule:∀(i:Int) (t:Tok) (s:Qdj) (Q:Aab) (E:Aab),Q (.int (g i) s.toks) {s with toks:=s.toks+1}->wpAny (model X.prog X.w) X.A (f$ .int i t) Q E s) :
 VT X f (rU λi=> .int$ g i):=by
 intro pins s σ H x v Q I rx h;obtain⟨i,rfl,q⟩:=h;obtain⟨t,rfl⟩:=rx;exact rule i t s _ _ ⟨.int$ g i,H,I.tok _,⟨_,rfl⟩,q⟩
def Ph:VT X (unaryOp .USub) (rU λi=> .int (-i)):=unI λ_ _ _ _ _ q=>neg_int q
end
noncomputable def R7:V->V->Bool
 | .cI, .cI=>true | .cI, .int _=>true | .int _, .cI=>true | .cI, .bl _=>true | .bl _, .cI=>true | .cI, .str _=>true | .str _, .cI=>true
 | .int _, .int _=>true | .bl _, .bl _=>true | .str _, .str _=>true | .byt _, .byt _=>true
 | .int _, .str _=>true | .str _, .int _=>true | .bl _, .str _=>true | .str _, .bl _=>true
 | _,_=>false
def ZW:R2:=λx y H Q=>R7 x y=true/\Q (.bl$ decide$ x=y) H
def Zz:R2:=λx y H Q=>R7 x y=true/\Q (.bl$ !decide (x=y)) H
def CW{i j:Int}:decide (V.int i=V.int j)=(i==j):=by
 rw[Qbq];simp
def GG{i j:Bool}:decide (V.bl i=V.bl j)=(i==j):=by
 rw[Qbq];simp
def CV:decide (V.str i=V.str j)=(i==j):=by
 rw[Qbq];simp
def DI{i j:Array UInt8}:decide (V.byt i=V.byt j)=(i.toList==j.toList):=by
 rw[Qbq];cases i;cases j;simp
section
variable {X:Cx}{a b c:Expr}{ta tb tc:TE}{pos:Pos}
def cG{pins:Aaa}{s:Qdj}{Q:VK}{k k':Bool}(I:Inv X pins σ H s)(q:Q (.bl k) H)(e:k=k'):EP X pins σ Q (.bool k') s:=by
 subst e;exact⟨.bl k,H,I,rfl,q⟩
def JB:nB X (compareOp .Eq) ZW:=by
 intro pins s σ H x y v u Q I rx ry h;obtain⟨hs,q⟩:=h;cases x with
 | cI=>
   cases rx;cases y with
   | cI=>cases ry;exact PySem.EqNone.eq_none_none (cG I q$ by simp)
   | bl j=>cases ry;exact PySem.EqNone.eq_none_bool (cG I q$ by simp)
   | int j=>obtain⟨t',rfl⟩:=ry;exact PySem.EqNone.eq_none_int (cG I q$ by simp)
   | str j=>obtain⟨t',rfl⟩:=ry;exact PySem.EqNone.eq_none_str (cG I q$ by simp)
   | _=>exact absurd (show false=true from hs) Qay
 | bl i=>
   cases rx;cases y with
   | cI=>cases ry;exact PySem.EqNone.eq_bool_none (cG I q$ by simp)
   | bl j=>cases ry;exact eq_bool$ cG I q GG
   | str j=>obtain⟨t',rfl⟩:=ry;exact PySem.EqMixed.eq_bool_str (cG I q$ by simp)
   | _=>exact absurd (show false=true from hs) Qay
 | int i=>
   obtain⟨t,rfl⟩:=rx;cases y with
   | cI=>cases ry;exact PySem.EqNone.eq_int_none (cG I q$ by simp)
   | int j=>obtain⟨t',rfl⟩:=ry;exact eq_int$ cG I q CW
   | str j=>obtain⟨t',rfl⟩:=ry;exact PySem.EqMixed.eq_int_str (cG I q$ by simp)
   | _=>exact absurd (show false=true from hs) Qay
 | str i=>
   obtain⟨t,rfl⟩:=rx;cases y with
   | cI=>cases ry;exact PySem.EqNone.eq_str_none (cG I q$ by simp)
   | bl j=>cases ry;exact PySem.EqMixed.eq_str_bool (cG I q$ by simp)
   | int j=>obtain⟨t',rfl⟩:=ry;exact PySem.EqMixed.eq_str_int (cG I q$ by simp)
   | str j=>obtain⟨t',rfl⟩:=ry;exact eq_str$ cG I q CV
   | _=>exact absurd (show false=true from hs) Qay
 | byt i=>
   obtain⟨t,rfl⟩:=rx;cases y with
   | byt j=>obtain⟨t',rfl⟩:=ry;exact PySem.W.eq_bytes$ cG I q DI
   | _=>exact absurd (show false=true from hs) Qay
 | _=>cases y <;> exact absurd (show false=true from hs) Qay
def Je:nB X (compareOp .NotEq) Zz:=by
 intro pins s σ H x y v u Q I rx ry h;obtain⟨hs,q⟩:=h;cases x with
 | cI=>
   cases rx;cases y with
   | cI=>cases ry;exact PySem.EqNone.ne_none_none (cG I q$ by simp)
   | bl j=>cases ry;exact PySem.EqNone.ne_none_bool (cG I q$ by simp)
   | int j=>obtain⟨t',rfl⟩:=ry;exact PySem.EqNone.ne_none_int (cG I q$ by simp)
   | str j=>obtain⟨t',rfl⟩:=ry;exact PySem.EqNone.ne_none_str (cG I q$ by simp)
   | _=>exact absurd (show false=true from hs) Qay
 | bl i=>
   cases rx;cases y with
   | cI=>cases ry;exact PySem.EqNone.ne_bool_none (cG I q$ by simp)
   | bl j=>cases ry;exact ne_bool$ cG I q$ Qbi not GG
   | str j=>obtain⟨t',rfl⟩:=ry;exact PySem.EqMixed.ne_bool_str (cG I q$ by simp)
   | _=>exact absurd (show false=true from hs) Qay
 | int i=>
   obtain⟨t,rfl⟩:=rx;cases y with
   | cI=>cases ry;exact PySem.EqNone.ne_int_none (cG I q$ by simp)
   | int j=>obtain⟨t',rfl⟩:=ry;exact ne_int$ cG I q$ Qbi not CW
   | str j=>obtain⟨t',rfl⟩:=ry;exact PySem.EqMixed.ne_int_str (cG I q$ by simp)
   | _=>exact absurd (show false=true from hs) Qay
 | str i=>
   obtain⟨t,rfl⟩:=rx;cases y with
   | cI=>cases ry;exact PySem.EqNone.ne_str_none (cG I q$ by simp)
   | bl j=>cases ry;exact PySem.EqMixed.ne_str_bool (cG I q$ by simp)
   | int j=>obtain⟨t',rfl⟩:=ry;exact PySem.EqMixed.ne_str_int (cG I q$ by simp)
   | str j=>obtain⟨t',rfl⟩:=ry;exact ne_str$ cG I q$ Qbi not CV
   | _=>exact absurd (show false=true from hs) Qay
 | byt i=>
   obtain⟨t,rfl⟩:=rx;cases y with
   | byt j=>obtain⟨t',rfl⟩:=ry;exact PySem.W.ne_bytes$ cG I q$ Qbi not DI
   | _=>exact absurd (show false=true from hs) Qay
 | _=>cases y <;> exact absurd (show false=true from hs) Qay
def TK:nB X (compareOp .Lt) (Gv λi j=> .bl$ decide$ i<j):=NZ λ_ _ _ _ _ _ _ q=>lt_int q
def R0:nB X (compareOp .Gt) (Gv λi j=> .bl$ decide$ j<i):=NZ λ_ _ _ _ _ _ _ q=>gt_int q
def R4:nB X (compareOp .GtE) (Gv λi j=> .bl$ decide$ j<=i):=NZ λ_ _ _ _ _ _ _ q=>ge_int q
def FV:nB X (compareOp .In) (λx y H Q=>∃i j,x= .str i/\y= .str j/\Q (.bl$ !(Builtin.Str.occurrences j i 0 j.length 1).isEmpty) H):=by
 intro pins s σ H x y v u Q I rx ry h;obtain⟨i,j,rfl,rfl,q⟩:=h;obtain⟨t,rfl⟩:=rx;obtain⟨t',rfl⟩:=ry;exact in_str$ cG I q rfl
noncomputable def isObj:HO->Bool
 | .lst _=>true
 | .ins _ _ _=>true
 | _=>false
def Ci(b:Expr){op:CmpOp}(h:op≠ .In:=by decide)(h2:op≠ .NotIn:=by decide):behindInMarks op b=false:=by
 have e1:(op==CmpOp.In)=false:=by cases op <;> first | rfl | exact absurd rfl h
 have e2:(op==CmpOp.NotIn)=false:=by cases op <;> first | rfl | exact absurd rfl h2
 cases b <;> simp [behindInMarks,e1,e2]
def Lb{op:CmpOp}{r:R2}(ho:nB X (compareOp op) r)(ha:PE X a ta)(hb:PE X b tb)(hm:behindInMarks op b=false):PE X (.Compare a [op] [b] pos) (Rg r ta tb):=by
 intro pins s σ H Q I h;exact wpAny_Compare1 (Of ha hb I h λv u s2 x y H2 I2 rx ry q=>ho pins s2 σ H2 x y v u Q I2 rx ry q) hm
def Tf(t:TE):TT:=λσ H Q=>t σ H λx H'=>∃k,x= .bl k/\Q k H'
def DF{op:CmpOp}{r:R2}(ho:nB X (compareOp op) r)(ha:PE X a ta)(hb:PE X b tb)(hm:behindInMarks op b=false):PT X (.Compare a [op] [b] pos) (Tf$ Rg r ta tb):=by
 intro pins s σ H Q I h;refine wpAny_isTrue_Compare1 (dP (ha pins s σ H _ I h) λv s1 ⟨x,H1,I1,r1,q1⟩=>dP (hb pins s1 σ H1 _ I1 q1) λu s2 ⟨y,H2,I2,r2,q2⟩=>
  dP (ho pins s2 σ H2 x y v u _ I2 r1 r2 q2) λc s3 ⟨z,H3,I3,r3,k,e,q3⟩=>?_) hm
 subst e;cases r3;exact Qb1 ⟨H3,I3,q3⟩
def Vy(r r':R2)(ta tb tc:TE):TE:=λσ H Q=>ta σ H λx H1=>tb σ H1 λy H2=>r x y H2 λz H3=>∃k,z= .bl k/\
 (if k=true then tc σ H3 λw' H4=>r' y w' H4 Q else Q (.bl false) H3)
def LV(K:Qdi)(x:V)(H:Hp)(k:Bool):Prop:=
 match x with
 | .cI=>k=false
 | .bl b=>k=b
 | .int i=>k=(i !=0)
 | .str y=>y.length<=sizeLine/\k=((y.length:Int) !=0)
 | .byt y=>y.size<=sizeLine/\k=((y.size:Int) !=0)
 | .ref p=>(∃xs,pI K H p xs/\k=!xs.isEmpty)\/(∃xs,rA K H p xs/\k=!xs.isEmpty)\/∃aW,H p=some (.dK aW)/\k=!aW.isEmpty
 | _=>False
def Cv{κ:Type}{aW:List (κ × V)}{vs:List (κ × Value)}(r:KV aW vs):(!vs.isEmpty)=!aW.isEmpty:=by
 cases r <;> rfl
def uN{xs:List V}{its:List Value}(r:Vals xs its):(!its.toArray.isEmpty)=!xs.isEmpty:=by
 cases r <;> simp
def rX:(sizeLine:Nat)<2 ^ 63:=by rw[Qam];decide
def Ov:Wm X (λx H Q=>∃k,LV X.K x H k/\Q k H):=by
 intro pins s σ H x v Q I rx h;obtain⟨k,e,q⟩:=h;have hl:=rX;have hs:sizeLine=16777216:=Qam;cases x with
 | cI=>
   cases rx;have e':k=false:=e;subst e';exact truthy_none ⟨H,I,q⟩
 | bl b=>
   cases rx;have e':k=b:=e;subst e';exact Qb1 ⟨H,I,q⟩
 | int i=>
   obtain⟨t,rfl⟩:=rx;have e':k=(i !=0):=e;subst e';exact PySem.P.truthy_int ⟨H,I,q⟩
 | str y=>
   obtain⟨t,rfl⟩:=rx;obtain⟨hy,e'⟩:y.length<=sizeLine/\k=((y.length:Int) !=0):=e;subst e';exact PySem.P.truthy_str (by omega) ⟨H,I.tok _,q⟩
 | byt y=>
   obtain⟨t,rfl⟩:=rx;obtain⟨hy,e'⟩:y.size<=sizeLine/\k=((y.size:Int) !=0):=e;subst e';exact PySem.W.truthy_bytes (by omega) ⟨H,I.tok _,q⟩
 | ref p=>
   cases rx;have e':(∃xs,pI X.K H p xs/\k=!xs.isEmpty)\/(∃xs,rA X.K H p xs/\k=!xs.isEmpty)\/∃aW,H p=some (.dK aW)/\k=!aW.isEmpty:=e;rcases e' with⟨xs,hx,e'⟩ | ⟨xs,hx,e'⟩ | ⟨aW,hx,e'⟩
   .subst e';obtain⟨its,r,pl,hz⟩:=I.list hx;have hlen:=r.length;exact wpAny_truthy_list pl.isList (by simp only[Qao];omega) ⟨H,I.tok _,by rw[uN r];exact q⟩
   .subst e';obtain⟨its,r,pl,hz⟩:=I.tuple hx;have hlen:=r.length;exact truthy_tuple pl (by simp only[Qao];omega) ⟨H,I.tok _,by rw[uN r];exact q⟩
   .subst e';obtain⟨hz,hS,vs,r,m⟩:aW.length<=sizeLine/\(p==sysModules)=false/\∃vs,KV aW vs/\s.heap.DictOf (dD X.prog X.w) p vs:=I.hok p _ hx;have hlen:aW.length=vs.length:=Paired.length r;exact wpAny_truthy_dict hS m (by omega) ⟨H,I.tok _,by rw[Cv r];exact q⟩
 | _=>exact(show False from e).elim
def Au(ha:PE X a ta)(he:∀whole,isTrue a X.env whole=(do let v <-whole;standAt a.pos;holding [v] (truthy v))) :
 PT X a (λσ H Q=>ta σ H λx H'=>∃k,LV X.K x H' k/\Q k H'):=by
 intro pins s σ H Q I h;exact isTrue_plain (dP (ha pins s σ H _ I h) λv s1 ⟨x,H1,I1,r1,q1⟩=>Ov pins s1 σ H1 x v Q I1 r1 q1) (he _)
def Cm:nB X (binaryOp .Add) (λx y H Q=>∃i j,x= .str i/\y= .str j/\i.length+j.length<=sizeLine/\Q (.str$ i++j) H):=by
 intro pins s σ H x y v u Q I rx ry h;obtain⟨i,j,rfl,rfl,hz,q⟩:=h;obtain⟨t,rfl⟩:=rx;obtain⟨t',rfl⟩:=ry;exact add_str (λt' tk=>⟨.str$ i++j,H,I.tok _,⟨_,rfl⟩,q⟩) hz
def R6(b:Expr):Prop:=∀o i,subscripted b false o i=operate [o,i] (getItem o i)
def vals1{x:V}{us:List Value}(r:Vals [x] us):∃u,us=[u]/\RelV x u:=by
 cases r with
 | cons r1 r2=>cases r2;exact⟨_,rfl,r1⟩
def vals2{x y:V}{us:List Value}(r:Vals [x,y] us):∃u w',us=[u,w']/\RelV x u/\RelV y w':=by
 cases r with
 | cons r1 r2=>
   cases r2 with
   | cons r3 r4=>cases r4;exact⟨_,_,rfl,r1,r3⟩
def F4(hc:X.calm=true):iU X (.builtin "max") (λxs H Q=>∃i j,xs=[.int i, .int j]/\Q (.int$ if j > i then j else i) H):=by
 intro pins s σ H xs us Q I r h;obtain⟨i,j,rfl,q⟩:=h;obtain⟨u,w',rfl,⟨t,rfl⟩,⟨t',rfl⟩⟩:=vals2 r;refine max_two_ints (I.ok.hd hc) λh' tk k=>⟨_,H,I.kept k,?_,q⟩
 by_cases hj:j > i
 .rw [QaG hj,QaG hj];exact⟨_,rfl⟩
 .rw [QaA hj,QaA hj];exact⟨_,rfl⟩
def Fv(hc:X.calm=true):iU X (.builtin "min") (λxs H Q=>∃i j,xs=[.int i, .int j]/\Q (.int$ if j<i then j else i) H):=by
 intro pins s σ H xs us Q I r h;obtain⟨i,j,rfl,q⟩:=h;obtain⟨u,w',rfl,⟨t,rfl⟩,⟨t',rfl⟩⟩:=vals2 r;refine min_two_ints (I.ok.hd hc) λh' tk k=>⟨_,H,I.kept k,?_,q⟩
 by_cases hj:j<i
 .rw [QaG hj,QaG hj];exact⟨_,rfl⟩
 .rw [QaA hj,QaA hj];exact⟨_,rfl⟩
def FH:iU X (.type "int") (λxs H Q=>(∃i,xs=[.int i]/\Q (.int i) H)\/∃k,xs=[.bl k]/\Q (.int$ if k then 1 else 0) H):=by
 intro pins s σ H xs us Q I r h;rcases h with⟨i,rfl,q⟩ | ⟨k,rfl,q⟩
 .obtain⟨u,rfl,t,rfl⟩:=vals1 r;exact call_int_int ⟨.int i,H,I,⟨_,rfl⟩,q⟩
 .obtain⟨u,rfl,r1⟩:=vals1 r;cases r1;exact call_int_bool ⟨.int$ if k then 1 else 0,H,I.tok _,⟨_,rfl⟩,q⟩
def Vx(K:Qdi)(x:V)(H:Hp)(n:Nat):Prop:=
 match x with
 | .str y=>y.length<=sizeLine/\n=y.length
 | .byt y=>y.size<=sizeLine/\n=y.size
 | .ref p=>(∃xs,pI K H p xs/\n=xs.length)\/∃xs,rA K H p xs/\n=xs.length
 | _=>False
def GR:iU X (.builtin "len") (λxs H Q=>∃x n,xs=[x]/\Vx X.K x H n/\Q (.int n) H):=by
 intro pins s σ H xs us Q I r h;obtain⟨x,n,rfl,e,q⟩:=h;obtain⟨u,rfl,rx⟩:=vals1 r;have hl:=rX;have hs:sizeLine=16777216:=Qam;cases x with
 | str y=>
   obtain⟨t,rfl⟩:=rx;obtain⟨hy,e'⟩:y.length<=sizeLine/\n=y.length:=e;subst e';exact len_str (by omega) ⟨.int _,H,I.tok _,⟨_,rfl⟩,q⟩
 | byt y=>
   obtain⟨t,rfl⟩:=rx;obtain⟨hy,e'⟩:y.size<=sizeLine/\n=y.size:=e;subst e';exact PySem.W.len_bytes (by omega) ⟨.int _,H,I.tok _,⟨_,rfl⟩,q⟩
 | ref p=>
   cases rx;have e':(∃xs,pI X.K H p xs/\n=xs.length)\/∃xs,rA X.K H p xs/\n=xs.length:=e;rcases e' with⟨xs,hx,e'⟩ | ⟨xs,hx,e'⟩
   .subst e';obtain⟨its,r',pl,hz⟩:=I.list hx;have hlen:=r'.length;exact Calls.call_len_list pl.isList (by simp only[Qao];omega) ⟨.int xs.length,H,I.tok _,⟨_,by simp only[Qao];rw [hlen]⟩,q⟩
   .subst e';obtain⟨its,r',pl,hz⟩:=I.tuple hx;have hlen:=r'.length;exact len_tuple pl (by simp only[Qao];omega) ⟨.int xs.length,H,I.tok _,⟨_,by simp only[Qao];rw [hlen]⟩,q⟩
 | _=>exact(show False from e).elim
end
structure Ck (h:Heap) (x dx C:Addr) (mA:Aaf):Prop where
 obj:h.get? x=some (PySem.W.instObj C dx)
 ns:h.Ns1 dx mA
 ne:dx≠x
def F0{h:Heap}{dx:Addr}{mA:Aaf}(n:h.Ns1 dx mA):∃od,h.get? dx=some od/\∀name,PySem.W.lookIn name od=some (mA name):=by
 obtain⟨o,es,ep,ho,hd,hk,_,hm⟩:=n;refine⟨o,ho,λname=>?_⟩
 have e:=hm name;unfold nsFind findBy at e;rw[<-Array.find?_toList] at e;unfold PySem.W.lookIn;rw[hd];dsimp only;split
 .rename_i y q;rw[q] at e;exact Qbi some e
 .rename_i q;rw[q] at e;have a:es.toList.any (·.refKey)=false:=by
   rw[List.any_eq_false];intro y hy;obtain⟨z,t,hkey⟩:=hk y$ Array.mem_toList_iff.mp hy;simp [DictEntry.refKey,hkey]
  have a':¬es.toList.any (·.refKey)=true:=by rw[a];exact Qay
  rw[QaA a'];exact Qbi some e
def Ck.look{x dx C:Addr}{mA:Aaf}(I:Ck h x dx C mA):∃od,PySem.W.InstAt h x (PySem.W.instObj C dx) C (some od)/\∀name,PySem.W.lookIn name od=some (mA name):=
 let⟨od,ho,hl⟩:=F0 I.ns
 ⟨od,⟨I.obj,rfl,rfl,ho⟩,hl⟩
section
variable {prog:Program}{w:World}{A:Around}{E:Aab}{s:Qdj}{K:Qdi}{x dx C f:Addr}{mA:Aaf}{name:Str}{v:Value}
def get_map{expr:Bool}{Q:Aab}(X:K.In s.heap)(I:Ck s.heap x dx C mA)(hg:PySem.W.plainGet K C name=true)(hh:PySem.W.hasDictIn K C=true)
 (ha:PySem.W.findIn K (.ref C) name=some none) (hv:mA name=some v) (hv':PySem.W.handedIn v=true) (h:Q v {s with toks:=s.toks+1}) :
 wpAny (model prog w) A (getAttr (.ref x) name expr) Q E s:=by
 obtain⟨od,J,hl⟩:=I.look;exact PySem.W.get_value X J (QcR hg).1 (PySem.W.findObj_own hh ha rfl$ by rw[hl,hv]) hv' h
def Jx{pl:Sem Bool}{Q:Value × List Value->Qdj->Prop}(X:K.In s.heap)(I:Ck s.heap x dx C mA)(hg:PySem.W.plainGet K C name=true)
 (hf:PySem.W.findIn K (.ref C) name=some (some$ .ref f)) (ht:PySem.W.isFn K (.ref f)=true) (hv:mA name=none) (h:Q (.ref f,[.ref x]) s) :
 wpAny (model prog w) A (getMethod (.ref x) name pl) Q E s:=by
 obtain⟨od,J,hl⟩:=I.look;exact PySem.W.method_fn X J (QcR hg).1 (QcR hg).2 hf (Qbj.mp ht) (by show(PySem.W.lookIn name od).map (·.isSome)=some false;rw [hl,hv];rfl) h
def Ml{ns:List Str}{Q:Unit->Qdj->Prop}(X:K.In s.heap)(I:Ck s.heap x dx C mA)
 (hs:PySem.W.findIn K (.ref C) "__setattr__"=some (some$ .builtin "object.__setattr__")) (hp:PySem.W.plainOver K C=true) (ht:PySem.W.takerIn K C name=some none) (hh:PySem.W.hasDictIn K C=true)
 (hw:PySem.Within mA ns) (hsz:ns.length<=sizeLine)
 (h:∀h',Ck h' x dx C (λy=>if y=name then some v else mA y)->Heap.SameBut dx s.heap h'->Q () {s with heap:=h',toks:=s.toks+2}) :
 wpAny (model prog w) A (setAttr (.ref x) name v) Q E s:=by
 obtain⟨od,J,hl⟩:=I.look;refine PySem.W.set_plain X J hs$ PySem.W.osa_open (s:={s with toks:=s.toks+1}) (r:=none) X J hp ht λb=>?_
 obtain⟨cd,hc,Xj⟩:=PySem.W.any_some hh;have hx:s.heap.get? x=some ⟨.ref C,some dx, .plain,#[]⟩:=I.obj;refine Qab$ Qaj$ Qab$ Qab$ wpAny_loadPart hx$ Qab$ PySem.W.Looks.here (s:={s with toks:=s.toks+1}) (PySem.W.looks_clsIn X hc) ?_
 rw[Xj];refine Qaj (a:=some dx)$ Qab$ Qaj$ Qab ?_;refine wpAny_nsSet1 (s:={s with toks:=s.toks+1}) I.ns λh' Kr hs2=>?_
 obtain⟨oD,esD,epD,hoD,hdD,hcD⟩:=Kr.count$ PySem.Within.cons name v hw;refine Qab (wpAny_lookBehind hoD (by rw[hdD];exact pastItsLine_dict$ QaP hcD$ by rw[QaB];omega) ?_)
 exact Qaj$ h _ ⟨(hs2.2 _$ QbE I.ne).trans I.obj,Kr,I.ne⟩ hs2
def IH{R:Result->Qdj->Prop}{vs:List Value}{kw:List (Str × Value)}(X:K.In s.heap)(hm:PySem.W.makesIn K C=true)
 (hi:PySem.W.findIn K (.ref C) "__init__"=some (some$ .ref f)) (hf:PySem.W.typeIn K (.ref f)=some (.type "function"))
 (h:codeAny (model prog w) (A.under$ .builtin "type.__call__" ⟨.ref C ::vs,kw⟩) (.call (.ref f) ⟨.ref (s.heap.objs.size+1) ::vs,kw⟩) (PySem.W.InitBack (s.heap.objs.size+1) R)
   {s with heap:=(s.heap.push PySem.W.emptyDict).push$ PySem.W.instObj C s.heap.objs.size}) :
 codeAny (model prog w) A (.call (.ref C) ⟨vs,kw⟩) R s:=by
 obtain⟨hh,g,d,t,os⟩:=s;exact PySem.W.make_core (PySem.W.makes_of X hm) (Qb4 X hi) (λself=>PySem.W.bind_fn X self hf) (.inl rfl) h
end
noncomputable def km(f:Str)(v:V):List (Str × V)->List (Str × V)
 | []=>[(f,v)]
 | (g,x) ::r=>if g=f then(g,v) ::r else(g,x) ::km f v r
theorem sY(f g:Str)(v:V):∀fs:List (Str × V),(km f v fs).lookup g=if g=f then some v else fs.lookup g
 | []=>by
   show List.lookup g [(f,v)]=_;by_cases h:g=f
   .have hb:(g==f)=true:=Qbj.mpr h;simp only[List.lookup,hb,QaG h]
   .have hb:(g==f)=false:=Qa9.mpr h;simp only[List.lookup,hb,QaA h]
 | (k,x) ::r=>by
   have ih:=sY f g v r;rw[show km f v ((k,x) ::r)=(if k=f then(k,v) ::r else(k,x) ::km f v r) from rfl]
   by_cases hk:k=f
   .rw [QaG hk];by_cases h:g=k
    .have hb:(g==k)=true:=Qbj.mpr h;simp only[List.lookup,hb,QaG$ h.trans hk]
    .have hb:(g==k)=false:=Qa9.mpr h;simp only[List.lookup,hb,QaA (λe:g=f=>h$ e.trans hk.symm)]
   .rw [QaA hk];by_cases h:g=k
    .have hb:(g==k)=true:=Qbj.mpr h;simp only[List.lookup,hb,QaA (λe:g=f=>hk$ h.symm.trans e)]
    .have hb:(g==k)=false:=Qa9.mpr h;simp only[List.lookup,hb];exact ih
theorem r_(f:Str)(v:V):∀fs:List (Str × V),f∈(km f v fs).map (·.1)/\∀g,g∈fs.map (·.1)->g∈(km f v fs).map (·.1)
 | []=>⟨by simp [km],λg h=>by simp at h⟩
 | (k,x) ::r=>by
   obtain⟨i1,i2⟩:=r_ f v r;rw[show km f v ((k,x) ::r)=(if k=f then(k,v) ::r else(k,x) ::km f v r) from rfl]
   by_cases hk:k=f
   .rw [QaG hk];subst hk;exact⟨by simp,λg h=>by simpa using h⟩
   .rw [QaA hk];refine⟨?_,λg h=>?_⟩
    .rw [QaO];exact Qag _ i1
    .rw [QaO] at h ⊢;rcases Qaw.mp h with e | e
     .exact Qaw.mpr (.inl e)
     .exact Qag _ (i2 g e)
theorem sV(f:Str)(v:V):∀fs:List (Str × V),(km f v fs).length<=fs.length+1
 | []=>by simp [km]
 | (k,x) ::r=>by
   have ih:=sV f v r;rw[show km f v ((k,x) ::r)=(if k=f then(k,v) ::r else(k,x) ::km f v r) from rfl]
   by_cases hk:k=f
   .rw [QaG hk,QaB,QaB];omega
   .rw [QaA hk,QaB,QaB];omega
def qM.some_of{v:V}{o:Option Value}(r:qM (some v) o):∃u,o=some u/\RelV v u:=by
 cases o with
 | none=>exact(show False from r).elim
 | some u=>exact⟨u,rfl,r⟩
def qM.none_of{o:Option Value}(r:qM none o):o=none:=by
 cases o with
 | none=>rfl
 | some u=>exact(show False from r).elim
def FU{v:V}{u:Value}(r:RelV v u):PySem.W.handedIn u=true:=by
 cases v with
 | cI=>cases(show u=Value.none from r);rfl
 | bl b=>cases(show u=Value.bool b from r);rfl
 | int i=>obtain⟨t,e⟩:=(show ∃t,u=Value.int i t from r);cases e;rfl
 | str x=>obtain⟨t,e⟩:=(show ∃t,u=Value.str x t from r);cases e;rfl
 | byt b=>obtain⟨t,e⟩:=(show ∃t,u=Value.bytes b t from r);cases e;rfl
 | flt b=>obtain⟨t,e⟩:=(show ∃t,u=Value.float b t from r);cases e;rfl
 | ref a=>cases(show u=Value.ref a from r);rfl
 | ty n=>cases(show u=Value.type n from r);rfl
section
variable {P:Program}{w:World}{H:Hp}{h:Heap}{a C dx:Addr}{fs:List (Str × V)}
def ue(hok:mF P w H h)(e:H a=some (.ins C dx fs)):∃mA,Ck h a dx C mA/\(∀f,qM (fs.lookup f)$ mA f)/\PySem.Within mA (fs.map (·.1))/\fs.length<=1000/\H dx=some (.own a):=by
 obtain⟨d,z,ne,ob,mA,n,r,q⟩:=(show dk P w H h a (.ins C dx fs) from hok a _ e)
 exact⟨mA,⟨ob,n,ne⟩,r,q,z,d⟩
end
structure zY (K:Qdi) (C:Addr):Prop where
 pg:PySem.W.plainGet K C Str.empty=true
 hd:PySem.W.hasDictIn K C=true
 po:PySem.W.plainOver K C=true
 sa:PySem.W.findIn K (.ref C) "__setattr__"=some (some (.builtin "object.__setattr__"))
def zY.get{K:Qdi}{C:Addr}(c:zY K C)(f:Str):PySem.W.plainGet K C f=true:=c.pg
def eP(K:Qdi)(C:Addr)(f:Str):Prop:=PySem.W.findIn K (.ref C) f=some none
def eP.RO{K:Qdi}{C:Addr}(n:eP K C f):PySem.W.takerIn K C f=some none:=by
 unfold PySem.W.takerIn;rw[show PySem.W.findIn K (.ref C) f=some none from n]
 rfl
structure ZF (K:Qdi) (C:Addr) (f:Str) (v:V) (u:Value):Prop where
 at_:PySem.W.findIn K (.ref C) f=some (some u)
 rel:RelV v u
 get:PySem.W.specialIn K u "__get__"=some none
 cp:PySem.W.copiedNames.contains f=false
structure Meth (K:Qdi) (C:Addr) (m:Str) (f:Addr):Prop where
 at_:PySem.W.findIn K (.ref C) m=some (some (.ref f))
 fn:PySem.W.isFn K (.ref f)=true
 kp:PySem.W.keepIn K (.ref f)=true
section
variable {X:Cx}{pins:Aaa}{σ:St}{H:Hp}{s:Qdj}{a C dx:Addr}{fs:List (Str × V)}{f:Str}{v:V}{A:Around}{E:Aab}
def Bp{b:Bool}{Q:Aab}(I:Inv X pins σ H s)(e:H a=some (.ins C dx fs))(c:zY X.K C)(n:eP X.K C f)(l:fs.lookup f=some v)
 (h:∀u s',Inv X pins σ H s'->RelV v u->Q u s'):wpAny (model X.prog X.w) A (getAttr (.ref a) f b) Q E s:=by
 obtain⟨mA,O,r,_,_,_⟩:=ue I.hok e;obtain⟨u,hu,ru⟩:=qM.some_of (v:=v) (o:=mA f) (by rw[<-l];exact r f)
 exact get_map I.pz O (c.get f) c.hd n hu (FU ru)$ h u _ (I.tok _) ru
def BF{m:Str}{g:Addr}{pl:Sem Bool}{Q:Value × List Value->Qdj->Prop}(I:Inv X pins σ H s)(e:H a=some (.ins C dx fs))(c:zY X.K C)(k:Meth X.K C m g)(l:fs.lookup m=none)
 (h:Q (.ref g,[.ref a]) s):wpAny (model X.prog X.w) A (getMethod (.ref a) m pl) Q E s:=by
 obtain⟨mA,O,r,_,_,_⟩:=ue I.hok e;have hn:mA m=none:=qM.none_of (by rw[<-l];exact r m)
 exact Jx I.pz O (c.get m) k.at_ k.fn hn h
def CA{y:V}{u:Value}{Q:Unit->Qdj->Prop}(I:Inv X pins σ H s)(e:H a=some (.ins C dx fs))(c:zY X.K C)(n:eP X.K C f)(hl:fs.length<1000)(ry:RelV y u)
 (h:∀s',Inv X pins σ (upd H a$ .ins C dx$ km f y fs) s'->Q () s'):wpAny (model X.prog X.w) A (setAttr (.ref a) f u) Q E s:=by
 obtain⟨mA,O,r,wi,_,ho⟩:=ue I.hok e;have hz:(fs.map (·.1)).length<=sizeLine:=by rw[Qaa,Qam];omega
 refine Ml I.pz O c.sa c.po n.RO c.hd wi hz λh' O' sb=>h _ ?_
 have hd:∃o,h'.get? dx=some o:=let⟨o,_,_,e',_⟩:=O'.ns;⟨o,e'⟩
 refine I.write (x:=a) (e:=dx) (by rw[e];exact True.intro) (.inr ho) (λb q hb z=>(sb.2 b hb).trans z) hd ?_
 refine⟨by rw[bg O.ne];exact ho,?_,O.ne,O'.obj,_,O'.ns,λg=>?_,λg hg=>?_⟩
 .have:=sV f y fs;omega
 .show qM ((km f y fs).lookup g) (if g=f then some u else mA g)
  rw[sY];by_cases q:g=f
  .rw [QaG q,QaG q];exact ry
  .rw [QaA q,QaA q];exact r g
 .by_cases q:g=f
  .rw [q];exact(r_ f y fs).1
  .refine(r_ f y fs).2 g (wi g λz=>hg ?_)
   show(if g=f then some u else mA g)=none
   rw[QaA q];exact z
def Inv.made(I:Inv X pins σ H s):Inv X pins σ (upd (upd H s.heap.objs.size$ .own$ s.heap.objs.size+1) (s.heap.objs.size+1)$ .ins C s.heap.objs.size [])
 {s with heap:=(s.heap.push PySem.W.emptyDict).push$ PySem.W.instObj C s.heap.objs.size}:=by
 have e1:(s.heap.push PySem.W.emptyDict).get? s.heap.objs.size=some PySem.W.emptyDict:=QaF s.heap rfl;have e2:((s.heap.push PySem.W.emptyDict).push$ PySem.W.instObj C s.heap.objs.size).get? (s.heap.objs.size+1)=some (PySem.W.instObj C s.heap.objs.size):=by
  have:=QaF (s.heap.push PySem.W.emptyDict) (o:=PySem.W.instObj C s.heap.objs.size) rfl
  rwa [Qbb] at this
 have e3:(s.heap.push PySem.W.emptyDict).Ns s.heap.objs.size (λ_=>none):=⟨PySem.W.emptyDict,#[],_,e1,rfl,(λe he=>absurd he$ by simp),λ_=>rfl⟩
 have I1:=I.laid (a:=s.heap.objs.size) (o:= .own$ s.heap.objs.size+1) (h':=s.heap.push PySem.W.emptyDict) (t':=s.toks) (λb u q=>Qac _ q) (Qai _) ⟨_,e1⟩
 refine I1.laid (a:=s.heap.objs.size+1) (o:= .ins C s.heap.objs.size []) (t':=s.toks) (λb u q=>Qac _ q) (Nat.le_of_eq$ Qbb _ _) ?_
 have ne:s.heap.objs.size≠s.heap.objs.size+1:=QaE$ Nat.lt_succ_self _;refine⟨by rw[bg ne,aU],Qbf _,ne,e2,λ_=>none,(Heap.Ns1.of_empty e3).at λo q=>Qac _ q,λ_=>True.intro,λy hy=>absurd rfl hy⟩
def KL{prog:Program}{w:World}{env:Env}{e:Expr}{f:Str}{pos:Pos}{s:Qdj}{Q:Aab}(hb:attributeBase e f env (eval e env)=eval e env)
 (h:wpAny (model prog w) A (eval e env) (λo s₁=>wpAny (model prog w) A (getAttr o f true) Q E s₁) E s):wpAny (model prog w) A (eval (.Attribute e f pos) env) Q E s:=
 Attribute_any_ h (by rw[arm_eval_Attribute,hb])
end
def Vb(K:Qdi)(ta:TE)(f:Str):TE:=λσ H Q=>ta σ H λx H1=>∃a C dx fs v,x= .ref a/\H1 a=some (.ins C dx fs)/\zY K C/\eP K C f/\fs.lookup f=some v/\Q v H1
def aax(K:Qdi)(ta:TE)(f:Str):TE:=λσ H Q=>ta σ H λx H1=>∃a C dx fs v u,x= .ref a/\H1 a=some (.ins C dx fs)/\zY K C/\ZF K C f v u/\fs.lookup f=none/\Q v H1
def VE(K:Qdi)(ta tv:TE)(f:Str):TS:=λD σ H=>tv σ H λy H1=>ta σ H1 λx H2=>∃a C dx fs,x= .ref a/\H2 a=some (.ins C dx fs)/\zY K C/\eP K C f/\fs.length<1000/\
 D.nx σ (upd H2 a$ .ins C dx$ km f y fs)
def ZN(X:Cx)(op:Operator)(rd:V->V->Hp->VK->Prop):Prop:=
 ∀(pins:Aaa) (s:Qdj) (σ:St) (H:Hp) (x y:V) (u v:Value) (Q:VK),Inv X pins σ H s->RelV x u->RelV y v->rd x y H Q->wpAny (model X.prog X.w) X.A (inplaceOp op u v) (EP X pins σ Q) X.xe s
def Uo(K:Qdi)(ta tv:TE)(rd:V->V->Hp->VK->Prop)(f:Str):TS:=λD σ H=>ta σ H λx H1=>∃a C dx fs v,x= .ref a/\H1 a=some (.ins C dx fs)/\zY K C/\eP K C f/\fs.lookup f=some v/\
 tv σ H1 λy H2=>rd v y H2 λz H3=>∃dx' Rr,H3 a=some (.ins C dx' Rr)/\Rr.length<1000/\D.nx σ (upd H3 a$ .ins C dx'$ km f z Rr)
section
variable {X:Cx}{o e value:Expr}{f:Str}{pos pos':Pos}{ta tv:TE}
def NS(he:PE X e ta)(hb:attributeBase e f X.env (eval e X.env)=eval e X.env):PE X (.Attribute e f pos) (Vb X.K ta f):=by
 intro pins s σ H Q I h;refine KL hb$ dP (he pins s σ H _ I h) λu s1 ⟨x,H1,I1,rx,a,C,dx,fs,v,ex,ea,c,n,l,q⟩=>?_
 subst ex;obtain rfl:u=Value.ref a:=rx;exact Bp I1 ea c n l λu' s2 I2 ru=>⟨v,H1,I2,ru,q⟩
def N9(ha:PE X o ta)(hv:PE X value tv)(hs:swapsWith value (some$ .Attribute o f pos') pos.line X.env=pure false):PS X (.Assign [.Attribute o f pos'] value pos) (VE X.K ta tv f):=by
 intro pins s σ H D I h;refine plainObj_wpAny_Assign_Attribute (dP (hv pins s σ H _ I h) λu s1 ⟨y,H1,I1,ry,q⟩=>dP (ha pins s1 σ H1 _ I1 q) λov s2 ⟨x,H2,I2,rx,a,C,dx,fs,ex,ea,c,n,l,q2⟩=>?_) hs
 subst ex;obtain rfl:ov=Value.ref a:=rx;exact CA I2 ea c n l ry λs3 I3=>⟨σ,_,I3,q2⟩
def Z_:V->V->Hp->VK->Prop:=λx y H Q=>∃i j,x= .int i/\y= .int j/\Q (.int$ i+j) H
def aaB:V->V->Hp->VK->Prop:=λx y H Q=>∃i j,x= .int i/\y= .int j/\Q (.int$ i - j) H
end
section
variable {X:Cx}{pins:Aaa}{σ:St}{H:Hp}{s:Qdj}{A:Around}{E:Aab}{Q:Aab}{c:Value}{b:Bool}
inductive t6 (K:Qdi) (H:Hp):V->Value->Prop where
 | cI:t6 K H .cI (.type "NoneType")
 | bl (x:Bool):t6 K H (.bl x) (.type "bool")
 | int (i:Int):t6 K H (.int i) (.type "int")
 | str (x:Str):t6 K H (.str x) (.type "str")
 | flt (x:UInt64):t6 K H (.flt x) (.type "float")
 | lst {a:Addr} {xs:List V} (e:H a=some (.lst xs)):t6 K H (.ref a) (.type "list")
 | jU {a:Addr} {o:Obj} {xs:List V} (e:H a=some (.jU o (.lst xs))):t6 K H (.ref a) (.type "list")
 | tup {a:Addr} {xs:List V} (e:H a=some (.tup xs)):t6 K H (.ref a) (.type "tuple")
 | dK {a:Addr} {aW:List (Key × V)} (e:H a=some (.dK aW)):t6 K H (.ref a) (.type "dict")
 | dT {a:Addr} {aW:List (List Key × V)} (e:H a=some (.dT aW)):t6 K H (.ref a) (.type "dict")
 | ins {a C dx:Addr} {fs:List (Str × V)} (e:H a=some (.ins C dx fs)) (cl:zY K C) (ha:PySem.W.findIn K (.ref C) "__class__"=some (some (.builtin "object.__class__")))
    (hn:PySem.W.specialIn K (.builtin "object.__class__") "__get__"=some (some (.builtin "getset_descriptor.__get__"))) (Zc:PySem.W.takesIn K (.builtin "object.__class__")=some true)
    (hm:PySem.W.mroIn K C (.type "object")=some true):t6 K H (.ref a) (.ref C)
def oy{x:V}{u t:Value}(I:Inv X pins σ H s)(rx:RelV x u)(ty:t6 X.K H x t)(e:PySem.W.kitOne X.K t c=some b)(h:∀tk,Q (.bool b) {s with toks:=tk}) :
 wpAny (model X.prog X.w) A (call (.builtin "isinstance") [u,c]) Q E s:=by
 cases ty with
 | cI=>cases(show u=Value.none from rx);exact Qa4 Qc7 I.pz True.intro e (λz=>nomatch z) h
 | bl y=>cases(show u=Value.bool y from rx);exact Qa4 PySem.W.kitx_bool I.pz True.intro e (λz=>nomatch z) h
 | int i=>obtain⟨t,q⟩:=(show ∃t,u=Value.int i t from rx);cases q;exact Qa4 PySem.W.kitx_int I.pz True.intro e (λz=>nomatch z) h
 | str y=>obtain⟨t,q⟩:=(show ∃t,u=Value.str y t from rx);cases q;exact Qa4 PySem.W.kitx_str I.pz True.intro e (λz=>nomatch z) h
 | flt y=>obtain⟨t,q⟩:=(show ∃t,u=Value.float y t from rx);cases q;exact Qa4 PySem.W.kitx_float I.pz True.intro e (λz=>nomatch z) h
 | @lst a xs ea=>
   cases(show u=Value.ref a from rx)
   obtain⟨_,_,n,_,h1⟩:=(show dk X.prog X.w H s.heap a (.lst xs) from I.hok a _ ea)
   exact Qa4 Qco I.pz ⟨_,h1,rfl⟩ e (λz=>nomatch z) h
 | @jU a ob xs ea=>
   cases(show u=Value.ref a from rx)
   obtain⟨_,_,_,n,_,h1⟩:=(show dk X.prog X.w H s.heap a (.jU ob$ .lst xs) from I.hok a _ ea)
   exact Qa4 Qco I.pz ⟨_,h1,rfl⟩ e (λz=>nomatch z) h
 | @tup a xs ea=>
   cases(show u=Value.ref a from rx)
   obtain⟨_,_,_,p⟩:=(show dk X.prog X.w H s.heap a (.tup xs) from I.hok a _ ea)
   obtain⟨o,h1,h2,_⟩:=p;exact Qa4 QcY I.pz ⟨o,h1,h2⟩ e (λz=>nomatch z) h
 | @dK a aW ea=>
   cases(show u=Value.ref a from rx)
   obtain⟨_,_,vs,_,p⟩:=(show dk X.prog X.w H s.heap a (.dK aW) from I.hok a _ ea)
   obtain⟨o,es,ep,h1,h2,_⟩:=p;exact Qa4 PySem.W.kitx_dict I.pz ⟨o,h1,h2.1⟩ e (λz=>nomatch z) h
 | @dT a aW ea=>
   cases(show u=Value.ref a from rx)
   obtain⟨_,_,xs,_,o,es,ep,h1,h2,_⟩:=(show dk X.prog X.w H s.heap a (.dT aW) from I.hok a _ ea)
   exact Qa4 PySem.W.kitx_dict I.pz ⟨o,h1,h2.1⟩ e (λz=>nomatch z) h
 | @ins a C dx fs ea cl ha hn Zc hm=>
   cases(show u=Value.ref a from rx)
   obtain⟨mA,O,_⟩:=ue I.hok ea;obtain⟨od,J,_⟩:=O.look;exact Qa4 (PySem.W.kitx_own (cl.get _) cl.hd ha hn Zc hm) I.pz J e (λz=>nomatch z) h
end
structure dZ (k:Nat) (A:Around):Prop where
 hd:A.handled=none
 dp:A.depth+3*k+5<recursionLimit
 un:A.units+16*k+200<cLine
def dZ.mono{j k:Nat}(r:dZ k A)(h:j<=k):dZ j A:=⟨r.hd,by have:=r.dp;omega,by have:=r.un;omega⟩
def dZ.deeper{k:Nat}{A:Around}(r:dZ (k+1) A)(env:Env):dZ k (A.deeper env):=
 ⟨r.hd,by have:=r.dp;show A.depth+1+3*k+5<_;omega,by have:=r.un;show A.units+3+16*k+200<_;omega⟩
def Bi{A:Around}{C:Addr}{us:List Value}{kw:List (Str × Value)}:(A.under$ .builtin "type.__call__" ⟨.ref C ::us,kw⟩).depth=A.depth+1:=by
 first | rfl | simp [Around.under,Code.weight,Code.isCreation,Code.isGuard,Code.isCaller,Code.frames,Code.isFrame,guardIds]
def Cs{A:Around}{C:Addr}{us:List Value}{kw:List (Str × Value)}:(A.under$ .builtin "type.__call__" ⟨.ref C ::us,kw⟩).units=A.units+1:=by
 first | rfl | simp [Around.under,Code.cUnits,Code.frames,Code.isFrame]
def dZ.make{k:Nat}{A:Around}(r:dZ (k+1) A)(C:Addr)(us:List Value)(kw:List (Str × Value)):dZ k (A.under$ .builtin "type.__call__" ⟨.ref C ::us,kw⟩):=
 ⟨r.hd,by have:=r.dp;rw [Bi];omega,by have:=r.un;rw [Cs];omega⟩
def dZ.depth{k:Nat}{A:Around}(r:dZ k A):A.depth<recursionLimit:=by have:=r.dp;omega
def dZ.units{k:Nat}{A:Around}(r:dZ k A):A.units+64<cLine:=by have:=r.un;omega
def VW:TA:=λ_ H Q=>Q [] H
def Sd(ta:TE)(tr:TA):TA:=λσ H Q=>ta σ H λx H1=>tr σ H1 λxs H2=>Q (x ::xs) H2
section
variable {X:Cx}{e:Expr}{es:List Expr}{te:TE}{t:TA}{pos:Pos}
def eB:PA X [] VW:=λ_ _ _ _ H Q I h=>Calls.spliced_nil ⟨[],H,I, .nil,h⟩
def cD(ha:PE X e te)(hr:PA X es t)(hs:starEach (e ::es) X.env=(false,eval e X.env) ::starEach es X.env:=by rfl):PA X (e ::es) (Sd te t):=by
 intro pos pins s σ H Q I h;rw[hs];show wpAny _ _ (spliced ((false,eval e X.env) ::backTo pos (starEach es X.env))) _ _ s;refine QcZ$ dP (ha pins s σ H _ I h) λu s1 ⟨x,H1,I1,r1,q1⟩=>?_
 exact dP (hr pos pins s1 σ H1 _ I1 q1) λus s2 ⟨xs,H2,I2,r2,q2⟩=>⟨x ::xs,H2,I2, .cons r1 r2,q2⟩
def Vj(t:TA):TE:=λσ H Q=>t σ H λxs H1=>xs.length<=sizeLine/\∀p,H1 p=none->Q (.ref p) (upd H1 p$ .tup xs)
def VJ(t:TA):TE:=λσ H Q=>t σ H λxs H1=>xs.length<=sizeLine/\∀p,H1 p=none->Q (.ref p) (upd H1 p$ .lst xs)
def yT{x1}(h:PA X es t):PE X (.Tuple es x1 pos) (Vj t):=by
 intro pins s σ H Q I hq;refine wpAny_Tuple_spliced (dP (h pos pins s σ H _ I hq) λus s1 ⟨xs,H1,I1,r,z,q⟩=>⟨by rw[<-r.length];exact z,?_⟩)
 have hf:H1 s1.heap.objs.size=none:=I1.hok.fresh$ Qai _;refine⟨.ref s1.heap.objs.size,upd H1 s1.heap.objs.size$ .tup xs,I1.laid (t':=s1.toks) (λb u e=>Qac _ e) (Qai _) ?_,rfl,q _ hf⟩
 exact⟨z,us,r,⟨_,QaF _ rfl,rfl,_,rfl⟩⟩
def Oh(h:PA X es t):PE X (.List es pos) (VJ t):=by
 intro pins s σ H Q I hq;refine wpAny_List_spliced (dP (h pos pins s σ H _ I hq) λus s1 ⟨xs,H1,I1,r,z,q⟩=>⟨by rw[<-r.length];exact z,?_⟩)
 have hf:H1 s1.heap.objs.size=none:=I1.hok.fresh$ Qai _;refine⟨.ref s1.heap.objs.size,upd H1 s1.heap.objs.size$ .lst xs,I1.laid (t':=s1.toks) (λb u e=>Qac _ e) (Qai _) ?_,rfl,q _ hf⟩
 exact⟨z,us,0,r,QaF _ rfl⟩
end
abbrev Sp:=List V->Hp->VK->XK->Prop
abbrev Gq:=List Env->Hp->Qdj->XK->Value->Qdj->Prop
structure BC (P:Program) (w:World) (K:Qdi) (mg:Aaf) (base:Heap) (A:Around) (outer:List Env) (s:Qdj) (H:Hp):Prop where
 frames:A.frames=some outer
 mod:Mod K mg base
 bs:∀b o,base.get? b=some o->s.heap.get? b=some o/\H b=none
 bsz:base.objs.size<=s.heap.objs.size
 qS:s.heap.FunFrames base outer
 frf:∀b∈pN outer,H b=none
 hok:mF P w H s.heap
 bare:AllBare s.gens
def CE(outer:List Env)(P:Program)(w:World)(H:Hp)(s:Qdj)(Q:VK)(u:Value)(s':Qdj):Prop:=
 ∃v H',s'.os=s.os/\AllBare s'.gens/\Un (pN outer) [] H H' s.heap s'.heap/\mF P w H' s'.heap/\RelV v u/\Q v H'
def CR(CX:Gq)(outer:List Env)(P:Program)(w:World)(H:Hp)(s:Qdj)(Q:VK)(E:XK)(r:Result)(s':Qdj):Prop:=
 match r with
 | .ok (.ret u)=>CE outer P w H s Q u s'
 | .ok _=>False
 | .error e=>CX outer H s E e s'
structure ip (P:Program) (w:World) (K:Qdi) (mg:Aaf) (base:Heap) (CX:Gq) (k:Nat) (f:Addr) (fd:FuncData) (ps:List Str) (sp:Sp):Prop where
 len:∀vs H Q E,sp vs H Q E->vs.length=ps.length
 run:∀(A:Around) (outer:List Env) (s:Qdj) (H:Hp) (args:Args) (us:List Value) (vs:List V) (Q:VK) (E:XK),dZ k A->BC P w K mg base A outer s H->BindsTo s fd args (ps.zip us)->Vals vs us->sp vs H Q E->
  codeAny (model P w) A (.call (.ref f) args) (CR CX outer P w H s Q E) s
def ip.imp{P:Program}{w:World}{K:Qdi}{mg:Aaf}{base:Heap}{CX:Gq}{k:Nat}{f:Addr}{fd:FuncData}{ps:List Str}{sp Y9:Sp}(F:ip P w K mg base CX k f fd ps sp)
 (h:∀vs H Q E,Y9 vs H Q E->sp vs H Q E):ip P w K mg base CX k f fd ps Y9:=
 ⟨λvs H Q E q=>F.len vs H Q E$ h _ _ _ _ q,λA outer s H args us vs Q E hr he hb hv hs=>F.run A outer s H args us vs Q E hr he hb hv$ h _ _ _ _ hs⟩
def BC.make{K:Qdi}{mg:Aaf}{outer:List Env}{s:Qdj}(e:BC P w K mg base A outer s H)(C:Addr)(us:List Value)(kw:List (Str × Value)) :
 BC P w K mg base (A.under$ .builtin "type.__call__" ⟨.ref C ::us,kw⟩) outer s H:=⟨by first | exact e.frames | (simpa [Around.under,Code.envs,Code.isFrame,pushEnvs] using e.frames),e.mod,e.bs,e.bsz,e.qS,e.frf,e.hok,e.bare⟩
section
variable {X:Cx}{pins:Aaa}{σ:St}{H:Hp}{s s':Qdj}
def Inv.Tt(I:Inv X pins σ H s):BC X.prog X.w X.K X.mg X.base X.A X.stack s H:=
 ⟨I.ok.frames,I.ok.mod,I.bs,QaP I.ok.bsz I.sz,I.stack,I.oC,I.hok,I.bare⟩
def Inv.after{Q:VK}{u:Value}(I:Inv X pins σ H s)(h:CE X.stack X.prog X.w H s Q u s'):EP X pins σ Q u s':=by
 obtain⟨v,H',os,bare,un,hok,r,q⟩:=h;obtain⟨hh,g,d,t,CJ⟩:=s';obtain rfl:CJ=s.os:=os;exact⟨v,H',I.call (h':=hh) (g':=g) (d':=d) (t':=t) (ch:=[]) un hok bare (λb z=>absurd z$ by simp),r,q⟩
end
def RP(sp:Sp)(zm:List V)(E:XK)(t:TA):TE:=λσ H Q=>t σ H λvs H1=>sp (vs++zm) H1 Q E
def Sx(C:Addr)(m:Str)(sp:Sp)(zm:List V)(E:XK)(ta:TE)(t:TA):TE:=λσ H Q=>ta σ H λx H1=>∃a dx fs,x= .ref a/\H1 a=some (.ins C dx fs)/\fs.lookup m=none/\
 t σ H1 λvs H2=>sp (x ::(vs++zm)) H2 Q E
def Tv(C:Addr)(sp:Sp)(zm:List V)(E:XK)(t:TA):TE:=λσ H Q=>t σ H λvs H1=>∀x dx,H1 x=none->H1 dx=none->dx≠x->
 sp (.ref x ::(vs++zm)) (upd (upd H1 dx$ .own x) x$ .ins C dx []) (λv H2=>v= .cI/\Q (.ref x) H2) E
def Binds(K:Qdi)(fd:FuncData)(ps:List Str)(ds:List Value):Prop:=
 ∀(s:Qdj) (us:List Value),K.In s.heap->(us++ds).length=ps.length->BindsTo s fd ⟨us,[]⟩ (ps.zip$ us++ds)
def Binds.all{K:Qdi}{fd:FuncData}{ps:List Str}(h:∀us:List Value,us.length=ps.length->bindArgs fd ⟨us,[]⟩=pure (ps.zip us)):Binds K fd ps []:=λs us _ hl=>by
 rw[Qbc] at hl ⊢;exact .of_eq$ h us hl
def Passes(CX:Gq)(X:Cx)(E:XK):Prop:=∀(pins:Aaa) (σ:St) (H:Hp) (s:Qdj) (e:Value) (s':Qdj),Inv X pins σ H s->CX X.stack H s E e s'->X.xe e s'
section
variable {X:Cx}{CX:Gq}{k:Nat}{f C:Addr}{fd:FuncData}{ps:List Str}{sp:Sp}{zm:List V}{ds:List Value}{E:XK}{x m:Str}{p pos apos:Pos}{e o:Expr}{es:List Expr}{ta:TE}{t:TA}
def JP{pins:Aaa}{σ:St}{H:Hp}{s:Qdj}{Q:VK}{us:List Value}{vs:List V}(F:ip X.prog X.w X.K X.mg X.base CX k f fd ps sp)(hr:dZ k X.A)(hb:Binds X.K fd ps ds)(hd:Vals zm ds)(hx:Passes CX X E)
 (I:Inv X pins σ H s) (r:Vals vs us) (h:sp (vs++zm) H Q E):wpAny (model X.prog X.w) X.A (call (.ref f) us) (EP X pins σ Q) X.xe s:=by
 have r2:Vals (vs++zm) (us++ds):=r.append hd;have hl:(us++ds).length=ps.length:=by rw[<-r2.length];exact F.len _ _ _ _ h
 refine wpAny_call$ codeAny_mono (F.run X.A X.stack s H ⟨us,[]⟩ (us++ds) (vs++zm) Q E hr I.Tt (hb s us I.pz hl) r2 h) λr s' hq=>?_
 cases r with
 | error e=>exact hx pins σ H s e s' I hq
 | ok fl=>
   cases fl with
   | ret u=>exact I.after hq
   | next=>exact False.elim hq
   | brk=>exact False.elim hq
   | cont=>exact False.elim hq
def uu(F:ip X.prog X.w X.K X.mg X.base CX k f fd ps sp)(hr:dZ k X.A)(hg:Gl X x)(hm:X.mg x=some (.ref f))(hk:PySem.W.keepIn X.K (.ref f)=true)(hb:Binds X.K fd ps ds)(hd:Vals zm ds)(hx:Passes CX X E)
 (ha:PA X (e ::es) t) (oi:(x==("__debug__":Str))=false:=by decide) (he:starEach (e ::es) X.env=(false,eval e X.env) ::starEach es X.env:=by rfl) (hJ:(backTo pos$ starEach es X.env).any (·.1)=false:=by rfl) :
 PE X (.Call (.Name x p) (e ::es) [] pos) (RP sp zm E t):=by
 intro pins s σ H Q I h;refine Qch$ qx I hg hm ?_ oi;refine Qc0 (h₀:=X.base) I.ok.mod.kin hk (dP (ha pos pins s σ H _ I h) λus s1 ⟨vs,H1,I1,r,q⟩=>⟨I1.pz,?_⟩) he hJ
 exact JP F hr hb hd hx I1 r q
def La{pl:Sem Bool}(he:PE X o ta)(c:zY X.K C)(hm:Meth X.K C m f)(F:ip X.prog X.w X.K X.mg X.base CX k f fd ps sp)(hr:dZ k X.A)(hb:Binds X.K fd ps ds)(hd:Vals zm ds)(hx:Passes CX X E)(ha:PA X (e ::es) t)
 (ub:starEach (e ::es) X.env=(false,eval e X.env) ::starEach es X.env:=by rfl) (hJ:(backTo pos$ starEach es X.env).any (·.1)=false:=by rfl)
 (ht:eval (.Call (.Attribute o m apos) (e ::es) [] pos) X.env=(do
   let ov <-eval o X.env
   standAt apos.atName
   let(f,first) <-holding [ov] (getMethod ov m pl)
   callWith pos f first (backTo pos$ starEach (e ::es) X.env) (backToKw pos$ keywordEach [] X.env)):=by rfl) :
 PE X (.Call (.Attribute o m apos) (e ::es) [] pos) (Sx C m sp zm E ta t):=by
 intro pins s σ H Q I h;refine PySem.W.methodCall_KW (pl:=pl) (dP (he pins s σ H _ I h) λu s1 ⟨x,H1,I1,rx,a,dx,fs,ex,ea,l,q⟩=>?_) ht
 subst ex;obtain rfl:u=Value.ref a:=rx;refine BF I1 ea c hm l ?_;refine Qc0 (first:=[.ref a]) (h₀:=X.base) I.ok.mod.kin hm.kp (dP (ha pos pins s1 σ H1 _ I1 q) λus s2 ⟨vs,H2,I2,r,q2⟩=>⟨I2.pz,?_⟩) ub hJ
 exact JP (us:= .ref a ::us) (vs:= .ref a ::vs) F hr hb hd hx I2 (.cons rfl r) q2
structure Mk (K:Qdi) (C f:Addr):Prop where
 makes:PySem.W.makesIn K C=true
 init:PySem.W.findIn K (.ref C) "__init__"=some (some (.ref f))
 fn:PySem.W.isFn K (.ref f)=true
 kp:PySem.W.keepIn K (.ref C)=true
def Ia{pins:Aaa}{σ:St}{H:Hp}{s:Qdj}{Q:VK}{us:List Value}{vs:List V}(M:Mk X.K C f)(F:ip X.prog X.w X.K X.mg X.base CX k f fd ps sp)(hr:dZ (k+1) X.A)(hb:Binds X.K fd ps ds)(hd:Vals zm ds)
 (hx:Passes CX X E) (I:Inv X pins σ H s) (r:Vals vs us)
 (h:∀x dx,H x=none->H dx=none->dx≠x->sp (.ref x ::(vs++zm)) (upd (upd H dx$ .own x) x$ .ins C dx []) (λv H2=>v= .cI/\Q (.ref x) H2) E) :
 wpAny (model X.prog X.w) X.A (call (.ref C) us) (EP X pins σ Q) X.xe s:=by
 have hq:=h (s.heap.objs.size+1) s.heap.objs.size (I.hok.fresh$ QbT _) (I.hok.fresh$ Qai _)$ QaE$ Nat.lt_succ_self _;have I2:=Inv.made (C:=C) I;have r2:Vals (V.ref (s.heap.objs.size+1) ::(vs++zm)) (Value.ref (s.heap.objs.size+1) ::(us++ds)):= .cons rfl$ r.append hd;have hl:(Value.ref (s.heap.objs.size+1) ::us++ds).length=ps.length:=by
  have e:=r2.length;rw[F.len _ _ _ _ hq] at e;exact e.symm
 refine wpAny_call (IH (f:=f) I.pz M.makes M.init (Qbj.mp M.fn) (codeAny_mono (F.run _ X.stack _ _ ⟨Value.ref (s.heap.objs.size+1) ::us,[]⟩ (Value.ref (s.heap.objs.size+1) ::(us++ds)) _ _ E (hr.make C us [])
  (I2.Tt.make C us []) (hb _ (Value.ref (s.heap.objs.size+1) ::us) I2.pz hl) r2 hq) λr s' Ul=>?_))
 cases r with
 | error e=>exact hx pins σ _ _ e s' I2 Ul
 | ok fl=>
   cases fl with
   | ret u=>
     obtain⟨v,H',I3,rv,ev,q3⟩:=I2.after Ul;subst ev;exact⟨rv,⟨V.ref$ s.heap.objs.size+1,H',I3,rfl,q3⟩⟩
   | next=>exact False.elim Ul
   | brk=>exact False.elim Ul
   | cont=>exact False.elim Ul
def K9(M:Mk X.K C f)(F:ip X.prog X.w X.K X.mg X.base CX k f fd ps sp)(hr:dZ (k+1) X.A)(hg:Gl X x)(hm:X.mg x=some (.ref C))(hb:Binds X.K fd ps ds)(hd:Vals zm ds)(hx:Passes CX X E)
 (ha:PA X (e ::es) t) (oi:(x==("__debug__":Str))=false:=by decide) (he:starEach (e ::es) X.env=(false,eval e X.env) ::starEach es X.env:=by rfl) (hJ:(backTo pos$ starEach es X.env).any (·.1)=false:=by rfl) :
 PE X (.Call (.Name x p) (e ::es) [] pos) (Tv C sp zm E t):=by
 intro pins s σ H Q I h;refine Qch$ qx I hg hm ?_ oi;refine Qc0 (h₀:=X.base) I.ok.mod.kin M.kp (dP (ha pos pins s σ H _ I h) λus s1 ⟨vs,H1,I1,r,q⟩=>⟨I1.pz,?_⟩) he hJ
 exact Ia M F hr hb hd hx I1 r q
end
def PK(X:Cx)(Za:List Keyword)(t:TA):Prop:=
 ∀(pos:Pos) (pins:Aaa) (s:Qdj) (σ:St) (H:Hp) (Q:List V->Hp->Prop),Inv X pins σ H s->t σ H Q->wpAny (model X.prog X.w) X.A (evalAll$ (backToKw pos$ keywordEach Za X.env).map (·.2)) (AP X pins σ Q) X.xe s
section
variable {fd:FuncData}{ps ks:List Str}{sp:Sp}{E:XK}{t tk:TA}
structure Wf (K:Qdi) (fd:FuncData) (ps ks:List Str) (g:List Value->List Value->List Value) (gV:List V->List V->List V):Prop where
 to:∀(s:Qdj) (us ws:List Value),K.In s.heap->(g us ws).length=ps.length->BindsTo s fd ⟨us,ks.zip ws⟩ (ps.zip (g us ws))
 rel:∀{vs:List V} {us:List Value} {zs:List V} {ws:List Value},Vals vs us->Vals zs ws->Vals (gV vs zs) (g us ws)
def U5(sp:Sp)(gV:List V->List V->List V)(E:XK)(t tk:TA):TE:=λσ H Q=>t σ H λvs H1=>tk σ H1 λzs H2=>sp (gV vs zs) H2 Q E
end
structure bj (N P:List Str) (sc:Scope):Prop where
 kind:sc.kind= .function:=by rfl
 co:sc.isCoroutine=false:=by rfl
 gen:sc.isGenerator=false:=by rfl
 nd:N.Nodup:=by decide+kernel
 pre:N.take P.length=P:=by rfl
 par:∀x∈P,sc.names.lookup x=some .local\/sc.names.lookup x=some .cell:=by decide+kernel
 nofree:∀y∈sc.names,y.2≠ .free:=by decide+kernel
theorem xq{kindOf:Str->Option NameKind}:∀{binds:List (Str × Value)} {m:Aaf},(∀v,(x,v) ∉ binds)->bindL kindOf binds m x=m x
 | [],_,_=>rfl
 | (n,v) ::r,m,h=>by
   unfold bindL;rw[xq λw hw=>h w$ Qag _ hw]
   split
   .have:x≠n:=by rintro rfl;exact h v Qat
    simp [this]
   .rfl
theorem xw{kindOf:Str->Option NameKind}:∀{binds:List (Str × Value)} {m:Aaf},(∀v,(x,v) ∉ binds)->bindC kindOf binds m x=m x
 | [],_,_=>rfl
 | (n,v) ::r,m,h=>by
   unfold bindC;rw[xw λw hw=>h w$ Qag _ hw]
   split
   .rfl
   .have:x≠n:=by rintro rfl;exact h v Qat
    simp [this]
def xI{kindOf:Str->Option NameKind}{v:Value}:∀{P:List Str} {vs:List Value} {i:Nat} {m:Aaf},P.Nodup->P[i]? =some x->vs[i]? =some v->kindOf x=some .local->
 bindL kindOf (P.zip vs) m x=some v
 | [],_,_,_,_,h,_,_=>by simp at h
 | _ ::_,[],_,_,_,_,h,_=>by simp at h
 | p ::P,w ::vs,0,m,nd,h1,h2,hk=>by
   simp at h1 h2;subst h1;subst h2;show bindL kindOf ((p,w) ::P.zip vs) m p=_;unfold bindL;rw[xq λv hv=>(Qcd.mp nd).1 (List.of_mem_zip hv).1,QaG hk]
   simp
 | p ::P,w ::vs,i+1,m,nd,h1,h2,hk=>by
   show bindL kindOf ((p,w) ::P.zip vs) m x=_;unfold bindL;exact xI (i:=i) (Qcd.mp nd).2 (by simpa using h1) (by simpa using h2) hk
def wV{kindOf:Str->Option NameKind}{v:Value}:∀{P:List Str} {vs:List Value} {i:Nat} {m:Aaf},P.Nodup->P[i]? =some x->vs[i]? =some v->kindOf x≠some .local->
 bindC kindOf (P.zip vs) m x=some v
 | [],_,_,_,_,h,_,_=>by simp at h
 | _ ::_,[],_,_,_,_,h,_=>by simp at h
 | p ::P,w ::vs,0,m,nd,h1,h2,hk=>by
   simp at h1 h2;subst h1;subst h2;show bindC kindOf ((p,w) ::P.zip vs) m p=_;unfold bindC;rw[xw λv hv=>(Qcd.mp nd).1 (List.of_mem_zip hv).1,QaA hk]
   simp
 | p ::P,w ::vs,i+1,m,nd,h1,h2,hk=>by
   show bindC kindOf ((p,w) ::P.zip vs) m x=_;unfold bindC;exact wV (i:=i) (Qcd.mp nd).2 (by simpa using h1) (by simpa using h2) hk
noncomputable def start(N:List Str)(vs:List V):St:=vs.map some++List.replicate (N.length - vs.length) none
noncomputable def lV(CX:Gq)(P:Program)(w:World)(K:Qdi)(mg:Aaf)(base:Heap)(N:List Str)(qual:Str)(scope:Scope)(f:Addr)(cd:Value)(A:Around)(outer:List Env)(s:Qdj)(H:Hp)(E:XK):Cx where
 prog:=P
 w:=w
 K:=K
 mg:=mg
 base:=base
 A:=A.deeper$ envOfC qual scope s.heap.objs.size f cd
 N:=N
 s₀:=s
 H₀:=H
 env:=envOfC qual scope s.heap.objs.size f cd
 outer:=outer
 stack:=envOfC qual scope s.heap.objs.size f cd ::outer
 ex:=[]
 calm:=true
 fn:=λ_=>true
 pn:=[]
 xe:=λe s'=>wpAny (model P w) (A.deeper$ envOfC qual scope s.heap.objs.size f cd) (leaving (envOfC qual scope s.heap.objs.size f cd) e) (λ_ Xq=>CX outer H s E e Xq) (λe' Xq=>CX outer H s E e' Xq) s'
def vp{sc:Scope}{n:Nat}(h:sc.names.lookup x=some .cell):∃c,(cellsFrom n sc.names []).lookup x=some c:=by
 have q:=PySem.W.cellsFrom_some sc.names n []$ .inl h;exact Qci.mp q
def Ew{CX:Gq}{P:Program}{w:World}{K:Qdi}{mg:Aaf}{base:Heap}{N ps:List Str}{qual:Str}{scope:Scope}{f:Addr}{cd:Value}{A:Around}{outer:List Env}{s s1:Qdj}{H:Hp}{E:XK}{us:List Value}{vs:List V}
 (S:bj N ps scope) (hd:A.handled=none) (e0:BC P w K mg base A outer s H) (hl:vs.length=ps.length) (r:Vals vs us)
 (x:InCallC s s.heap.objs.size (bindL (envOfC qual scope s.heap.objs.size f cd).kindOf (ps.zip us) λ_=>none) (cellsFrom (s.heap.objs.size+1) scope.names []) (bindC (envOfC qual scope s.heap.objs.size f cd).kindOf (ps.zip us) λ_=>none) s1) :
 Inv (lV CX P w K mg base N qual scope f cd A outer s H E) [] (start N vs) H s1:=by
 have hJ:ps.length<=N.length:=by have:=Qbi List.length S.pre;rw [QaK] at this;omega
 obtain⟨h1,tk,rfl,hk⟩:=x.done;have noA:∀b:Addr,b ∉ (lV CX P w K mg base N qual scope f cd A outer s H E).ex:=λb z=>absurd (show b∈([]:List Addr) from z) (by simp)
 refine⟨⟨e0.mod,S.kind,rfl,rfl,Qai _,λy z c h1 h2=>?_,λy hy=>?_,λy c _ h=>?_,λ_=>hd,Around.frames_deeper e0.frames, .inr ⟨rfl,rfl⟩,λb z=>absurd z$ noA b,e0.bs,e0.bsz,λb _ _=>noA b,λb z=>absurd z$ noA b,e0.qS,e0.frf⟩,
  rfl,e0.bare,Un.kept hk,⟨_,x.toInCall.ns,λi y v h1 h2 h3=>?_⟩,λy c h=>⟨_,x.cell y c h⟩,e0.hok.fresh$ Qai _,λy c h=>?_,λp hp=>absurd (show p∈([]:Aaa) from hp) (by simp),e0.hok.kept hk,?_⟩
 .exact name_of_addr x.apart (Qbn h1) (Qbn h2)
 .have hy:scope.names.lookup y=some .cell\/scope.names.lookup y=some .free:=hy;rcases hy with hy | hy
  .exact vp hy
  .exact absurd rfl (S.nofree _$ Qbn hy)
 .exact Nat.le_of_lt (x.above y c$ Qbn h)
 .have hi:i<vs.length:=by
   unfold start at h2;by_cases hi:i<vs.length
   .exact hi
   .rw [Qal$ by simpa using hi] at h2
    rw[QaV] at h2;split at h2 <;> cases h2
  have ha:vs[i]? =some v:=by
   unfold start at h2;rw[Qaz (by simpa using hi),Qaf] at h2
   cases e:vs[i]? with
   | none=>rw [e] at h2;cases h2
   | some a=>rw [e] at h2;cases h2;rfl
  obtain⟨u,hu,rv⟩:=r.get ha;have hp:ps[i]? =some y:=by
   rw[<-S.pre,QbB$ by omega];exact h1
  have ndP:ps.Nodup:=by rw[<-S.pre];exact S.nd.sublist$ List.take_sublist _ _
  refine⟨u,rv,?_⟩;rcases S.par y (QaD hp) with k | k
  .exact .inl ⟨k,xI ndP hp hu k⟩
  .obtain⟨c,e⟩:=vp (n:=s.heap.objs.size+1) k;refine .inr ⟨.inl k,c,e,?_⟩;have q:=x.cell y c e;rw[wV ndP hp hu$ by show scope.names.lookup y≠_;rw [k];decide] at q
   exact q
 .exact e0.hok.fresh (Nat.le_of_lt$ x.above y c$ Qbn h)
 .unfold start;show _=N.length;rw[Qau,Qaa,QaJ];omega
def Ny{CX:Gq}{P:Program}{w:World}{K:Qdi}{mg:Aaf}{base:Heap}{k:Nat}{f:Addr}{name qual:Str}{params:Arguments}{body:List Stmt}{scope:Scope}{dV kV doc pm fL ct oc:Value}{an od:Option Addr}
 {Gg:Array (Option Value)} {N ps:List Str} {sp:Sp} (lk:K.lookup f=some ⟨oc,od, .func$ PySem.W.fnOf name qual params body scope dV kV doc pm an fL ct,Gg⟩) (sL:PySem.W.codeIn K fL qual=true) (S:bj N ps scope)
 (len:∀vs H Q E,sp vs H Q E->vs.length=ps.length)
 (fH:∀(A:Around) (outer:List Env) (s:Qdj) (H:Hp) (vs:List V) (Q:VK) (E:XK),dZ k (A.deeper$ envOfC qual scope s.heap.objs.size f fL)->sp vs H Q E->
   ∃t,y4 (lV CX P w K mg base N qual scope f fL A outer s H E) body t/\t {nx:=λ_ H'=>Q .cI H',rt:=Q} (start N vs) H) :
 ip P w K mg base CX (k+1) f (PySem.W.fnOf name qual params body scope dV kV doc pm an fL ct) ps sp:=by
 refine⟨len,λA outer s H args us vs Q E hr e0 hb r Kv=>?_⟩
 have hl:=len _ _ _ _ Kv;have KX:K.In s.heap:=e0.mod.kin.keeps λb o e=>(e0.bs b o e).1
 have lim:s.heap.NoLimit:=e0.mod.nolimit.keeps λb o e=>(e0.bs b o e).1
 have hkind:∀y∈ps.zip us,scope.names.lookup y.1=some .local\/(scope.names.lookup y.1=some .cell/\((cellsFrom (s.heap.objs.size+1) scope.names []).lookup y.1).isSome=true):=λ⟨n,v⟩ hy=>by
  rcases S.par n (List.of_mem_zip hy).1 with q | q
  .exact .inl q
  .exact .inr ⟨q,PySem.W.cellsFrom_some _ _ _$ .inl q⟩
 refine codeAny_call_function hr.depth (KX _ _ lk) rfl S.co S.gen rfl (PySem.W.codeRec_of KX sL)$ hb _ _ _ _ ?_;refine wpAny_newFunctionEnv_cells S.kind hkind λenv he s1 x=>?_
 subst he;refine⟨lim.keeps x.toInCall.keep,codeAny_func ?_⟩;obtain⟨t,ht,hq⟩:=fH A outer s H vs Q E (hr.deeper _) Kv;have I:Inv (lV CX P w K mg base N qual scope f fL A outer s H E) [] (start N vs) H s1:=Ew S hr.hd e0 hl r x;refine QbM (ht [] s1 (start N vs) H _ I hq) (λfl s' hs=>?_) λe s' hs=>hs
 have fin:∀{c9:St} {H':Hp} {v:V} {u:Value},Inv (lV CX P w K mg base N qual scope f fL A outer s H E) [] c9 H' s'->RelV v u->Q v H'->CE outer P w H s Q u s':=
  fun {c9 H' v u} J rv q=>⟨v,H',J.os,J.bare,J.base,J.hok,rv,q⟩
 cases fl with
 | ret u=>
   obtain⟨v,c9,H',J,rv,q⟩:=hs;exact fin J rv q
 | next=>
   obtain⟨c9,H',J,q⟩:=hs;exact fin (v:=V.cI) (u:=Value.none) J rfl q
 | brk=>
   obtain⟨_,_,_,q⟩:=hs;exact False.elim q
 | cont=>
   obtain⟨_,_,_,q⟩:=hs;exact False.elim q
section
variable {X:Cx}{x:Str}{p pos:Pos}{e:Expr}{es:List Expr}{t:TA}{id T:String}{r:List V->Hp->VK->Prop}
def X4(r:List V->Hp->VK->Prop)(t:TA):TE:=λσ H Q=>t σ H λvs H1=>r vs H1 Q
def nD(hc:iU X (.builtin id) r)(hg:Gl X x)(hm:X.mg x=none)(hv:bootBuiltins x=some (.builtin id))(ha:PA X (e ::es) t)(hn:x≠"__name__":=by decide)(oi:(x==("__debug__":Str))=false:=by decide)
 (he:starEach (e ::es) X.env=(false,eval e X.env) ::starEach es X.env:=by rfl) (hJ:(backTo pos$ starEach es X.env).any (·.1)=false:=by rfl):PE X (.Call (.Name x p) (e ::es) [] pos) (X4 r t):=by
 intro pins s σ H Q I h;refine Qch$ l8 I hg hm hv ?_ hn oi;exact PyProof.Rows.callWith_builtin1 (dP (ha pos pins s σ H _ I h) λus s1 ⟨vs,H1,I1,r1,q1⟩=>hc pins s1 σ H1 vs us Q I1 r1 q1) he hJ
def ET(hc:iU X (.type T) r)(hg:Gl X x)(hm:X.mg x=none)(hv:bootBuiltins x=some (.type T))(ha:PA X (e ::es) t)(hn:x≠"__name__":=by decide)(oi:(x==("__debug__":Str))=false:=by decide)
 (he:starEach (e ::es) X.env=(false,eval e X.env) ::starEach es X.env:=by rfl) (hJ:(backTo pos$ starEach es X.env).any (·.1)=false:=by rfl):PE X (.Call (.Name x p) (e ::es) [] pos) (X4 r t):=by
 intro pins s σ H Q I h;refine Qch$ l8 I hg hm hv ?_ hn oi;exact Qba (dP (ha pos pins s σ H _ I h) λus s1 ⟨vs,H1,I1,r1,q1⟩=>hc pins s1 σ H1 vs us Q I1 r1 q1) he hJ
end
section
variable {κ:Type}[DecidableEq κ]
noncomputable def nR(aW:List (κ × V))(k:κ):Option V:=(aW.find? λkv=>decide$ kv.1=k).map (·.2)
noncomputable def putK(aW:List (κ × V))(k:κ)(v:V):List (κ × V):=
 if(aW.any λkv=>decide$ kv.1=k)=true then aW.map (λkv=>if kv.1=k then(kv.1,v) else kv) else aW++[(k,v)]
noncomputable def Js(aW:List (κ × V))(k:κ):List (κ × V):=aW.filter λkv=>decide$ kv.1≠k
def Ah{p:κ × V}{r:List (κ × V)}{k:κ}(e:p.1=k):nR (p ::r) k=some p.2:=by simp [nR,QbO,e]
def AO{p:κ × V}{r:List (κ × V)}{k:κ}(e:¬p.1=k):nR (p ::r) k=nR r k:=by simp [nR,QbO,e]
def AB(aW:List (κ × V))(k:κ)(v:V):(putK aW k v).length<=aW.length+1:=by
 unfold putK;split
 .rw [Qaa];omega
 .rw [Qau,QaB,QbW];omega
def qM.getD{o:Option V}{u:Option Value}{d:V}{d':Value}(r:qM o u)(rd:RelV d d'):RelV (o.getD d) (u.getD d'):=by
 cases o with
 | none=>cases u with
   | none=>exact rd
   | some _=>exact(show False from r).elim
 | some _=>cases u with
   | none=>exact(show False from r).elim
   | some _=>exact r
def KV.val{aW:List (κ × V)}{vs:List (κ × Value)}(r:KV aW vs)(k:κ):qM (nR aW k) (valueAt vs k):=by
 unfold KV at r
 induction r with
 | nil=>exact True.intro
 | @cons p q ps qs h t ih=>
   obtain⟨h1,h2⟩:=h;by_cases e:p.1=k
   .have e':q.1=k:=h1.symm.trans e;have b:valueAt (q ::qs) k=some q.2:=by simp [valueAt,QbO,e']
    rw[Ah e,b];exact h2
   .have e':¬q.1=k:=λz=>e (h1.trans z)
    have b:valueAt (q ::qs) k=valueAt qs k:=by simp [valueAt,QbO,e']
    rw[AO e,b];exact ih
def KV.any{aW:List (κ × V)}{vs:List (κ × Value)}(r:KV aW vs)(k:κ):(aW.any λkv=>decide$ kv.1=k)=vs.any λkv=>decide (kv.1=k):=by
 unfold KV at r
 induction r with
 | nil=>rfl
 | cons h t ih=>rw [QbG,QbG,ih,h.1]
def KV.VM{aW:List (κ × V)}{vs:List (κ × Value)}(r:KV aW vs)(k:κ){y:V}{u:Value}(ry:RelV y u) :
 KV (aW.map λkv=>if kv.1=k then(kv.1,y) else kv) (vs.map λkv=>if kv.1=k then(kv.1,u) else kv):=by
 unfold KV at r ⊢
 induction r with
 | nil=>exact .nil
 | @cons p q ps qs h t ih=>
   rw[QaO,QaO];refine .cons ?_ ih;obtain⟨h1,h2⟩:=h;by_cases e:p.1=k
   .rw [QaG e,QaG$ h1.symm.trans e];exact⟨h1,ry⟩
   .rw [QaA e,QaA$ λz=>e$ h1.trans z];exact⟨h1,h2⟩
def KV.put{aW:List (κ × V)}{vs:List (κ × Value)}(r:KV aW vs)(k:κ){y:V}{u:Value}(ry:RelV y u):KV (putK aW k y) (stored vs k u):=by
 unfold putK stored;rw[r.any k];by_cases e:(vs.any λkv=>decide$ kv.1=k)=true
 .rw [QaG e,QaG e];exact r.VM k ry
 .rw [QaA e,QaA e];exact Paired.snoc r ⟨rfl,ry⟩
end
def Jl{k:Key}{u:Value}(r:RelV (kV k) u):(dD P w).is k u=true:=by
 cases k with
 | inl i=>obtain⟨t,e⟩:=(show ∃t,u=Value.int i t from r);subst e;exact Aw P w i t
 | inr x=>obtain⟨t,e⟩:=(show ∃t,u=Value.str x t from r);subst e;exact Ax P w x t
theorem xr:∀{ks:List Key} {us:List Value},Vals (ks.map kV) us->ItemsAre (dD P w) ks us
 | [],_,r=>by rw[QcE] at r;cases r;exact .nil
 | k ::ks,_,r=>by
   rw[QaO] at r;cases r with
   | cons h t=>exact .cons (Jl h)$ xr t
abbrev KT(H:Hp):List (List Key × V)->List (List Key × Addr × Value)->Prop:=Paired fun p q=>p.1=q.1/\H q.2.1=some (.tup$ p.1.map kV)/\RelV p.2 q.2.2
def KT.val{aW:List (List Key × V)}{xs:List (List Key × Addr × Value)}(r:KT H aW xs)(k:List Key):qM (nR aW k) ((atKey xs k).map (·.2)):=by
 induction r with
 | nil=>exact True.intro
 | @cons p q ps qs h t ih=>
   obtain⟨h1,_,h2⟩:=h;by_cases e:p.1=k
   .have e':q.1=k:=h1.symm.trans e;have b:atKey (q ::qs) k=some q.2:=by simp [atKey,QbO,e']
    rw[Ah e,b];exact h2
   .have e':¬q.1=k:=λz=>e (h1.trans z)
    have b:atKey (q ::qs) k=atKey qs k:=by simp [atKey,QbO,e']
    rw[AO e,b];exact ih
section
variable {P:Program}{w:World}{H:Hp}{h:Heap}{a:Addr}
def NG{u:HO}(ok:mF P w H h)(e:Rd H a u):dk P w H h a u:=e.ok ok
def Iw{aW:List (Key × V)}(ok:mF P w H h)(e:Rd H a (.dK aW)):aW.length<=sizeLine/\(a==sysModules)=false/\∃vs,KV aW vs/\h.DictOf (dD P w) a vs:=
 show dk P w H h a (.dK aW) from NG ok e
def Ry{aW:List (Key × V)}(ok:mF P w H h)(e:H a=some (.dK aW)):aW.length<=sizeLine/\(a==sysModules)=false/\∃vs,KV aW vs/\h.DictOf (dD P w) a vs:=Iw ok$ .inl e
def IZ{ks:List Key}(ok:mF P w H h)(e:H a=some (.tup$ ks.map kV)):(tupleKind$ dD P w).is h ks a:=by
 obtain⟨_,its,r,o,h1,h2,n,h3⟩:=(show dk P w H h a (.tup$ ks.map kV) from ok a _ e)
 exact⟨o,its.toArray,n,h1,h2,h3,by simpa using xr r⟩
def M8{aW:List (List Key × V)}(ok:mF P w H h)(e:Rd H a (.dT aW)):aW.length<=sizeLine/\(a==sysModules)=false/\
 ∃xs,KT H aW xs/\h.DictOfH (tupleKind$ dD P w) a xs:=by
 obtain⟨z,y,xs,r,o,es,ep,h1,h2,h3,h4,h5⟩:=(show dk P w H h a (.dT aW) from NG ok e)
 refine⟨z,y,xs,r,o,es,ep,h1,h2,h3,h4,λx hx=>?_,h5⟩
 have all:∀{l:List (List Key × V)} {m:List (List Key × Addr × Value)},KT H l m->∀x∈m,(tupleKind$ dD P w).is h x.1 x.2.1:=by
  intro l m q
  induction q with
  | nil=>intro x hx;exact nomatch hx
  | @cons p q ps qs hq t ih=>
    intro x hx;rcases Qaw.mp hx with e | hx
    .subst e;exact IZ ok (by rw[<-hq.1];exact hq.2.1)
    .exact ih x hx
 exact all r x hx
end
def wm(H:Hp)(a:Addr)(y:V)(r:Option V):Prop:=
 (∃aW k,Rd H a (.dK aW)/\y=kV k/\r=nR aW k)\/∃aW k b,Rd H a (.dT aW)/\y= .ref b/\H b=some (.tup$ k.map kV)/\r=nR aW k
def Su(H:Hp)(a:Addr)(y v:V)(H':Hp):Prop:=
 (∃aW k,H a=some (.dK aW)/\y=kV k/\aW.length<sizeLine/\H'=upd H a (.dK$ putK aW k v))\/
 ∃aW k b,H a=some (.dT aW)/\y= .ref b/\H b=some (.tup$ k.map kV)/\aW.length<sizeLine/\H'=upd H a (.dT$ putK aW k v)
def wm.k{H:Hp}{a:Addr}{aW:List (Key × V)}{k:Key}(e:H a=some (.dK aW)):wm H a (kV k) (nR aW k):= .inl ⟨aW,k, .inl e,rfl,rfl⟩
section
variable {X:Cx}{pins:Aaa}{σ:St}{H:Hp}{s:Qdj}{a:Addr}
def Inv.big(I:Inv X pins σ H s):sysModules<s.heap.objs.size:=by
 have h:mainGlobals<s.heap.objs.size:=(I.mod.glob.keeps I.bk).lt;exact Nat.lt_trans (by decide) h
def L5{h':Heap}{t':Nat}{ob:HO}(I:Inv X pins σ H s)(mu:TJ (H a))(hs:Heap.SameBut a s.heap h')(he:∃q,h'.get? a=some q)(new:dk X.prog X.w (upd H a ob) h' a ob) :
 Inv X pins σ (upd H a ob) {s with heap:=h',toks:=t'}:=
 I.write (x:=a) (e:=a) mu (.inl rfl) (λb q hb z=>(hs.2 b hb).trans z) he new
def Pn{H':Hp}{h':Heap}{aW:List (Key × V)}{vs:List (Key × Value)}(z:aW.length<=sizeLine)(hd:(a==sysModules)=false)(rel:KV aW vs)(dd:h'.DictOf (dD P w) a vs) :
 dk P w H' h' a (.dK aW):=⟨z,hd,vs,rel,dd⟩
end
def aal(i:Expr):Prop:=∀ov iv,subscripted i false ov iv=operate [ov,iv] (getItem ov iv)
def YY(td ty:TE):TE:=λσ H Q=>td σ H λx H1=>ty σ H1 λy H2=>∃a v,x= .ref a/\wm H2 a y (some v)/\Q v H2
def Zt(ty td:TE):TE:=λσ H Q=>ty σ H λy H1=>td σ H1 λx H2=>∃a o,x= .ref a/\wm H2 a y o/\Q (.bl o.isSome) H2
def UL(ty td:TE):TE:=λσ H Q=>ty σ H λy H1=>td σ H1 λx H2=>∃a o,x= .ref a/\wm H2 a y o/\Q (.bl$ !o.isSome) H2
def YA(td ty tv:TE):TS:=λD σ H=>tv σ H λv H1=>td σ H1 λx H2=>ty σ H2 λy H3=>∃a H4,x= .ref a/\Su H3 a y v H4/\D.nx σ H4
def X_(td ty tv:TE)(rd:V->V->Hp->VK->Prop):TS:=λD σ H=>td σ H λx H1=>ty σ H1 λy H2=>∃a v,x= .ref a/\wm H2 a y (some v)/\
 tv σ H2 λy2 H3=>rd v y2 H3 λz H4=>∃H5,Su H4 a y z H5/\D.nx σ H5
def YV(td ty:TE):TS:=λD σ H=>td σ H λx H1=>ty σ H1 λy H2=>∃a aW k,x= .ref a/\H2 a=some (.dK aW)/\y=kV k/\(nR aW k).isSome=true/\D.nx σ (upd H2 a$ .dK$ Js aW k)
def Jy(h:Heap)(hb:sysModules<h.objs.size):dk P w H (h.push {cls:= .type "dict",data:= .dict #[]}) h.objs.size (.dK []):=
 ⟨Qbf _,Qa9.mpr$ QbE$ QaE hb,[], .nil,Heap.DictOf.new h⟩
def Wv:TE:=λ_ H Q=>∀p,H p=none->Q (.ref p) (upd H p$ .dK [])
def Ws:TE:=λ_ H Q=>∀p,H p=none->Q (.ref p) (upd H p$ .dT [])
def sd:List (TE × TE)->St->Hp->(List (V × V)->Hp->Prop)->Prop
 | [],_,H,Q=>Q [] H
 | (tk,tv) ::r,σ,H,Q=>tk σ H λx H1=>tv σ H1 λy H2=>sd r σ H2 λps H3=>Q ((x,y) ::ps) H3
abbrev VV:List (V × V)->List (Value × Value)->Prop:=Paired fun p q=>RelV p.1 q.1/\RelV p.2 q.2
def N1(X:Cx)(pos:Pos)(keys:List (Option Expr))(values:List Expr)(xM:List (TE × TE)):Prop:=
 ∀(pins:Aaa) (s:Qdj) (σ:St) (H:Hp) (Q:List (V × V)->Hp->Prop),Inv X pins σ H s->sd xM σ H Q->
  wpAny (model X.prog X.w) X.A (evalPairs$ pairTrees keys values X.env pos) (λvs s'=>∃ps H',Inv X pins σ H' s'/\VV ps vs/\Q ps H') X.xe s
def DZ{X:Cx}:N1 X pos [] [] []:=λpins s σ H Q I h=>pairTrees_nil_walk ⟨[],H,I, .nil,h⟩
def qz{X:Cx}{ks:List (Option Expr)}{tk tv:TE}{xM:List (TE × TE)}(hk:PE X k tk)(hv:PE X v tv)(hr:N1 X pos ks vs xM) :
 N1 X pos (some k ::ks) (v ::vs) ((tk,tv) ::xM):=λpins s σ H Q I h=>
 pairTrees_cons_walk (dP (hk pins s σ H _ I h) λu s1 ⟨x,H1,I1,rx,q1⟩=>dP (hv pins s1 σ H1 _ I1 q1) λw2 s2 ⟨y,H2,I2,ry,q2⟩=>
  dP (hr pins s2 σ H2 _ I2 q2) λws s3 ⟨ps,H3,I3,rel,q3⟩=>⟨(x,y) ::ps,H3,I3, .cons ⟨rx,ry⟩ rel,q3⟩)
def l5(aW more:List (Key × V)):List (Key × V):=more.foldl (λacc kv=>putK acc kv.1 kv.2) aW
def KV.merge:∀{more:List (Key × V)} {rs:List (Key × Value)} {aW:List (Key × V)} {vs:List (Key × Value)},KV more rs->KV aW vs->KV (l5 aW more) (merged vs rs):=by
 intro more rs aW vs r;unfold KV at r
 induction r generalizing aW vs with
 | nil=>intro q;exact q
 | @cons p q ps qs h t ih=>
   intro r0;have e:KV (putK aW p.1 p.2) (stored vs q.1 q.2):=by
    have:=r0.put p.1 h.2;rw[<-h.1];exact this
   exact ih e
theorem pj:∀(more aW:List (Key × V)),(l5 aW more).length<=aW.length+more.length
 | [],aW=>by show aW.length<=aW.length+0;omega
 | p ::r,aW=>by
   have h1:=pj r$ putK aW p.1 p.2;have h2:=AB aW p.1 p.2;show(l5 (putK aW p.1 p.2) r).length<=_;rw[QaB];omega
theorem vE:∀{aW:List (Key × V)} {ws:List (Value × Value)},VV (aW.map λkv=>(kV kv.1,kv.2)) ws->∃rs,Carries (dD P w) ws rs/\KV aW rs
 | [],_,r=>by rw[QcE] at r;cases r;exact⟨[],True.intro, .nil⟩
 | p ::aW,_,r=>by
   rw[QaO] at r;cases r with
   | @cons a b as bs h t=>
     obtain⟨rs,c,q⟩:=vE (P:=P) (w:=w) t;obtain⟨b1,b2⟩:=b;exact⟨(p.1,b2) ::rs,⟨Jl h.1,rfl,c⟩, .cons ⟨rfl,h.2⟩ q⟩
def IF(xM:List (TE × TE)):TE:=λσ H Q=>∀p,H p=none->sd xM σ (upd H p$ .dK []) λps H2=>H2 p=some (.dK [])/\∃aW:List (Key × V),ps=aW.map (λkv=>(kV kv.1,kv.2))/\aW.length<=15/\Q (.ref p) (upd H2 p$ .dK$ l5 [] aW)
def L_{X:Cx}{pos:Pos}{keys:List (Option Expr)}{values:List Expr}{xM:List (TE × TE)}(h:N1 X pos keys values xM)(Gm:keys.all (·.isSome)=true)(hl:keys.length=values.length)(h0:keys≠[])
 (h15:keys.length<=15):PE X (.Dict keys values pos) (IF xM):=by
 intro pins s σ H Q I q;have hn:=I.hok.fresh$ Qai s.heap.objs.size;have I1:=I.laid (a:=s.heap.objs.size) (o:= .dK []) (h':=s.heap.push {cls:= .type "dict",data:= .dict #[]}) (t':=s.toks) (λ_ _ q=>Qac _ q) (Qai _)$ Jy s.heap I.big
 refine wpAny_Dict_walk (knd:=dD X.prog X.w) Gm hl h0 h15$ dP (h pins _ σ _ _ I1$ q _ hn) λws s2 ⟨ps,H2,I2,rel,e,aW,ep,lk,q2⟩=>?_
 subst ep;obtain⟨rs,c,rk⟩:=vE (P:=X.prog) (w:=X.w) rel;obtain⟨z,hd,vs0,r0,dd⟩:=Ry I2.hok e;cases r0;refine⟨rs,c,dd,λh' Y8 hs=>⟨.ref s.heap.objs.size,_,?_,rfl,q2⟩⟩
 have hz:(l5 [] aW).length<=sizeLine:=by
  have h1:=pj aW [];rw[QbW] at h1;rw[Qam];omega
 have he:∃q,h'.get? s.heap.objs.size=some q:=let⟨q,_,_,hq,_⟩:=Y8;⟨q,hq⟩
 exact L5 I2 (by rw[e];exact True.intro) hs he$ Pn hz hd (rk.merge .nil) Y8
structure M1 (X:Cx) (o:Expr) (m:Str) (apos:Pos) (e:Expr) (cF:Pos):Prop where
 base:attributeBase o m X.env (eval o X.env)=eval o X.env
 Ve:((backTo cF (starEach [e] X.env)).all (fun x=>!x.1) && (backToKw cF (keywordEach [] X.env)).all (fun x=>x.1.isSome)
  && decide (([e]:List Expr).length+([]:List Keyword).length+(if([]:List Keyword).isEmpty then 0 else 1)<30))=true
 line:(apos.endLine==cF.line)=true
 trees:backTo cF (starEach [e] X.env)=[(false,eval e X.env)]
structure M2 (X:Cx) (o:Expr) (m:Str) (apos:Pos) (e f:Expr) (cF:Pos):Prop where
 base:attributeBase o m X.env (eval o X.env)=eval o X.env
 Ve:((backTo cF (starEach [e,f] X.env)).all (fun x=>!x.1) && (backToKw cF (keywordEach [] X.env)).all (fun x=>x.1.isSome)
  && decide (([e,f]:List Expr).length+([]:List Keyword).length+(if([]:List Keyword).isEmpty then 0 else 1)<30))=true
 line:(apos.endLine==cF.line)=true
 trees:backTo cF (starEach [e,f] X.env)=[(false,eval e X.env),(false,eval f X.env)]
def Rn(H:Hp)(a:Addr):Prop:=(∃aW,Rd H a$ .dK aW)\/∃aW,Rd H a$ .dT aW
def NP{X:Cx}{pins:Aaa}{s:Qdj}{a:Addr}(I:Inv X pins σ H s)(d:Rn H a) :
 s.TypeIs (.ref a) "dict"/\(∀b,Value.ref a= .ref b->∃ob,s.heap.get? b=some ob/\ob.dict=none)/\(a==sysModules)=false:=by
 rcases d with⟨aW,e⟩ | ⟨aW,e⟩
 .obtain⟨_,hd,vs,_,dd⟩:=Iw I.hok e;refine⟨dd.typeIs,λb q=>?_,hd⟩
  cases q;obtain⟨ob,_,_,h1,h2,_⟩:=dd;exact⟨ob,h1,h2.2.1⟩
 .obtain⟨_,hd,xs,_,dd⟩:=M8 I.hok e;refine⟨dd.typeIs,λb q=>?_,hd⟩
  cases q;obtain⟨ob,_,_,h1,h2,_⟩:=dd;exact⟨ob,h1,h2.2.1⟩
section
variable {X:Cx}{pins:Aaa}{σ:St}{H:Hp}{s:Qdj}{a:Addr}{y d:V}{u r:Value}{o:Option V}{A:Around}{E:Aab}
def QC{Q:Aab}(hu:A.units+1<cLine)(I:Inv X pins σ H s)(g:wm H a y o)(ry:RelV y u)(rd:RelV d r)(h:∀w' s',Inv X pins σ H s'->RelV (o.getD d) w'->Q w' s') :
 wpAny (model X.prog X.w) A (call (.builtin "dict.get") [.ref a,u,r]) Q E s:=by
 rcases g with⟨aW,k,e,ey,l⟩ | ⟨aW,k,b,e,ey,eb,l⟩
 .subst ey;obtain⟨z,hd,vs,rel,dd⟩:=Iw I.hok e;refine call_meetsIn Qcz dd.typeIs PySem.F.entry_dict_get (PySem.F.args_dict_get_3 _ _ _) (meets_dict_get_default (dD X.prog X.w) a (Jl ry) hd r) ⟨_,dd.mapOf,h _ _ (I.tok _) ?_⟩;rw[l];exact(rel.val k).getD rd
 .subst ey;cases(show u=Value.ref b from ry)
  obtain⟨z,hd,xs,rel,dd⟩:=M8 I.hok e;refine call_meetsIn Qcz dd.typeIs PySem.F.entry_dict_get (PySem.F.args_dict_get_3 _ _ _) (meetsH_dict_get_default (tupleKind$ dD X.prog X.w) a b hd r) ⟨tupleKind_room_in1 hu,k,xs,IZ I.hok eb,dd,h _ _ (I.tok _) ?_⟩;rw[l];exact(rel.val k).getD rd
end
def Vu(td ty:TE):TE:=λσ H Q=>td σ H λx H1=>∃a,x= .ref a/\Rn H1 a/\ty σ H1 λy H2=>∃o,wm H2 a y o/\Q (o.getD .cI) H2
def NR(td ty tx:TE):TE:=λσ H Q=>td σ H λx H1=>∃a,x= .ref a/\Rn H1 a/\ty σ H1 λy H2=>tx σ H2 λz H3=>∃o,wm H3 a y o/\Q (o.getD z) H3
def VG(td ty:TE):TE:=λσ H Q=>td σ H λx H1=>∃a,x= .ref a/\Rn H1 a/\ty σ H1 λy H2=>∃aW k v,H2 a=some (.dK aW)/\y=kV k/\nR aW k=some v/\Q v (upd H2 a$ .dK$ Js aW k)
def Wq(td ty tx:TE):TE:=λσ H Q=>td σ H λx H1=>∃a,x= .ref a/\Rn H1 a/\ty σ H1 λy H2=>tx σ H2 λz H3=>∃aW k,H3 a=some (.dK aW)/\y=kV k/\
 (∀v,nR aW k=some v->Q v (upd H3 a$ .dK$ Js aW k))/\(nR aW k=none->Q z H3)
section
variable {X:Cx}{o e f:Expr}{apos cF:Pos}{td ty tx:TE}
def Hw(hu:X.A.units+1<cLine)(ho:PE X o td)(he:PE X e ty)(hf:PE X f tx)(m:M2 X o "get" apos e f cF):PE X (.Call (.Attribute o "get" apos) [e,f] [] cF) (NR td ty tx):=by
 intro pins s σ H Q I h;refine wpAny_Call_method m.base m.Ve m.line PySem.F.plainAttrs_dict Qcz PySem.F.type_dict_get$ dP (ho pins s σ H _ I h) λu s1 ⟨x,H1,I1,rx,a,ex,d,q1⟩=>?_
 subst ex;obtain rfl:u=Value.ref a:=rx;obtain⟨t1,t2,_⟩:=NP I1 d;refine⟨t1,t2,?_⟩;rw[m.trees];refine Calls.callWith_builtin rfl (QcF (QcZ (dP (he pins s1 σ H1 _ I1 q1) λiv s2 ⟨y,H2,I2,ry,q2⟩=>
  QcZ (dP (hf pins s2 σ H2 _ I2 q2) λfv s3 ⟨z,H3,I3,rz,ov,g,q3⟩=>Calls.spliced_nil ?_))))
 exact QC hu I3 g ry rz λw' s4 I4 xO=>⟨_,H3,I4,xO,q3⟩
end
end L2
namespace HT
open PySem PyProof.Rows
noncomputable def lexLt:List Int->List Int->Bool
 | [],[]=>false
 | [],_ ::_=>true
 | _ ::_,[]=>false
 | x ::xs,y ::ys=>if x=y then lexLt xs ys else decide (x<y)
def Bs(x y:Int)(xs ys:List Int):lexLt (x ::xs) (y ::ys)=if x=y then lexLt xs ys else decide (x<y):=rfl
def wK:lexLt [] []=false:=rfl
def uQ(y:Int)(ys:List Int):lexLt [] (y ::ys)=true:=rfl
def uL(x:Int)(xs:List Int):lexLt (x ::xs) []=false:=rfl
def Ju(A:Around)(s:Qdj)(a:Int)(t:Tok)(c:Int)(u:Tok):∃e,SeqAt.EqAt A s (.int a t) (.int c u) e/\(e=true↔a=c):=
 ⟨(a==c),SeqAt.EqAt.int_int a t c u,by simp⟩
def Hn(A:Around)(s:Qdj)(a:Int)(t:Tok)(c:Int)(u:Tok)(prog:Program)(w:World)(E:Aab)(Q:Aab)(h:Q (.bool$ decide$ a<c) s) :
 wpAny (model prog w) A (richCompare .Lt (.int a t)$ .int c u) Q E s:=
 (PyProof.Rows.lt_int h:wpAny (model prog w) A (compareOp .Lt (.int a t)$ .int c u) Q E s)
section
open PySem.SeqAt
open PySem.AutoSeq1 (wpAny_loadPart')
open PySem.MeetsSeq PySem.MeetsSeq2 PySem.MeetsSeq3
def wg(l b:Addr)(items k_:Array Value)(n n2:Nat)(dd NL:Option Addr)(sl Gw:Array (Option Value))(ns ms:List Int)(hi:IntsAre items.toList ns)(hj:IntsAre k_.toList ms) :
 Meets (Builtin.«tuple.__lt__» ⟨[.ref l, .ref b],[]⟩)
  (λ_ R s=>s.heap.get? l=some {cls:= .type "tuple",dict:=dd,data:= .seq items n,slots:=sl}/\s.heap.get? b=some {cls:= .type "tuple",dict:=NL,data:= .seq k_ n2,slots:=Gw}/\
    R (.ok$ .ret$ .bool$ lexLt ns ms) s):=
 .of_wp λprog w A R s h=>by
   obtain⟨hp,g,d,tk,os⟩:=s;obtain⟨hl,hb,h⟩:=h;have f2:=AutoSeq1.sub_tuple_tuple;have z1:items.size=ns.length:=by rw[<-hi.length];simp
   have z2:k_.size=ms.length:=by rw[<-hj.length];simp
   wp_walk using wpAny_loadPart' hl,wpAny_loadPart' hb,wpAny_forIn_list _ (λrest b s'=>b.1=none/\s'=⟨hp,g,d,tk,os⟩/\∃(vs ws:List Value) (Rw Rx:List Int),rest=vs.zip ws/\
    IntsAre vs Rw/\IntsAre ws Rx/\Rw.length+k_.size=Rx.length+items.size/\R (.ok$ .ret$ .bool$ lexLt Rw Rx) ⟨hp,g,d,tk,os⟩) _
   case turn=>
    rintro⟨y,x⟩ rest b s' ⟨rD,rfl,vs,ws,Rw,Rx,hz,hvi,hwi,hlen,hR⟩;cases hvi with
    | nil=>rw [List.zip_nil_left] at hz;cases hz
    | cons a t XT=>
      cases hwi with
      | nil=>rw [List.zip_nil_right] at hz;cases hz
      | cons c u Xy=>
        rw[List.zip_cons_cons] at hz;injection hz with hyx hrest
        injection hyx with hy hx
        subst hy hx;rw[Bs] at hR;simp only[QaB] at hlen;obtain⟨e,he,hiff⟩:=Ju A.in1 ⟨hp,g,d,tk,os⟩ a t c u;refine Qab$ he prog w _ _ ?_;cases e with
        | true=>
          rw[QaG$ hiff.mp rfl] at hR
          wp_walk
          exact⟨rfl,rfl,_,_,_,_,hrest,XT,Xy,by omega,hR⟩
        | false=>
          rw[QaA$ λq=>absurd (hiff.mpr q) Qay] at hR
          have hri:=Hn A.in1 ⟨hp,g,d,tk,os⟩ a t c u prog w
          wp_walk using hri
          exact⟨_,rfl,by simpa using hR⟩
   case fin=>
    rintro⟨b1,b2⟩ s' ⟨rD,rfl,vs,ws,Rw,Rx,hz,hvi,hwi,hlen,hR⟩;simp only at rD;subst rD;have hv:lexLt Rw Rx=decide (items.size<k_.size):=by
     cases hvi with
     | nil=>
       cases hwi with
       | nil=>
         simp only[QbW] at hlen;rw[wK];exact(Qax$ by omega).symm
       | cons c u hw=>
         simp only[QbW,QaB] at hlen;rw[uQ];exact(Qan$ by omega).symm
     | cons a t hv=>
       cases hwi with
       | nil=>
         simp only[QbW,QaB] at hlen;rw[uL];exact(Qax$ by omega).symm
       | cons c u hw=>
         rw[List.zip_cons_cons] at hz;cases hz
    rw[hv] at hR
    wp_walk
    exact⟨_,rfl,by simpa [Builtin.Tuple.tupleCompareSizes] using hR⟩
   case h=>
    exact⟨rfl,rfl,items.toList,k_.toList,ns,ms,rfl,hi,hj,by omega,h⟩
end
section
variable {prog:Program}{w:World}{A:Around}{E:Aab}{s:Qdj}
def Cw{l b:Addr}{items k_:Array Value}{ns ms:List Int}{Q:Aab}(hl:IsTup s.heap l items)(hb:IsTup s.heap b k_)(hi:IntsAre items.toList ns)(hj:IntsAre k_.toList ms)
 (hu:A.units<cLine) (h:Q (.bool$ lexLt ns ms) s):wpAny (model prog w) A (compareOp .Lt (.ref l)$ .ref b) Q E s:=by
 obtain⟨⟨cls,dd,data,sl⟩,ho,hc,n,hd⟩:=id hl;obtain⟨⟨Ug,NL,data2,Gw⟩,Ks,Bf,n2,hd2⟩:=id hb;simp only at hc hd Bf hd2;subst hc hd Bf hd2;exact richCompare_meets_room (op:= .Lt) ⟨_,ho,rfl⟩ ⟨_,Ks,rfl⟩ PySem.F.slot_tuple_lt PySem.F.entry_tuple_lt (PySem.F.args_tuple_lt_2 _ _) (wg l b items k_ n n2 dd NL sl Gw ns ms hi hj)
  ⟨ho,Ks,show Value.bool (lexLt ns ms)≠Value.notImplemented/\Q (.bool$ lexLt ns ms) s from⟨(λx=>nomatch x),h⟩⟩ hu
def Lf{t b:Addr}{vs ws:List Value}{Q:Aab}(ht:IsTup s.heap t vs.toArray)(hb:IsTup s.heap b ws.toArray)(hv:vs≠[])
 (h1:ws=[]->Q (.ref t) s) (h2:ws≠[]->Q (.ref s.heap.objs.size) {s with heap:=s.heap.push {cls:= .type "tuple",data:= .seq (vs++ws).toArray}})
 (hsz:vs.length+ws.length<=sizeLine):wpAny (model prog w) A (binaryOp .Add (.ref t)$ .ref b) Q E s:=by
 obtain⟨⟨cls,dd,data,sl⟩,ho,hc,n,hd⟩:=id ht;obtain⟨⟨Ug,NL,data2,Gw⟩,Ks,Bf,n2,hd2⟩:=id hb;simp only at hc hd Bf hd2;subst hc hd Bf hd2;have e:vs.toArray++ws.toArray=(vs++ws).toArray:=by simp
 by_cases hw:ws=[]
 .exact concat_meets ⟨_,ho,rfl⟩ ⟨_,Ks,rfl⟩ noFill_tuple_add seq_tuple_add Qct Qcm (Qcj _ _)
   (tuple_addW1 t b vs.toArray ws.toArray n n2 dd NL sl Gw (by simpa using hv) (by simp [hw])) ⟨ho,Ks,h1 hw⟩
 .refine concat_meets ⟨_,ho,rfl⟩ ⟨_,Ks,rfl⟩ noFill_tuple_add seq_tuple_add Qct Qcm (Qcj _ _)
   (tuple_addW2 t b vs.toArray ws.toArray n n2 dd NL sl Gw (by simpa using hv) (by simpa using hw) (by rw[Qao,Qao];exact hsz)) ⟨ho,Ks,?_⟩
  rw[e];exact h2 hw
noncomputable def gh(n d:Nat):Option Int->Nat
 | none=>d
 | some v=>if v<0 then(v+(n:Int)).toNat else min v.toNat n
def AM(n d:Nat):gh n d none=d:=rfl
def uq(n d k:Nat):gh n d (some (k:Int))=min k n:=by
 show(if(k:Int)<0 then((k:Int)+(n:Int)).toNat else min (k:Int).toNat n)=min k n
 rw[QaA (by omega),Qbu]
def NV(n d:Nat)(hd:d<=n)(o:Option Int):gh n d o<=n:=by
 cases o with
 | none=>exact hd
 | some v=>
   show(if v<0 then(v+(n:Int)).toNat else min v.toNat n)<=n
   by_cases hv:v<0
   .rw [QaG hv];omega
   .rw [QaA hv];exact Nat.min_le_right _ _
def DJ(v:Int)(n d:Nat):(if v<0 then max (v+(n:Int)) 0 else min v (n:Int))=((gh n d (some v):Nat):Int):=by
 show(if v<0 then max (v+(n:Int)) 0 else min v (n:Int))=(((if v<0 then(v+(n:Int)).toNat else min v.toNat n):Nat):Int)
 by_cases hv:v<0
 .simp only[QaG hv];omega
 .simp only[QaA hv];omega
def Bj(lo hi:Option Int)(n:Nat):Builtin.Slice.sliceAdjust lo hi 1 (n:Int)=(((gh n 0 lo:Nat):Int),((gh n n hi:Nat):Int)):=by
 have h1:¬((1:Int)<0):=by omega
 unfold Builtin.Slice.sliceAdjust;simp only[h1,if_false];refine Prod.ext ?_ ?_
 .cases lo with
  | none=>rfl
  | some v=>exact DJ v n 0
 .cases hi with
  | none=>rfl
  | some v=>exact DJ v n n
def Co(i j:Nat):Builtin.Slice.slicePlaces (i:Int) (j:Int) 1=j - i:=by
 unfold Builtin.Slice.slicePlaces;have h1:(1:Int) > 0:=by omega
 simp only[h1,QbP,Int.ediv_one];split <;> omega
def pY{v:Value}{o:Option Int}{Q:Option Int->Qdj->Prop}(p:IsPart v o)(h:Q o s):wpAny (model prog w) A (Builtin.Slice.slicePartIndex v) Q E s:=by
 cases p with
 | none=>exact slicePart_none h
 | int i t=>exact slicePart_int h
def sr{sl:Addr}{vl vu:Value}{lo hi:Option Int}{n:Nat}{Q:Int × Int × Nat->Qdj->Prop}(hs:s.heap.IsSliceOf sl vl vu .none)(pl:IsPart vl lo)(pu:IsPart vu hi)
 (h:Q (((gh n 0 lo:Nat):Int),1,gh n n hi - gh n 0 lo) s):wpAny (model prog w) A (Builtin.Slice.sliceApplied (.ref sl)$ pure (n:Int)) Q E s:=by
 obtain⟨os,zh,hcs,hds⟩:=id hs;unfold Builtin.Slice.sliceApplied Builtin.Slice.sliceFields;refine Qab$ Qab$ Qa5 zh hds (x:=vl) rfl$ Qab$ Qa5 zh hds (x:=vu) rfl$ Qab$ Qa5 zh hds (x:= .none) rfl$ Qaj ?_;refine Qab$ slicePart_none ?_;show wpAny _ _ (if((1:Int)==0)=true then _ else _) _ _ s
 rw[QaA$ by decide]
 refine Qab$ pY pl$ Qab$ pY pu$ Qab$ Qaj ?_;show wpAny _ _ (match Builtin.Slice.sliceAdjust lo hi 1 (n:Int) with | (lo,hi)=>pure (lo,(1:Int),Builtin.Slice.slicePlaces lo hi 1)) _ _ s
 rw[Bj lo hi n];show wpAny _ _ (pure (((gh n 0 lo:Nat):Int),(1:Int),Builtin.Slice.slicePlaces ((gh n 0 lo:Nat):Int) ((gh n n hi:Nat):Int) 1)) _ _ s;rw[Co];exact Qaj h
def HY(xs:Array Value)(i k:Nat):((List.range k).filterMap λ(m:Nat)=>xs[((i:Int)+(m:Int)*1).toNat]?).toArray=((xs.toList.drop i).take k).toArray:=by
 have e:(λ(m:Nat)=>xs[((i:Int)+(m:Int)*1).toNat]?)=λm=>xs[i+m]?:=by
  funext m;have:((i:Int)+(m:Int)*1).toNat=i+m:=by omega
  rw[this]
 rw[e];have:=pick_run xs i k;rw[List.filterMap_map] at this;have e2:((λx=>xs[x]?) ∘ λx=>i+x)=λm=>xs[i+m]?:=rfl
 rw[e2] at this;rw[this]
def qq{t sl:Addr}{items:Array Value}{vl vu:Value}{lo hi:Option Int}{Q:Aab}(ht:IsTup s.heap t items)(hs:s.heap.IsSliceOf sl vl vu .none)(pl:IsPart vl lo)(pu:IsPart vu hi)
 (hw:¬(gh items.size 0 lo=0/\gh items.size items.size hi=items.size))
 (h:Q (.ref s.heap.objs.size) {s with heap:=s.heap.push {cls:= .type "tuple",data:= .seq ((items.toList.drop$ gh items.size 0 lo).take$ gh items.size items.size hi - gh items.size 0 lo).toArray}})
 (hsz:items.size<=sizeLine):wpAny (model prog w) A (getItem (.ref t)$ .ref sl) Q E s:=by
 have htake:sizeOk (.seq ((items.toList.drop$ gh items.size 0 lo).take$ gh items.size items.size hi - gh items.size 0 lo).toArray):=by
  show((items.toList.drop$ gh items.size 0 lo).take$ gh items.size items.size hi - gh items.size 0 lo).toArray.size<=sizeLine;rw[Qao,QaK,Qb5,Qbv];omega
 have hj:gh items.size items.size hi<=items.size:=NV _ _ (Qai _) hi;obtain⟨os,zh,hcs,hds⟩:=id hs;have hTs:s.TypeIs (.ref sl) "slice":=⟨os,zh,hcs⟩;unfold getItem
 try with_reducible refine Qbk ?_
 first | refine Qab (Qaj ?_) | skip
 refine Qab (wpAny_sequenceKey ht.typeIs (by decide) ?_)
 refine Qab (Qbh (name:="__getitem__") ht.typeIs Qbm
  (Qbr Qbm ht.typeIs entry_tuple_getitem ?_$ args_tuple_getitem _ _))
 show wpAny _ _ (Builtin.Tuple.tupleItemsOf (.ref t) >>=_) _ _ s;refine Qab$ tupleItemsOf_ ht ?_;refine Qab$ wpAny_typeOf hTs ?_;rw[QaG$ by decide]
 refine Qab$ sr hs pl pu ?_;have Ku:¬((((gh items.size 0 lo:Nat):Int)==0 && (1:Int)==1 && (gh items.size items.size hi - gh items.size 0 lo)==items.size)=true):=by
  intro q;rw[QaW,QaW] at q;have q1:((gh items.size 0 lo:Nat):Int)=0:=eq_of_beq q.1.1;have q2:gh items.size items.size hi - gh items.size 0 lo=items.size:=eq_of_beq q.2;exact hw ⟨by omega,by omega⟩
 show wpAny _ _ (if(((gh items.size 0 lo:Nat):Int)==0 && (1:Int)==1 && (gh items.size items.size hi - gh items.size 0 lo)==items.size)=true then _ else _) _ _ s
 rw[QaA Ku,HY]
 first
  | exact Qab (m:=Builtin.Tuple.tupleExact _) (Qa8 (Qaj ⟨_,rfl,Qaj h⟩) htake)
  | exact Qab (m:=Builtin.Tuple.tupleExact _) (Qa8 (Qab$ Qaj$ Qaj ⟨_,rfl,Qaj h⟩) htake)
  | exact Qab (Qab (m:=Builtin.Tuple.tupleExact _)$ Qa8 (Qaj$ Qaj ⟨_,rfl,Qaj h⟩) htake)
  | exact Qab (Qab (m:=Builtin.Tuple.tupleExact _)$ Qa8 (Qaj ⟨_,rfl,Qaj h⟩) htake)
end
end HT
namespace L2
open PySem PySem.Spec PyProof.Rows
abbrev TO:=St->Hp->(Option Int->Hp->Prop)->Prop
def PO(X:Cx)(e:Option Expr)(t:TO):Prop:=
 ∀(pins:Aaa) (s:Qdj) (σ:St) (H:Hp) (Q:Option Int->Hp->Prop),Inv X pins σ H s->t σ H Q->
  wpAny (model X.prog X.w) X.A (evalPart e X.env) (λu s'=>∃o H',Inv X pins σ H' s'/\IsPart u o/\Q o H') X.xe s
def My:TO:=λ_ H Q=>Q none H
def Tr(t:TE):TO:=λσ H Q=>t σ H λx H1=>∃i,x= .int i/\Q (some i) H1
def intsAre_of{ns:List Int}:∀{us:List Value},Vals (ns.map V.int) us->IntsAre us ns:=by
 induction ns with
 | nil=>intro us r;rw [QcE] at r;cases r;exact .nil
 | cons n ns ih=>
   intro us r;rw[QaO] at r;cases r with
   | cons r1 r2=>
     obtain⟨t,e⟩:=r1;subst e;exact .cons n t$ ih r2
section
variable {X:Cx}{e:Expr}{te:TE}{lo hi:Option Expr}{tl th:TO}{pos p2:Pos}
def LD:PO X none My:=by
 intro pins s σ H Q I h;rw[evalPart_none];exact Qaj ⟨none,H,I, .none,h⟩
def Lp(h:PE X e te):PO X (some e) (Tr te):=by
 intro pins s σ H Q I hw;rw[evalPart_some];refine dP (h pins s σ H _ I hw) λu s1 ⟨x,H1,I1,r1,q1⟩=>?_
 obtain⟨i,rfl,q⟩:=q1;obtain⟨t,rfl⟩:=r1;exact⟨some i,H1,I1, .int i t,q⟩
def Nc(X:Cx)(r:V->Option Int->Option Int->Hp->VK->Prop):Prop:=
 ∀(pins:Aaa) (s:Qdj) (σ:St) (H:Hp) (x:V) (v vl vu:Value) (lo hi:Option Int) (sl:Addr) (Q:VK),Inv X pins σ H s->RelV x v->s.heap.IsSliceOf sl vl vu .none->IsPart vl lo->IsPart vu hi->r x lo hi H Q->
  ∃T id,typeLookup (.type T) "__getitem__"=pure (some$ .builtin id)/\s.TypeIs v T/\wpAny (model X.prog X.w) X.A (getItem v$ .ref sl) (EP X pins σ Q) X.xe s
def Nc.or{r r':V->Option Int->Option Int->Hp->VK->Prop}(h:Nc X r)(h':Nc X r'):Nc X (λx lo hi H Q=>r x lo hi H Q\/r' x lo hi H Q):=by
 intro pins s σ H x v vl vu lo hi sl Q I rx hs pl pu q;rcases q with q | q
 .exact h pins s σ H x v vl vu lo hi sl Q I rx hs pl pu q
 .exact h' pins s σ H x v vl vu lo hi sl Q I rx hs pl pu q
def tSl(r:V->Option Int->Option Int->Hp->VK->Prop)(te:TE)(tl th:TO):TE:=λσ H Q=>te σ H λx H1=>tl σ H1 λl H2=>th σ H2 λu H3=>r x l u H3 Q
def As{r:V->Option Int->Option Int->Hp->VK->Prop}(hr:Nc X r)(he:PE X e te)(hl:PO X lo tl)(hu:PO X hi th):PE X (.Subscript e (.Slice lo hi none p2) pos) (tSl r te tl th):=by
 intro pins s σ H Q I h;refine Subscript_$ dP (he pins s σ H _ I h) λv s1 ⟨x,H1,I1,r1,q1⟩=>?_
 refine wpAny_Slice$ dP (hl pins s1 σ H1 _ I1 q1) λvl s2 ⟨l,H2,I2,pl,q2⟩=>dP (hu pins s2 σ H2 _ I2 q2) λvu s3 ⟨u,H3,I3,pu,q3⟩=>?_
 rw[evalPart_none];refine Qaj ?_;have I4:Inv X pins σ H3 {s3 with heap:=s3.heap.push {cls:= .type "slice",data:= .fields #[vl,vu, .none]}}:=I3.kept (t':=s3.toks) λb ob q=>Qac _ q
 obtain⟨T,id,hT,ht,hg⟩:=hr pins {s3 with heap:=s3.heap.push {cls:= .type "slice",data:= .fields #[vl,vu, .none]}} σ H3 x v vl vu l u s3.heap.objs.size Q I4 r1 (Heap.IsSliceOf.new ..) pl pu q3
 show wpAny (model X.prog X.w) X.A (subscriptTail e (.Slice lo hi none p2) v$ .ref s3.heap.objs.size) (EP X pins σ Q) X.xe {s3 with heap:=s3.heap.push {cls:= .type "slice",data:= .fields #[vl,vu, .none]}}
 exact tail_any (ops:=[.ref s3.heap.objs.size,v]) ht hT hg (by with_unfolding_all rfl)
def A5(xs:List V)(lo hi:Option Int):List V:=(xs.drop$ HT.gh xs.length 0 lo).take$ HT.gh xs.length xs.length hi - HT.gh xs.length 0 lo
def tM(xs:List V)(lo hi:Option Int):(A5 xs lo hi).length<=xs.length:=by
 unfold A5;rw[QaK,Qb5];omega
def Vi(K:Qdi):V->Option Int->Option Int->Hp->VK->Prop:=λx lo hi H Q=>∃a xs,x= .ref a/\rA K H a xs/\
 ¬(HT.gh xs.length 0 lo=0/\HT.gh xs.length xs.length hi=xs.length)/\∀p,H p=none->Q (.ref p) (upd H p$ .tup$ A5 xs lo hi)
def Pg:Nc X (Vi X.K):=by
 intro pins s σ H x v vl vu lo hi sl Q I rx hs pl pu h;obtain⟨a,xs,rfl,hx,hw,q⟩:=h;cases rx;obtain⟨its,r,ht,hz⟩:=I.tuple hx;have hlen:its.toArray.size=xs.length:=by rw[Qao];exact r.length.symm
 refine⟨"tuple",_,Qbm.lookup,ht.typeIs,?_⟩;refine HT.qq ht hs pl pu (by rw[hlen];exact hw) ?_ (by rw[hlen];exact hz)
 rw[hlen];refine⟨.ref s.heap.objs.size,_,I.laid (t':=s.toks) (o:= .tup$ A5 xs lo hi) (λb ob q=>Qac _ q) (Qai _) ?_,rfl,q _$ I.hok.fresh$ Qai _⟩
 exact⟨QaP (tM xs lo hi) hz,_,(r.drop$ HT.gh xs.length 0 lo).take$ HT.gh xs.length xs.length hi - HT.gh xs.length 0 lo,IsTup.new _ _⟩
def aaC(K:Qdi):R2:=λx y H Q=>∃a b ns ms,x= .ref a/\y= .ref b/\rA K H a (ns.map V.int)/\rA K H b (ms.map V.int)/\Q (.bl$ HT.lexLt ns ms) H
def Yk(K:Qdi):R2:=λx y H Q=>∃a b xs ys,x= .ref a/\y= .ref b/\rA K H a xs/\rA K H b ys/\xs≠[]/\xs.length+ys.length<=sizeLine/\
 (ys=[]->Q (.ref a) H)/\(ys≠[]->∀p,H p=none->Q (.ref p) (upd H p$ .tup$ xs++ys))
end
noncomputable def Dh(n:Nat)(i:Int):Option Nat:=if 0<=i then(if i<n then some i.toNat else none) else if -(n:Int)<=i then some (i+n).toNat else none
def vz{α:Type}(xs:List α)(i:Int):Option α:=(Dh xs.length i).bind λj=>xs[j]?
def Dp{n:Nat}{i:Int}{j:Nat}(h:Dh n i=some j):seqIndex? i n=some j/\j<n/\ -(n:Int)<=i/\i<n:=by
 unfold Dh at h;by_cases h0:0<=i
 .rw [QaG h0] at h;by_cases h1:i<n
  .rw [QaG h1] at h;have e:i.toNat=j:=QaS h;exact⟨by rw[seqIndex_of h0 h1,e],by omega,by omega,h1⟩
  .rw [QaA h1] at h;cases h
 .rw [QaA h0] at h;by_cases h1: -(n:Int)<=i
  .rw [QaG h1] at h;have e:(i+n).toNat=j:=QaS h;exact⟨by rw[seqIndex_neg (by omega) h1,e],by omega,h1,by omega⟩
  .rw [QaA h1] at h;cases h
def xW{α:Type}{xs:List α}{i:Int}{v:α}(h:vz xs i=some v):∃j,seqIndex? i xs.length=some j/\xs[j]? =some v/\j<xs.length/\ -(xs.length:Int)<=i/\i<xs.length:=by
 unfold vz at h;cases e:Dh xs.length i with
 | none=>rw [e] at h;cases h
 | some j=>
   rw[e] at h;obtain⟨h1,h2,h3,h4⟩:=Dp e;exact⟨j,h1,h,h2,h3,h4⟩
def uv(b:Expr):Prop:=∀o i,subscripted b false o i=operate [o,i] (getItem o i)
def Mn(X:Cx)(r:R2):Prop:=
 ∀(value slice:Expr) (pins:Aaa) (s:Qdj) (σ:St) (H:Hp) (x y:V) (v u:Value) (Q:VK),Inv X pins σ H s->RelV x v->RelV y u->r x y H Q->
  subscripted slice false v u=operate [v,u] (getItem v u)->wpAny (model X.prog X.w) X.A (subscriptTail value slice v u) (EP X pins σ Q) X.xe s
def MtR(X:Cx)(id:String)(r:V->List V->Hp->VK->Prop):Prop:=
 ∀(pins:Aaa) (s:Qdj) (σ:St) (H:Hp) (x:V) (xs:List V) (v:Value) (us:List Value) (Q:VK),Inv X pins σ H s->RelV x v->Vals xs us->r x xs H Q->
  wpAny (model X.prog X.w) X.A (call (.builtin id) (v ::us)) (EP X pins σ Q) X.xe s
section
variable {X:Cx}{a b:Expr}{ta tb:TE}{pos:Pos}
def Mn.or{r r':R2}(h:Mn X r)(h':Mn X r'):Mn X (λx y H Q=>r x y H Q\/r' x y H Q):=by
 intro value slice pins s σ H x y v u Q I rx ry q hs;rcases q with q | q
 .exact h value slice pins s σ H x y v u Q I rx ry q hs
 .exact h' value slice pins s σ H x y v u Q I rx ry q hs
def Nh{r:R2}(hr:Mn X r)(ha:PE X a ta)(hb:PE X b tb)(hs:uv b):PE X (.Subscript a b pos) (Rg r ta tb):=by
 intro pins s σ H Q I h;exact Subscript_$ Of ha hb I h λv u s2 x y H2 I2 rx ry q=>hr a b pins s2 σ H2 x y v u Q I2 rx ry q$ hs _ _
def SE(K:Qdi):R2:=λx y H Q=>∃p xs i v,x= .ref p/\y= .int i/\pI K H p xs/\vz xs i=some v/\Q v H
def Sf(K:Qdi):R2:=λx y H Q=>∃p xs i v,x= .ref p/\y= .int i/\rA K H p xs/\vz xs i=some v/\Q v H
def SM:R2:=λx y H Q=>∃z i c,x= .str z/\y= .int i/\z.length<=sizeLine/\vz z.cps.toList i=some c/\Q (.str ⟨#[c]⟩) H
def Ky:Mn X (SE X.K):=by
 intro value slice pins s σ H x y v u Q I rx ry h hs;obtain⟨p,xs,i,z,rfl,rfl,hq,he,q⟩:=h;cases rx;obtain⟨t,rfl⟩:=ry;obtain⟨its,r,pl,hz⟩:=I.list hq;obtain⟨j,h1,h2,h3,h4,h5⟩:=xW he;obtain⟨w,ew,xO⟩:=r.get h2;have hl:=r.length;have hn:=rX;have fin:EP X pins σ Q w s:=⟨z,H,I,xO,q⟩;by_cases h0:0<=i
 .have hj:i.toNat=j:=by
   rw[seqIndex_of h0 h5] at h1;exact QaS h1
  exact item_listR pl.isList h0 (by omega) (by rw[hj];simpa using ew) fin hs
 .have hj:(i+(its.toArray.size:Int)).toNat=j:=by
   rw[seqIndex_neg (by omega) h4] at h1
   rw[Qao,<-hl];exact QaS h1
  exact subscriptTail_builtinR (x:=w) pl.isList.typeIs slot_list_getitem.lookup
   (wpAny_getItem_list_neg (Q:=λr s'=>r=w/\EP X pins σ Q r s') pl.isList (by omega) (by rw[Qao] <;> omega) (by omega) (by rw[hj];simpa using ew) ⟨rfl,fin⟩) hs
def Pz:Mn X (Sf X.K):=by
 intro value slice pins s σ H x y v u Q I rx ry h hs;obtain⟨p,xs,i,z,rfl,rfl,hq,he,q⟩:=h;cases rx;obtain⟨t,rfl⟩:=ry;obtain⟨its,r,pl,hz⟩:=I.tuple hq;obtain⟨j,h1,h2,h3,h4,h5⟩:=xW he;obtain⟨w,ew,xO⟩:=r.get h2;have hl:=r.length;have hn:=rX;have fin:EP X pins σ Q w s:=⟨z,H,I,xO,q⟩;exact subscriptTail_builtinR (x:=w) pl.typeIs slot_tuple_getitem.lookup
  (getItem_tuple (j:=j) (Q:=λr s'=>r=w/\EP X pins σ Q r s') pl (by omega) (by omega) (by rw[Qao,<-hl];exact h1) (by simpa using ew) ⟨rfl,fin⟩) hs
def PH:Mn X SM:=by
 intro value slice pins s σ H x y v u Q I rx ry h hs;obtain⟨z,i,c,rfl,rfl,hz,he,q⟩:=h;obtain⟨t,rfl⟩:=rx;obtain⟨t',rfl⟩:=ry;obtain⟨j,h1,h2,h3,h4,h5⟩:=xW he;have hl:z.cps.toList.length=z.length:=by simp [Str.length]
 rw[hl] at h1 h4 h5;have hn:=rX;exact tail_any (typeIs_str s z t) slot_str_getitem.lookup (getItem_str (c:=c) (by
  have e1:decide (i < -(2 ^ 63:Int))=false:=Qax (by omega)
  have e2:decide (i>=2 ^ 63)=false:=Qax (by omega)
  rw[e1,e2,Bool.or_false]) (by rw[h1];simpa using h2) ⟨.str ⟨#[c]⟩,H,I.tok _,⟨_,rfl⟩,q⟩) hs
def Vd(K:Qdi):R2:=λx y H Q=>SE K x y H Q\/Sf K x y H Q\/SM x y H Q
def Ho:Mn X (Vd X.K):=Ky.or$ Pz.or PH
def BW(its:List Value)(n j:Nat)(u:Value):Obj.mapSeq (·.setIfInBounds j u) {cls:= .type "list",data:= .seq its.toArray n}={cls:= .type "list",data:= .seq (its.set j u).toArray n}:=by
 simp [Obj.mapSeq]
def Inv.lst{pins:Aaa}{H:Hp}{s:Qdj}{p:Addr}{xs:List V}(I:Inv X pins σ H s)(h:H p=some (.lst xs)) :
 ∃(its:List Value) (n:Nat),Vals xs its/\s.heap.get? p=some {cls:= .type "list",data:= .seq its.toArray n}/\xs.length<=sizeLine:=by
 obtain⟨z,its,n,r,e⟩:=I.hok p _ h;exact⟨its,n,r,e,z⟩
def Inv.Pl{pins:Aaa}{σ:St}{H:Hp}{s:Qdj}{p:Addr}{xs ys:List V}{its its':List Value}{n n':Nat}{f:Obj->Obj}(I:Inv X pins σ H s)(h:H p=some (.lst xs))
 (ho:s.heap.get? p=some {cls:= .type "list",data:= .seq its.toArray n}) (hf:f {cls:= .type "list",data:= .seq its.toArray n}={cls:= .type "list",data:= .seq its'.toArray n'}) (r:Vals ys its') (hz:ys.length<=sizeLine) (t:Nat) :
 Inv X pins σ (upd H p$ .lst ys) {s with heap:=s.heap.update p f,toks:=t}:=by
 have e:(s.heap.update p f).get? p=some {cls:= .type "list",data:= .seq its'.toArray n'}:=by
  rw[Heap.get?_update_self f ho (by rw[hf] <;> rfl),hf]
 refine I.write (x:=p) (e:=p) (by rw[h];trivial) (.inl rfl) (λb u hb q=>(Heap.get?_update_other _ _$ QbE hb).trans q) ⟨_,e⟩ ?_
 exact⟨hz,its',n',r,e⟩
def NH:V->V->V->Hp->(Hp->Prop)->Prop:=λo i v H Q=>∃p xs k j,o= .ref p/\i= .int k/\H p=some (.lst xs)/\Dh xs.length k=some j/\Q (upd H p$ .lst$ xs.set j v)
def set_list:Rz X NH:=by
 intro pins s σ H o i v ov iv u Q I ro ri rv h;obtain⟨p,xs,k,j,rfl,rfl,hp,hj,q⟩:=h;cases ro;obtain⟨t,rfl⟩:=ri;obtain⟨its,n,r,ho,hz⟩:=I.lst hp;obtain⟨h1,h2,h3,h4⟩:=Dp hj;have hl:=r.length;have hn:=rX;have I':Inv X pins σ (upd H p$ .lst$ xs.set j v) {s with heap:=s.heap.update p$ Obj.mapSeq (·.setIfInBounds j u)}:=
  I.Pl hp ho (BW its n j u) (r.set rv j) (by rw[QaT];exact hz) s.toks
 by_cases h0:0<=k
 .have hk:k.toNat=j:=by
   rw[seqIndex_of h0 h4] at h1;exact QaS h1
  exact PySem.W.ki_setAt ho h0 (by omega) (by rw[Qao,<-hl];exact h4) (by rw[hk];exact⟨_,I',q⟩)
 .have hk:(k+(its.toArray.size:Int)).toNat=j:=by
   rw[seqIndex_neg (by omega) h3] at h1
   rw[Qao,<-hl];exact QaS h1
  exact PySem.W.ki_setBack ho (by omega) (by rw[Qao,<-hl];exact h3) (by omega) (by rw[hk];exact⟨_,I',q⟩)
def yC(lo hi:Option Int)(n:Nat):(sliceBounds lo hi none n).1=((HT.gh n 0 lo:Nat):Int)/\(sliceBounds lo hi none n).2.1=((HT.gh n n hi:Nat):Int)/\(sliceBounds lo hi none n).2.2=1:=by
 refine⟨?_,?_,rfl⟩
 .cases lo with
  | none=>simp [sliceBounds,HT.gh]
  | some i=>
    simp only[sliceBounds,HT.gh,Option.getD_none,show(1:Int) > 0 by decide,QbP]
    by_cases h:i<0
    .simp only[h,QbP] <;> omega
    .simp only[h,if_false] <;> omega
 .cases hi with
  | none=>simp [sliceBounds,HT.gh]
  | some i=>
    simp only[sliceBounds,HT.gh,Option.getD_none,show(1:Int) > 0 by decide,QbP]
    by_cases h:i<0
    .simp only[h,QbP] <;> omega
    .simp only[h,if_false] <;> omega
def wH(its:List Value)(lo hi:Option Int):slicePick its.toArray lo hi none=((its.drop$ HT.gh its.length 0 lo).take$ HT.gh its.length its.length hi - HT.gh its.length 0 lo).toArray:=by
 obtain⟨h1,h2,h3⟩:=yC lo hi its.toArray.size;unfold slicePick;rw[h1,h2,h3];simp only[sliceRange_one,pick_run,Qao] <;> rfl
def V9(K:Qdi):V->Option Int->Option Int->Hp->VK->Prop:=λx lo hi H Q=>∃a xs,x= .ref a/\pI K H a xs/\∀p,H p=none->Q (.ref p) (upd H p$ .lst$ A5 xs lo hi)
def LX:Nc X (V9 X.K):=by
 intro pins s σ H x v vl vu lo hi sl Q I rx hs pl pu h;obtain⟨a,xs,rfl,hx,q⟩:=h;cases rx;obtain⟨its,r,ht,hz⟩:=I.list hx;have hlen:=r.length;refine⟨"list",_,slot_list_getitem.lookup,ht.isList.typeIs,?_⟩;refine wpAny_getItem_list_slice ht.isList hs pl pu .none (by simp) ?_ (by rw[Qao] <;> omega)
 rw[wH,<-hlen];refine⟨.ref s.heap.objs.size,_,I.laid (t':=s.toks) (o:= .lst$ A5 xs lo hi) (λb ob q=>Qac _ q) (Qai _) ?_,rfl,q _$ I.hok.fresh$ Qai _⟩
 exact⟨QaP (tM xs lo hi) hz,_,0,(r.drop$ HT.gh xs.length 0 lo).take$ HT.gh xs.length xs.length hi - HT.gh xs.length 0 lo,QaF _ rfl⟩
noncomputable def mJ:V->Bool
 | .cI=>true
 | .bl _=>true
 | .int _=>true
 | .str _=>true
 | _=>false
noncomputable def MW:V->V->Bool
 | .cI, .cI=>true
 | .bl a, .bl b=>a==b
 | .bl a, .int b=>(if a then 1 else 0)==b
 | .int a, .bl b=>a==(if b then 1 else 0)
 | .int a, .int b=>a==b
 | .str a, .str b=>a==b
 | _,_=>false
def Qk{s:Qdj}{y x:V}{u v:Value}(ry:RelV y u)(rx:RelV x v)(fy:mJ y=true)(fx:mJ x=true):SeqAt.EqAt A s u v (MW y x):=by
 cases y with
 | cI=>
   cases ry;cases x with
   | cI=>cases rx;exact SeqAt.EqAt.same _
   | bl b=>cases rx;exact SeqAt.EqAt.none_bool b
   | int b=>obtain⟨t,rfl⟩:=rx;exact SeqAt.EqAt.none_int b t
   | str b=>obtain⟨t,rfl⟩:=rx;exact SeqAt.EqAt.none_str b t
   | _=>exact absurd (show false=true from fx) Qay
 | bl a=>
   cases ry;cases x with
   | cI=>cases rx;exact SeqAt.EqAt.bool_none a
   | bl b=>cases rx;exact SeqAt.EqAt.bool_bool a b
   | int b=>obtain⟨t,rfl⟩:=rx;exact SeqAt.EqAt.bool_int a b t
   | str b=>obtain⟨t,rfl⟩:=rx;exact SeqAt.EqAt.bool_str a b t
   | _=>exact absurd (show false=true from fx) Qay
 | int a=>
   obtain⟨t',rfl⟩:=ry;cases x with
   | cI=>cases rx;exact SeqAt.EqAt.int_none a t'
   | bl b=>cases rx;exact SeqAt.EqAt.int_bool a t' b
   | int b=>obtain⟨t,rfl⟩:=rx;exact SeqAt.EqAt.int_int a t' b t
   | str b=>obtain⟨t,rfl⟩:=rx;exact SeqAt.EqAt.int_str a t' b t
   | _=>exact absurd (show false=true from fx) Qay
 | str a=>
   obtain⟨t',rfl⟩:=ry;cases x with
   | cI=>cases rx;exact SeqAt.EqAt.str_none a t'
   | bl b=>cases rx;exact SeqAt.EqAt.str_bool a t' b
   | int b=>obtain⟨t,rfl⟩:=rx;exact SeqAt.EqAt.str_int a t' b t
   | str b=>obtain⟨t,rfl⟩:=rx;exact SeqAt.EqAt.str_str a t' b t
   | _=>exact absurd (show false=true from fx) Qay
 | _=>exact absurd (show false=true from fy) Qay
def Mj(x:V)(u:Value):Bool:=match u with
 | .none=>MW .cI x
 | .bool b=>MW (.bl b) x
 | .int i _=>MW (.int i) x
 | .str z _=>MW (.str z) x
 | _=>false
def Hu{x y:V}{u:Value}(r:RelV y u)(f:mJ y=true):Mj x u=MW y x:=by
 cases y with
 | cI=>cases r;rfl
 | bl b=>cases r;rfl
 | int i=>obtain⟨t,rfl⟩:=r;rfl
 | str z=>obtain⟨t,rfl⟩:=r;rfl
 | _=>exact absurd (show false=true from f) Qay
theorem yK{x:V}:∀{xs:List V} {us:List Value},Vals xs us->xs.all mJ=true->us.any (Mj x)=xs.any λy=>MW y x
 | _,_, .nil,_=>rfl
 | y ::xs,u ::us, .cons r t,f=>by
   rw[Qcv,QaW] at f;rw[QbG,QbG,Hu r f.1,yK t f.2]
theorem vT{s:Qdj}{x:V}{v:Value}(rx:RelV x v)(fx:mJ x=true):∀{xs:List V} {us:List Value},Vals xs us->xs.all mJ=true->∀u∈us,SeqAt.EqAt A s u v (Mj x u)
 | _,_, .nil,_=>λu hu=>by cases hu
 | y ::xs,u ::us, .cons r t,f=>λu' hu=>by
   rw[Qcv,QaW] at f;rcases Qaw.mp hu with rfl | hu
   .rw [Hu r f.1];exact Qk r rx f.1 fx
   .exact vT rx fx t f.2 u' hu
def Nj(x:V)(xs:List V):Bool:=xs.any λy=>MW y x
def X5(K:Qdi)(neg:Bool):R2:=λx y H Q=>∃p xs,y= .ref p/\(pI K H p xs\/rA K H p xs)/\mJ x=true/\xs.all mJ=true/\Q (.bl$ if neg then !Nj x xs else Nj x xs) H
def FJ:nB X (compareOp .In) (X5 X.K false):=by
 intro pins s σ H x y v u Q I rx ry h;obtain⟨p,xs,rfl,hq,fx,fs,q⟩:=h;cases ry;rcases hq with hq | hq
 .obtain⟨its,r,pl,hz⟩:=I.list hq;refine SeqAt.in_listAt (Mj x) pl.isList (λw hw=>vT rx fx r fs w$ by simpa using hw) ⟨.bl _,H,I,rfl,?_⟩
  rw[show its.toArray.any (Mj x)=its.any (Mj x) by simp,yK r fs]
  exact q
 .obtain⟨its,r,pl,hz⟩:=I.tuple hq;refine SeqAt.in_tupleAt (Mj x) pl (λw hw=>vT rx fx r fs w$ by simpa using hw) ⟨.bl _,H,I,rfl,?_⟩
  rw[show its.toArray.any (Mj x)=its.any (Mj x) by simp,yK r fs]
  exact q
def yY:iU X (.type "list") (λxs H Q=>∃p ys,xs=[.ref p]/\(pI X.K H p ys\/rA X.K H p ys)/\∀l,H l=none->Q (.ref l) (upd H l$ .lst ys)):=by
 intro pins s σ H xs us Q I r h;obtain⟨p,ys,rfl,hq,q⟩:=h;obtain⟨u,rfl,rx⟩:=vals1 r;cases rx;have fin:∀(its:List Value),Vals ys its->ys.length<=sizeLine->∀(h':Heap) (c':Nat),(∀b o',s.heap.get? b=some o'->h'.get? b=some o')->
  h'.get? s.heap.objs.size=some {cls:= .type "list",dict:=none,data:= .seq its.toArray c',slots:=#[]}->EP X pins σ Q (.ref s.heap.objs.size) {s with heap:=h'}:=λits r' hz h' c' kp e=>
  ⟨.ref s.heap.objs.size,_,I.laid (t':=s.toks) kp (Qai _)$ show dk X.prog X.w _ h' _ (.lst ys) from⟨hz,its,c',r',e⟩,rfl,q _$ I.hok.fresh$ Qai _⟩
 rcases hq with hq | hq
 .obtain⟨its,r',pl,hz⟩:=I.list hq;have hlen:=r'.length;obtain⟨o,ho,hc,n,hd⟩:=pl.isList;exact call_list_seq p (.inl rfl) ho hc hd (λh' c' kp e=>fin its r' hz h' c' kp e) (by simp only[Qao] <;> omega)
 .obtain⟨its,r',pl,hz⟩:=I.tuple hq;have hlen:=r'.length;obtain⟨o,ho,hc,n,hd⟩:=pl;exact call_list_seq p (.inr rfl) ho hc hd (λh' c' kp e=>fin its r' hz h' c' kp e) (by simp only[Qao] <;> omega)
def wt:iU X (.type "tuple") (λxs H Q=>∃p ys,xs=[.ref p]/\((pI X.K H p ys/\∀l,H l=none->Q (.ref l) (upd H l$ .tup ys))\/(rA X.K H p ys/\Q (.ref p) H))):=by
 intro pins s σ H xs us Q I r h;obtain⟨p,ys,rfl,h⟩:=h;obtain⟨u,rfl,rx⟩:=vals1 r;cases rx;rcases h with⟨hq,q⟩ | ⟨hq,q⟩
 .obtain⟨its,r',pl,hz⟩:=I.list hq;have hlen:=r'.length;refine call_tuple_list pl.isList (λh' kp=>?_) (by simp only[Qao] <;> omega)
  have I1:Inv X pins σ H {s with heap:=h'}:=I.kept (t':=s.toks) kp
  have I2:Inv X pins σ (upd H h'.objs.size$ .tup ys) {s with heap:=h'.push {cls:= .type "tuple",data:= .seq its.toArray}}:=
   I1.laid (t':=s.toks) (λb o e=>Qac _ e) (Qai _) (show dk X.prog X.w _ _ _ (.tup ys) from⟨hz,its,r',IsTup.new _ _⟩)
  exact⟨.ref h'.objs.size,_,I2,rfl,q _$ I1.hok.fresh$ Qai _⟩
 .obtain⟨its,r',pl,hz⟩:=I.tuple hq;exact call_tuple_same pl ⟨.ref p,H,I,rfl,q⟩
def V1(K:Qdi)(T:String)(x:V)(H:Hp):Prop:=match x with
 | .str _=>T="str"
 | .int _=>T="int"
 | .ref p=>(T="list"/\∃xs,pI K H p xs)\/(T="tuple"/\∃o,K.lookup p=some o/\o.cls= .type "tuple"/\o.dict=none)\/
    (T="dict"/\((∃aW,H p=some (.dK aW))\/∃aW,H p=some (.dT aW)))\/(T="set"/\∃S n,H p=some (.set S n))
 | _=>False
def O8{pins:Aaa}{s:Qdj}{T:String}{x:V}{v:Value}(I:Inv X pins σ H s)(r:RelV x v)(ty:V1 X.K T x H) :
 s.TypeIs v T/\∀a,v= .ref a->∃ob,s.heap.get? a=some ob/\ob.dict=none:=by
 cases x with
 | str z=>
   obtain⟨t,rfl⟩:=r;cases(show T="str" from ty)
   exact⟨typeIs_str s z t,λ_ e=>nomatch e⟩
 | int i=>
   obtain⟨t,rfl⟩:=r;cases(show T="int" from ty)
   exact⟨typeIs_int s i t,λ_ e=>nomatch e⟩
 | ref p=>
   cases r;rcases ty with⟨rfl,xs,hq⟩ | ⟨rfl,o,hk,hc,hd⟩ | ⟨rfl,hk⟩ | ⟨rfl,S,n,hk⟩
   .obtain⟨its,_,pl,_⟩:=I.list hq;refine⟨pl.isList.typeIs,λa e=>?_⟩
    cases e;obtain⟨o,n,e,c,hd,_⟩:=pl;exact⟨o,e,hd⟩
   .refine⟨⟨o,I.pz p o hk,hc⟩,λa e=>?_⟩
    cases e;exact⟨o,I.pz _ o hk,hd⟩
   .have z:∃o,s.heap.get? p=some o/\o.ExactDict:=by
     rcases hk with⟨aW,hk⟩ | ⟨aW,hk⟩
     .obtain⟨_,_,_,_,o,_,_,e,ex,_⟩:=I.hok p _ hk;exact⟨o,e,ex⟩
     .obtain⟨_,_,_,_,o,_,_,e,ex,_⟩:=I.hok p _ hk;exact⟨o,e,ex⟩
    obtain⟨o,e,ex⟩:=z;refine⟨⟨o,e,ex.1⟩,λa e2=>?_⟩
    cases e2;exact⟨o,e,ex.2.1⟩
   .obtain⟨o,_,_,_,e,ex,_⟩:=I.hok p _ hk;refine⟨⟨o,e,ex.1⟩,λa e2=>?_⟩
    cases e2;exact⟨o,e,ex.2.1⟩
 | _=>exact False.elim ty
def aaw(K:Qdi)(T:String)(r:V->List V->Hp->VK->Prop)(to:TE):TE:=λσ H Q=>to σ H λx H1=>V1 K T x H1/\r x [] H1 Q
def Zu(K:Qdi)(T:String)(r:V->List V->Hp->VK->Prop)(to:TE)(t:TA):TE:=λσ H Q=>to σ H λx H1=>V1 K T x H1/\t σ H1 λxs H2=>r x xs H2 Q
variable {o e:Expr}{es:List Expr}{to:TE}{t:TA}{name:Str}{apos cF:Pos}{T id:String}{r:V->List V->Hp->VK->Prop}
def Ig(pa:PlainAttrs T)(slot:Slot T name id)(hty:typeOf (.builtin id)=pure (.type "method_descriptor"))(hm:MtR X id r)(ho:PE X o to)(ha:PA X (e ::es) t)
 (nY:attributeBase o name X.env (eval o X.env)=eval o X.env:=by rfl)
 (vX:((backTo cF$ starEach (e ::es) X.env).all (λx=>!x.1) && (backToKw cF$ keywordEach [] X.env).all (λx=>x.1.isSome)
   && decide ((e ::es).length+([]:List Keyword).length+(if([]:List Keyword).isEmpty then 0 else 1)<30))=true:=by rfl)
 (n8:(apos.endLine==cF.line)=true:=by rfl) (hs:starEach (e ::es) X.env=(false,eval e X.env) ::starEach es X.env:=by rfl) (QF:(backTo cF$ starEach es X.env).any (·.1)=false:=by rfl) :
 PE X (.Call (.Attribute o name apos) (e ::es) [] cF) (Zu X.K T r to t):=by
 intro pins s σ H Q I h;refine wpAny_Call_method_late nY vX n8 rfl$ dP (ho pins s σ H _ I h) λv s1 ⟨x,H1,I1,r1,ty,q1⟩=>?_
 obtain⟨h1,h2⟩:=O8 I1 r1 ty;refine⟨T,id,pa,slot,hty,h1,h2,?_⟩;have hA:=ha cF pins s1 σ H1 _ I1 q1;rw[hs] at hA ⊢;refine Calls.callWith_builtin (by show(false || (backTo cF$ starEach es X.env).any (·.1))=false;rw [QF] <;> rfl)$ QcF ?_
 exact dP hA λus s2 ⟨vs,H2,I2,r2,q2⟩=>hm pins s2 σ H2 x vs v us Q I2 r1 r2 q2
end
def XW(X:Cx)(id:String)(r:V->List V->Hp->VK->Prop):Prop:=
 ∀(pins:Aaa) (s:Qdj) (σ:St) (H:Hp) (x:V) (xs:List V) (v:Value) (us:List Value) (Q:VK),Inv X pins σ H s->RelV x v->Vals xs us->r x xs H Q->
  wpAny (model X.prog X.w) X.A (call (.builtin id) (v ::us)) (EP X pins σ Q) X.xe s
theorem Vals.one:∀{x:V} {us:List Value},Vals [x] us->∃u,us=[u]/\RelV x u
 | _,_, .cons r .nil=>⟨_,rfl,r⟩
theorem Vals.rep{xs:List V}{us:List Value}(h:Vals xs us):∀k:Nat,Vals (List.replicate k xs).flatten (List.replicate k us).flatten
 | 0=> .nil
 | k+1=>by
   rw[Qbw,Qbw,QbR,QbR];exact Vals.append h$ Vals.rep h k
def foldl_rep(its:List Value):∀(k:Nat) (acc:List Value),
 List.foldl (λx1 x2=>x1++x2) acc.toArray (List.replicate k its.toArray)=(acc++(List.replicate k its).flatten).toArray
 | 0,acc=>by simp
 | k+1,acc=>by
   have e:acc.toArray++its.toArray=(acc++its).toArray:=by simp
   have e2:(acc++its)++(List.replicate k its).flatten=acc++(List.replicate (k+1) its).flatten:=by
    rw[Qbw,QbR,QaR]
   rw[<-e2,<-foldl_rep its k (acc++its),<-e,Qbw,Qce]
section
variable {X:Cx}{pins:Aaa}{σ:St}{H:Hp}{s:Qdj}{l:Addr}{xs ys:List V}
def Inv.Sk{its its':List Value}{n:Nat}{f:Array Value->Array Value}{t':Nat}(I:Inv X pins σ H s)(hH:H l=some (.lst xs))
 (e:s.heap.get? l=some {cls:= .type "list",data:= .seq its.toArray n}) (hf:f its.toArray=its'.toArray) (hv:Vals ys its') (hz:ys.length<=sizeLine) :
 Inv X pins σ (upd H l$ .lst ys) {s with heap:=s.heap.update l$ Obj.mapSeq f,toks:=t'}:=by
 have q:=PySem.IsL.update e f;rw[hf] at q;refine I.write (x:=l) (e:=l) (by rw[hH];exact trivial) (.inl rfl) (λb' u hb hu=>(Heap.get?_update_other s.heap (Obj.mapSeq f)$ QbE hb).trans hu) ⟨_,q⟩ ?_
 exact⟨hz,its',_,hv,q⟩
def Inv.Mx{its:List Value}{t':Nat}(I:Inv X pins σ H s)(hv:Vals ys its)(hz:ys.length<=sizeLine) :
 Inv X pins σ (upd H s.heap.objs.size$ .lst ys) {s with heap:=s.heap.push {cls:= .type "list",data:= .seq its.toArray},toks:=t'}:=
 I.laid (λ_ _ q=>Qac _ q) (Qai _) ⟨hz,its,0,hv,QaF _ rfl⟩
def Inv.fresh(I:Inv X pins σ H s):H s.heap.objs.size=none:=I.hok.fresh$ Qai _
def Inv.Me(I:Inv X pins σ H s)(hH:H l=some (.lst xs)):xs.length<=sizeLine/\∃(its:List Value) (n:Nat),Vals xs its/\xs.length=its.length/\s.heap.get? l=some {cls:= .type "list",data:= .seq its.toArray n}:=by
 obtain⟨z,its,n,r,e⟩:=I.hok l _ hH;exact⟨z,its,n,r,r.length,e⟩
def A3{n:Nat}(h:n<=sizeLine):Builtin.List.listTooLong n=false:=by
 unfold Builtin.List.listTooLong;exact Qax (by omega)
end
section
variable {X:Cx}
def LR:V->List V->Hp->VK->Prop:=λx vs H Q=>∃l xs y,x= .ref l/\vs=[y]/\H l=some (.lst xs)/\xs.length<sizeLine/\Q .cI (upd H l$ .lst$ xs++[y])
def sf:XW X "list.append" LR:=by
 intro pins s σ H x vs v us Q I rx rv h;obtain⟨l,xs,y,rfl,rfl,hH,hz,q⟩:=h;cases rx;obtain⟨u,rfl,ru⟩:=rv.one;obtain⟨z,its,n,r,hl,e⟩:=I.Me hH;refine call_meets F.slot_list_append ⟨_,e,rfl⟩ F.entry_list_append (F.args_list_append_2 _ _) (PySem.list_append l its.toArray n u$ by rw[Qao];omega) ⟨e,?_⟩
 refine⟨.cI,_,I.Sk (its':=its++[u]) hH e (by simp) (r.append$ .cons ru .nil) ?_,rfl,q⟩
 rw[Qau,QcA];omega
def LB:V->List V->Hp->VK->Prop:=λx vs H Q=>∃l b xs zs,x= .ref l/\vs=[.ref b]/\H l=some (.lst xs)/\H b=some (.lst zs)/\xs.length+zs.length<=sizeLine/\Q .cI (upd H l$ .lst$ xs++zs)
def FQ:XW X "list.extend" LB:=by
 intro pins s σ H x vs v us Q I rx rv h;obtain⟨l,b,xs,zs,rfl,rfl,hH,hB,hz,q⟩:=h;cases rx;obtain⟨u,rfl,ru⟩:=rv.one;cases ru;obtain⟨z,its,n,r,hl,e⟩:=I.Me hH;obtain⟨z2,t_,n2,r2,MP,e2⟩:=I.Me hB;have hsz:its.toArray.size+t_.toArray.size<=sizeLine:=by rw[Qao,Qao];omega
 have hlong:¬(!its.toArray.isEmpty && Builtin.List.listTooLong (its.toArray.size+t_.toArray.size))=true:=by
  rw[A3 hsz,Bool.and_false];exact Qay
 refine call_meets F.slot_list_extend ⟨_,e,rfl⟩ F.entry_list_extend (F.args_list_extend_2 _ _)
  (AutoSeq1.list_extend_list_list_0 l its.toArray n b t_.toArray n2 hlong (by rw[Qao];omega)$ by omega) ⟨e,e2,?_⟩
 refine⟨.cI,_,I.Sk (its':=its++t_) hH e (by simp) (r.append r2) ?_,rfl,q⟩
 rw[Qau];omega
def aaL:V->List V->Hp->VK->Prop:=λx vs H Q=>∃l xs y,x= .ref l/\vs=[]/\H l=some (.lst xs)/\xs[xs.length - 1]? =some y/\Q y (upd H l$ .lst xs.dropLast)
def VQ:V->List V->Hp->VK->Prop:=λx vs H Q=>∃l xs i k y,x= .ref l/\vs=[.int i]/\H l=some (.lst xs)/\ -(2 ^ 63)<=i/\i<2 ^ 63/\seqIndex? i xs.length=some k/\xs[k]? =some y/\Q y (upd H l$ .lst$ xs.eraseIdx k)
def RG:V->List V->Hp->VK->Prop:=λx vs H Q=>∃l xs,x= .ref l/\vs=[]/\H l=some (.lst xs)/\Q .cI (upd H l$ .lst xs.reverse)
def Wb:V->List V->Hp->VK->Prop:=λx vs H Q=>∃l xs,x= .ref l/\vs=[]/\H l=some (.lst xs)/\Q .cI (upd H l$ .lst [])
def ZZ:R2:=λx y H Q=>∃l b xs zs,x= .ref l/\y= .ref b/\H l=some (.lst xs)/\H b=some (.lst zs)/\xs.length+zs.length<=sizeLine/\∀p,H p=none->Q (.ref p) (upd H p$ .lst$ xs++zs)
def VN:R2:=λx y H Q=>∃l k xs,x= .ref l/\y= .int k/\H l=some (.lst xs)/\ -(2 ^ 63)<=k/\k<2 ^ 63/\xs.length*k.toNat<=sizeLine/\
 ∀p,H p=none->Q (.ref p) (upd H p$ .lst (List.replicate k.toNat xs).flatten)
def len_rep{α:Type}(xs:List α)(k:Nat):(List.replicate k xs).flatten.length=k*xs.length:=by
 induction k with
 | zero=>simp
 | succ k ih=>rw [Qbw,QbR,Qau,ih,Nat.succ_mul,Nat.add_comm]
def Qw:nB X (binaryOp .Mult) VN:=by
 intro pins s σ H x y v u Q I rx ry h;obtain⟨l,k,xs,rfl,rfl,hH,h1,h2,hz,q⟩:=h;cases rx;obtain⟨t,rfl⟩:=ry;obtain⟨z,its,n,r,hl,e⟩:=I.Me hH;have hlen:its.toArray.size*k.toNat<=sizeLine:=by rw[Qao,<-hl];exact hz
 have hcap:¬its.toArray.size*k.toNat > (2 ^ 63 - 1) / 8:=by
  have:(sizeLine:Nat)<=(2 ^ 63 - 1) / 8:=by decide
  omega
 have hfit:¬(!Builtin.List.listFitsIndex k)=true:=by
  rw[fitsIndex_both h1 h2];exact Qay
 have hlong:¬Builtin.List.listTooLong (its.toArray.size*k.toNat)=true:=by
  rw[A3 hlen];exact Qay
 have hnew:List.foldl (λx1 x2=>x1++x2) #[] (List.replicate (if its.toArray.isEmpty=true then 0 else k.toNat) its.toArray)=(List.replicate k.toNat its).flatten.toArray:=by
  have f0:∀m:Nat,List.foldl (λx1 x2=>x1++x2) #[] (List.replicate m its.toArray)=(List.replicate m its).flatten.toArray:=λm=>by
   have:=foldl_rep its m [];rw[QaY] at this;exact this
  rw[f0];cases its with
  | nil=>simp
  | cons a r'=>rw [QaA$ by simp]
 refine wpAny_binaryOp_repeat_ref (T:="list") (U:="int") (by decide) ⟨_,e,rfl⟩ (λs'=>typeIs_int s' k t) noFill_list_mul F.fills_int_mul F.slot_int_rmul repeat_list F.slot_int_index.lookup
  (call_meets F.slot_int_rmul (typeIs_int s k t) F.entry_int_rmul (F.args_int_rmul_2 _ _) (int___rmul___int_list k t l its.toArray n)
    ⟨e,rfl,⟨_,e,rfl⟩,call_meets F.slot_list_mul ⟨_,e,rfl⟩ F.entry_list_mul (F.args_list_mul_2 _ _) (AutoListH.list___mul___list_int_3 l its.toArray n k t hfit hcap hlong) ⟨e,?_⟩⟩)
 rw[hnew];exact⟨.ref _,_,I.Mx (t':=s.toks) (r.rep k.toNat) (by rw[len_rep,Nat.mul_comm];exact hz),rfl,q _ I.fresh⟩
end
section
set_option maxRecDepth 100000 in
end
end L2
namespace Att
open PySem PySem.W PySem.Calls PyProof.Rows
def t4{P:Params}:∀(ns:List Int) (vs:List Value),WellAll P h vs (ns.map WData.int)->IntsAre vs ns:=by
 intro ns
 induction ns with
 | nil=>
   intro vs w;rw[QcE] at w;cases w;exact .nil
 | cons n ns ih=>
   intro vs w;rw[QaO] at w;cases w with
   | cons a b=>
     cases a;exact .cons _ _$ ih _ b
def F8{l:OpenLaw}{n:Nat}(hn:l.most=some n){P:Params}{h:Heap}{args:List WData}{vals:List Value}
 (MO:l.row.toRowW.claim.pre args=true) (Rt:WellAll P h vals args) :
 ∃a vs ns,vals=[Value.ref a]/\args=[WData.list$ ns.map WData.int]/\h.get? a=some {cls:= .type "list",data:= .seq vs.toArray}/\IntsAre vs ns/\ns.length<=n:=by
 have hsh:WShape.hasAll [] args [.list .int]=true:=(pre_splitW MO).1;have hc:l.pre.holds [] {args:=args}=true:=(pre_splitW MO).2;obtain⟨d,r,rfl,h1,h2⟩:=hasAllW_cons hsh;obtain rfl:=hasAllW_nil h2;obtain⟨xs,rfl,h3⟩:=hasW_list h1;obtain⟨ns,rfl⟩:=items_int h3;have hlen:ns.length<=n:=by
  unfold OpenLaw.pre at hc;have h4:(WTm.not$ .lt (.lit$ .int (n:Int))$ .len$ .arg 0).holds [] {args:=[.list$ ns.map .int]}=true:=by
   have h4:=(holds_andW hc).1;rw[hn] at h4;exact h4
  have h5:=condW_of h4$ w_not$ w_lt w_lit$ w_len_list$ w_arg rfl;rw[Qaa] at h5;refine Nat.le_of_not_lt λq=>?_
  have q':(n:Int)<((ns.length:Nat):Int):=by omega
  first
   | (rw [Qan q'] at h5;exact absurd h5$ by decide)
   | (simp at h5;omega)
 cases Rt with
 | cons w1 w2=>
   cases w2;cases w1 with
   | list ho Gm=>exact⟨_,_,ns,rfl,rfl,ho,t4 ns _ Gm,hlen⟩
def EY(l:OpenLaw)(args:List WData):l.row.toRowW.claim.post args (.bool true) args=true:=
 postW_of (r:=l.row.toRowW) (X:=(true==true))
  (show WShape.has [] (.bool true) .bool=true by first | rfl | decide | simp [WShape.has,WShape.arms,WShape.armsAll])
  (show(WTm.eq .res$ .lit$ .bool true).value [] {args:=args,res:=some$ .bool true,after:=args}=some (.bool$ true==true) from w_eq_bool (w_res rfl) w_lit) rfl
def AZ{l:OpenLaw}{n:Nat}{q:Program}{loose:List Str}{XP:(Str->Option Value)->Heap->Prop}{YP:World->Heap->Prop}{d:DefRec}
 (hn:l.most=some n) (Xu:d.params.defaults=[])
 (call:∀(w:World) (s₀ s₁:Qdj) (mg mb:Aaf) (fa:Addr) (o:Obj) (pm cd doc:Value) (a:Addr) (vs:List Value) (ns:List Int),
   Ground q loose [] XP w s₀ mg mb s₁.heap->YP w s₁.heap->
   s₁.heap.get? fa=some o->o.data= .func (docDef d.name d.params d.body d.scope pm cd doc)->s₁.heap.CodeRec cd d.name->mg d.name=some (.ref fa)->
   s₁.heap.get? a=some {cls:= .type "list",data:= .seq vs.toArray}->IntsAre vs ns->ns.length<=n->s₁.gens=#[]->
   codeAny (model l.prog w) callerA (.call (.ref fa) ⟨[.ref a],[]⟩) (λr s'=>r= .ok (.ret$ .bool true)/\OldK s₁.heap s'.heap/\s'.os=s₁.os/\AllBare s'.gens) s₁) :
 WalkO q loose XP YP l.row.toRowW d [] (λf vs=>PySem.call f vs):=by
 intro w s₀ s₁ mg mb G Y fa o pm cd doc dV kV ho hd sL hD Uk hg args vals as MO hlay hrd Rt hlo;obtain rfl:dV= .none:=Dflts.none hD Xu;obtain rfl:kV= .none:=Dflts.noKw hD;obtain⟨a,vs,ns,rfl,rfl,Q5,hints,hlen⟩:=F8 hn MO Rt;refine enter_call$ codeAny_mono (call w s₀ s₁ mg mb fa o pm cd doc a vs ns G Y ho (fd_plain hd) sL Uk Q5 hints hlen hg) λr s' hq=>?_
 obtain⟨rfl,h2,h3,h4⟩:=hq;exact⟨.inl ⟨.bool true, .bool true,[],rfl,λ_=>rfl, .bool true,EY l _,λ_=>⟨List.Pairwise.nil,λ_ hm=>(nomatch hm)⟩⟩,h2,h3,h4⟩
section
noncomputable def Vq(h:Heap):Heap:={h with objs:=#[]}
noncomputable def ledger(h:Heap)(L d:Addr):Aaa:=(List.range h.objs.size).filterMap λa=>if a=L\/a=d then none else(h.get? a).map λo=>(a,o)
end
end Att
namespace L2
open PySem PySem.Spec PyProof.Rows
theorem xy:∀{vs:List Value} {ns:List Int},IntsAre vs ns->Vals (ns.map V.int) vs
 | _,_, .nil=> .nil
 | _,_, .cons n t h=> .cons ⟨t,rfl⟩$ xy h
def RA(H:Hp):Prop:=∀b,H b=none\/∃o xs,H b=some (.jU o$ .lst xs)
noncomputable abbrev fD{K:Qdi}{h:Heap}(_:K.In h):Qdi:=K
noncomputable def inClass(s:Stmt)(j:Nat):Stmt:=match s with
 | .ClassDef _ _ _ body _ _ _ _ _ _ _=>body.getD j$ .Pass ⟨0,0,0,0⟩
 | _=> .Pass ⟨0,0,0,0⟩
noncomputable def iK(s:Stmt):Arguments:=match s with
 | .FunctionDef _ a _ _ _ _ _ _ _ _=>a
 | _=>{posonlyargs:=[],args:=[],vararg:=none,kwonlyargs:=[],kw_defaults:=[],kwarg:=none,defaults:=[]}
noncomputable def aP(s:Stmt):List Stmt:=match s with
 | .FunctionDef _ _ b _ _ _ _ _ _ _=>b
 | _=>[]
noncomputable def aD(s:Stmt):Scope:=match s with
 | .FunctionDef _ _ _ _ _ _ sc _ _ _=>sc
 | _=>{kind:= .function,names:=[],isGenerator:=false,isCoroutine:=false}
abbrev u7:Gq:=fun _ _ _ _ _ _=>False
abbrev E0:XK:=fun _ _ _=>False
def Am{X:Cx}:Passes u7 X E0:=λ_ _ _ _ _ _ _ h=>h.elim
structure BQ (K:Qdi) (x qual:Str) (st:Stmt) (f:Addr) (fd:FuncData):Prop where
 ex:∃(oc:Value) (od:Option Addr) (kV doc pm:Value) (an:Option Addr) (fL ct:Value) (Gg:Array (Option Value)),
  fd=PySem.W.fnOf x qual (iK st) (aP st) (aD st) .none kV doc pm an fL ct/\K.lookup f=some ⟨oc,od, .func fd,Gg⟩/\PySem.W.codeIn K fL qual=true
 kp:PySem.W.keepIn K (.ref f)=true
section
variable {P:Program}{w:World}{K:Qdi}{mg:Aaf}{base:Heap}
def BQ.ok{x qual:Str}{st:Stmt}{f:Addr}{fd:FuncData}{N ps:List Str}{k:Nat}{sp:Sp}(F:BQ K x qual st f fd)(S:bj N ps (aD st))(len:∀vs H Q E,sp vs H Q E->vs.length=ps.length)
 (fH:∀(fL:Value) (A:Around) (outer:List Env) (s:Qdj) (H:Hp) (vs:List V) (Q:VK) (E:XK),dZ k (A.deeper$ envOfC qual (aD st) s.heap.objs.size f fL)->sp vs H Q E->
   ∃t,y4 (lV u7 P w K mg base N qual (aD st) f fL A outer s H E).JA (aP st) t/\t {nx:=λ_ H'=>Q .cI H',rt:=Q} (start N vs) H):ip P w K mg base u7 (k+1) f fd ps sp:=by
 obtain⟨oc,od,kV,doc,pm,an,fL,ct,Gg,rfl,lk,sL⟩:=F.ex;refine Ny lk sL S len λA outer s H vs Q E hr Kv=>?_
 obtain⟨t,h,q⟩:=fH fL A outer s H vs Q E hr Kv;exact⟨t,h.JA,q⟩
def BQ.binds{x qual:Str}{st:Stmt}{f:Addr}{fd:FuncData}{ps:List Str}(F:BQ K x qual st f fd)
 (h:∀(kV doc pm:Value) (an:Option Addr) (fL ct:Value) (us:List Value),us.length=ps.length->bindArgs (PySem.W.fnOf x qual (iK st) (aP st) (aD st) .none kV doc pm an fL ct) ⟨us,[]⟩=pure (ps.zip us)):Binds K fd ps []:=by
 obtain⟨oc,od,kV,doc,pm,an,fL,ct,Gg,rfl,lk,sL⟩:=F.ex;exact .all$ h kV doc pm an fL ct
def yf{x qual:Str}{st:Stmt}{f:Addr}{oc:Value}{od an:Option Addr}{Gg:Array (Option Value)}{kV doc pm fL ct:Value}(l:K.lookup f=some ⟨oc,od, .func$ PySem.W.fnOf x qual (iK st) (aP st) (aD st) .none kV doc pm an fL ct,Gg⟩)
 (c:PySem.W.codeIn K fL qual=true) (k:PySem.W.keepIn K (.ref f)=true):BQ K x qual st f (PySem.W.fnOf x qual (iK st) (aP st) (aD st) .none kV doc pm an fL ct):=⟨⟨oc,od,kV,doc,pm,an,fL,ct,Gg,rfl,l,c⟩,k⟩
end
def R9{A:Around}{k:Nat}(hr:dZ k A):A.units+1<cLine:=Nat.lt_of_le_of_lt (Nat.add_le_add_left (by decide:1<=64) _) hr.units
def Iz{A B:Prop}(h:B):if false=true then A else B:=by
 rw[QaA Qay];exact h
def HE{A B:Prop}(h:A):if true=true then A else B:=by
 rw[QaG rfl];exact h
def aY(H H':Hp):Prop:=∀b o,H b=some o->H' b=some o
def aY.refl(H:Hp):aY H H:=λ_ _ h=>h
def aY.trans(a:aY H H1)(b:aY H1 H2):aY H H2:=λc o h=>b c o$ a c o h
def aY.free{H H':Hp}(e:aY H H'){l:Addr}(h:H' l=Option.none):H l=Option.none:=by
 cases q:H l with
 | none=>rfl
 | some o=>
   rw[e l o q] at h;cases h
noncomputable def oJ(cells:List (Str × Addr)):List (Str × NameKind)->List (Str × Addr)->List (Str × Addr)
 | [],acc=>acc
 | (n,k) ::r,acc=>oJ cells r (if k==NameKind.free then(n,(cells.lookup n).getD 0) ::acc else acc)
def me{env:Env}:∀(names:List (Str × NameKind)) (acc:List (Str × Addr)),(∀y∈names,y.2= .free->∃c,env.cells.lookup y.1=some c)->
 (forIn names acc λ(x:Str × NameKind) (cs:List (Str × Addr))=>(match x with
   | (name,kind)=>if kind== .free then do let a <-cellOf env name;pure (ForInStep.yield ((name,a) ::cs)) else pure (ForInStep.yield cs):Sem (ForInStep$ List$ Str × Addr)))=pure (oJ env.cells names acc)
 | [],acc,_=>by simp [oJ]
 | (n,k) ::r,acc,h=>by
   rw[Qcf];by_cases hk:k=NameKind.free
   .subst hk;obtain⟨c,hc⟩:=h (n, .free) Qat rfl;have e:cellOf env n=pure c:=by unfold cellOf;rw [hc]
    simp only[QbK,QbP,e,pure_bind,oJ,hc,Option.getD_some];exact me r _ λy hy=>h y$ Qag _ hy
   .have hb:(k==NameKind.free)=false:=by simpa using hk
    simp only[hb,QbX,if_false,pure_bind,oJ];exact me r _ λy hy=>h y$ Qag _ hy
def mL{env:Env}{scope:Scope}(h:∀y∈scope.names,y.2= .free->∃c,env.cells.lookup y.1=some c):closureFor scope env=pure (oJ env.cells scope.names []):=by
 unfold closureFor;have:=me (env:=env) scope.names [] h;simp only[bind_pure];exact this
def j6{cells:List (Str × Addr)}:∀(names:List (Str × NameKind)) (acc:List (Str × Addr)) {x:Str} {c:Addr},(oJ cells names acc).lookup x=some c->
 acc.lookup x=some c\/((x,NameKind.free)∈names/\c=(cells.lookup x).getD 0)
 | [],acc,x,c,h=> .inl h
 | (n,k) ::r,acc,x,c,h=>by
   rcases j6 r _ h with q | ⟨q1,q2⟩
   .by_cases hk:k=NameKind.free
    .subst hk;simp only[QbK,QbP] at q;cases hx:x==n with
     | true=>
       have e:x=n:=by simpa using hx
       subst e;rw[Qav,hx] at q;exact .inr ⟨Qat,(QaS q).symm⟩
     | false=>
       rw[Qav,hx] at q;exact .inl q
    .have hb:(k==NameKind.free)=false:=by simpa using hk
     simp only[hb,QbX,if_false] at q;exact .inl q
   .exact .inr ⟨Qag _ q1,q2⟩
theorem AN{cells:List (Str × Addr)}:∀(names:List (Str × NameKind)) (acc:List (Str × Addr)) {x:Str},((x,NameKind.free)∈names\/∃c,acc.lookup x=some c)->∃c,(oJ cells names acc).lookup x=some c
 | [],acc,x,h=>by
   rcases h with h | h
   .simp at h
   .exact h
 | (n,k) ::r,acc,x,h=>by
   refine AN r _ ?_;rcases h with h | ⟨c,h⟩
   .rcases Qaw.mp h with e | e
    .cases e;exact .inr ⟨(cells.lookup n).getD 0,by simp [Qav]⟩
    .exact .inl e
   .by_cases hk:k=NameKind.free
    .subst hk;simp only[QbK,QbP];cases hx:x==n with
     | true=>exact .inr ⟨(cells.lookup n).getD 0,by rw[Qav,hx]⟩
     | false=>exact .inr ⟨c,by rw[Qav,hx];exact h⟩
    .have hb:(k==NameKind.free)=false:=by simpa using hk
     simp only[hb,QbX,if_false];exact .inr ⟨c,h⟩
theorem yz:∀(names:List (Str × NameKind)) (n:Nat) (acc:List (Str × Addr)) {x:Str},(x,NameKind.cell) ∉ names->(cellsFrom n names acc).lookup x=acc.lookup x
 | [],_,_,_,_=>rfl
 | (y,k) ::r,n,acc,x,h=>by
   unfold cellsFrom;split
   .rename_i hk;have hk:k= .cell:=by simpa using hk
    subst hk;rw[yz r _ _ λz=>h$ Qag _ z,Qav]
    cases hx:x==y with
    | true=>
      have e:x=y:=by simpa using hx
      subst e;exact absurd Qat h
    | false=>rfl
   .exact yz r _ _ λz=>h$ Qag _ z
theorem pJ:∀(names:List (Str × NameKind)) (n:Nat) (acc:List (Str × Addr)),cellsFrom n names acc=cellsFrom n names []++acc
 | [],_,_=>rfl
 | (y,k) ::r,n,acc=>by
   unfold cellsFrom;split
   .rw [pJ r (n+1) ((y,n) ::acc),pJ r (n+1) [(y,n)],QaR];rfl
   .exact pJ r n acc
def Bw{a b:List (Str × Addr)}{c:Addr}(h:(a++b).lookup x=some c):(x,c)∈a\/b.lookup x=some c:=by
 induction a with
 | nil=>exact .inr h
 | cons y r ih=>
   obtain⟨n,v⟩:=y;rw[QaM,Qav] at h;cases hx:x==n with
   | true=>
     rw[hx] at h;have e:x=n:=by simpa using hx
     subst e;cases h;exact .inl Qat
   | false=>
     rw[hx] at h;exact(ih h).imp (Qag _) id
def nk{a b:List (Str × Addr)}(h:∃c,b.lookup x=some c):∃c,(a++b).lookup x=some c:=by
 induction a with
 | nil=>exact h
 | cons y r ih=>
   rw[QaM,Qav];cases x==y.1 with
   | true=>exact⟨_,rfl⟩
   | false=>exact ih
def yB{a b:List (Str × Addr)}{c:Addr}(h:a.lookup x=some c):∃c,(a++b).lookup x=some c:=by
 induction a with
 | nil=>cases h
 | cons y r ih=>
   rw[QaM,Qav];rw[Qav] at h;cases hx:x==y.1 with
   | true=>exact⟨_,rfl⟩
   | false=>rw [hx] at h;exact ih h
def wO{M:Model}{A:Around}{E:Aab}{s:Qdj}{scope:Scope}{cl:List (Str × Addr)}{qual:Str}{env:Env}{Q:Env->Qdj->Prop}(hQ:∀h',h'.Ns s.heap.objs.size (λ_=>none)->(∀b o,s.heap.get? b=some o->h'.get? b=some o)->CellsOk h' (s.heap.objs.size+1) (cellsFrom (s.heap.objs.size+1) scope.names [])->
 Q (newEnv scope s.heap.objs.size env.globals (cellsFrom (s.heap.objs.size+1) scope.names cl) qual none .none (some env) builtinsNs) {s with heap:=h'}) :
 wpAny M A (newFunctionEnv scope env.globals cl [] qual none .none$ some env) Q E s:=by
 simp only[newFunctionEnv,Option.isSome_some,QbP];refine Qab$ wpAny_alloc ?_;refine Qab (wpAny_layCells _ (λname kind cells=>by cases hkc:kind==NameKind.cell <;> simp [hkc]) _ _ _ _ ?_)
 have ok:=cellsFrom_ok scope.names (s.heap.push {cls:= .type "dict",data:= .dict #[]}) (s.heap.objs.size+1) [] ⟨λ_ _ hm=>(nomatch hm),List.Pairwise.nil⟩ (by rw[Qbb];exact Qai _)
 rw[Qbb] at ok;rw[show({s with heap:=s.heap.push {cls:= .type "dict",data:= .dict #[]}}:Qdj).heap.objs.size=s.heap.objs.size+1 from Qbb ..]
 rw[Qcl];refine Qab$ Qaj$ Qaj ?_;exact hQ _ ((Heap.Ns.new s.heap$ .type "dict").keeps$ pushCells_keeps _ _) (λb o e=>pushCells_keeps _ _ b o$ Qac _ e) ok
def bw(X:Cx)(scope:Scope)(N':List Str)(fp:List Addr)(s:Qdj)(H:Hp):Cx where
 prog:=X.prog
 w:=X.w
 K:=X.K
 mg:=X.mg
 base:=X.base
 A:=X.A
 N:=N'
 s₀:=s
 H₀:=H
 env:=compEnvC scope (cellsFrom (s.heap.objs.size+1) scope.names$ oJ X.env.cells scope.names []) s.heap.objs.size X.env
 outer:=X.stack
 stack:=X.stack
 ex:=fp
 fn:=λx=>scope.names.lookup x==some .cell
 calm:=X.calm
 pn:=[]
 xe:=λ_ _=>False
structure eF (X:Cx) (scope:Scope) (own:List Str) (kp:List Nat) (kn:List Str):Prop where
 kind:scope.kind= .function
 cel:∀y∈scope.names,y.2= .cell->scope.names.lookup y.1=some .cell
 nd:∀y∈scope.names,y.2= .local->scope.names.lookup y.1=some .local
 free:∀y∈scope.names,y.2= .free->X.env.kindOf y.1=some .cell\/X.env.kindOf y.1=some .free
 frl:∀y∈scope.names,y.2= .free->scope.names.lookup y.1=some .free
 names:kn.length=kp.length
 at_:∀(j i:Nat) (x:Str),kp[j]? =some i->kn[j]? =some x->X.N[i]? =some x
 isfree:∀x∈kn,scope.names.lookup x=some .free
noncomputable def dN(own:List Str)(kp:List Nat)(σ:St):St:=List.replicate own.length none++kp.map λi=>(σ[i]?).getD none
section
variable {X:Cx}{scope:Scope}{own:List Str}{kp:List Nat}{kn:List Str}
def eT{env:Env}:∀{names:List (Str × NameKind)} {x:Str} {k:NameKind},
 (names.map λ(n,k)=>if(k==NameKind.free && env.scope.kind== .function && env.kindOf n==some .cell) then(n,NameKind.cell) else(n,k)).lookup x=some k->
 names.lookup x=some k\/(k= .cell/\names.lookup x=some .free)
 | [],_,_,h=>by simp at h
 | (n,k) ::r,x,k',h=>by
   have ih:=@eT env r x k';have h:List.lookup x ((if(k==NameKind.free && env.scope.kind== .function && env.kindOf n==some .cell)=true then(n,NameKind.cell) else(n,k)) ::_)=some k':=h
   by_cases hc:(k==NameKind.free && env.scope.kind== .function && env.kindOf n==some .cell)=true
   .rw [QaG hc] at h;have hkf:k= .free:=by
     simp only[QaW,Qbj] at hc;exact hc.1.1
    cases hx:x==n with
    | true=>
      rw[Qav,hx] at h;cases h;exact .inr ⟨rfl,by rw[Qav,hx,hkf]⟩
    | false=>
      rw[Qav,hx] at h;rw[Qav,hx];exact ih h
   .rw [QaA hc] at h;cases hx:x==n with
    | true=>
      rw[Qav,hx] at h;rw[Qav,hx];exact .inl h
    | false=>
      rw[Qav,hx] at h;rw[Qav,hx];exact ih h
def pC{pins:Aaa}{s:Qdj}(C:eF X scope own kp kn)(I:Inv X pins σ H s):∀y∈scope.names,y.2= .free->∃c,X.env.cells.lookup y.1=some c:=λy hy hf=>
 I.ok.has y.1 (C.free y hy hf)
def IA{pins:Aaa}{σ:St}{H:Hp}{s:Qdj}{fp:List Addr}{i_:Heap}{tk:Nat}(C:eF X scope own kp kn)(I:Inv X pins σ H s)(hf:∀b∈fp,tR X pins H b)(hb:∀b∈fp,b<s.heap.objs.size)
 (hn:i_.Ns s.heap.objs.size (λ_=>none)) (hk:∀b o,s.heap.get? b=some o->i_.get? b=some o) (hC:CellsOk i_ (s.heap.objs.size+1) (cellsFrom (s.heap.objs.size+1) scope.names [])):Inv (bw X scope (own++kn) fp s H) [] (dN own kp σ) H {s with heap:=i_,toks:=tk}:=by
 have cl:∀x c,(oJ X.env.cells scope.names []).lookup x=some c->X.env.cells.lookup x=some c:=λx c e=>by
  rcases j6 scope.names [] e with q | ⟨q1,q2⟩
  .simp at q
  .obtain⟨c',Gz⟩:=pC C I (x, .free) q1 rfl;have Gz:X.env.cells.lookup x=some c':=Gz;rw[Gz] at q2;rw[Gz,q2];rfl
 have clA:∀x c,(cellsFrom (s.heap.objs.size+1) scope.names$ oJ X.env.cells scope.names []).lookup x=some c->(x,c)∈cellsFrom (s.heap.objs.size+1) scope.names []\/(oJ X.env.cells scope.names []).lookup x=some c:=λx c e=>by
  rw[pJ] at e;exact Bw e
 have old:∀x c,(oJ X.env.cells scope.names []).lookup x=some c->c<s.heap.objs.size:=λx c e=>by
  obtain⟨v,h⟩:=I.cell x c$ cl x c e;exact h.lt
 have new:∀x c,(x,c)∈cellsFrom (s.heap.objs.size+1) scope.names []->s.heap.objs.size<=c:=λx c e=>Nat.le_of_lt (hC.empty x c e).2
 have clh:∀x,scope.names.lookup x=some .free->∃c,(oJ X.env.cells scope.names []).lookup x=some c:=λx hx=>AN scope.names []$ .inl$ Qbn hx
 refine⟨⟨I.ok.mod,C.kind,I.ok.glob,I.ok.blt,Qai _,λx y c h1 h2=>?inj,λx hx=>?_,λx c hn h=>?cab,I.ok.hd,I.ok.frames, .inl rfl,λb rD=>⟨QaE$ hb b rD,λx c e z=>?exf⟩,
  λb o e=>I.bs b o e,QaP I.ok.bsz I.sz,λb o e rD=>?_,λb rD hs=>?_,I.stack,I.oC⟩,
  rfl,I.bare,Un.kept hk,⟨_,hn,λi x v h1 h2 h3=>?_⟩,λx c e=>?_,I.hok.fresh$ Qai _,λx c e=>?frc,λp hp=>(by cases hp),I.hok.kept hk,?_⟩
 case inj=>
  rcases clA x c h1 with a | a <;> rcases clA y c h2 with b | b
  .exact name_of_addr hC.apart a b
  .exact absurd (QaC (old y c b)$ new x c a) (QbF _)
  .exact absurd (QaC (old x c a)$ new y c b) (QbF _)
  .exact I.ok.inj x y c (cl x c a) (cl y c b)
 case cab=>
  have hn:(scope.names.lookup x==some .cell)=true:=hn;rcases clA x c h with a | a
  .exact new x c a
  .rcases j6 scope.names [] a with q | ⟨q1,q2⟩
   .simp at q
   .have hx:scope.names.lookup x=some .cell:=by simpa using hn
    have h7:scope.names.lookup x=some .free:=C.frl _ q1 rfl;rw[hx] at h7;cases h7
 case exf=>
  rcases clA x c e with a | a
  .subst z;exact absurd (QaC (hb _ rD)$ new x _ a)$ QbF _
  .exact(hf b rD).2.2.2.2.1 x c (cl x c a) z
 case frc=>
  rcases clA x c e with a | a
  .exact I.hok.fresh (new x c a)
  .exact I.freeC x c (cl x c a)
 .have hx:(relabel scope X.env).names.lookup x=some .cell\/(relabel scope X.env).names.lookup x=some .free:=hx;show ∃c,(cellsFrom (s.heap.objs.size+1) scope.names$ oJ X.env.cells scope.names []).lookup x=some c;rcases hx with hx | hx
  .rcases eT hx with q | ⟨_,q⟩
   .rw [pJ];obtain⟨c,hc⟩:=vp (n:=s.heap.objs.size+1) q;exact yB hc
   .rw [pJ];exact nk$ clh x q
  .rcases eT hx with q | ⟨q,_⟩
   .rw [pJ];exact nk$ clh x q
   .cases q
 .rcases(hf b rD).2.2.2.1 with z | z
  .exact I.ok.noex b o e z
  .exact absurd (QaC (Qar (I.ok.bs b o e).1) z) (QbF _)
 .rcases Qaw.mp (I.B6 b hs) with z | z
  .exact(hf b rD).2.1 z
  .exact(hf b rD).2.2.1 z
 .-- a kept name
  have h1:(own++kn)[i]? =some x:=h1;have h2:(dN own kp σ)[i]? =some (some v):=h2;unfold dN at h2;by_cases hi:i<own.length
  .rw [Qaz (by simpa using hi),QaV] at h2
   split at h2 <;> cases h2
  .rw [Qal (by simpa using hi),QaJ,Qaf] at h2
   rw[Qal$ by simpa using hi] at h1
   cases e:kp[i - own.length]? with
   | none=>rw [e] at h2;cases h2
   | some j=>
     rw[e] at h2;have h2:(σ[j]?).getD none=some v:=QaS h2;have hj:X.N[j]? =some x:=C.at_ _ j x e h1;have MV:σ[j]? =some (some v):=by
      cases q:σ[j]? with
      | none=>rw [q] at h2;cases h2
      | some y=>rw [q] at h2;exact Qbi some h2
     have hfree:scope.names.lookup x=some .free:=C.isfree x$ QaD h1;have hkind:=C.free (x, .free) (Qbn hfree) rfl;obtain⟨m,hm,hl⟩:=I.loc;obtain⟨u,r,l⟩:=hl j x v hj MV$ hkind.elim (λq=>Or.inr$ Or.inl q) λq=>Or.inr$ Or.inr q
     refine⟨u,r, .inr ⟨?_,?_⟩⟩
     .have h3:(relabel scope X.env).names.lookup x=some .local\/(relabel scope X.env).names.lookup x=some .cell\/(relabel scope X.env).names.lookup x=some .free:=h3;rcases h3 with q | q | q
      .rcases eT q with z | ⟨z,_⟩
       .rw [hfree] at z;cases z
       .cases z
      .exact .inl q
      .exact .inr q
     .rcases l with⟨k,_⟩ | ⟨_,c,hc,hcell⟩
      .rcases hkind with q | q
       .rw [show X.env.kindOf x=some .cell from q] at k;cases k
       .rw [show X.env.kindOf x=some .free from q] at k;cases k
      .obtain⟨c',Gz⟩:=clh x hfree;have:=cl x c' Gz;rw[hc] at this;cases this;obtain⟨o,ho,hd⟩:=hcell;exact⟨c,(yz _ _ _ λz=>by have:=C.cel _ z rfl;rw [hfree] at this;cases this).trans Gz,o,hk c o ho,hd⟩
 .rcases clA x c e with a | a
  .exact⟨_,(hC.empty x c a).1⟩
  obtain⟨v,o,ho,hd⟩:=I.cell x c$ cl x c a;exact⟨v,o,hk c o ho,hd⟩
 .show(dN own kp σ).length=(own++kn).length;unfold dN;rw[Qau,QaJ,Qaa,Qau,C.names]
def uG{pins:Aaa}{s s':Qdj}{fp:List Addr}{N':List Str}(I:Inv X pins σ H s)(hf:∀b∈fp,tR X pins H b)(J:Inv (bw X scope N' fp s H) [] c9 H' s'):Inv X pins σ H' s':=
 I.M9 (ch:=fp) J.os J.base J.hok J.bare λb hb=>⟨(hf b hb).2.2.2.1,(hf b hb).2.1,(hf b hb).2.2.2.2.1,(hf b hb).2.2.2.2.2⟩
end
def pW(X:Cx)(ifs:List Expr)(t:TT):Prop:=
 ∀(pins:Aaa) (s:Qdj) (σ:St) (H:Hp) (Q:Bool->Hp->Prop),Inv X pins σ H s->t σ H Q->
  wpAny (model X.prog X.w) X.A (forIn ifs true λc r=>if r=true then do let ok <-isTrue c X.env (eval c X.env);pure (ForInStep.yield ok) else pure (ForInStep.yield r)) (TP X pins σ Q) X.xe s
def Vv:TT:=λ_ H Q=>Q true H
def AE{X:Cx}:pW X [] Vv:=λ_ _ _ H _ I h=>wpAny_tests_nil ⟨H,I,h⟩
def A9{X:Cx}{t:TT}(h:PT X c t):pW X [c] t:=λpins s σ H Q I hq=>wpAny_tests_one$ h pins s σ H Q I hq
def Dj(wi:TI)(g:TG)(tc:TT)(te:TE)(own:List Str)(kp:List Nat):TE:=λσ H Q=>wi σ H λJ H1=>∀D,H1 D=none->
 ∃W:Nat->Nat->List V->Hp->Prop,(∃m,W 0 m []$ upd H1 D$ .lst [])/\∀i m ys H,W i m ys H->
  (J.stop i H/\Q (.ref D) H)\/(J.go i H/\∀x H',J.yld i H x H'->g x (dN own kp σ) H' λzk H2=>tc zk H2 λc H3=>
    if c=true then te zk H3 λy H4=>H4 D=some (.lst ys)/\ys.length<sizeLine/\∃m',m'<m/\W (i+1) m' (ys++[y]) (upd H4 D$ .lst$ ys++[y])
    else ∃m',m'<m/\W (i+1) m' ys H3)
section
variable {X:Cx}{scope:Scope}{own:List Str}{kp:List Nat}{kn:List Str}{tg iter elt:Expr}{ifs:List Expr}{wi:TI}{g:TG}{tc:TT}{te:TE}{pos:Pos}
def zK{pins:Aaa}{σ:St}{H:Hp}{s:Qdj}{fp:List Addr}{it D:Addr}{tn:Nat->Heap->Prop}{J:It}{Q:VK}{i_:Heap}{tk:Nat}{R:Result->Qdj->Prop}
 (hc:X.calm=true) (C:eF X scope own kp kn) (I:Inv X pins σ H s) (hf:∀b∈fp,tR X pins H b) (hb:∀b∈fp,b<s.heap.objs.size) (T:Turn X.prog X.w X.K tg J fp it tn)
 (hg:PG (bw X scope (own++kn) fp s H) tg g) (hi:pW (bw X scope (own++kn) fp s H) ifs tc) (he:PE (bw X scope (own++kn) fp s H) elt te)
 (hn:i_.Ns s.heap.objs.size (λ_=>none)) (hk:∀b o,s.heap.get? b=some o->i_.get? b=some o) (hC:CellsOk i_ (s.heap.objs.size+1) (cellsFrom (s.heap.objs.size+1) scope.names [])) (st:tn 0 s.heap)
 (W:Nat->Nat->List V->Hp->Prop) (w0:∃m,W 0 m [] H)
 (turn:∀i m ys H,W i m ys H->
   (J.stop i H/\Q (.ref D) H)\/(J.go i H/\∀x H',J.yld i H x H'->g x (dN own kp σ) H' λzk H2=>tc zk H2 λc H3=>
     if c=true then te zk H3 λy H4=>H4 D=some (.lst ys)/\ys.length<sizeLine/\∃m',m'<m/\W (i+1) m' (ys++[y]) (upd H4 D$ .lst$ ys++[y])
     else ∃m',m'<m/\W (i+1) m' ys H3))
 (hR:∀H' s' c9,Inv (bw X scope (own++kn) fp s H) [] c9 H' s'->Q (.ref D) H'->R (.ok .next) s') :
 codeAny (model X.prog X.w) X.A (.compStart (.ListComp elt [⟨tg,iter,ifs,0⟩] scope pos) 0 (.ref it) (.ref D) (bw X scope (own++kn) fp s H).env) R {s with heap:=i_,toks:=tk}:=by
 have I1:Inv (bw X scope (own++kn) fp s H) [] (dN own kp σ) H {s with heap:=i_,toks:=tk}:=IA C I hf hb hn hk hC
 have Zh:tn 0 i_:=T.keep _ _ _ st λb _ o e=>hk b o e
 have fp1:∀{H':Hp} {p:Aaa},(∀b∈fp,H' b=none)->(∀b∈fp,∀q∈p,q.1≠b)->∀b∈fp,tR (bw X scope (own++kn) fp s H) p H' b:=fun {H' p} hn hp b rD=>
  ⟨hn b rD,(I1.ok.exf b rD).1,I1.ok.exfs b rD, .inl rD,λx c e=>(I1.ok.exf b rD).2 x c e,λq hq=>hp b rD q hq⟩
 obtain⟨m0,w0⟩:=w0;have loop:codeAny (model X.prog X.w) X.A (.compLoop (.ListComp elt [⟨tg,iter,ifs,0⟩] scope pos) 0 (.ref it) (.ref D) (bw X scope (own++kn) fp s H).env) R {s with heap:=i_,toks:=tk}:=by
  refine codeAny_loop rfl (λn s'=>∃i ys H',Inv (bw X scope (own++kn) fp s H) [] (dN own kp σ) H' s'/\tn i s'.heap/\(∀b∈fp,H' b=none)/\W i n ys H') (λn s' hI=>?_) m0 ⟨0,[],H,I1,Zh,λb rD=>(hf b rD).1,w0⟩
  obtain⟨i,ys,H3,I3,MQ,T_,w3⟩:=hI;show wpAny _ _ ((compTurn (.ListComp elt [⟨tg,iter,ifs,0⟩] scope pos) 0 (.ref it) (.ref D) (bw X scope (own++kn) fp s H).env).onRaise$ λx=>do noteFrame x (bw X scope (own++kn) fp s H).env;theTreesLotGoes x) _ _ s'
  refine wpAny_noted$ wpAny_noRaise ?_;rw[compTurn_list];refine Qab$ wpAny_standAt$ Qab ?_;rcases turn i n ys H3 w3 with⟨stop,q⟩ | ⟨go,step⟩
  .refine dP (T.done (bw X scope (own++kn) fp s H) rfl rfl rfl hc i [] s' _ H3 _ I3 (fp1 T_$ λ_ _ q hq=>by cases hq) MQ stop) λr s4 ⟨hr,I4⟩=>?_
   subst hr;exact Qaj$ hR H3 s4 _ I4 q
  .refine dP (T.item (bw X scope (own++kn) fp s H) rfl rfl rfl hc i [] s' _ H3 _ I3 (fp1 T_$ λ_ _ q hq=>by cases hq) MQ go) λr s4 ⟨u,hr,h4⟩=>?_
   subst hr;refine Qab$ dP h4 λ_ s5 ⟨x,H5,I5,r5,y5,QE,Xo⟩=>?_
   have I5':=I5.pinned (fp1 Xo$ λ_ _ q hq=>by cases hq) (T.obj _ _ QE)
   have keepIt:∀{Bb:St} {H7:Hp} {s7:Qdj},Inv (bw X scope (own++kn) fp s H) ([]++pH fp s5.heap) Bb H7 s7->tn (i+1) s7.heap/\∀b∈fp,H7 b=none:=fun {Bb H7 s7} I7=>by
    refine⟨T.keep _ _ _ QE λb hb o e=>(I7.pin (b,o)$ Qa2 _$ Qa2 _$ mi hb e).1,λb hb=>?_⟩
    obtain⟨o,e,d⟩:=T.obj _ _ QE b hb;exact(I7.pin (b,o)$ Qa2 _$ Qa2 _$ mi hb e).2.1
   have reset:∀{Bb:St} {H7:Hp} {s7:Qdj},Inv (bw X scope (own++kn) fp s H) ([]++pH fp s5.heap) Bb H7 s7->Inv (bw X scope (own++kn) fp s H) [] (dN own kp σ) H7 s7:=fun {Bb H7 s7} I7=>by
    have I8:=I7.rh;have hun:Un (pN X.stack) fp H H7 s.heap s7.heap:=I8.base;have I9:Inv X pins σ H7 s7:=uG I hf I8;refine⟨I8.ok,I8.os,I8.bare,I8.base,?_,I8.cell,I8.free,I8.freeC,I8.pin,I8.hok,I1.len⟩;obtain⟨m,hm,_⟩:=I8.loc;refine⟨m,hm,λi x v h1 h2 h3=>?_⟩
    obtain⟨m1,Q0,Gj⟩:=I1.loc;obtain⟨u1,r1,l1⟩:=Gj i x v h1 h2 h3;have h1:(own++kn)[i]? =some x:=h1;have h2:(dN own kp σ)[i]? =some (some v):=h2;unfold dN at h2;by_cases hi:i<own.length
    .rw [Qaz (by simpa using hi),QaV] at h2
     split at h2 <;> cases h2
    .rw [Qal (by simpa using hi),QaJ,Qaf] at h2
     rw[Qal$ by simpa using hi] at h1
     cases e:kp[i - own.length]? with
     | none=>rw [e] at h2;cases h2
     | some j=>
       rw[e] at h2;have h2:(σ[j]?).getD none=some v:=QaS h2;have hj:X.N[j]? =some x:=C.at_ _ j x e h1;have MV:σ[j]? =some (some v):=by
        cases q:σ[j]? with
        | none=>rw [q] at h2;cases h2
        | some y=>rw [q] at h2;exact Qbi some h2
       have hfree:scope.names.lookup x=some .free:=C.isfree x$ QaD h1;have hkind:=C.free (x, .free) (Qbn hfree) rfl;obtain⟨m9,hm9,hl9⟩:=I9.loc;obtain⟨u,r,l⟩:=hl9 j x v hj MV$ hkind.elim (λq=>Or.inr$ Or.inl q) λq=>Or.inr$ Or.inr q
       refine⟨u,r, .inr ?_⟩;rcases l1 with⟨k,k2⟩ | ⟨k,c,hc,hcell⟩
       .have k:(relabel scope X.env).names.lookup x=some .local:=k;rcases eT k with z | ⟨z,_⟩
        .rw [hfree] at z;cases z
        .cases z
       .refine⟨k,c,hc,?_⟩;rcases l with⟨k',_⟩ | ⟨_,c',Gz,QK⟩
        .rcases hkind with q | q
         .rw [show X.env.kindOf x=some .cell from q] at k';cases k'
         .rw [show X.env.kindOf x=some .free from q] at k';cases k'
        .have hcl:(oJ X.env.cells scope.names []).lookup x=some c:=(yz _ _ _ λz=>by have:=C.cel _ z rfl;rw [hfree] at this;cases this).symm.trans hc
         rcases j6 scope.names [] hcl with q | ⟨q1,q2⟩
         .simp at q
         .rw [Gz] at q2;have q2:c=c':=q2;rw[q2];exact QK
   have hmm:=hg ([]++pH fp s5.heap) s5 (dN own kp σ) H5 x u _ I5' r5$ step x H5 y5;refine Qab$ dP hmm λ_ s6 ⟨TV,H6,I6,q6⟩=>?_
   refine Qab$ dP (hi _ s6 TV H6 _ I6 q6) λok s7 ⟨H7,I7,q7⟩=>?_
   cases ok with
   | false=>
     simp only[QbX,if_false] at q7 ⊢;obtain⟨m',Q_,w7⟩:=q7;obtain⟨a1,a2⟩:=keepIt I7;exact Qaj ⟨rfl,m',Q_,i+1,ys,H7,reset I7,a1,a2,w7⟩
   | true=>
     simp only[QbP] at q7 ⊢;refine Qab$ Qab$ dP (he _ s7 TV H7 _ I7 q7) λyv s8 ⟨y,H8,I8,r8,hD,hlt,m',Q_,w8⟩=>Qab ?_
     obtain⟨a1,a2⟩:=keepIt I8;refine dP (sf _ s8 TV H8 (.ref D) [y] (.ref D) [yv] (λv H9=>v= .cI/\H9=upd H8 D (.lst$ ys++[y])) I8 rfl (.cons r8 .nil) ⟨D,ys,y,rfl,rfl,hD,hlt,rfl,rfl⟩) λ_ s9 ⟨v9,H9,I9,_,_,e9⟩=>?_
     subst e9;obtain⟨b1,b2⟩:=keepIt I9;exact Qaj$ Qaj ⟨rfl,m',Q_,i+1,ys++[y],_,reset I9,b1,b2,w8⟩
 exact codeAny_compStart_list loop$ T.self _ _ _ _ _ Zh loop
def CY(hc:X.calm=true)(C:eF X scope own kp kn)(hi:PI X tg iter wi)(hg:∀fp s H,PG (bw X scope (own++kn) fp s H) tg g)(wM:∀fp s H,pW (bw X scope (own++kn) fp s H) ifs tc)
 (he:∀fp s H,PE (bw X scope (own++kn) fp s H) elt te) (hs:∀x,foldedSetIterable iter X.env x=pure x:=by intro _;rfl):PE X (.ListComp elt [⟨tg,iter,ifs,0⟩] scope pos) (Dj wi g tc te own kp):=by
 intro pins s σ H Q I h;rw[eval_ListComp];refine wpAny_comprehension_free (use:=none) rfl hs (mL$ pC C I) C.kind C.nd$ dP (hi pins s σ H _ I h) λv s1 h1=>dP h1 λUR s2 h2=>?_
 obtain⟨it,fp,tn,J,H2,e,I2,T,Ko,f2,q⟩:=h2;subst e;refine Qa8 ?_;have I3:Inv X pins σ (upd H2 s2.heap.objs.size$ .lst []) {s2 with heap:=s2.heap.push {cls:= .type "list",dict:=none,data:= .seq ([]:List Value).toArray}}:=I2.Mx (its:=[]) (t':=s2.toks) .nil$ Qbf _
 obtain⟨W,w0,turn⟩:=q s2.heap.objs.size I2.fresh;have fne:∀b∈fp,b<s2.heap.objs.size:=λb hb=>let⟨o,e,_⟩:=T.obj _ _ Ko b hb;Qar e
 have f3:∀b∈fp,tR X pins (upd H2 s2.heap.objs.size$ .lst []) b:=λb hb=>⟨by rw[bg$ QaE$ fne b hb];exact(f2 b hb).1,(f2 b hb).2⟩
 generalize hs3:({s2 with heap:=s2.heap.push {cls:= .type "list",dict:=none,data:= .seq ([]:List Value).toArray}}:Qdj)=s3 at I3 ⊢
 have MQ:tn 0 s3.heap:=by rw[<-hs3];exact T.keep _ _ _ Ko λb _ o e=>Qac _ e
 have fne3:∀b∈fp,b<s3.heap.objs.size:=λb hb=>by rw[<-hs3];exact QaC (fne b hb) (by rw[Qbb];exact QbT _)
 refine wO λi_ CP hk hC=>?_
 refine zK (D:=s2.heap.objs.size) hc C I3 f3 fne3 T (hg fp s3 _) (wM fp s3 _) (he fp s3 _) CP hk hC MQ W w0 turn λH' s' c9 J' hq=>?_
 have B:=uG I3 f3 J';obtain⟨m',Q_,_⟩:=J'.loc;refine⟨m',Q_,λh' sb=>⟨.ref s2.heap.objs.size,H',?_,rfl,hq⟩⟩
 have fC:=I3.wu (H':=H') (b:=s3.heap.objs.size) (Qai _) J'.free;exact B.turned (it:=s3.heap.objs.size) (t':=s'.toks) (λb o hb e=>(sb.2 b hb).trans e) fC.1 fC.2.1 fC.2.2.2.1 fC.2.2.2.2.1 fC.2.2.2.2.2
def l3{i:Nat}{x:Str}{pos' ix:Pos}(hc:X.calm=true)(hN:X.N.Nodup)(hx:X.N[i]? =some x)(Ep:X.env.scope.names.lookup x=some .local)(C:eF X scope own kp kn)(hi:PI X tg iter wi)
 (hg:∀fp s H,PG (bw X scope (own++kn) fp s H) tg g) (wM:∀fp s H,pW (bw X scope (own++kn) fp s H) ifs tc)
 (he:∀fp s H,PE (bw X scope (own++kn) fp s H) elt te)
 (t9:swapsWith (.ListComp elt [⟨tg,iter,ifs,0⟩] scope pos) (some$ .Name x pos') ix.line X.env=pure true:=by rfl)
 (hs:∀x,foldedSetIterable iter X.env x=pure x:=by intro _;rfl) :
 PS X (.Assign [.Name x pos'] (.ListComp elt [⟨tg,iter,ifs,0⟩] scope pos) ix) (EX (Dj wi g tc te own kp)$ vS i):=by
 intro pins s σ H D I h;rw[exec_Assign_Name_used _ _ _ _ t9];refine Qab$ wpAny_standAt$ Qab ?_;show wpAny _ X.A (do let _ <-comprehension (.ListComp elt [⟨tg,iter,ifs,0⟩] scope pos) scope X.env _ (newList []) false (eval iter X.env) (some$ assign (.Name x pos') X.env)) _ _ s
 refine Qab (QbM (wpAny_comprehension_free (use:=some$ assign (.Name x pos') X.env) (Q:=λ_ s'=>SP X pins D .next s') rfl hs (mL$ pC C I) C.kind C.nd
  (dP (hi pins s σ H _ I h) λv s1 h1=>dP h1 λUR s2 h2=>?_)) (λ_ s' hq=>Qaj$ Qaj hq) λ_ _ e=>e)
 obtain⟨it,fp,tn,J,H2,e,I2,T,Ko,f2,q⟩:=h2;subst e;refine Qa8 ?_;have I3:Inv X pins σ (upd H2 s2.heap.objs.size$ .lst []) {s2 with heap:=s2.heap.push {cls:= .type "list",dict:=none,data:= .seq ([]:List Value).toArray}}:=I2.Mx (its:=[]) (t':=s2.toks) .nil$ Qbf _
 obtain⟨W,w0,turn⟩:=q s2.heap.objs.size I2.fresh;have fne:∀b∈fp,b<s2.heap.objs.size:=λb hb=>let⟨o,e,_⟩:=T.obj _ _ Ko b hb;Qar e
 have f3:∀b∈fp,tR X pins (upd H2 s2.heap.objs.size$ .lst []) b:=λb hb=>⟨by rw[bg$ QaE$ fne b hb];exact(f2 b hb).1,(f2 b hb).2⟩
 generalize hs3:({s2 with heap:=s2.heap.push {cls:= .type "list",dict:=none,data:= .seq ([]:List Value).toArray}}:Qdj)=s3 at I3 ⊢
 have MQ:tn 0 s3.heap:=by rw[<-hs3];exact T.keep _ _ _ Ko λb _ o e=>Qac _ e
 have fne3:∀b∈fp,b<s3.heap.objs.size:=λb hb=>by rw[<-hs3];exact QaC (fne b hb) (by rw[Qbb];exact QbT _)
 refine wO λi_ CP hk hC=>?_
 refine zK (Q:=λx H1=>vS i x σ H1 D.nx) (D:=s2.heap.objs.size) hc C I3 f3 fne3 T (hg fp s3 _) (wM fp s3 _) (he fp s3 _) CP hk hC MQ W w0 turn λH' s' c9 J' hq=>?_
 have B:=uG I3 f3 J';obtain⟨m',Q_,_⟩:=J'.loc;have fC:=I3.wu (H':=H') (b:=s3.heap.objs.size) (Qai _) J'.free;show wpAny _ X.A (assign (.Name x pos') X.env$ .ref s2.heap.objs.size) _ _ s';refine wpAny_assign_Name$ wX B hN hx (.inl Ep) (v:= .ref s2.heap.objs.size) rfl (λs4 I4 ⟨a,sb,ha⟩=>?_)$ .inr Ep
 have ha':s3.heap.objs.size≠a:=by
  rcases ha with rfl | z
  .exact fC.2.1
  .exact λe=>fC.2.2.2.2.1 x a z e.symm
 refine⟨m',Q_.sameBut sb ha',λh' sb'=>⟨_,H',?_,hq⟩⟩
 exact I4.turned (it:=s3.heap.objs.size) (t':=s4.toks) (λb o hb e=>(sb'.2 b hb).trans e) fC.1 fC.2.1 fC.2.2.2.1 fC.2.2.2.2.1 fC.2.2.2.2.2
end
inductive D where
 | cI | bl (b:Bool) | int (i:Int) | str (x:Str) | lst (ds:List D) | tup (ds:List D) | dct (ks:List Key) (ds:List D)
inductive R (α:Type) where
 | ok (a:α) | ex (c:Nat) | no
noncomputable def R.bind{α β:Type}:R α->(α->R β)->R β
 | .ok a,f=>f a
 | .ex c,_=> .ex c
 | .no,_=> .no
def R.aj{α β:Type}{r:R α}{f:α->R β}{b:β}(h:r.bind f= .ok b):∃a,r= .ok a/\f a= .ok b:=by
 cases r with
 | ok a=>exact⟨a,rfl,h⟩
 | ex c=>cases h
 | no=>cases h
@[simp] theorem R.aX{α β:Type}(a:α)(f:α->R β):(R.ok a).bind f=f a:=rfl
noncomputable def R.aS{α:Type}(c:Bool)(r:R α):R α:=if c then r else .no
def R.bh{α:Type}{c:Bool}{r:R α}{a:α}(h:R.aS c r= .ok a):c=true/\r= .ok a:=by
 cases c with
 | true=>exact⟨rfl,h⟩
 | false=>cases h
@[simp] theorem R.Ro{α:Type}(r:R α):R.aS true r=r:=rfl
def v_(K:Qdi)(B:List Addr)(H:Hp)(a:Addr)(xs:List V):Prop:=
 (a ∉ B/\Rd H a (.lst xs))\/∃(its:List Value) (n:Nat),K.lookup a=some {cls:= .type "list",data:= .seq its.toArray n}/\xs.length<=sizeLine/\Vals xs its
def xh(K:Qdi)(B:List Addr)(H:Hp)(a:Addr)(xs:List V):Prop:=
 (a ∉ B/\Rd H a (.tup xs))\/∃(o:Obj) (its:Array Value) (n:Nat),K.lookup a=some o/\o.cls= .type "tuple"/\o.data= .seq its n/\its.size<=sizeLine/\Vals xs its.toList
def v_.sq{K:Qdi}{B:List Addr}{a:Addr}{xs:List V}(h:v_ K B H a xs):pI K H a xs:=by
 rcases h with z | ⟨its,n,hk,hz,r⟩
 .exact .inl z.2
 .exact .inr ⟨_,its.toArray,n,hk,rfl,rfl,rfl,by rw[Qao,<-r.length];exact hz,by simpa using r⟩
def xh.sq{K:Qdi}{B:List Addr}{a:Addr}{xs:List V}(h:xh K B H a xs):rA K H a xs:=h.elim (λz=> .inl z.2) .inr
mutual
def Rep(K:Qdi)(B:List Addr)(H:Hp):D->V->Prop
 | .cI,v=>v= .cI
 | .bl b,v=>v= .bl b
 | .int i,v=>v= .int i
 | .str x,v=>v= .str x
 | .lst ds,v=>∃a xs,v= .ref a/\v_ K B H a xs/\aI K B H ds xs
 | .tup ds,v=>∃a xs,v= .ref a/\xh K B H a xs/\aI K B H ds xs
 | .dct ks ds,v=>∃(a:Addr) (aW:List (Key × V)),v= .ref a/\(a ∉ B/\H a=some (.dK aW))/\aW.map (·.1)=ks/\aI K B H ds (aW.map (·.2))
def aI(K:Qdi)(B:List Addr)(H:Hp):List D->List V->Prop
 | [],xs=>xs=[]
 | d ::ds,xs=>∃x r,xs=x ::r/\Rep K B H d x/\aI K B H ds r
end
def dO(B:List Addr)(H:Hp)(B':List Addr)(H':Hp):Prop:=∀b o,H b=some o->b ∉ B->H' b=some o/\b ∉ B'
def dO.rd{B B':List Addr}(p:dO B H B' H'){a:Addr}{u:HO}(h:Rd H a u)(n:a ∉ B):Rd H' a u/\a ∉ B':=by
 rcases h with e | ⟨o,e⟩
 .exact⟨.inl (p a _ e n).1,(p a _ e n).2⟩
 .exact⟨.inr ⟨o,(p a _ e n).1⟩,(p a _ e n).2⟩
def dO.trans{B B' Uh:List Addr}(p:dO B H B' H')(q:dO B' H' Uh oO):dO B H Uh oO:=λb o e n=>
 let⟨e1,n1⟩:=p b o e n;q b o e1 n1
def dO.same{B:List Addr}(s:aY H H'):dO B H B H':=λb o e n=>⟨s b o e,n⟩
def dO.refl(B:List Addr)(H:Hp):dO B H B H:=dO.same$ aY.refl H
def v_.bu{K:Qdi}{B B':List Addr}(p:dO B H B' H'){a:Addr}{xs:List V}(l:v_ K B H a xs):v_ K B' H' a xs:=
 l.elim (λz=> .inl ⟨(p.rd z.2 z.1).2,(p.rd z.2 z.1).1⟩) .inr
mutual
theorem Rep.bu{K:Qdi}{B B':List Addr}(p:dO B H B' H'):∀{d:D} {v:V},Rep K B H d v->Rep K B' H' d v
 | .cI,_,h=>h
 | .bl _,_,h=>h
 | .int _,_,h=>h
 | .str _,_,h=>h
 | .lst ds,v,h=>by
   unfold Rep at h ⊢;obtain⟨a,xs,e,l,r⟩:=h;exact⟨a,xs,e,l.bu p,aI.bu p r⟩
 | .tup ds,v,h=>by
   unfold Rep at h ⊢;obtain⟨a,xs,e,l,r⟩:=h;exact⟨a,xs,e,l.elim (λz=> .inl ⟨(p.rd z.2 z.1).2,(p.rd z.2 z.1).1⟩) .inr,aI.bu p r⟩
 | .dct ks ds,v,h=>by
   unfold Rep at h ⊢;obtain⟨a,aW,e,⟨n,l⟩,k,r⟩:=h;exact⟨a,aW,e,⟨(p a _ l n).2,(p a _ l n).1⟩,k,aI.bu p r⟩
theorem aI.bu{K:Qdi}{B B':List Addr}(p:dO B H B' H'):∀{ds:List D} {xs:List V},aI K B H ds xs->aI K B' H' ds xs
 | [],_,h=>h
 | d ::ds,xs,h=>by
   unfold aI at h ⊢;obtain⟨x,r,e,h1,h2⟩:=h;exact⟨x,r,e,Rep.bu p h1,aI.bu p h2⟩
end
def Rep.same{K:Qdi}{B:List Addr}{d:D}{v:V}(h:Rep K B H d v)(s:aY H H'):Rep K B H' d v:=h.bu$ dO.same s
def aI.same{K:Qdi}{B:List Addr}{d:List D}{v:List V}(h:aI K B H d v)(s:aY H H'):aI K B H' d v:=h.bu$ dO.same s
def aI.nil{K:Qdi}{B:List Addr}:aI K B H [] []:=by unfold aI;rfl
def aI.cons{K:Qdi}{B:List Addr}{d:D}{ds:List D}{x:V}{xs:List V}(h:Rep K B H d x)(t:aI K B H ds xs):aI K B H (d ::ds) (x ::xs):=by
 unfold aI;exact⟨x,xs,rfl,h,t⟩
def aI.cm{K:Qdi}{B:List Addr}{d:D}{ds:List D}{xs:List V}(h:aI K B H (d ::ds) xs):∃x r,xs=x ::r/\Rep K B H d x/\aI K B H ds r:=by
 unfold aI at h;exact h
theorem aI.length{K:Qdi}{B:List Addr}:∀{ds:List D} {xs:List V},aI K B H ds xs->ds.length=xs.length
 | [],_,h=>by unfold aI at h;rw [h];rfl
 | d ::ds,xs,h=>by
   obtain⟨x,r,rfl,_,h2⟩:=h.cm;simp [h2.length]
theorem aI.get{K:Qdi}{B:List Addr}:∀{ds:List D} {xs:List V} {i:Nat} {d:D},aI K B H ds xs->ds[i]? =some d->∃x,xs[i]? =some x/\Rep K B H d x
 | [],_,_,_,_,e=>by simp at e
 | d ::ds,xs,0,d',h,e=>by
   obtain⟨x,r,rfl,h1,h2⟩:=h.cm;simp at e;subst e;exact⟨x,rfl,h1⟩
 | d ::ds,xs,i+1,d',h,e=>by
   obtain⟨x,r,rfl,h1,h2⟩:=h.cm;obtain⟨y,e1,e2⟩:=aI.get (i:=i) h2 (by simpa using e)
   exact⟨y,by simpa using e1,e2⟩
theorem aI.append{K:Qdi}{B:List Addr}:∀{ds es:List D} {xs ys:List V},aI K B H ds xs->aI K B H es ys->aI K B H (ds++es) (xs++ys)
 | [],_,_,_,h,t=>by unfold aI at h;subst h;exact t
 | d ::ds,es,xs,ys,h,t=>by
   obtain⟨x,r,rfl,h1,h2⟩:=h.cm;exact aI.cons h1$ aI.append h2 t
theorem aI.drop{K:Qdi}{B:List Addr}:∀{ds:List D} {xs:List V} (n:Nat),aI K B H ds xs->aI K B H (ds.drop n) (xs.drop n)
 | _,_,0,h=>h
 | [],_,n+1,h=>by unfold aI at h;subst h;exact aI.nil
 | d ::ds,xs,n+1,h=>by
   obtain⟨x,r,rfl,h1,h2⟩:=h.cm;exact aI.drop n h2
theorem aI.take{K:Qdi}{B:List Addr}:∀{ds:List D} {xs:List V} (n:Nat),aI K B H ds xs->aI K B H (ds.take n) (xs.take n)
 | _,_,0,h=>aI.nil
 | [],_,n+1,h=>by unfold aI at h;subst h;exact aI.nil
 | d ::ds,xs,n+1,h=>by
   obtain⟨x,r,rfl,h1,h2⟩:=h.cm;exact aI.cons h1$ aI.take n h2
noncomputable def D.atom:D->Bool
 | .cI=>true | .bl _=>true | .int _=>true | .str _=>true | _=>false
def Rep.atom{K:Qdi}{B B':List Addr}{d:D}{v:V}(a:d.atom=true)(h:Rep K B H d v):Rep K B' H' d v:=by
 cases d <;> first | exact h | cases a
inductive Sl where
 | un | val (d:D) | bld (ds:List D)
abbrev av:=List Sl
structure eh (K:Qdi) (Z B:List Addr) (H:Hp) (σ:St) (δ:av):Prop where
 len:δ.length=σ.length
 bs:∀a∈B,∃o,H a=some o
 zb:∀a∈Z,a∈B
 val:∀(i:Nat) (d:D),δ[i]? =some (.val d)->∃v,σ[i]? =some (some v)/\Rep K B H d v
 bld:∀(i:Nat) (ds:List D),δ[i]? =some (.bld ds)->∃a xs,σ[i]? =some (some (.ref a))/\a∈B/\a ∉ Z/\H a=some (.lst xs)/\aI K B H ds xs
 dis:∀(i j:Nat) (a:Addr) (ds es:List D),δ[i]? =some (.bld ds)->δ[j]? =some (.bld es)->σ[i]? =some (some (.ref a))->σ[j]? =some (some (.ref a))->i=j
def eh.same{K:Qdi}{Z B:List Addr}{δ:av}(E:eh K Z B H σ δ)(s:aY H H'):eh K Z B H' σ δ where
 len:=E.len
 bs:=λa ha=>let⟨o,e⟩:=E.bs a ha;⟨o,s a o e⟩
 zb:=E.zb
 val:=λi d e=>let⟨v,h1,h2⟩:=E.val i d e;⟨v,h1,h2.same s⟩
 bld:=λi ds e=>let⟨a,xs,h1,h2,h3,h4,h5⟩:=E.bld i ds e;⟨a,xs,h1,h2,h3,s a _ h4,h5.same s⟩
 dis:=E.dis
noncomputable def RI(δ:av):av:=δ.map λx=>match x with | .bld ds=> .val (.lst ds) | y=>y
def PE.imp{X:Cx}{t t':TE}(h:PE X e t)(w:∀σ H Q,t' σ H Q->t σ H Q):PE X e t':=λpins s σ H Q I hq=>h pins s σ H Q I$ w σ H Q hq
def PT.imp{X:Cx}{t t':TT}(h:PT X e t)(w:∀σ H Q,t' σ H Q->t σ H Q):PT X e t':=λpins s σ H Q I hq=>h pins s σ H Q I$ w σ H Q hq
def PA.imp{X:Cx}{t t':TA}(h:PA X e t)(w:∀σ H Q,t' σ H Q->t σ H Q):PA X e t':=λpos pins s σ H Q I hq=>h pos pins s σ H Q I$ w σ H Q hq
def PS.imp{X:Cx}{t t':TS}(h:PS X e t)(w:∀D σ H,t' D σ H->t D σ H):PS X e t':=λpins s σ H D I hq=>h pins s σ H D I$ w D σ H hq
def y4.imp{X:Cx}{t t':TS}(h:y4 X e t)(w:∀D σ H,t' D σ H->t D σ H):y4 X e t':=λpins s σ H D I hq=>h pins s σ H D I$ w D σ H hq
def PG.imp{X:Cx}{t t':TG}(h:PG X e t)(w:∀v σ H Q,t' v σ H Q->t v σ H Q):PG X e t':=λpins s σ H v u Q I r hq=>h pins s σ H v u Q I r$ w v σ H Q hq
def PI.imp{X:Cx}{t t':TI}(h:PI X tg e t)(w:∀σ H Q,t' σ H Q->t σ H Q):PI X tg e t':=λpins s σ H Q I hq=>h pins s σ H Q I$ w σ H Q hq
abbrev FD:=av->R D
def tD(K:Qdi)(f:FD):TE:=λσ H Q=>∃Z B δ d,eh K Z B H σ δ/\f δ= .ok d/\∀v H',aY H H'->Rep K B H' d v->Q v H'
def tN(K:Qdi)(f:av->R (List D)):TE:=λσ H Q=>∃Z B δ ds,eh K Z B H σ δ/\f δ= .ok ds/\∀a xs H',aY H H'->H a=none->H' a=some (.lst xs)->aI K (a ::B) H' ds xs->Q (.ref a) H'
def K1(K:Qdi)(f:av->R Bool):TT:=λσ H Q=>∃Z B δ b,eh K Z B H σ δ/\f δ= .ok b/\∀H',aY H H'->Q b H'
def Yy(K:Qdi)(f:av->R (List D)):TA:=λσ H Q=>∃Z B δ ds,eh K Z B H σ δ/\f δ= .ok ds/\∀vs H',aY H H'->aI K B H' ds vs->Q vs H'
abbrev PD(X:Cx)(e:Expr)(f:FD):Prop:=PE X e$ tD X.K f
abbrev PN(X:Cx)(e:Expr)(f:av->R (List D)):Prop:=PE X e$ tN X.K f
abbrev PB(X:Cx)(e:Expr)(f:av->R Bool):Prop:=PT X e$ K1 X.K f
abbrev Ke(X:Cx)(es:List Expr)(f:av->R (List D)):Prop:=PA X es$ Yy X.K f
section
variable {X:Cx}
def eNew(f:av->R (List D)):FD:=λδ=>(f δ).bind λds=> .ok$ .lst ds
def P2{f:av->R (List D)}(h:PN X e f):PD X e (eNew f):=h.imp λσ H Q ⟨Z,B,δ,d,E,hf,q⟩=>by
 obtain⟨ds,h1,h2⟩:=R.aj hf;cases h2;refine⟨Z,B,δ,ds,E,h1,λa xs H' s n e r=>q _ H' s ?_⟩
 unfold Rep;refine⟨a,xs,rfl, .inl ⟨λha=>?_, .inl e⟩,r.bu λb o e nb=>⟨e,λhb=>nb$ Qag _ hb⟩⟩
 obtain⟨o,ho⟩:=E.bs a ha;rw[n] at ho;cases ho
def zu{B:List Addr}{H:Hp}{p:Addr}{o:HO}(h:H p=none):dO B H (p ::B) (upd H p o):=λb u e nb=>
 ⟨by rw[bg$ bJ e h];exact e,λhb=>by
   rcases Qaw.mp hb with z | z
   .exact bJ e h z
   .exact nb z⟩
def Ya(f:FD):FD:=λδ=>(f$ RI δ).bind λd=>R.aS d.atom$ .ok d
def YT(f:av->R Bool):av->R Bool:=λδ=>f$ RI δ
noncomputable def ai(i:Nat):FD:=λδ=>match δ[i]? with | some (.val d)=> .ok d | _=> .no
noncomputable def eC(d:D):FD:=λ_=> .ok d
def Qu(i:Nat){x:Str}{pos:Pos}(hN:X.N[i]? =some x:=by rfl)(hv:Kk X.env.scope x:=by first | exact Or.inl rfl | exact Or.inr Qdf | exact Or.inr (Or.inr rfl))(hd:(x==("__debug__":Str))=false:=by decide)
 (sL:(x==("__classdict__":Str))=false:=by decide):PD X (.Name x pos) (ai i):=(vP hN hv hd sL).imp λσ H Q ⟨Z,B,δ,d,E,hf,q⟩=>by
 unfold ai at hf;split at hf
 .rename_i d' e;cases hf;obtain⟨v,h1,h2⟩:=E.val i d e;exact⟨v,h1,q v H (aY.refl H) h2⟩
 .cases hf
def qG{v:V}{d:D}(h:PE X e (tC v))(r:∀B H,Rep X.K B H d v):PD X e (eC d):=h.imp λσ H Q ⟨Z,B,δ,d',E,hf,q⟩=>by
 cases hf;exact q v H (aY.refl H)$ r B H
def Ql{i j pos}:PD X (.Constant (.int i) j pos) (eC$ .int i):=qG uS λ_ _=>by unfold Rep;rfl
def Ti{b j pos}:PD X (.Constant (.bool b) j pos) (eC$ .bl b):=qG SX λ_ _=>by unfold Rep;rfl
def Oa{j pos}:PD X (.Constant .none j pos) (eC .cI):=qG Pt λ_ _=>by unfold Rep;rfl
def OL{x j pos}:PD X (.Constant (.str x) j pos) (eC$ .str x):=qG uU λ_ _=>by unfold Rep;rfl
def Glob(K:Qdi)(mg:Aaf)(x:Str)(d:D):Prop:=∃(u:Value) (v:V),mg x=some u/\RelV v u/\∀B H,Rep K B H d v
noncomputable def ax:av->R (List D):=λ_=> .ok []
def af(f:FD)(g:av->R (List D)):av->R (List D):=λδ=>(f δ).bind λd=>(g δ).bind λds=> .ok (d ::ds)
def LP:Ke X [] ax:=eB.imp λσ H Q ⟨Z,B,δ,d,E,hf,q⟩=>by
 cases hf;exact q [] H (aY.refl H) aI.nil
def Jt{g:av->R (List D)}(h:PD X e f)(t:Ke X es g)(hs:starEach (e ::es) X.env=(false,eval e X.env) ::starEach es X.env:=by rfl):Ke X (e ::es) (af f g):=
 (cD h t hs).imp λσ H Q ⟨Z,B,δ,d,E,hf,q⟩=>by
   obtain⟨d1,h1,h2⟩:=R.aj hf;obtain⟨ds,h3,h4⟩:=R.aj h2;cases h4;exact⟨Z,B,δ,d1,E,h1,λv H1 s1 r1=>⟨Z,B,δ,ds,E.same s1,h3,λvs H2 s2 r2=>q _ H2 (s1.trans s2)$ aI.cons (r1.same s2) r2⟩⟩
def bz(g:av->R (List D)):FD:=λδ=>(g δ).bind λds=>R.aS (decide$ ds.length<=sizeLine)$ .ok$ .tup ds
def dy(g:av->R (List D)):av->R (List D):=λδ=>(g δ).bind λds=>R.aS (decide$ ds.length<=sizeLine)$ .ok ds
def aN{H:Hp}{p:Addr}{o:HO}(h:H p=none):aY H (upd H p o):=λb u e=>by rw[bg$ bJ e h];exact e
def Qo{g:av->R (List D)}{x1 pos}(h:Ke X es g):PD X (.Tuple es x1 pos) (bz g):=(yT h).imp λσ H Q ⟨Z,B,δ,d,E,hf,q⟩=>by
 obtain⟨ds,h1,h2⟩:=R.aj hf;obtain⟨hl,h3⟩:=R.bh h2;cases h3;refine⟨Z,B,δ,ds,E,h1,λvs H1 s1 r1=>⟨by rw[<-r1.length];exact Qah hl,λp hp=>q _ _ (s1.trans$ aN hp) ?_⟩⟩
 unfold Rep;refine⟨p,vs,rfl, .inl ⟨λha=>?_, .inl aU⟩,r1.same$ aN hp⟩
 obtain⟨o,ho⟩:=(E.same s1).bs p ha;rw[hp] at ho;cases ho
def Qx{g:av->R (List D)}{pos}(h:Ke X es g):PN X (.List es pos) (dy g):=(Oh h).imp λσ H Q ⟨Z,B,δ,d,E,hf,q⟩=>by
 obtain⟨ds,h1,h2⟩:=R.aj hf;obtain⟨hl,h3⟩:=R.bh h2;cases h3;exact⟨Z,B,δ,_,E,h1,λvs H1 s1 r1=>⟨by rw[<-r1.length];exact Qah hl,λp hp=>q p vs _ (s1.trans$ aN hp) (s1.free hp) aU$ r1.bu$ zu hp⟩⟩
def mG(X:Cx)(f:Value->Value->Sem Value)(g:D->D->R D):Prop:=
 ∀(pins:Aaa) (s:Qdj) (σ:St) (H:Hp) (B:List Addr) (da db d:D) (x y:V) (v u:Value),Inv X pins σ H s->(∀a∈B,∃o,H a=some o)->RelV x v->RelV y u->Rep X.K B H da x->Rep X.K B H db y->g da db= .ok d->
  wpAny (model X.prog X.w) X.A (f v u) (EP X pins σ λz H'=>aY H H'/\Rep X.K B H' d z) X.xe s
def e2(g:D->D->R D)(fa fb:FD):FD:=λδ=>(fa δ).bind λa=>(fb δ).bind λb=>g a b
def mG.r{f:Value->Value->Sem Value}{g:D->D->R D}(h:mG X f g):nB X f (λx y H Q=>∃B da db d,(∀a∈B,∃o,H a=some o)/\Rep X.K B H da x/\Rep X.K B H db y/\g da db= .ok d/\∀z H',aY H H'->Rep X.K B H' d z->Q z H'):=by
 intro pins s σ H x y v u Q I rx ry ⟨B,da,db,d,hb,ha,rD,hg,q⟩;exact dP (h pins s σ H B da db d x y v u I hb rx ry ha rD hg) λz s' ⟨zv,H',I',r',s1,r1⟩=>⟨zv,H',I',r',q zv H' s1 r1⟩
def PU{K:Qdi}{g:D->D->R D}{Q:VK}(h:tD K (e2 g fa fb) σ H Q) :
 Rg (λx y H Q=>∃B da db d,(∀a∈B,∃o,H a=some o)/\Rep K B H da x/\Rep K B H db y/\g da db= .ok d/\∀z H',aY H H'->Rep K B H' d z->Q z H') (tD K fa) (tD K fb) σ H Q:=by
 obtain⟨Z,B,δ,d,E,hf,q⟩:=h;obtain⟨d1,h1,h2⟩:=R.aj hf;obtain⟨d2,h3,h4⟩:=R.aj h2;exact⟨Z,B,δ,d1,E,h1,λv1 H1 s1 r1=>⟨Z,B,δ,d2,E.same s1,h3,λv2 H2 s2 r2=>⟨B,d1,d2,d,(E.same$ s1.trans s2).bs,r1.same s2,r2,h4,λz H' s3 r3=>q z H' (s1.trans$ s2.trans s3) r3⟩⟩⟩
def S7{op:Operator}{g:D->D->R D}(ho:mG X (binaryOp op) g)(ha:PD X a fa)(hb:PD X b fb):PD X (.BinOp a op b pos) (e2 g fa fb):=
 (D7 ho.r ha hb).imp λσ H Q h=>PU h
def PY{op:CmpOp}{g:D->D->R D}(ho:mG X (compareOp op) g)(ha:PD X a fa)(hb:PD X b fb)(hm:behindInMarks op b=false):PD X (.Compare a [op] [b] pos) (e2 g fa fb):=
 (Lb ho.r ha hb hm).imp λσ H Q h=>PU h
def b2(g:D->D->R D)(fa fb:FD):av->R Bool:=λδ=>(e2 g fa fb δ).bind λd=>match d with | .bl b=> .ok b | _=> .no
def Oi{op:CmpOp}{g:D->D->R D}(ho:mG X (compareOp op) g)(ha:PD X a fa)(hb:PD X b fb)(hm:behindInMarks op b=false):PB X (.Compare a [op] [b] pos) (b2 g fa fb):=
 (DF ho.r ha hb hm).imp λσ H Q ⟨Z,B,δ,b,E,hf,q⟩=>by
   obtain⟨d,h1,h2⟩:=R.aj hf;cases d with
   | bl k=>
     cases h2;exact PU (g:=g) (Q:=λx H'=>∃k,x= .bl k/\Q k H') ⟨Z,B,δ, .bl b,E,h1,λv H' s r=>⟨b,by unfold Rep at r;exact r,q H' s⟩⟩
   | _=>cases h2
def Pu(g g':D->D->R D)(fa fb fc:FD):FD:=λδ=>(fa δ).bind λa=>(fb δ).bind λb=>(g a b).bind λr=>match r with
 | .bl true=>(fc δ).bind λc=>g' b c
 | .bl false=> .ok$ .bl false
 | _=> .no
def Lq:D->R Bool
 | .cI=> .ok false
 | .bl b=> .ok b
 | .int i=> .ok$ i !=0
 | .str x=>R.aS (decide$ x.length<=sizeLine)$ .ok$ (x.length:Int) !=0
 | .lst ds=> .ok$ !ds.isEmpty
 | .tup ds=> .ok$ !ds.isEmpty
 | .dct _ _=> .no
def pG(f:FD):av->R Bool:=λδ=>(f δ).bind Lq
def aI.isEmpty{K:Qdi}{B:List Addr}{ds:List D}{xs:List V}(h:aI K B H ds xs):ds.isEmpty=xs.isEmpty:=by
 have:=h.length;cases ds <;> cases xs <;> simp_all
def Iu{K:Qdi}{B:List Addr}{d:D}{v:V}{b:Bool}(r:Rep K B H d v)(h:Lq d= .ok b):LV K v H b:=by
 cases d with
 | cI=>unfold Rep at r;subst r;cases h;exact rfl
 | bl k=>unfold Rep at r;subst r;cases h;exact rfl
 | int i=>unfold Rep at r;subst r;cases h;exact rfl
 | str x=>unfold Rep at r;subst r;obtain⟨h1,h2⟩:=R.bh h;cases h2;exact⟨Qah h1,rfl⟩
 | lst ds=>unfold Rep at r;obtain⟨a,xs,rfl,l,r⟩:=r;cases h;exact .inl ⟨xs,l.sq,by rw[r.isEmpty]⟩
 | tup ds=>unfold Rep at r;obtain⟨a,xs,rfl,l,r⟩:=r;cases h;exact .inr (.inl ⟨xs,l.sq,by rw[r.isEmpty]⟩)
 | dct _ _=>cases h
def PR{a:Expr}(ha:PD X a f)(he:∀whole,isTrue a X.env whole=(do let v <-whole;standAt a.pos;holding [v] (truthy v)):=by intro _;rfl):PB X a (pG f):=
 (Au ha he).imp λσ H Q ⟨Z,B,δ,b,E,hf,q⟩=>by
   obtain⟨d,h1,h2⟩:=R.aj hf;exact⟨Z,B,δ,d,E,h1,λv H' s r=>⟨b,Iu r h2,q H' s⟩⟩
def ZC(f g:av->R Bool):av->R Bool:=λδ=>(f δ).bind λb=>if b then g δ else .ok false
def Ur(f g:av->R Bool):av->R Bool:=λδ=>(f δ).bind λb=>if b then .ok true else g δ
def qu(f:av->R Bool):av->R Bool:=λδ=>(f δ).bind λb=> .ok$ !b
def Pe(X:Cx)(e:Expr)(f:av->R Bool):Prop:=PW X e$ K1 X.K f
def Pe.pb{f:av->R Bool}(h:Pe X e f):PB X e f:=PW.pt h
def Lv{f:av->R Bool}(h:PB X a f):Pe X (.BoolOp .Or [a] pos) f:=GW h
def Og{rest:List Expr}{f g:av->R Bool}(ha:PB X a f)(hb:Pe X (.BoolOp .Or (b ::rest) pos) g):Pe X (.BoolOp .Or (a ::b ::rest) pos) (Ur f g):=by
 intro wh pins s σ H Q I ⟨Z,B,δ,k,E,hf,q⟩;refine Nd ha hb wh pins s σ H Q I ?_;obtain⟨c,h1,h2⟩:=R.aj hf;refine⟨Z,B,δ,c,E,h1,λH1 s1=>?_⟩
 cases c with
 | true=>rw [QaG rfl] at h2 ⊢;cases h2;exact q H1 s1
 | false=>rw [QaA$ by decide] at h2 ⊢;exact⟨Z,B,δ,k,E.same s1,h2,λH' s2=>q H'$ s1.trans s2⟩
def O9{f:av->R Bool}(ha:PB X a f):PB X (.UnaryOp .Not a pos) (qu f):=(JJ ha).imp λσ H Q ⟨Z,B,δ,k,E,hf,q⟩=>by
 obtain⟨c,h1,h2⟩:=R.aj hf;cases h2;exact⟨Z,B,δ,c,E,h1,λH1 s1=>q H1 s1⟩
def Nz(f:FD):av->R Bool:=λδ=>(f δ).bind λd=>match d with | .bl b=> .ok b | _=> .no
def ES(f g:FD):FD:=λδ=>(Nz f δ).bind λb=>if b then g δ else .ok (.bl false)
def eOr(f g:FD):FD:=λδ=>(Nz f δ).bind λb=>if b then .ok (.bl true) else g δ
def O6(f:FD):FD:=λδ=>(Nz f δ).bind λb=> .ok$ .bl$ !b
def JK{f:FD}{δ:av}{b:Bool}(h:Nz f δ= .ok b):f δ= .ok (.bl b):=by
 obtain⟨d,h1,h2⟩:=R.aj h;cases d with
 | bl k=>cases h2;exact h1
 | _=>cases h2
def PV{op}(h:PD X a f):PD X (.BoolOp op [a] pos) f:=Hy h
def P_{rest:List Expr}(ha:PD X a f)(hb:PD X (.BoolOp .And (b ::rest) pos) g):PD X (.BoolOp .And (a ::b ::rest) pos) (ES f g):=(GD ha hb).imp λσ H Q ⟨Z,B,δ,k,E,hf,q⟩=>by
 obtain⟨c,h1,h2⟩:=R.aj hf;refine⟨Z,B,δ, .bl c,E,JK h1,λv H1 s1 r1=>⟨c,by unfold Rep at r1;exact r1,?_⟩⟩
 cases c with
 | true=>rw [QaG rfl] at h2 ⊢;exact⟨Z,B,δ,k,E.same s1,h2,λv H' s2 r2=>q v H' (s1.trans s2) r2⟩
 | false=>rw [QaA$ by decide] at h2 ⊢;cases h2;exact q _ H1 s1 (by unfold Rep;rfl)
def O5(ha:PD X a f):PD X (.UnaryOp .Not a pos) (O6 f):=(HR ha).imp λσ H Q ⟨Z,B,δ,k,E,hf,q⟩=>by
 obtain⟨c,h1,h2⟩:=R.aj hf;cases h2;exact⟨Z,B,δ, .bl c,E,JK h1,λv H1 s1 r1=>⟨c,by unfold Rep at r1;exact r1,q _ H1 s1$ by unfold Rep;rfl⟩⟩
def Rb(c:av->R Bool)(f g:FD):FD:=λδ=>(c δ).bind λb=>if b then f δ else g δ
def S8{fc:av->R Bool}(hc:PB X c fc)(ha:PD X a f)(hb:PD X b g):PD X (.IfExp c a b pos) (Rb fc f g):=(G3 hc ha hb).imp λσ H Q ⟨Z,B,δ,k,E,hf,q⟩=>by
 obtain⟨c,h1,h2⟩:=R.aj hf;refine⟨Z,B,δ,c,E,h1,λH1 s1=>?_⟩
 cases c with
 | true=>rw [QaG rfl] at h2 ⊢;exact⟨Z,B,δ,k,E.same s1,h2,λv H' s2 r2=>q v H' (s1.trans s2) r2⟩
 | false=>rw [QaA$ by decide] at h2 ⊢;exact⟨Z,B,δ,k,E.same s1,h2,λv H' s2 r2=>q v H' (s1.trans s2) r2⟩
def cT(X:Cx)(f:Value)(g:List D->R D):Prop:=
 ∀(pins:Aaa) (s:Qdj) (σ:St) (H:Hp) (B:List Addr) (ds:List D) (d:D) (xs:List V) (us:List Value),Inv X pins σ H s->(∀a∈B,∃o,H a=some o)->Vals xs us->aI X.K B H ds xs->g ds= .ok d->
  wpAny (model X.prog X.w) X.A (call f us) (EP X pins σ λz H'=>aY H H'/\Rep X.K B H' d z) X.xe s
def aJ(g:List D->R D)(fs:av->R (List D)):FD:=λδ=>(fs δ).bind g
def cT.r{f:Value}{g:List D->R D}(h:cT X f g):iU X f (λxs H Q=>∃B ds d,(∀a∈B,∃o,H a=some o)/\aI X.K B H ds xs/\g ds= .ok d/\∀z H',aY H H'->Rep X.K B H' d z->Q z H'):=by
 intro pins s σ H xs us Q I rx ⟨B,ds,d,hb,hr,hg,q⟩;exact dP (h pins s σ H B ds d xs us I hb rx hr hg) λz s' ⟨zv,H',I',r',s1,r1⟩=>⟨zv,H',I',r',q zv H' s1 r1⟩
def Ee{K:Qdi}{g:List D->R D}{fs:av->R (List D)}{Q:VK}(h:tD K (aJ g fs) σ H Q) :
 Yy K fs σ H λvs H1=>∃B ds d,(∀a∈B,∃o,H1 a=some o)/\aI K B H1 ds vs/\g ds= .ok d/\∀z H',aY H1 H'->Rep K B H' d z->Q z H':=by
 obtain⟨Z,B,δ,d,E,hf,q⟩:=h;obtain⟨ds,h1,h2⟩:=R.aj hf;exact⟨Z,B,δ,ds,E,h1,λvs H1 s1 r1=>⟨B,ds,d,(E.same s1).bs,r1,h2,λz H' s2 r2=>q z H' (s1.trans s2) r2⟩⟩
def He{g:List D->R D}{x:Str}{id:String}{p pos:Pos}{e:Expr}{es:List Expr}{fs:av->R (List D)}(hc:cT X (.builtin id) g)(hg:Gl X x)(hm:X.mg x=none)(hv:bootBuiltins x=some (.builtin id))(ha:Ke X (e ::es) fs)(hn:x≠"__name__":=by decide)(oi:(x==("__debug__":Str))=false:=by decide)
 (he:starEach (e ::es) X.env=(false,eval e X.env) ::starEach es X.env:=by rfl) (hJ:(backTo pos$ starEach es X.env).any (·.1)=false:=by rfl):PD X (.Call (.Name x p) (e ::es) [] pos) (aJ g fs):=
 (nD hc.r hg hm hv ha hn oi he hJ).imp λσ H Q h=>Ee h
def FR{g:List D->R D}{x:Str}{T:String}{p pos:Pos}{e:Expr}{es:List Expr}{fs:av->R (List D)}(hc:cT X (.type T) g)(hg:Gl X x)(hm:X.mg x=none)(hv:bootBuiltins x=some (.type T))(ha:Ke X (e ::es) fs)(hn:x≠"__name__":=by decide)(oi:(x==("__debug__":Str))=false:=by decide)
 (he:starEach (e ::es) X.env=(false,eval e X.env) ::starEach es X.env:=by rfl) (hJ:(backTo pos$ starEach es X.env).any (·.1)=false:=by rfl):PD X (.Call (.Name x p) (e ::es) [] pos) (aJ g fs):=
 (ET hc.r hg hm hv ha hn oi he hJ).imp λσ H Q h=>Ee h
def HA(K:Qdi)(n:Nat)(g:List D->R D):Sp:=λvs H Q _=>vs.length=n/\∃B ds d,(∀a∈B,∃o,H a=some o)/\aI K B H ds vs/\g ds= .ok d/\∀z H',aY H H'->Rep K B H' d z->Q z H'
def Kz{g:List D->R D}{k n:Nat}{f:Addr}{fd:FuncData}{ps:List Str}{x:Str}{p pos:Pos}{e:Expr}{es:List Expr}{fs:av->R (List D)}
 (F:ip X.prog X.w X.K X.mg X.base u7 k f fd ps (HA X.K n g)) (hr:dZ k X.A) (hg:Gl X x) (hm:X.mg x=some (.ref f)) (hk:PySem.W.keepIn X.K (.ref f)=true) (hb:Binds X.K fd ps []) (ha:Ke X (e ::es) fs)
 (hn:∀δ ds,fs δ= .ok ds->ds.length=n) (oi:(x==("__debug__":Str))=false:=by decide) (he:starEach (e ::es) X.env=(false,eval e X.env) ::starEach es X.env:=by rfl) (hJ:(backTo pos$ starEach es X.env).any (·.1)=false:=by rfl) :
 PD X (.Call (.Name x p) (e ::es) [] pos) (aJ g fs):=
 (uu F hr hg hm hk hb .nil Am ha oi he hJ).imp λσ H Q ⟨Z,B,δ,d,E,hf,q⟩=>by
   obtain⟨ds,h1,h2⟩:=R.aj hf;refine⟨Z,B,δ,ds,E,h1,λvs H1 s1 r1=>?_⟩
   show HA X.K n g (vs++[]) H1 Q E0;rw[Qbc];exact⟨by rw[<-r1.length];exact hn δ ds h1,B,ds,d,(E.same s1).bs,r1,h2,λz H' s2 r2=>q z H' (s1.trans s2) r2⟩
end
end L2
end
section
namespace L2
open PySem PySem.Spec PyProof.Rows
inductive Out where
 | nx (δ:av) | rt (d:D)
abbrev FS:=av->R Out
structure Ev (Z B:List Addr) (H:Hp) (B':List Addr) (H':Hp):Prop where
 bu:dO B H B' H'
 zs:∀b o,H b=some o->b∈Z->H' b=some o/\b∈B'
def Ev.refl(Z B:List Addr)(H:Hp)(zb:∀a∈Z,a∈B):Ev Z B H B H:=⟨dO.refl B H,λb o e z=>⟨e,zb b z⟩⟩
def Ev.trans{Z B B' Uh:List Addr}(a:Ev Z B H B' H')(b:Ev Z B' H' Uh oO):Ev Z B H Uh oO:=
 ⟨a.bu.trans b.bu,λc o e z=>let⟨e1,_⟩:=a.zs c o e z;b.zs c o e1 z⟩
def Ev.same{Z B:List Addr}(zb:∀a∈Z,a∈B)(s:aY H H'):Ev Z B H B H':=⟨dO.same s,λb o e z=>⟨s b o e,zb b z⟩⟩
def Dv(K:Qdi)(Z B:List Addr)(H:Hp)(D:Ends):Out->Prop
 | .nx d5=>∀c9 B' H',Ev Z B H B' H'->eh K Z B' H' c9 d5->D.nx c9 H'
 | .rt d=>∀v B' H',Ev Z B H B' H'->(∀a∈Z,a∈B')->Rep K B' H' d v->D.rt v H'
def Dv.ev{K:Qdi}{Z B B1:List Addr}{D:Ends}{o:Out}(q:Dv K Z B H D o)(ev:Ev Z B H B1 H1):Dv K Z B1 H1 D o:=by
 cases o with
 | nx d5=>exact λc9 B' H' J2 E'=>q c9 B' H' (ev.trans J2) E'
 | rt d=>exact λv B' H' J2 z r=>q v B' H' (ev.trans J2) z r
def sD(K:Qdi)(F:FS):TS:=λD σ H=>∃Z B δ o,eh K Z B H σ δ/\F δ= .ok o/\Dv K Z B H D o
abbrev Gn(X:Cx)(st:Stmt)(F:FS):Prop:=PS X st$ sD X.K F
abbrev tY(X:Cx)(st:List Stmt)(F:FS):Prop:=y4 X st$ sD X.K F
section
variable {X:Cx}
noncomputable def pQ:FS:=λδ=> .ok$ .nx δ
def dw(F G:FS):FS:=λδ=>(F δ).bind λo=>match o with | .nx d5=>G d5 | .rt d=> .ok$ .rt d
def LQ:tY X [] pQ:=yR.imp λD σ H ⟨Z,B,δ,o,E,hf,q⟩=>by
 cases hf;exact q σ B H (Ev.refl Z B H E.zb) E
def NX{K:Qdi}{F G:FS}{D:Ends}(h:sD K (dw F G) D σ H):SH (sD K F) (sD K G) D σ H:=by
 obtain⟨Z,B,δ,o,E,hf,q⟩:=h;obtain⟨o1,h1,h2⟩:=R.aj hf;refine⟨Z,B,δ,o1,E,h1,?_⟩;cases o1 with
 | nx c_=>
   intro Q4 B1 H1 ev E1;refine⟨Z,B1,c_,o,E1,h2,?_⟩;cases o with
   | nx du=>exact λc9 B' H' J2 E'=>q c9 B' H' (ev.trans J2) E'
   | rt d=>exact λv B' H' J2 z r=>q v B' H' (ev.trans J2) z r
 | rt d=>
   cases h2;exact q
def Hr{st:Stmt}{rest:List Stmt}{F G:FS}(h1:Gn X st F)(h2:tY X rest G):tY X (st ::rest) (dw F G):=(vJ h1 h2).imp λD σ H h=>NX h
def MA{st:Stmt}{F:FS}(h1:Gn X st F):tY X [st] F:=yk h1
def eh.set{K:Qdi}{Z B:List Addr}{σ:St}{δ:av}(E:eh K Z B H σ δ){i:Nat}{d:D}{v:V}(hi:i<σ.length)(r:Rep K B H d v):eh K Z B H (σ.set i$ some v) (δ.set i$ .val d) where
 len:=by rw[QaT,QaT];exact E.len
 bs:=E.bs
 zb:=E.zb
 val:=λj d' e=>by
  by_cases h:i=j
  .subst h;rw[Qaq$ by rw[E.len];exact hi] at e
   cases e;exact⟨v,Qaq hi,r⟩
  .rw [Qas h] at e ⊢;exact E.val j d' e
 bld:=λj ds e=>by
  by_cases h:i=j
  .subst h;rw[Qaq$ by rw[E.len];exact hi] at e
   cases e
  .rw [Qas h] at e ⊢;exact E.bld j ds e
 dis:=λj k a ds es e1 e2 e3 e4=>by
  by_cases h:i=j
  .subst h;rw[Qaq$ by rw[E.len];exact hi] at e1
   cases e1
  .by_cases h':i=k
   .subst h';rw[Qaq$ by rw[E.len];exact hi] at e2
    cases e2
   .rw [Qas h] at e1 e3;rw[Qas h'] at e2 e4;exact E.dis j k a ds es e1 e2 e3 e4
def eh.setB{K:Qdi}{Z B:List Addr}{H:Hp}{σ:St}{δ:av}(E:eh K Z B H σ δ){i:Nat}{ds:List D}{a:Addr}{xs:List V}(hi:i<σ.length)(hB:a∈B)(hZ:a ∉ Z)(hH:H a=some (.lst xs))(r:aI K B H ds xs)
 (new:∀j es,j≠i->δ[j]? =some (.bld es)->σ[j]?≠some (some$ .ref a)):eh K Z B H (σ.set i$ some$ .ref a) (δ.set i$ .bld ds) where
 len:=by rw[QaT,QaT];exact E.len
 bs:=E.bs
 zb:=E.zb
 val:=λj d' e=>by
  by_cases h:i=j
  .subst h;rw[Qaq$ by rw[E.len];exact hi] at e
   cases e
  .rw [Qas h] at e ⊢;exact E.val j d' e
 bld:=λj es e=>by
  by_cases h:i=j
  .subst h;rw[Qaq$ by rw[E.len];exact hi] at e
   cases e;exact⟨a,xs,Qaq hi,hB,hZ,hH,r⟩
  .rw [Qas h] at e ⊢;exact E.bld j es e
 dis:=λj k b T8 Ud e1 e2 e3 e4=>by
  by_cases h:i=j
  .subst h;by_cases h':i=k
   .exact h'
   .rw [Qaq hi] at e3;cases e3;rw[Qas h'] at e2 e4;exact absurd e4$ new k Ud (QbE h') e2
  .by_cases h':i=k
   .subst h';rw[Qaq hi] at e4;cases e4;rw[Qas h] at e1 e3;exact absurd e3$ new j T8 (QbE h) e1
   .rw [Qas h] at e1 e3;rw[Qas h'] at e2 e4;exact E.dis j k b T8 Ud e1 e2 e3 e4
def g6(i:Nat)(f:FD):FS:=λδ=>(f δ).bind λd=>R.aS (decide$ i<δ.length)$ .ok$ .nx$ δ.set i$ .val d
def GB{K:Qdi}{i:Nat}{D:Ends}(h:sD K (g6 i f) D σ H):EX (tD K f) (vS i) D σ H:=by
 obtain⟨Z,B,δ,o,E,hf,q⟩:=h;obtain⟨d,h1,h2⟩:=R.aj hf;obtain⟨hi,h3⟩:=R.bh h2;cases h3;refine⟨Z,B,δ,d,E,h1,λv H1 s1 r1=>?_⟩
 exact q _ B H1 (Ev.same E.zb s1) ((E.same s1).set (by rw[<-E.len];exact Qah hi) r1)
def Mp{i:Nat}{pos pos':Pos}(hN:X.N.Nodup)(hi:X.N[i]? =some x)(hx:Loc X.env.scope x)(he:PD X e f)(hs:swapsWith e (some$ .Name x pos') pos.line X.env=pure false:=by rfl)(hf:X.fn x=true\/X.env.scope.names.lookup x=some .local:=by first | exact .inl rfl | exact .inr rfl | assumption) :
 Gn X (.Assign [.Name x pos'] e pos) (g6 i f):=(CD hN hi hx he hs hf).imp λD σ H h=>GB h
def ya(i:Nat)(f:av->R (List D)):FS:=λδ=>(f δ).bind λds=>R.aS (decide$ i<δ.length)$ .ok$ .nx$ δ.set i$ .bld ds
def HX{K:Qdi}{i:Nat}{f:av->R (List D)}{D:Ends}(h:sD K (ya i f) D σ H):EX (tN K f) (vS i) D σ H:=by
 obtain⟨Z,B,δ,o,E,hf,q⟩:=h;obtain⟨ds,h1,h2⟩:=R.aj hf;obtain⟨hi,h3⟩:=R.bh h2;cases h3;refine⟨Z,B,δ,ds,E,h1,λa xs H1 s1 n e r=>?_⟩
 have E1:=E.same s1;have aB:a ∉ B:=λha=>by obtain⟨o,ho⟩:=E.bs a ha;rw [n] at ho;cases ho
 have nZ:a ∉ Z:=λha=>aB$ E.zb a ha
 have p0:dO B H (a ::B) H1:=λb o e' nb=>⟨s1 b o e',λhb=>by
  rcases Qaw.mp hb with z | z
  .subst z;rw [n] at e';cases e'
  .exact nb z⟩
 have E2:eh K Z (a ::B) H1 σ δ:={
  len:=E.len
  bs:=λb hb=>by
   rcases Qaw.mp hb with z | z
   .subst z;exact⟨_,e⟩
   .exact E1.bs b z
  zb:=λb hb=>Qag _$ E.zb b hb
  val:=λj d e=>let⟨v,q1,q2⟩:=E.val j d e;⟨v,q1,q2.bu p0⟩
  bld:=λj es e=>let⟨b,ys,q1,q2,q3,q4,q5⟩:=E.bld j es e;⟨b,ys,q1,Qag _ q2,q3,s1 b _ q4,q5.bu p0⟩
  dis:=E.dis}
 refine q _ (a ::B) H1 ⟨p0,λb o e' hb=>⟨s1 b o e',Qag _$ E.zb b hb⟩⟩ (E2.setB (by rw[<-E.len];exact Qah hi) Qat nZ e r λj es hj ej MV=>?_)
 obtain⟨b,ys,q1,_,_,q4,_⟩:=E.bld j es ej;rw[MV] at q1;cases q1;rw[n] at q4;cases q4
def Lw{i:Nat}{f:av->R (List D)}{pos pos':Pos}(hN:X.N.Nodup)(hi:X.N[i]? =some x)(hx:Loc X.env.scope x)(he:PN X e f)(hs:swapsWith e (some$ .Name x pos') pos.line X.env=pure false:=by rfl)(hf:X.fn x=true\/X.env.scope.names.lookup x=some .local:=by first | exact .inl rfl | exact .inr rfl | assumption) :
 Gn X (.Assign [.Name x pos'] e pos) (ya i f):=(CD hN hi hx he hs hf).imp λD σ H h=>HX h
def eh.grow{K:Qdi}{Z B:List Addr}{H:Hp}{σ:St}{δ:av}(E:eh K Z B H σ δ){i:Nat}{ds es:List D}{a:Addr}{xs ys:List V}(hd:δ[i]? =some (.bld ds))(MV:σ[i]? =some (some$ .ref a))(hB:a∈B)(hH:H a=some (.lst xs))(r:aI K B H es ys) :
 eh K Z B (upd H a$ .lst ys) σ (δ.set i$ .bld es)/\dO B H B (upd H a$ .lst ys):=by
 have p:dO B H B (upd H a$ .lst ys):=λb o e nb=>⟨by rw[bg$ λ(z:b=a)=>nb$ by rw[z];exact hB];exact e,nb⟩
 have hi:i<δ.length:=(Qae.mp hd).1;refine⟨{
  len:=by rw[QaT];exact E.len
  bs:=λb hb=>by
   by_cases z:b=a
   .subst z;exact⟨_,aU⟩
   .rw [bg z];exact E.bs b hb
  zb:=E.zb
  val:=λj d e=>by
   by_cases h:i=j
   .subst h;rw [Qaq hi] at e;cases e
   .rw [Qas h] at e;obtain⟨v,q1,q2⟩:=E.val j d e;exact⟨v,q1,q2.bu p⟩
  bld:=λj fs e=>by
   by_cases h:i=j
   .subst h;rw [Qaq hi] at e;cases e;obtain⟨b,zs,q1,q2,q3,_,_⟩:=E.bld i ds hd;rw[MV] at q1;cases q1;exact⟨a,ys,MV,hB,q3,aU,r.bu p⟩
   .rw [Qas h] at e;obtain⟨b,zs,q1,q2,q3,q4,q5⟩:=E.bld j fs e;have ne:b≠a:=λz=>by subst z;exact h (E.dis i j b ds fs hd e MV q1)
    exact⟨b,zs,q1,q2,q3,by rw[bg ne];exact q4,q5.bu p⟩
  dis:=λj k b T8 Ud e1 e2 e3 e4=>by
   have f1:∃fs,δ[j]? =some (.bld fs):=by
    by_cases h:i=j
    .subst h;exact⟨ds,hd⟩
    .rw [Qas h] at e1;exact⟨_,e1⟩
   have f2:∃fs,δ[k]? =some (.bld fs):=by
    by_cases h:i=k
    .subst h;exact⟨ds,hd⟩
    .rw [Qas h] at e2;exact⟨_,e2⟩
   obtain⟨_,f1⟩:=f1;obtain⟨_,f2⟩:=f2;exact E.dis j k b _ _ f1 f2 e3 e4},p⟩
def Ev.grow{Z B:List Addr}{a:Addr}{o:HO}(zb:∀a∈Z,a∈B)(hZ:a ∉ Z)(p:dO B H B (upd H a o)):Ev Z B H B (upd H a o):=
 ⟨p,λb u e hb=>⟨by rw[bg$ λ(z:b=a)=>hZ$ by rw[<-z];exact hb];exact e,zb b hb⟩⟩
noncomputable def sP(δ:av)(i:Nat):R (List D):=match δ[i]? with | some (.bld ds)=> .ok ds | _=> .no
def zw{δ:av}{i:Nat}{ds:List D}(h:sP δ i= .ok ds):δ[i]? =some (.bld ds):=by
 unfold sP at h;split at h
 .rename_i q;cases h;exact q
 .cases h
def GP(i:Nat)(f:FD):FS:=λδ=>(f δ).bind λd=>(sP δ i).bind λds=>R.aS (decide$ ds.length<sizeLine)$ .ok$ .nx$ δ.set i$ .bld$ ds++[d]
def K7{i:Nat}{x:Str}{e:Expr}{f:FD}{gY apos cF pos:Pos}(hN:X.N[i]? =some x)(hv:Kk X.env.scope x)(he:PD X e f)
 (hd:(x==("__debug__":Str))=false:=by decide) (sL:(x==("__classdict__":Str))=false:=by decide)
 (hs:starEach [e] X.env=(false,eval e X.env) ::starEach [] X.env:=by rfl) (n8:(apos.endLine==cF.line)=true:=by rfl)
 (vX:((backTo cF$ starEach [e] X.env).all (λx=>!x.1) && (backToKw cF$ keywordEach [] X.env).all (λx=>x.1.isSome)
   && decide (([e]:List Expr).length+([]:List Keyword).length+(if([]:List Keyword).isEmpty then 0 else 1)<30))=true:=by rfl)
 (t9:swapsWith (.Call (.Attribute (.Name x gY) "append" apos) [e] [] cF) none pos.line X.env=pure false:=by rfl)
 (nY:attributeBase (.Name x gY) "append" X.env (eval (.Name x gY) X.env)=eval (.Name x gY) X.env:=by rfl) :
 Gn X (.Expr (.Call (.Attribute (.Name x gY) "append" apos) [e] [] cF) pos) (GP i f):=by
 refine(uf (Ig (X:=X) Qcn Qdd Qde sf (vP hN hv hd sL) (cD he eB hs) nY vX n8 hs) t9).imp λD σ H ⟨Z,B,δ,o,E,hf,q⟩=>?_
 obtain⟨d,h1,h2⟩:=R.aj hf;obtain⟨ds,h3,h4⟩:=R.aj h2;obtain⟨hl,h5⟩:=R.bh h4;cases h5;have hb:=zw h3;obtain⟨a,xs,q1,q2,q3,q4,q5⟩:=E.bld i ds hb;refine⟨.ref a,q1, .inl ⟨rfl,xs,pI.of q4⟩,⟨Z,B,δ,d,E,h1,λv H1 s1 r1=>?_⟩⟩
 have E1:=E.same s1;refine⟨a,xs,v,rfl,rfl,s1 a _ q4,by rw[<-q5.length];exact Qah hl,?_⟩
 obtain⟨E2,p2⟩:=E1.grow (es:=ds++[d]) (ys:=xs++[v]) hb q1 q2 (s1 a _ q4)$ (q5.same s1).append$ aI.cons r1 aI.nil;exact q σ B _ ((Ev.same E.zb s1).trans$ Ev.grow E.zb q3 p2) E2
def KW(i:Nat)(f:av->R (List D)):FS:=λδ=>(f δ).bind λes=>(sP δ i).bind λds=>R.aS (decide$ ds.length+es.length<=sizeLine)$ .ok$ .nx$ δ.set i$ .bld$ ds++es
def Mi{i:Nat}{x:Str}{e:Expr}{f:av->R (List D)}{gY apos cF pos:Pos}(hN:X.N[i]? =some x)(hv:Kk X.env.scope x)(he:PN X e f)
 (hd:(x==("__debug__":Str))=false:=by decide) (sL:(x==("__classdict__":Str))=false:=by decide)
 (hs:starEach [e] X.env=(false,eval e X.env) ::starEach [] X.env:=by rfl) (n8:(apos.endLine==cF.line)=true:=by rfl)
 (vX:((backTo cF$ starEach [e] X.env).all (λx=>!x.1) && (backToKw cF$ keywordEach [] X.env).all (λx=>x.1.isSome)
   && decide (([e]:List Expr).length+([]:List Keyword).length+(if([]:List Keyword).isEmpty then 0 else 1)<30))=true:=by rfl)
 (t9:swapsWith (.Call (.Attribute (.Name x gY) "extend" apos) [e] [] cF) none pos.line X.env=pure false:=by rfl)
 (nY:attributeBase (.Name x gY) "extend" X.env (eval (.Name x gY) X.env)=eval (.Name x gY) X.env:=by rfl) :
 Gn X (.Expr (.Call (.Attribute (.Name x gY) "extend" apos) [e] [] cF) pos) (KW i f):=by
 refine(uf (Ig (X:=X) Qcn PySem.F.slot_list_extend PySem.F.type_list_extend FQ (vP hN hv hd sL) (cD he eB hs) nY vX n8 hs) t9).imp λD σ H ⟨Z,B,δ,o,E,hf,q⟩=>?_
 obtain⟨es,h1,h2⟩:=R.aj hf;obtain⟨ds,h3,h4⟩:=R.aj h2;obtain⟨hl,h5⟩:=R.bh h4;cases h5;have hb:=zw h3;obtain⟨a,xs,q1,q2,q3,q4,q5⟩:=E.bld i ds hb;refine⟨.ref a,q1, .inl ⟨rfl,xs,pI.of q4⟩,⟨Z,B,δ,es,E,h1,λb ys H1 s1 n e r=>?_⟩⟩
 have E1:=E.same s1;have r':aI X.K B H1 es ys:=r.bu λb o e nb=>⟨e,λhb=>nb$ Qag _ hb⟩
 refine⟨a,b,xs,ys,rfl,rfl,s1 a _ q4,e,by rw[<-q5.length,<-r'.length];exact Qah hl,?_⟩
 obtain⟨E2,p2⟩:=E1.grow (es:=ds++es) (ys:=xs++ys) hb q1 q2 (s1 a _ q4)$ (q5.same s1).append r';exact q σ B _ ((Ev.same E.zb s1).trans$ Ev.grow E.zb q3 p2) E2
noncomputable def jU(i:Nat)(δ:av):av:=match δ[i]? with | some (.bld ds)=>δ.set i (.val$ .lst ds) | _=>δ
def eh.jU{K:Qdi}{Z B:List Addr}{δ:av}(E:eh K Z B H σ δ)(i:Nat):∃B',Ev Z B H B' H/\eh K Z B' H σ (jU i δ):=by
 unfold L2.jU;cases hd:δ[i]? with
 | none=>exact⟨B,Ev.refl Z B H E.zb,E⟩
 | some x=>
   cases x with
   | un=>exact⟨B,Ev.refl Z B H E.zb,E⟩
   | val d=>exact⟨B,Ev.refl Z B H E.zb,E⟩
   | bld ds=>
     obtain⟨a,xs,q1,q2,q3,q4,q5⟩:=E.bld i ds hd;have hi:i<δ.length:=(Qae.mp hd).1;have p:dO B H (B.filter λb=>decide$ b≠a) H:=λb o e nb=>⟨e,λhb=>nb (Qbo.mp hb).1⟩
     have zb:∀b∈Z,b∈B.filter λb=>decide (b≠a):=λb hb=>Qbo.mpr ⟨E.zb b hb,Qan λz=>q3$ z▸hb⟩
     refine⟨B.filter λb=>decide$ b≠a,⟨p,λb o e hb=>⟨e,zb b hb⟩⟩,{
      len:=by rw[QaT];exact E.len
      bs:=λb hb=>E.bs b (Qbo.mp hb).1
      zb:=zb
      val:=λj d e=>by
       by_cases h:i=j
       .subst h;rw [Qaq hi] at e;cases e;refine⟨.ref a,q1,?_⟩;unfold Rep;exact⟨a,xs,rfl, .inl ⟨λhb=>by simpa using(Qbo.mp hb).2, .inl q4⟩,q5.bu p⟩
       .rw [Qas h] at e;obtain⟨v,z1,z2⟩:=E.val j d e;exact⟨v,z1,z2.bu p⟩
      bld:=λj fs e=>by
       by_cases h:i=j
       .subst h;rw [Qaq hi] at e;cases e
       .rw [Qas h] at e;obtain⟨b,zs,z1,z2,z3,z4,z5⟩:=E.bld j fs e;exact⟨b,zs,z1,Qbo.mpr ⟨z2,Qan λz=>by subst z;exact h$ E.dis i j b ds fs hd e q1 z1⟩,z3,z4,z5.bu p⟩
      dis:=λj k b T8 Ud e1 e2 e3 e4=>by
       by_cases h:i=j
       .subst h;rw [Qaq hi] at e1;cases e1
       .by_cases h':i=k
        .subst h';rw [Qaq hi] at e2;cases e2
        .rw [Qas h] at e1;rw[Qas h'] at e2;exact E.dis j k b T8 Ud e1 e2 e3 e4}⟩
def G9(i:Nat)(F:FS):FS:=λδ=>F$ jU i δ
def Oj{K:Qdi}{i:Nat}{F:FS}{D:Ends}(h:sD K (G9 i F) D σ H):sD K F D σ H:=by
 obtain⟨Z,B,δ,o,E,hf,q⟩:=h;obtain⟨B1,ev,E1⟩:=E.jU i;refine⟨Z,B1,L2.jU i δ,o,E1,hf,?_⟩;cases o with
 | nx d5=>exact λc9 B' H' J2 E'=>q c9 B' H' (ev.trans J2) E'
 | rt d=>exact λv B' H' J2 z r=>q v B' H' (ev.trans J2) z r
def MD(i:Nat){F:FS}(h:tY X NK F):tY X NK (G9 i F):=h.imp λD σ H h=>Oj h
def eE(f:FD):FS:=λδ=>(f δ).bind λd=> .ok$ .rt d
def L8(he:PD X e f):Gn X (.Return (some e) pos) (eE f):=(IK he).imp λD σ H ⟨Z,B,δ,o,E,hf,q⟩=>by
 obtain⟨d,h1,h2⟩:=R.aj hf;cases h2;exact⟨Z,B,δ,d,E,h1,λv H1 s1 r1=>q v B H1 (Ev.same E.zb s1) E.zb r1⟩
def x5(c:av->R Bool)(F G:FS):FS:=λδ=>(c δ).bind λb=>if b then F δ else G δ
def Ox{fc:av->R Bool}{F G:FS}(hc:PB X c fc)(ha:tY X a F)(hb:tY X b G):Gn X (.If c a b pos) (x5 fc F G):=(HS hc ha hb).imp λD σ H ⟨Z,B,δ,o,E,hf,q⟩=>by
 obtain⟨k,h1,h2⟩:=R.aj hf;refine⟨Z,B,δ,k,E,h1,λH1 s1=>?_⟩
 have q':=q.ev$ Ev.same E.zb s1;cases k with
 | true=>rw [QaG rfl] at h2;exact HE ⟨Z,B,δ,o,E.same s1,h2,q'⟩
 | false=>rw [QaA$ by decide] at h2;exact Iz ⟨Z,B,δ,o,E.same s1,h2,q'⟩
abbrev FT:=D->av->R av
def gD(K:Qdi)(t:FT):TG:=λv σ H Q=>∃Z B δ d d5,eh K Z B H σ δ/\Rep K B H d v/\t d δ= .ok d5/\∀c9 H',aY H H'->eh K Z B H' c9 d5->c9.length=σ.length->Q c9 H'
abbrev Nq(X:Cx)(tg:Expr)(t:FT):Prop:=PG X tg$ gD X.K t
def aK(i:Nat):FT:=λd δ=>R.aS (decide$ i<δ.length)$ .ok$ δ.set i$ .val d
def HL{i:Nat}{pos:Pos}(hN:X.N.Nodup)(hi:X.N[i]? =some x)(hx:Loc X.env.scope x)(hf:X.fn x=true\/X.env.scope.names.lookup x=some .local:=by first | exact .inl rfl | exact .inr rfl | assumption):Nq X (.Name x pos) (aK i):=
 (DR hN hi hx hf).imp λv σ H Q ⟨Z,B,δ,d,d5,E,r,ht,q⟩=>by
   obtain⟨hi,h⟩:=R.bh ht;cases h;exact q _ H (aY.refl H) (E.set (by rw[<-E.len];exact Qah hi) r)$ QaT ..
abbrev Gr:=List D->av->R av
def gDs(K:Qdi)(t:Gr):IY:=λvs σ H Q=>∃Z B δ ds d5,eh K Z B H σ δ/\aI K B H ds vs/\t ds δ= .ok d5/\∀c9 H',aY H H'->eh K Z B H' c9 d5->c9.length=σ.length->Q c9 H'
abbrev GV(X:Cx)(ts:List Expr)(t:Gr):Prop:=K4 X ts$ gDs X.K t
def K4.imp{X:Cx}{t t':IY}(h:K4 X e t)(w:∀v σ H Q,t' v σ H Q->t v σ H Q):K4 X e t':=λpins s σ H v u Q I r hq=>h pins s σ H v u Q I r$ w v σ H Q hq
noncomputable def mQ:Gr:=λds δ=>match ds with | []=> .ok δ | _=> .no
def dv(t:FT)(u:Gr):Gr:=λds δ=>match ds with | d ::r=>(t d δ).bind λd5=>u r d5 | []=> .no
def JN:GV X [] mQ:=Dg.imp λvs σ H Q ⟨Z,B,δ,ds,d5,E,r,ht,q⟩=>by
 cases ds with
 | nil=>unfold aI at r;cases ht;exact⟨r,q σ H (aY.refl H) E rfl⟩
 | cons=>cases ht
def Gd{u:Gr}(h1:Nq X e t)(h2:GV X es u)(hs:(assignEach (e ::es) X.env).map (·.2)=assign e X.env ::(assignEach es X.env).map (·.2):=by rfl):GV X (e ::es) (dv t u):=
 (zO h1 h2 hs).imp λvs σ H Q ⟨Z,B,δ,ds,d5,E,r,ht,q⟩=>by
   cases ds with
   | nil=>cases ht
   | cons d ds=>
     obtain⟨x,xs,rfl,r1,r2⟩:=r.cm;obtain⟨c_,h1,h2⟩:=R.aj ht;exact⟨x,xs,rfl,Z,B,δ,d,c_,E,r1,h1,λQ4 H1 s1 E1 l1=>⟨Z,B,c_,ds,d5,E1,r2.same s1,h2,λzk H2 s2 E2 l2=>q zk H2 (s1.trans s2) E2$ l2.trans l1⟩⟩
def mM(n:Nat)(t:Gr):FT:=λd δ=>match d with | .tup ds=>R.aS (decide$ ds.length=n) (t ds δ) | _=> .no
def K5{k:Nat}{t:Gr}{n:Nat}{pos:Pos}(hc:X.calm=true)(h:GV X es t)(hn:(assignEach es X.env).length=n:=by rfl)(ub:(assignEach es X.env).findIdx? (·.1)=none:=by rfl):Nq X (.Tuple es k pos) (mM n t):=
 (HF hc h hn ub).imp λv σ H Q ⟨Z,B,δ,d,d5,E,r,ht,q⟩=>by
   cases d with
   | tup ds=>
     unfold Rep at r;obtain⟨a,xs,rfl,l,r⟩:=r;obtain⟨hl,h⟩:=R.bh ht;exact⟨a,xs,rfl,l.sq,by rw[<-r.length];exact Qah hl,Z,B,δ,ds,d5,E,r,h,q⟩
   | _=>cases ht
def aar(f:FD)(t:FT):FS:=λδ=>(f δ).bind λd=>(t d δ).bind λd5=> .ok$ .nx d5
def Hz(K:Qdi)(B:List Addr)(H:Hp)(J:It)(ds:List D):Prop:=∀B' H',dO B H B' H'->(∀(i:Nat) (d:D),ds[i]? =some d->J.go i H'/\∀x oO,J.yld i H' x oO->(∀a∈B',∃o,H' a=some o)->aY H' oO/\Rep K B' oO d x)/\J.stop ds.length H'
def iD(K:Qdi)(f:av->R (List D)):TI:=λσ H R=>∃Z B δ ds,eh K Z B H σ δ/\f δ= .ok ds/\∀J H1,aY H H1->Hz K B H1 J ds->R J H1
abbrev LO(X:Cx)(tg e:Expr)(f:av->R (List D)):Prop:=PI X tg e$ iD X.K f
def di(f:FD):av->R (List D):=λδ=>(f δ).bind λd=>match d with | .lst ds=> .ok ds | .tup ds=> .ok ds | _=> .no
def Lk(h:PD X e f):LO X tg e (di f):=by
 intro pins s σ H RR I ⟨Z,B,δ,ds,E,hf,q⟩;obtain⟨d,h1,h2⟩:=R.aj hf;refine dP (h pins s σ H (λv H1=>aY H H1/\Rep X.K B H1 d v) I ⟨Z,B,δ,d,E,h1,λv H1 s1 r1=>⟨s1,r1⟩⟩) λv s1 ⟨x,H1,I1,r1,ss,rr⟩=>?_
 cases d with
 | lst es=>
   cases h2;unfold Rep at rr;obtain⟨a,xs,rfl,l,rr⟩:=rr;cases r1;obtain⟨its,rv,p,hz⟩:=I1.list l.sq;refine Qcp p.isList ?_;refine⟨s1.heap.objs.size,[s1.heap.objs.size],_,_,H1,rfl,I1.kept (t':=s1.toks) λb o e=>Qac _ e,w9 a _,⟨_,QaF _ rfl,rfl,rfl⟩,λb hb=>?_,q _ H1 ss λB' H' pr=>?_⟩
   .have e:b=s1.heap.objs.size:=by simpa using hb
    subst e;exact I1.wu (Qai _)$ I1.hok.fresh$ Qai _
   .have l':v_ X.K B' H' a xs:=l.bu pr;have QM:=rr.bu pr;refine⟨λi d hd=>?_,⟨xs,l'.sq,by rw[rr.length];exact Qai _⟩⟩
    obtain⟨x,hx,rx⟩:=QM.get hd;exact⟨⟨xs,x,l'.sq,hx⟩,λy oO ⟨e1,e2⟩ _=>by
     subst e1;have:=e2 xs l'.sq;rw[hx] at this;cases this;exact⟨aY.refl _,rx⟩⟩
 | tup es=>
   cases h2;unfold Rep at rr;obtain⟨a,xs,rfl,l,rr⟩:=rr;cases r1;obtain⟨its,rv,p,hz⟩:=I1.tuple l.sq;refine Qck (show s1.heap.IsTuple a its.toArray from p) ?_
   refine⟨s1.heap.objs.size,[s1.heap.objs.size],_,_,H1,rfl,I1.kept (t':=s1.toks) λb o e=>Qac _ e,Bo a _,⟨_,QaF _ rfl,rfl,rfl⟩,λb hb=>?_,q _ H1 ss λB' H' pr=>?_⟩
   .have e:b=s1.heap.objs.size:=by simpa using hb
    subst e;exact I1.wu (Qai _)$ I1.hok.fresh$ Qai _
   .have l':xh X.K B' H' a xs:=l.elim (λz=> .inl ⟨(pr.rd z.2 z.1).2,(pr.rd z.2 z.1).1⟩) .inr
    have QM:=rr.bu pr;refine⟨λi d hd=>?_,⟨xs,l'.sq,by rw[rr.length];exact Qai _⟩⟩
    obtain⟨x,hx,rx⟩:=QM.get hd;exact⟨⟨xs,x,l'.sq,hx⟩,λy oO ⟨e1,e2⟩ _=>by
     subst e1;have:=e2 xs l'.sq;rw[hx] at this;cases this;exact⟨aY.refl _,rx⟩⟩
 | _=>cases h2
noncomputable def jj(lo:Int)(n:Nat):List D:=(List.range n).map λ(i:Nat)=>D.int$ lo+i
def Cj{K:Qdi}{B:List Addr}(lo:Int)(n:Nat):Hz K B H (S9 lo n) (jj lo n):=λB' H' _=>by
 refine⟨λi d hd=>?_,?_⟩
 .unfold jj at hd;rw[Qaf] at hd;cases e:(List.range n)[i]? with
  | none=>rw [e] at hd;cases hd
  | some j=>
    rw[e] at hd;cases hd;obtain⟨hi,ej⟩:=Qae.mp e;rw[Qbd] at ej;subst ej;rw[Qap] at hi;exact⟨hi,λx oO ⟨e1,e2⟩ _=>by subst e1 e2;exact⟨aY.refl _,by unfold Rep;rfl⟩⟩
 .show n<=(jj lo n).length;unfold jj;rw[Qaa,Qap];exact Qai _
def cy(f:FD):av->R (List D):=λδ=>(f δ).bind λd=>match d with | .int j=>R.aS (decide (-(2 ^ 62)<=j/\j<2 ^ 62)) (.ok$ jj 0 j.toNat) | _=> .no
def Bq{tg a:Expr}{p pos:Pos}(h:PD X a f)(hg:Gl X "range")(hm:X.mg "range"=none)(hs:starEach [a] X.env=[(false,eval a X.env)]:=by rfl):LO X tg (.Call (.Name "range" p) [a] [] pos) (cy f):=
 (xc hg hm (cD h eB hs) hs).imp λσ H RR ⟨Z,B,δ,ds,E,hf,q⟩=>by
   obtain⟨d,h1,h2⟩:=R.aj hf;cases d with
   | int j=>
     obtain⟨hb,h3⟩:=R.bh h2;cases h3;have hb:=Qah hb;refine⟨Z,B,δ, .int j,E,h1,λv H1 s1 r1=>⟨j,?_,hb.1,hb.2,q _ H1 s1$ Cj 0 _⟩⟩
     unfold Rep at r1;rw[r1]
   | _=>cases h2
def rF(f g:FD):av->R (List D):=λδ=>(f δ).bind λd=>(g δ).bind λe=>match d,e with
 | .int i, .int j=>R.aS (decide (-(2 ^ 62)<=i/\i<2 ^ 62/\ -(2 ^ 62)<=j/\j<2 ^ 62)) (.ok$ jj i (j - i).toNat) | _,_=> .no
def B7{tg a b:Expr}{p pos:Pos}(h:PD X a f)(h':PD X b g)(hg:Gl X "range")(hm:X.mg "range"=none)(hs:starEach [a,b] X.env=[(false,eval a X.env),(false,eval b X.env)]:=by rfl)(hs2:starEach [b] X.env=[(false,eval b X.env)]:=by rfl) :
 LO X tg (.Call (.Name "range" p) [a,b] [] pos) (rF f g):=
 (Fj hg hm (cD h (cD h' eB hs2)$ by rw[hs,hs2]) hs hs2).imp λσ H RR ⟨Z,B,δ,ds,E,hf,q⟩=>by
   obtain⟨d,h1,h2⟩:=R.aj hf;obtain⟨d2,h3,h4⟩:=R.aj h2;split at h4
   .rename_i i j;obtain⟨hb,h5⟩:=R.bh h4;cases h5;have hb:=Qah hb;refine⟨Z,B,δ, .int i,E,h1,λv H1 s1 r1=>⟨Z,B,δ, .int j,E.same s1,h3,λv2 H2 s2 r2=>⟨i,j,?_,hb,q _ H2 (s1.trans s2)$ Cj i _⟩⟩⟩
    unfold Rep at r1 r2;rw[r1,r2]
   .cases h4
noncomputable def o8(t:FT)(body:FS):List D->FS
 | [],δ=> .ok$ .nx δ
 | d ::ds,δ=>(t d δ).bind λc_=>(body c_).bind λo=>match o with | .nx du=>o8 t body ds du | .rt r=> .ok$ .rt r
def rO(it:av->R (List D))(t:FT)(body:FS):FS:=λδ=>(it δ).bind λds=>o8 t body ds δ
def LK{tg iter:Expr}{body:List Stmt}{it:av->R (List D)}{t:FT}{F:FS}{pos:Pos}(hp:PassesOwn (model X.prog X.w) X.A X.env X.xe)(hc:X.calm=true)(hi:LO X tg iter it)(hg:Nq X tg t)(hb:tY X body F)
 (hs:∀x,foldedSetIterable iter X.env x=pure x:=by intro _;rfl):Gn X (.For tg iter body [] pos) (rO it t F):=(Hd hp hc hi hg hb hs).imp λD σ H ⟨Z,B,δ,o,E,hf,q⟩=>by
 obtain⟨ds,h1,h2⟩:=R.aj hf;refine⟨Z,B,δ,ds,E,h1,λJ H1 s1 ir=>?_⟩
 refine⟨λi m c9 H'=>m=ds.length - i/\i<=ds.length/\∃B' d5,Ev Z B H1 B' H'/\eh X.K Z B' H' c9 d5/\o8 t F (ds.drop i) d5= .ok o,⟨ds.length,rfl,Qbf _,B,δ,Ev.refl Z B H1 E.zb,E.same s1,by simpa using h2⟩,?_⟩
 rintro i m c9 H' ⟨rfl,hi,B',d5,ev,E',hl⟩;obtain⟨go,stop⟩:=ir B' H' ev.bu;by_cases hlt:i<ds.length
 .have hd:ds[i]? =some ds[i]:=Qad hlt;have hdrop:ds.drop i=ds[i] ::ds.drop (i+1):=QbA hlt;rw[hdrop] at hl;obtain⟨c_,h3,h4⟩:=R.aj hl;obtain⟨o1,h5,h6⟩:=R.aj h4;obtain⟨g1,g2⟩:=go i _ hd;refine .inr ⟨g1,λzk H2=>∃B2 du,Ev Z B H1 B2 H2/\eh X.K Z B2 H2 zk du/\o8 t F (ds.drop$ i+1) du= .ok o,λzk H2 n=>⟨ds.length - (i+1),by omega,rfl,hlt,n⟩,λx oO y=>?_⟩
  obtain⟨ss,rr⟩:=g2 x oO y E'.bs;refine⟨Z,B',d5,ds[i],c_,E'.same ss,rr,h3,λzk H2 s2 E2 l2=>⟨Z,B',c_,o1,E2,h5,?_⟩⟩
  have ev2:Ev Z B H1 B' H2:=ev.trans$ Ev.same E'.zb$ ss.trans s2;cases o1 with
  | nx du=>exact λMU B3 H3 Xt E3=>⟨B3,du,ev2.trans Xt,E3,h6⟩
  | rt d=>
    cases h6;exact λv B3 H3 Xt z r=>q v B3 H3 ((Ev.same E.zb s1).trans$ ev2.trans Xt) z r
 .have e:i=ds.length:=by omega
  subst e;rw[Qcx] at hl;cases hl;exact .inl ⟨stop,q c9 B' H' ((Ev.same E.zb s1).trans ev) E'⟩
noncomputable def IS(c:av->R Bool)(body:FS):Nat->FS
 | 0,_=> .no
 | n+1,δ=>(c δ).bind λb=>if b then(body δ).bind λo=>match o with | .nx du=>IS c body n du | .rt r=> .ok (.rt r) else .ok (.nx δ)
def Wj(n:Nat)(c:av->R Bool)(body:FS):FS:=λδ=>IS c body n δ
noncomputable def nT(δ:av)(i:Nat):Sl:=match δ[i]? with | some (.val d)=> .val d | _=> .un
def qb(own:List Str)(kp:List Nat)(δ:av):av:=List.replicate own.length .un++kp.map (nT δ)
noncomputable def pd(t:FT)(c:av->R Bool)(f:FD)(δ:av):List D->R (List D)
 | []=> .ok []
 | d ::ds=>(t d δ).bind λc_=>(c c_).bind λb=>if b then(f c_).bind λy=>(pd t c f δ ds).bind λys=> .ok (y ::ys) else pd t c f δ ds
def b8(it:av->R (List D))(t:FT)(c:av->R Bool)(f:FD)(own:List Str)(kp:List Nat):av->R (List D):=λδ=>(it δ).bind λds=>R.aS (decide$ ds.length<=sizeLine)$ pd t c f (qb own kp δ) ds
def N0{K:Qdi}{Z B B':List Addr}{H H':Hp}{δ:av}{own:List Str}{kp:List Nat}(E:eh K Z B H σ δ)(p:dO B H B' H')(hB:∀a∈B',∃o,H' a=some o):eh K [] B' H' (dN own kp σ) (qb own kp δ) where
 len:=by unfold dN qb;simp
 bs:=hB
 zb:=λa ha=>by cases ha
 val:=λi d e=>by
  unfold qb at e;unfold dN;by_cases hi:i<own.length
  .rw [Qaz (by simpa using hi),QaV] at e
   split at e <;> cases e
  .rw [Qal (by simpa using hi),QaJ,Qaf] at e ⊢
   cases q:kp[i - own.length]? with
   | none=>rw [q] at e;cases e
   | some j=>
     rw[q] at e;have e:nT δ j= .val d:=QaS e;unfold nT at e;split at e
     .rename_i d' ed;cases e;obtain⟨v,h1,h2⟩:=E.val j d ed;exact⟨v,by simp [h1],h2.bu p⟩
     .cases e
 bld:=λi ds e=>by
  unfold qb at e;by_cases hi:i<own.length
  .rw [Qaz (by simpa using hi),QaV] at e
   split at e <;> cases e
  .rw [Qal (by simpa using hi),QaJ,Qaf] at e
   cases q:kp[i - own.length]? with
   | none=>rw [q] at e;cases e
   | some j=>
     rw[q] at e;have e:nT δ j= .bld ds:=QaS e;unfold nT at e;split at e <;> cases e
 dis:=λi j a ds es e=>by
  unfold qb at e;by_cases hi:i<own.length
  .rw [Qaz (by simpa using hi),QaV] at e
   split at e <;> cases e
  .rw [Qal (by simpa using hi),QaJ,Qaf] at e
   cases q:kp[i - own.length]? with
   | none=>rw [q] at e;cases e
   | some j=>
     rw[q] at e;have e:nT δ j= .bld ds:=QaS e;unfold nT at e;split at e <;> cases e
def ud{K:Qdi}{it:av->R (List D)}{c:av->R Bool}{own:List Str}{kp:List Nat}{Q:VK}(h:tN K (b8 it t c f own kp) σ H Q) :
 Dj (iD K it) (gD K t) (K1 K c) (tD K f) own kp σ H Q:=by
 obtain⟨Z,B,δ,ds,E,hf,q⟩:=h;obtain⟨es,h1,h2⟩:=R.aj hf;obtain⟨hl,h3⟩:=R.bh h2;have hl:=Qah hl;refine⟨Z,B,δ,es,E,h1,λJ H1 s1 ir Dd hD=>?_⟩
 have E1:=E.same s1;have pD:dO B H1 (Dd ::B) (upd H1 Dd$ .lst []):=zu hD;refine⟨λi m ys H'=>m=es.length - i/\i<=es.length/\ys.length<=i/\H' Dd=some (.lst ys)/\aY H1 H'/\∃done rest,ds=done++rest/\aI K (Dd ::B) H' done ys/\pd t c f (qb own kp δ) (es.drop i)= .ok rest,
  ⟨es.length,rfl,Qbf _,Qai _,aU,aN hD,[],ds,rfl,aI.nil,by simpa using h3⟩,?_⟩
 rintro i m ys H' ⟨rfl,hi,hy,hDl,ss,done,rest,rfl,rd,hc⟩;have dB:Dd ∉ B:=λhb=>by obtain⟨o,ho⟩:=E1.bs Dd hb;rw [hD] at ho;cases ho
 have p':dO B H1 (Dd ::B) H':=λb o e nb=>⟨ss b o e,λhb=>by
  rcases Qaw.mp hb with z | z
  .exact bJ e hD z
  .exact nb z⟩
 have MN:∀a∈Dd ::B,∃o,H' a=some o:=λa ha=>by
  rcases Qaw.mp ha with z | z
  .subst z;exact⟨_,hDl⟩
  .obtain⟨o,ho⟩:=E1.bs a z;exact⟨o,ss a o ho⟩
 obtain⟨go,stop⟩:=ir (Dd ::B) H' p';by_cases hlt:i<es.length
 .have hd:es[i]? =some es[i]:=Qad hlt;have hdrop:es.drop i=es[i] ::es.drop (i+1):=QbA hlt;rw[hdrop] at hc;obtain⟨c_,h4,h5⟩:=R.aj hc;obtain⟨b,h6,h7⟩:=R.aj h5;obtain⟨g1,g2⟩:=go i _ hd;refine .inr ⟨g1,λx H2 y=>?_⟩
  obtain⟨sy,ry⟩:=g2 x H2 y MN;have Ec:eh K [] (Dd ::B) H2 (dN own kp σ) (qb own kp δ):=N0 E1 (p'.trans$ dO.same sy) λa ha=>let⟨o,ho⟩:=MN a ha;⟨o,sy a o ho⟩
  refine⟨[],Dd ::B,qb own kp δ,es[i],c_,Ec,ry,h4,λMU H3 s3 E3 _=>⟨[],Dd ::B,c_,b,E3,h6,λH4 s4=>?_⟩⟩
  have sAll:aY H' H4:=sy.trans$ s3.trans s4;cases b with
  | true=>
    rw[QaG rfl] at h7;refine HE ?_;obtain⟨yv,h8,h9⟩:=R.aj h7;obtain⟨rs,Xb,Xn⟩:=R.aj h9;cases Xn;refine⟨[],Dd ::B,c_,yv,E3.same s4,h8,λv H5 s5 r5=>?_⟩
    have s':aY H' H5:=sAll.trans s5;have XD:H5 Dd=some (.lst ys):=s' Dd _ hDl;have pu:dO (Dd ::B) H5 (Dd ::B) (upd H5 Dd$ .lst$ ys++[v]):=λb o e nb=>⟨by rw[bg$ λ(z:b=Dd)=>nb$ by rw[z];exact Qat];exact e,nb⟩
    refine⟨XD,by omega,es.length - (i+1),by omega,rfl,hlt,by rw[Qau,QcA];omega,aU,λb o e=>?_,done++[yv],rs,by simp,((rd.same s').append$ aI.cons r5 aI.nil).bu pu,Xb⟩
    rw[bg$ bJ e hD];exact s' b o$ ss b o e
  | false=>
    rw[QaA$ by decide] at h7
    refine Iz ?_;exact⟨es.length - (i+1),by omega,rfl,hlt,by omega,sAll Dd _ hDl,ss.trans sAll,done,rest,rfl,rd.same sAll,h7⟩
 .have e:i=es.length:=by omega
  subst e;rw[Qcx] at hc;cases hc;rw[Qbc] at q;exact .inl ⟨stop,q Dd ys H' (s1.trans ss) (s1.free hD) hDl rd⟩
def L9{scope:Scope}{own:List Str}{kp:List Nat}{kn:List Str}{tg iter elt:Expr}{ifs:List Expr}{it:av->R (List D)}{t:FT}{c:av->R Bool}{f:FD}{pos:Pos}(hc:X.calm=true)(C:eF X scope own kp kn)(hi:LO X tg iter it)
 (hg:∀fp s H,Nq (bw X scope (own++kn) fp s H) tg t) (wM:∀fp s H,pW (bw X scope (own++kn) fp s H) ifs$ K1 X.K c) (he:∀fp s H,PD (bw X scope (own++kn) fp s H) elt f)
 (hs:∀x,foldedSetIterable iter X.env x=pure x:=by intro _;rfl):PN X (.ListComp elt [⟨tg,iter,ifs,0⟩] scope pos) (b8 it t c f own kp):=
 (CY hc C hi hg wM he hs).imp λσ H Q h=>ud h
noncomputable def f9:av->R Bool:=λ_=> .ok true
def JH:pW X [] (K1 X.K f9):=λpins s σ H Q I ⟨Z,B,δ,b,E,hf,q⟩=>AE pins s σ H Q I (by cases hf;exact q H$ aY.refl H)
def Ms{c:av->R Bool}(h:PB X e c):pW X [e] (K1 X.K c):=A9 h
def AY{i:Nat}{x:Str}{pos' ix:Pos}{scope:Scope}{own:List Str}{kp:List Nat}{kn:List Str}{tg iter elt:Expr}{ifs:List Expr}{it:av->R (List D)}{t:FT}{c:av->R Bool}{f:FD}{pos:Pos}(hc:X.calm=true)
 (hN:X.N.Nodup) (hx:X.N[i]? =some x) (Ep:X.env.scope.names.lookup x=some .local) (C:eF X scope own kp kn) (hi:LO X tg iter it)
 (hg:∀fp s H,Nq (bw X scope (own++kn) fp s H) tg t) (wM:∀fp s H,pW (bw X scope (own++kn) fp s H) ifs$ K1 X.K c) (he:∀fp s H,PD (bw X scope (own++kn) fp s H) elt f)
 (t9:swapsWith (.ListComp elt [⟨tg,iter,ifs,0⟩] scope pos) (some$ .Name x pos') ix.line X.env=pure true:=by rfl)
 (hs:∀x,foldedSetIterable iter X.env x=pure x:=by intro _;rfl):Gn X (.Assign [.Name x pos'] (.ListComp elt [⟨tg,iter,ifs,0⟩] scope pos) ix) (g6 i$ eNew$ b8 it t c f own kp):=
 (l3 hc hN hx Ep C hi hg wM he t9 hs).imp λD σ H h=>by
   have h1:=GB h;obtain⟨Z,B,δ,d,E,hf,q⟩:=h1;obtain⟨ds,h2,h3⟩:=R.aj hf;cases h3;refine ud ⟨Z,B,δ,ds,E,h2,λa xs H' s n e r=>q _ H' s ?_⟩
   unfold Rep;refine⟨a,xs,rfl, .inl ⟨λha=>?_, .inl e⟩,r.bu λb o e nb=>⟨e,λhb=>nb$ Qag _ hb⟩⟩
   obtain⟨o,ho⟩:=E.bs a ha;rw[n] at ho;cases ho
def A0{i:Nat}{x:Str}{pos' ix:Pos}{scope:Scope}{own:List Str}{kp:List Nat}{kn:List Str}{tg iter elt:Expr}{ifs:List Expr}{it:av->R (List D)}{t:FT}{c:av->R Bool}{f:FD}{pos:Pos}(hc:X.calm=true)
 (hN:X.N.Nodup) (hx:X.N[i]? =some x) (Ep:X.env.scope.names.lookup x=some .local) (C:eF X scope own kp kn) (hi:LO X tg iter it)
 (hg:∀fp s H,Nq (bw X scope (own++kn) fp s H) tg t) (wM:∀fp s H,pW (bw X scope (own++kn) fp s H) ifs$ K1 X.K c) (he:∀fp s H,PD (bw X scope (own++kn) fp s H) elt f)
 (t9:swapsWith (.ListComp elt [⟨tg,iter,ifs,0⟩] scope pos) (some$ .Name x pos') ix.line X.env=pure true:=by rfl)
 (hs:∀x,foldedSetIterable iter X.env x=pure x:=by intro _;rfl):Gn X (.Assign [.Name x pos'] (.ListComp elt [⟨tg,iter,ifs,0⟩] scope pos) ix) (ya i$ b8 it t c f own kp):=
 (l3 hc hN hx Ep C hi hg wM he t9 hs).imp λD σ H h=>ud$ HX h
end
noncomputable def cP(N:List Str)(ds:List D):av:=ds.map .val++List.replicate (N.length - ds.length) .un
def qP(N:List Str)(F:FS):List D->R D:=λds=>(F$ cP N ds).bind λo=>match o with | .rt d=> .ok d | .nx _=> .ok .cI
def Mu{K:Qdi}{B:List Addr}{H:Hp}{N:List Str}{ds:List D}{vs:List V}(hB:∀a∈B,∃o,H a=some o)(r:aI K B H ds vs):eh K B B H (start N vs) (cP N ds) where
 len:=by unfold start cP;simp [r.length]
 bs:=hB
 zb:=λa ha=>ha
 val:=λi d e=>by
  unfold cP at e;unfold start;by_cases hi:i<ds.length
  .rw [Qaz (by simpa using hi),Qaf] at e
   cases q:ds[i]? with
   | none=>rw [q] at e;cases e
   | some d'=>
     rw[q] at e;cases e;obtain⟨x,h1,h2⟩:=r.get q;exact⟨x,by rw[Qaz (by rw[Qaa,<-r.length];exact hi),Qaf,h1];rfl,h2⟩
  .rw [Qal (by simpa using hi),QaV] at e
   split at e <;> cases e
 bld:=λi es e=>by
  unfold cP at e;by_cases hi:i<ds.length
  .rw [Qaz (by simpa using hi),Qaf] at e
   cases q:ds[i]? with
   | none=>rw [q] at e;cases e
   | some d'=>rw [q] at e;cases e
  .rw [Qal (by simpa using hi),QaV] at e
   split at e <;> cases e
 dis:=λi j a es fs e=>by
  unfold cP at e;by_cases hi:i<ds.length
  .rw [Qaz (by simpa using hi),Qaf] at e
   cases q:ds[i]? with
   | none=>rw [q] at e;cases e
   | some d'=>rw [q] at e;cases e
  .rw [Qal (by simpa using hi),QaV] at e
   split at e <;> cases e
def Mz{P:Program}{w:World}{K:Qdi}{mg:Aaf}{base:Heap}{x qual:Str}{st:Stmt}{f:Addr}{fd:FuncData}{N ps:List Str}{k:Nat}{F:FS}(Fn:BQ K x qual st f fd)(S:bj N ps (aD st))
 (fH:∀(fL:Value) (A:Around) (outer:List Env) (s:Qdj) (H:Hp) (E:XK),dZ k (A.deeper$ envOfC qual (aD st) s.heap.objs.size f fL)->
   tY (lV u7 P w K mg base N qual (aD st) f fL A outer s H E).JA (aP st) F):ip P w K mg base u7 (k+1) f fd ps (HA K ps.length$ qP N F):=by
 refine Fn.ok S (λvs H Q E h=>h.1)$ λfL A outer s H vs Q E hr h=>⟨_,fH fL A outer s H E hr,?_⟩
 obtain⟨_,B,ds,d,hB,r,hg,q⟩:=h;obtain⟨o,h1,h2⟩:=R.aj hg;refine⟨B,B,cP N ds,o,Mu hB r,h1,?_⟩;have sm:∀{B':List Addr} {H':Hp},Ev B B H B' H'->aY H H':=fun {B' H'} ev b u e=>by
  by_cases hb:b∈B
  .exact(ev.zs b u e hb).1
  .exact(ev.bu b u e hb).1
 cases o with
 | nx d5=>
   cases h2;exact λc9 B' H' ev _=>q _ H' (sm ev) (by unfold Rep;rfl)
 | rt d'=>
   cases h2;exact λv B' H' ev z rr=>q v H' (sm ev)$ rr.bu λb o e nb=>⟨e,λhb=>nb$ z b hb⟩
def Rep.int{K:Qdi}{B:List Addr}{i:Int}{v:V}:Rep K B H (.int i) v↔v= .int i:=by unfold Rep;exact Iff.rfl
def Rep.bl{K:Qdi}{B:List Addr}{i:Bool}{v:V}:Rep K B H (.bl i) v↔v= .bl i:=by unfold Rep;exact Iff.rfl
def Rep.str{K:Qdi}{B:List Addr}{v:V}:Rep K B H (.str i) v↔v= .str i:=by unfold Rep;exact Iff.rfl
def Rep.cI{K:Qdi}{B:List Addr}{v:V}:Rep K B H .cI v↔v= .cI:=by unfold Rep;exact Iff.rfl
def Rep.lst{K:Qdi}{B:List Addr}{ds:List D}{v:V}:Rep K B H (.lst ds) v↔∃a xs,v= .ref a/\v_ K B H a xs/\aI K B H ds xs:=by rw[Rep]
def Rep.tup{K:Qdi}{B:List Addr}{ds:List D}{v:V}:Rep K B H (.tup ds) v↔∃a xs,v= .ref a/\xh K B H a xs/\aI K B H ds xs:=by rw[Rep]
section
variable {X:Cx}
def mG.of{f:Value->Value->Sem Value}{r:R2}{g:D->D->R D}(h:nB X f r)
 (w:∀(B:List Addr) (H:Hp) (da db d:D) (x y:V) (Q:VK),(∀a∈B,∃o,H a=some o)->Rep X.K B H da x->Rep X.K B H db y->g da db= .ok d->(∀z H',aY H H'->Rep X.K B H' d z->Q z H')->r x y H Q):mG X f g:=by
 intro pins s σ H B da db d x y v u I hb rx ry ra rb hg;exact h pins s σ H x y v u _ I rx ry$ w B H da db d x y _ hb ra rb hg λz H' s1 r1=>⟨s1,r1⟩
def cT.of{f:Value}{r:List V->Hp->VK->Prop}{g:List D->R D}(h:iU X f r)
 (w:∀(B:List Addr) (H:Hp) (ds:List D) (d:D) (xs:List V) (Q:VK),(∀a∈B,∃o,H a=some o)->aI X.K B H ds xs->g ds= .ok d->(∀z H',aY H H'->Rep X.K B H' d z->Q z H')->r xs H Q):cT X f g:=by
 intro pins s σ H B ds d xs us I hb rx rs hg;exact h pins s σ H xs us _ I rx$ w B H ds d xs _ hb rs hg λz H' s1 r1=>⟨s1,r1⟩
def cT.or{f:Value}{g g1 g2:List D->R D}(h1:cT X f g1)(h2:cT X f g2)(e:∀a d,g a= .ok d->g1 a= .ok d\/g2 a= .ok d):cT X f g:=by
 intro pins s σ H B ds d xs us I hb rx rs hg;rcases e ds d hg with q | q
 .exact h1 pins s σ H B ds d xs us I hb rx rs q
 .exact h2 pins s σ H B ds d xs us I hb rx rs q
def Kj(C:Int->Int->Bool)(g:Int->Int->Int):D->D->R D
 | .int i, .int j=>R.aS (C i j)$ .ok$ .int$ g i j
 | _,_=> .no
def zR{f:Value->Value->Sem Value}{C:Int->Int->Bool}{Cp:Int->Int->Prop}{g:Int->Int->Int}(h:nB X f (rI Cp λi j=> .int$ g i j))(hc:∀i j,C i j=true->Cp i j):mG X f (Kj C g):=
 mG.of h λB H da db d x y Q _ ra rb hg q=>by
  unfold Kj at hg;split at hg
  .obtain⟨h1,h2⟩:=R.bh hg;cases h2;exact⟨_,_,Rep.int.mp ra,Rep.int.mp rb,hc _ _ h1,q _ H (aY.refl H)$ Rep.int.mpr rfl⟩
  .cases hg
noncomputable def Fu(g:Int->Int->Int):D->D->R D
 | .int i, .int j=> .ok$ .int$ g i j
 | _,_=> .no
def yd{f:Value->Value->Sem Value}{g:Int->Int->Int}(h:nB X f (Gv λi j=> .int$ g i j)):mG X f (Fu g):=
 mG.of h λB H da db d x y Q _ ra rb hg q=>by
  unfold Fu at hg;split at hg
  .cases hg;exact⟨_,_,Rep.int.mp ra,Rep.int.mp rb,q _ H (aY.refl H)$ Rep.int.mpr rfl⟩
  .cases hg
noncomputable def Rc(g:Int->Int->Bool):D->D->R D
 | .int i, .int j=> .ok$ .bl$ g i j
 | _,_=> .no
def GN{f:Value->Value->Sem Value}{g:Int->Int->Bool}(h:nB X f (Gv λi j=> .bl$ g i j)):mG X f (Rc g):=
 mG.of h λB H da db d x y Q _ ra rb hg q=>by
  unfold Rc at hg;split at hg
  .cases hg;exact⟨_,_,Rep.int.mp ra,Rep.int.mp rb,q _ H (aY.refl H)$ Rep.bl.mpr rfl⟩
  .cases hg
abbrev qA:D->D->R D:=Fu fun i j=>i - j
def pq:mG X (binaryOp .Sub) qA:=yd Pm
abbrev lR:D->D->R D:=Kj (fun _ j=>decide$ 0<j/\j<1073741824) fun i j=>i / j
def rM:mG X (binaryOp .FloorDiv) lR:=zR Lz λi j h=>(Qah h:0<j/\j<1073741824)
abbrev fI:D->D->R D:=Kj (fun _ j=>decide$ 0<j) fun i j=>i % j
def ef:mG X (binaryOp .Mod) fI:=zR P5 λi j h=>Qah h
abbrev Fi:D->D->R D:=Kj (fun i j=>decide$ 0<=j/\j<=1000000/\i.natAbs<2 ^ 64) fun i j=>i ^ j.toNat
def G5:mG X (binaryOp .Pow) Fi:=zR PL λi j h=>(Qah h:0<=j/\j<=1000000/\i.natAbs<2 ^ 64)
abbrev AJ:D->D->R D:=Kj (fun _ j=>decide$ 0<=j) fun i j=>i / 2 ^ j.toNat
def Ir:mG X (binaryOp .RShift) AJ:=zR O0 λi j h=>Qah h
abbrev IV:D->D->R D:=Fu fun i j=>Builtin.bitAnd i j
def ER:mG X (binaryOp .BitAnd) IV:=yd OZ
abbrev Ni:D->D->R D:=Fu fun i j=>Builtin.bitOr i j
def E_:mG X (binaryOp .BitOr) Ni:=yd S_
abbrev Ff:D->D->R D:=Fu fun i j=>Builtin.bitXor i j
def BO:mG X (binaryOp .BitXor) Ff:=yd Pp
abbrev Wt:D->D->R D:=Rc fun i j=>decide$ i<j
def WJ:mG X (compareOp .Lt) Wt:=GN TK
abbrev dLe:D->D->R D:=Rc fun i j=>decide$ i<=j
abbrev OP:D->D->R D:=Rc fun i j=>decide$ j<i
def ME:mG X (compareOp .Gt) OP:=GN R0
abbrev WL:D->D->R D:=Rc fun i j=>decide$ j<=i
def VD:mG X (compareOp .GtE) WL:=GN R4
def v_.rZ{K:Qdi}{B:List Addr}{H:Hp}{a:Addr}{xs:List V}(h:H a=some (.lst xs))(n:a ∉ B):v_ K B H a xs:= .inl ⟨n, .inl h⟩
def Inv.DA{pins:Aaa}{s:Qdj}{a:Addr}{xs:List V}{B:List Addr}(I:Inv X pins σ H s)(h:v_ X.K B H a xs):∃(its:List Value) (n:Nat),Vals xs its/\s.heap.get? a=some {cls:= .type "list",data:= .seq its.toArray n}/\xs.length<=sizeLine:=by
 rcases h with⟨_,h⟩ | ⟨its,n,hk,hz,r⟩
 .obtain⟨z,its,n,r,e⟩:=h.ok I.hok;exact⟨its,n,r,e,z⟩
 .exact⟨its,n,r,I.pz a _ hk,hz⟩
def Eb:nB X (binaryOp .Add) (λx y H Q=>∃B l b xs zs,x= .ref l/\y= .ref b/\v_ X.K B H l xs/\v_ X.K B H b zs/\xs.length+zs.length<=sizeLine/\∀p,H p=none->Q (.ref p) (upd H p$ .lst$ xs++zs)):=by
 intro pins s σ H x y v u Q I rx ry h;obtain⟨B,l,b,xs,zs,rfl,rfl,hH,hB,hz,q⟩:=h;cases rx;cases ry;obtain⟨its,n,r,e,_⟩:=I.DA hH;obtain⟨t_,n2,r2,e2,_⟩:=I.DA hB;have l1:=r.length;have l2:=r2.length;refine PySem.P.add_list e e2 ?_ (by rw[Qao,Qao];omega)
 have ea:its.toArray++t_.toArray=(its++t_).toArray:=by simp
 rw[ea];exact⟨.ref _,_,I.Mx (t':=s.toks) (r.append r2) (by rw[Qau];omega),rfl,q _ I.fresh⟩
def cW:D->D->R D
 | .int i, .int j=> .ok$ .int$ i+j
 | .str a, .str b=>R.aS (decide$ a.length+b.length<=sizeLine)$ .ok$ .str$ a++b
 | .lst a, .lst b=>R.aS (decide$ a.length+b.length<=sizeLine)$ .ok$ .lst$ a++b
 | _,_=> .no
def cR:mG X (binaryOp .Add) cW:=by
 intro pins s σ H B da db d x y v u I hb rx ry ra rb hg;unfold cW at hg;split at hg
 .cases hg;exact Ot pins s σ H x y v u _ I rx ry ⟨_,_,Rep.int.mp ra,Rep.int.mp rb,aY.refl H,Rep.int.mpr rfl⟩
 .obtain⟨h1,h2⟩:=R.bh hg;cases h2;exact Cm pins s σ H x y v u _ I rx ry ⟨_,_,Rep.str.mp ra,Rep.str.mp rb,Qah h1,aY.refl H,Rep.str.mpr rfl⟩
 .obtain⟨h1,h2⟩:=R.bh hg;cases h2;obtain⟨a1,XE,rfl,l1,r1⟩:=Rep.lst.mp ra;obtain⟨a2,WY,rfl,l2,r2⟩:=Rep.lst.mp rb;refine Eb pins s σ H _ _ v u _ I rx ry ⟨B,a1,a2,XE,WY,rfl,rfl,l1,l2,by rw[<-r1.length,<-r2.length];exact Qah h1,λp hp=>⟨aN hp,Rep.lst.mpr ⟨p,_,rfl, .rZ aU λha=>?_,(r1.append r2).same$ aN hp⟩⟩⟩
  obtain⟨o,ho⟩:=hb p ha;rw[hp] at ho;cases ho
 .cases hg
def Lr:nB X (binaryOp .Mult) (λx y H Q=>∃z n,x= .str z/\y= .int n/\MulOk z n/\Q (.str$ Txt.mul z n) H):=by
 intro pins s σ H x y v u Q I rx ry h;obtain⟨z,n,rfl,rfl,hm,q⟩:=h;obtain⟨t,rfl⟩:=rx;obtain⟨t',rfl⟩:=ry;exact SB.mul hm λt2 k=>⟨.str _,H,I.tok _,⟨_,rfl⟩,q⟩
end
section
variable {X:Cx}
def mulOk_of{x:Str}{n:Int}(h1: -(2 ^ 63)<=n)(h2:n<2 ^ 63)(h3:x.length*n.toNat<=sizeLine):MulOk x n:=by
 refine⟨by simp only[Bool.or_eq_false_iff,decide_eq_false_iff_not];omega,λhn _=>?_,λhn _=>?_⟩
 .have hz:=Qam;have e:(n.toNat:Int)=n:=by omega
  have h4:(x.length:Int)*n<=16777216:=by
   have:((x.length*n.toNat:Nat):Int)<=((16777216:Nat):Int):=Int.ofNat_le.mpr (by omega)
   rw[Int.natCast_mul,e] at this;exact this
  have:(x.length:Int)<=(2 ^ 63 - 1) / n:=(Int.le_ediv_iff_mul_le$ by omega).mpr (by omega)
  omega
 .unfold Builtin.Str.tooLong;exact Qax (by omega)
def eU:D->D->R D
 | .int i, .int j=>R.aS (decide$ (-(2 ^ 64)<i/\i<2 ^ 64)\/(-(2 ^ 64)<j/\j<2 ^ 64))$ .ok$ .int$ i*j
 | .str x, .int n=>R.aS (decide (-(2 ^ 63)<=n/\n<2 ^ 63/\x.length*n.toNat<=sizeLine))$ .ok$ .str$ Txt.mul x n
 | _,_=> .no
def fG:mG X (binaryOp .Mult) eU:=by
 intro pins s σ H B da db d x y v u I hb rx ry ra rb hg;unfold eU at hg;split at hg
 .obtain⟨h1,h2⟩:=R.bh hg;cases h2;have h1:=Qah h1;exact N8 pins s σ H x y v u _ I rx ry ⟨_,_,Rep.int.mp ra,Rep.int.mp rb,h1,aY.refl H,Rep.int.mpr rfl⟩
 .obtain⟨h1,h2⟩:=R.bh hg;cases h2;have h1:=Qah h1;exact Lr pins s σ H x y v u _ I rx ry ⟨_,_,Rep.str.mp ra,Rep.int.mp rb,mulOk_of h1.1 h1.2.1 h1.2.2,aY.refl H,Rep.str.mpr rfl⟩
 .cases hg
mutual
noncomputable def toPy:D->PyData
 | .cI=> .none
 | .bl b=> .bool b
 | .int i=> .int i
 | .str x=> .str x
 | .lst ds=> .list$ mR ds
 | .tup ds=> .tuple$ mR ds
 | .dct _ _=> .dict []
noncomputable def mR:List D->List PyData
 | []=>[]
 | d ::ds=>toPy d ::mR ds
end
mutual
noncomputable def d6:D->Bool
 | .dct _ _=>false
 | .lst ds=>jX ds
 | .tup ds=>jX ds
 | _=>true
noncomputable def jX:List D->Bool
 | []=>true
 | d ::ds=>d6 d && jX ds
end
mutual
theorem Rep.reads{pins:Aaa}{s:Qdj}{B:List Addr}(I:Inv X pins σ H s):∀{d:D} {v:V} {u:Value},d6 d=true->Rep X.K B H d v->RelV v u->∃as,Reads s.heap u (toPy d) as
 | .cI,v,u,_,r,q=>by rw[Rep.cI.mp r] at q;cases q;unfold toPy;exact⟨_, .none⟩
 | .bl b,v,u,_,r,q=>by rw[Rep.bl.mp r] at q;cases q;unfold toPy;exact⟨_, .bool b⟩
 | .int i,v,u,_,r,q=>by rw[Rep.int.mp r] at q;obtain⟨t,rfl⟩:=q;unfold toPy;exact⟨_, .int i t⟩
 | .str x,v,u,_,r,q=>by rw[Rep.str.mp r] at q;obtain⟨t,rfl⟩:=q;unfold toPy;exact⟨_, .str x t⟩
 | .lst ds,v,u,hp,r,q=>by
   obtain⟨a,xs,rfl,l,rs⟩:=Rep.lst.mp r;cases q;obtain⟨its,rv,⟨o,n,e,hc,hd,he⟩,_⟩:=I.list l.sq;obtain⟨as,ra⟩:=aI.reads I (by unfold d6 at hp;exact hp) rs rv
   unfold toPy;exact⟨_, .list e hc he$ by simpa using ra⟩
 | .tup ds,v,u,hp,r,q=>by
   obtain⟨a,xs,rfl,l,rs⟩:=Rep.tup.mp r;cases q;obtain⟨its,rv,⟨o,e,hc,n,hd⟩,_⟩:=I.tuple l.sq;obtain⟨as,ra⟩:=aI.reads I (by unfold d6 at hp;exact hp) rs rv
   unfold toPy;exact⟨_, .tuple e hc hd$ by simpa using ra⟩
 | .dct _ _,v,u,hp,r,q=>by unfold d6 at hp;cases hp
theorem aI.reads{pins:Aaa}{s:Qdj}{B:List Addr}(I:Inv X pins σ H s):∀{ds:List D} {vs:List V} {us:List Value},jX ds=true->aI X.K B H ds vs->Vals vs us->∃as,ReadsAll s.heap us (mR ds) as
 | [],vs,us,_,r,q=>by unfold aI at r;subst r;cases q;unfold mR;exact⟨_, .nil⟩
 | d ::ds,vs,us,hp,r,q=>by
   obtain⟨x,xs,rfl,r1,r2⟩:=r.cm;cases q with
   | cons q1 q2=>
     unfold jX at hp;obtain⟨h1,h2⟩:=Qa0.mp hp;obtain⟨as,a1⟩:=Rep.reads I h1 r1 q1;obtain⟨bs,a2⟩:=aI.reads I h2 r2 q2;unfold mR;exact⟨_, .cons a1 a2⟩
end
def Gp:D->D->R Bool
 | .int i, .int j=> .ok$ decide$ i=j
 | .str x, .str y=> .ok$ decide$ x=y
 | .bl a, .bl b=> .ok$ decide$ a=b
 | d,e=>R.aS (d6 d && d6 e && SeqAt.shaped (toPy d) && SeqAt.shaped (toPy e))$ .ok$ PyData.eqv (toPy d)$ toPy e
def qv(d e:D):R D:=(Gp d e).bind λb=> .ok$ .bl b
def A1(d e:D):R D:=(Gp d e).bind λb=> .ok$ .bl$ !b
def lx(hu:X.A.units+64<cLine):mG X (compareOp .Eq) qv:=by
 intro pins s σ H B da db d x y v u I hb rx ry ra rb hg;obtain⟨b,h1,h2⟩:=R.aj hg;cases h2;unfold Gp at h1;split at h1
 .cases h1;rename_i i j;have:=JB pins s σ H x y v u (λz H'=>aY H H'/\Rep X.K B H' (.bl$ decide$ i=j) z) I rx ry
  rw[Rep.int.mp ra,Rep.int.mp rb] at this;refine this ⟨rfl,aY.refl H,Rep.bl.mpr ?_⟩;simp [V.int.injEq]
 .cases h1;rename_i i j;have:=JB pins s σ H x y v u (λz H'=>aY H H'/\Rep X.K B H' (.bl$ decide$ i=j) z) I rx ry
  rw[Rep.str.mp ra,Rep.str.mp rb] at this;refine this ⟨rfl,aY.refl H,Rep.bl.mpr ?_⟩;simp [V.str.injEq]
 .cases h1;rename_i i j;have:=JB pins s σ H x y v u (λz H'=>aY H H'/\Rep X.K B H' (.bl$ decide$ i=j) z) I rx ry
  rw[Rep.bl.mp ra,Rep.bl.mp rb] at this;refine this ⟨rfl,aY.refl H,Rep.bl.mpr ?_⟩;simp [V.bl.injEq]
 .obtain⟨h3,h4⟩:=R.bh h1;cases h4;simp only[QaW] at h3;obtain⟨⟨⟨p1,p2⟩,s1⟩,s2⟩:=h3;obtain⟨as,r1⟩:=ra.reads I p1 rx;obtain⟨bs,r2⟩:=rb.reads I p2 ry;exact eq_dataH r1 r2 s1 s2 hu ⟨.bl _,H,I,rfl,aY.refl H,Rep.bl.mpr rfl⟩
def BX(hu:X.A.units+64<cLine):mG X (compareOp .NotEq) A1:=by
 intro pins s σ H B da db d x y v u I hb rx ry ra rb hg;obtain⟨b,h1,h2⟩:=R.aj hg;cases h2;unfold Gp at h1;split at h1
 .cases h1;rename_i i j;have:=Je pins s σ H x y v u (λz H'=>aY H H'/\Rep X.K B H' (.bl$ !decide (i=j)) z) I rx ry
  rw[Rep.int.mp ra,Rep.int.mp rb] at this;refine this ⟨rfl,aY.refl H,Rep.bl.mpr ?_⟩;simp [V.int.injEq]
 .cases h1;rename_i i j;have:=Je pins s σ H x y v u (λz H'=>aY H H'/\Rep X.K B H' (.bl$ !decide (i=j)) z) I rx ry
  rw[Rep.str.mp ra,Rep.str.mp rb] at this;refine this ⟨rfl,aY.refl H,Rep.bl.mpr ?_⟩;simp [V.str.injEq]
 .cases h1;rename_i i j;have:=Je pins s σ H x y v u (λz H'=>aY H H'/\Rep X.K B H' (.bl$ !decide (i=j)) z) I rx ry
  rw[Rep.bl.mp ra,Rep.bl.mp rb] at this;refine this ⟨rfl,aY.refl H,Rep.bl.mpr ?_⟩;simp [V.bl.injEq]
 .obtain⟨h3,h4⟩:=R.bh h1;cases h4;simp only[QaW] at h3;obtain⟨⟨⟨p1,p2⟩,s1⟩,s2⟩:=h3;obtain⟨as,r1⟩:=ra.reads I p1 rx;obtain⟨bs,r2⟩:=rb.reads I p2 ry;exact ne_dataH r1 r2 s1 s2 hu ⟨.bl _,H,I,rfl,aY.refl H,Rep.bl.mpr rfl⟩
noncomputable def strs?:List D->Option (List Str)
 | []=>some []
 | .str x ::ds=>(strs? ds).map (x ::·)
 | _ ::_=>none
theorem lJ{K:Qdi}{B:List Addr}:∀{ds:List D} {xs:List V} {ss:List Str},aI K B H ds xs->strs? ds=some ss->xs=ss.map V.str
 | [],xs,ss,r,h=>by unfold aI at r;subst r;cases h;rfl
 | d ::ds,xs,ss,r,h=>by
   obtain⟨x,r',rfl,r1,r2⟩:=r.cm;cases d with
   | str z=>
     unfold strs? at h;cases e:strs? ds with
     | none=>rw [e] at h;cases h
     | some tt=>
       rw[e] at h;cases h;rw[Rep.str.mp r1,lJ r2 e];rfl
   | _=>cases h
noncomputable def ints?:List D->Option (List Int)
 | []=>some []
 | .int x ::ds=>(ints? ds).map (x ::·)
 | _ ::_=>none
theorem eu{K:Qdi}{B:List Addr}:∀{ds:List D} {xs:List V} {ss:List Int},aI K B H ds xs->ints? ds=some ss->xs=ss.map V.int
 | [],xs,ss,r,h=>by unfold aI at r;subst r;cases h;rfl
 | d ::ds,xs,ss,r,h=>by
   obtain⟨x,r',rfl,r1,r2⟩:=r.cm;cases d with
   | int z=>
     unfold ints? at h;cases e:ints? ds with
     | none=>rw [e] at h;cases h
     | some tt=>
       rw[e] at h;cases h;rw[Rep.int.mp r1,eu r2 e];rfl
   | _=>cases h
def inD(d e:D):R Bool:=match d,e with
 | .str x, .lst ds=>(match strs? ds with | some ss=> .ok (ss.contains x) | none=> .no)
 | .str x, .tup ds=>(match strs? ds with | some ss=> .ok (ss.contains x) | none=> .no)
 | .str x, .str y=> .ok$ !(Builtin.Str.occurrences y x 0 y.length 1).isEmpty
 | .int x, .lst ds=>(match ints? ds with | some ss=> .ok (ss.contains x) | none=> .no)
 | .int x, .tup ds=>(match ints? ds with | some ss=> .ok (ss.contains x) | none=> .no)
 | _,_=> .no
def MZ(d e:D):R D:=(inD d e).bind λb=> .ok$ .bl b
def Vr(d e:D):R D:=(inD d e).bind λb=> .ok$ .bl$ !b
theorem vb(x:Str):∀ss:List Str,Nj (.str x) (ss.map V.str)=ss.contains x
 | []=>rfl
 | y ::ss=>by
   unfold Nj;rw[QaO,QbG];have ih:=vb x ss;unfold Nj at ih;rw[ih];show(y==x || ss.contains x)=_
   rw[List.contains_cons];congr 1;exact Qbq.mpr ⟨λh=>by simpa using(Qbj.mp h).symm,λh=>by simpa using(Qbj.mp h).symm⟩
theorem uT(x:Int):∀ss:List Int,Nj (.int x) (ss.map V.int)=ss.contains x
 | []=>rfl
 | y ::ss=>by
   unfold Nj;rw[QaO,QbG];have ih:=uT x ss;unfold Nj at ih;rw[ih];show(y==x || ss.contains x)=_
   rw[List.contains_cons];congr 1;exact Qbq.mpr ⟨λh=>by simpa using(Qbj.mp h).symm,λh=>by simpa using(Qbj.mp h).symm⟩
def wU(ss:List Int):(ss.map V.int).all mJ=true:=by
 rw[List.all_map];simp [Qa6,mJ]
def xD(ss:List Str):(ss.map V.str).all mJ=true:=by
 rw[List.all_map];simp [Qa6,mJ]
def Qc{neg:Bool}{op:CmpOp}{g:D->D->R D}(h1:nB X (compareOp op) (X5 X.K neg))(h2:nB X (compareOp op) (λx y H Q=>∃i j,x= .str i/\y= .str j/\Q (.bl$ if neg then !(!(Builtin.Str.occurrences j i 0 j.length 1).isEmpty) else(!(Builtin.Str.occurrences j i 0 j.length 1).isEmpty)) H))
 (hg:∀d e r,g d e= .ok r->∃b,inD d e= .ok b/\r= .bl (if neg then !b else b)):mG X (compareOp op) g:=by
 intro pins s σ H B da db d x y v u I hb rx ry ra rb hg';obtain⟨b,hi,rfl⟩:=hg da db d hg';unfold inD at hi;split at hi
 .rename_i z ds;split at hi
  .rename_i ss e;cases hi;obtain⟨a,xs,rfl,l,rs⟩:=Rep.lst.mp rb;refine h1 pins s σ H x _ v u _ I rx ry ⟨a,xs,rfl, .inl l.sq,by rw[Rep.str.mp ra];rfl,by rw[lJ rs e];exact xD _,aY.refl H,Rep.bl.mpr ?_⟩
   rw[lJ rs e,Rep.str.mp ra,vb]
  .cases hi
 .rename_i z ds;split at hi
  .rename_i ss e;cases hi;obtain⟨a,xs,rfl,l,rs⟩:=Rep.tup.mp rb;refine h1 pins s σ H x _ v u _ I rx ry ⟨a,xs,rfl, .inr l.sq,by rw[Rep.str.mp ra];rfl,by rw[lJ rs e];exact xD _,aY.refl H,Rep.bl.mpr ?_⟩
   rw[lJ rs e,Rep.str.mp ra,vb]
  .cases hi
 .cases hi;exact h2 pins s σ H x y v u _ I rx ry ⟨_,_,Rep.str.mp ra,Rep.str.mp rb,aY.refl H,Rep.bl.mpr rfl⟩
 .rename_i z ds;split at hi
  .rename_i ss e;cases hi;obtain⟨a,xs,rfl,l,rs⟩:=Rep.lst.mp rb;refine h1 pins s σ H x _ v u _ I rx ry ⟨a,xs,rfl, .inl l.sq,by rw[Rep.int.mp ra];rfl,by rw[eu rs e];exact wU _,aY.refl H,Rep.bl.mpr ?_⟩
   rw[eu rs e,Rep.int.mp ra,uT]
  .cases hi
 .rename_i z ds;split at hi
  .rename_i ss e;cases hi;obtain⟨a,xs,rfl,l,rs⟩:=Rep.tup.mp rb;refine h1 pins s σ H x _ v u _ I rx ry ⟨a,xs,rfl, .inr l.sq,by rw[Rep.int.mp ra];rfl,by rw[eu rs e];exact wU _,aY.refl H,Rep.bl.mpr ?_⟩
   rw[eu rs e,Rep.int.mp ra,uT]
  .cases hi
 .cases hi
def Mf:mG X (compareOp .In) MZ:=Qc (neg:=false) FJ FV λd e r h=>by
 obtain⟨b,h1,h2⟩:=R.aj h;cases h2;exact⟨b,h1,rfl⟩
def cb(d e:D):R D:=match d,e with
 | .lst ds, .int i=>(match vz ds i with | some x=> .ok x | none=> .no)
 | .tup ds, .int i=>(match vz ds i with | some x=> .ok x | none=> .no)
 | .str x, .int i=>R.aS (decide$ x.length<=sizeLine)$ match vz x.cps.toList i with | some c=> .ok (.str ⟨#[c]⟩) | none=> .no
 | _,_=> .no
def qU{K:Qdi}{B:List Addr}{ds:List D}{xs:List V}{i:Int}{d:D}(r:aI K B H ds xs)(h:vz ds i=some d):∃x,vz xs i=some x/\Rep K B H d x:=by
 unfold vz at h ⊢;rw[<-r.length];cases e:Dh ds.length i with
 | none=>rw [e] at h;cases h
 | some j=>
   rw[e] at h;exact r.get h
def TN(ha:PD X a fa)(hb:PD X b fb)(hs:uv b):PD X (.Subscript a b pos) (e2 cb fa fb):=by
 refine(Nh (r:=Vd X.K) Ho ha hb hs).imp λσ H Q ⟨Z,B,δ,d,E,hf,q⟩=>?_
 obtain⟨d1,h1,h2⟩:=R.aj hf;obtain⟨d2,h3,h4⟩:=R.aj h2;refine⟨Z,B,δ,d1,E,h1,λv1 H1 s1 r1=>⟨Z,B,δ,d2,E.same s1,h3,λv2 H2 s2 r2=>?_⟩⟩
 have t8:=r1.same s2;unfold cb at h4;split at h4
 .split at h4
  .rename_i e;cases h4;obtain⟨p,xs,rfl,l,rs⟩:=Rep.lst.mp t8;obtain⟨y,e1,e2⟩:=qU rs e;exact .inl ⟨p,xs,_,y,rfl,Rep.int.mp r2,l.sq,e1,q y H2 (s1.trans s2) e2⟩
  .cases h4
 .split at h4
  .rename_i e;cases h4;obtain⟨p,xs,rfl,l,rs⟩:=Rep.tup.mp t8;obtain⟨y,e1,e2⟩:=qU rs e;exact .inr$ .inl ⟨p,xs,_,y,rfl,Rep.int.mp r2,l.sq,e1,q y H2 (s1.trans s2) e2⟩
  .cases h4
 .obtain⟨hl,h5⟩:=R.bh h4;split at h5
  .rename_i e;cases h5;exact .inr$ .inr ⟨_,_,_,Rep.str.mp t8,Rep.int.mp r2,Qah hl,e,q _ H2 (s1.trans s2)$ Rep.str.mpr rfl⟩
  .cases h5
 .cases h4
abbrev FO:=av->R (Option Int)
def ZD(K:Qdi)(f:FO):TO:=λσ H Q=>∃Z B δ o,eh K Z B H σ δ/\f δ= .ok o/\∀H',aY H H'->Q o H'
def PO.imp{X:Cx}{e:Option Expr}{t t':TO}(h:PO X e t)(w:∀σ H Q,t' σ H Q->t σ H Q):PO X e t':=λpins s σ H Q I hq=>h pins s σ H Q I$ w σ H Q hq
abbrev PP(X:Cx)(e:Option Expr)(f:FO):Prop:=PO X e$ ZD X.K f
noncomputable def AX:FO:=λ_=> .ok none
def oS(f:FD):FO:=λδ=>(f δ).bind λd=>match d with | .int i=> .ok (some i) | _=> .no
def Mg:PP X none AX:=LD.imp λσ H Q ⟨Z,B,δ,o,E,hf,q⟩=>by cases hf;exact q H$ aY.refl H
def Mb(h:PD X e f):PP X (some e) (oS f):=(Lp h).imp λσ H Q ⟨Z,B,δ,o,E,hf,q⟩=>by
 obtain⟨d,h1,h2⟩:=R.aj hf;cases d with
 | int i=>cases h2;exact⟨Z,B,δ, .int i,E,h1,λv H1 s1 r1=>⟨i,Rep.int.mp r1,q H1 s1⟩⟩
 | _=>cases h2
def OI:Nc X (λx lo hi H Q=>∃z,x= .str z/\z.length<=sizeLine/\Q (.str$ Txt.slice z lo hi) H):=by
 intro pins s σ H x v vl vu lo hi sl Q I rx hs pl pu h;obtain⟨z,rfl,hz,q⟩:=h;obtain⟨t,rfl⟩:=rx;refine⟨"str",_,F.slot_str_getitem.lookup,typeIs_str _ _ _,?_⟩;have fin:∀t' k,EP X pins σ Q (.str (Txt.slice z lo hi) t') {s with toks:=k}:=λt' k=>⟨.str _,H,I.tok _,⟨_,rfl⟩,q⟩
 obtain⟨o,ho,hc,hd⟩:=hs;cases pl with
 | none=>
   cases pu with
   | none=>exact QbV (l:=none) (u:=none) (st:=none) ⟨o,ho,hc,hd⟩ rfl$ QcG ⟨QaP (Txt.slice_le z _ _) hz,fin⟩
   | int j u=>exact QbV (l:=none) (u:=some (j,u)) (st:=none) ⟨o,ho,hc,hd⟩ rfl$ QcG ⟨QaP (Txt.slice_le z _ _) hz,fin⟩
 | int i t1=>
   cases pu with
   | none=>exact QbV (l:=some (i,t1)) (u:=none) (st:=none) ⟨o,ho,hc,hd⟩ rfl$ QcG ⟨QaP (Txt.slice_le z _ _) hz,fin⟩
   | int j u=>exact QbV (l:=some (i,t1)) (u:=some (j,u)) (st:=none) ⟨o,ho,hc,hd⟩ rfl$ QcG ⟨QaP (Txt.slice_le z _ _) hz,fin⟩
def cutD{α:Type}(xs:List α)(lo hi:Option Int):List α:=(xs.drop$ HT.gh xs.length 0 lo).take$ HT.gh xs.length xs.length hi - HT.gh xs.length 0 lo
def N_(d:D)(lo hi:Option Int):R D:=match d with
 | .str x=>R.aS (decide$ x.length<=sizeLine)$ .ok$ .str$ Txt.slice x lo hi
 | .lst ds=> .ok$ .lst$ cutD ds lo hi
 | _=> .no
def Az{K:Qdi}{B:List Addr}{ds:List D}{xs:List V}(r:aI K B H ds xs)(lo hi:Option Int):aI K B H (cutD ds lo hi) (A5 xs lo hi):=by
 unfold cutD A5;rw[<-r.length];exact(r.drop _).take _
def Qz(f:FD)(fl fh:FO):FD:=λδ=>(f δ).bind λd=>(fl δ).bind λlo=>(fh δ).bind λhi=>N_ d lo hi
def RE{lo hi:Option Expr}{fl fh:FO}(he:PD X e f)(hl:PP X lo fl)(hh:PP X hi fh):PD X (.Subscript e (.Slice lo hi none p2) pos) (Qz f fl fh):=by
 refine(As (OI.or LX) he hl hh).imp λσ H Q ⟨Z,B,δ,d,E,hf,q⟩=>?_
 obtain⟨d1,h1,h2⟩:=R.aj hf;obtain⟨l,h3,h4⟩:=R.aj h2;obtain⟨h,h5,h6⟩:=R.aj h4;refine⟨Z,B,δ,d1,E,h1,λv1 H1 s1 r1=>⟨Z,B,δ,l,E.same s1,h3,λH2 s2=>⟨Z,B,δ,h,(E.same s1).same s2,h5,λH3 s3=>?_⟩⟩⟩
 have sA:aY H H3:=s1.trans$ s2.trans s3;have t8:=r1.same$ s2.trans s3;unfold N_ at h6;split at h6
 .obtain⟨hz,h7⟩:=R.bh h6;cases h7;exact .inl ⟨_,Rep.str.mp t8,Qah hz,q _ H3 sA$ Rep.str.mpr rfl⟩
 .cases h6;obtain⟨a,xs,rfl,ls,rs⟩:=Rep.lst.mp t8;refine .inr ⟨a,xs,rfl,ls.sq,λp hp=>q _ _ (sA.trans$ aN hp)$ Rep.lst.mpr ⟨p,_,rfl, .rZ aU λha=>?_,(Az rs l h).same$ aN hp⟩⟩
  obtain⟨o,ho⟩:=(E.same sA).bs p ha;rw[hp] at ho;cases ho
 .cases h6
end
end L2
end
section
namespace L2
open PySem PySem.Spec PyProof.Rows
section
variable {X:Cx}
def aI.one{K:Qdi}{B:List Addr}{d:D}{xs:List V}(h:aI K B H [d] xs):∃x,xs=[x]/\Rep K B H d x:=by
 obtain⟨x,r,rfl,h1,h2⟩:=h.cm;unfold aI at h2;subst h2;exact⟨x,rfl,h1⟩
def aI.two{K:Qdi}{B:List Addr}{d e:D}{xs:List V}(h:aI K B H [d,e] xs):∃x y,xs=[x,y]/\Rep K B H d x/\Rep K B H e y:=by
 obtain⟨x,r,rfl,h1,h2⟩:=h.cm;obtain⟨y,rfl,h3⟩:=h2.one;exact⟨x,y,rfl,h1,h3⟩
def fP:List D->R D
 | [.str x]=>R.aS (decide$ x.length<=sizeLine)$ .ok$ .int x.length
 | [.lst ds]=> .ok$ .int ds.length
 | [.tup ds]=> .ok$ .int ds.length
 | _=> .no
def eX:cT X (.builtin "len") fP:=cT.of GR λB H ds d xs Q _ rs hg q=>by
 unfold fP at hg;split at hg
 .obtain⟨h1,h2⟩:=R.bh hg;cases h2;obtain⟨x,rfl,r⟩:=rs.one;exact⟨x,_,rfl,by rw[Rep.str.mp r];exact⟨Qah h1,rfl⟩,q _ H (aY.refl H)$ Rep.int.mpr rfl⟩
 .cases hg;obtain⟨x,rfl,r⟩:=rs.one;obtain⟨a,ys,rfl,l,r⟩:=Rep.lst.mp r;exact⟨_,_,rfl, .inl ⟨ys,l.sq,rfl⟩,q _ H (aY.refl H)$ Rep.int.mpr$ by rw[r.length]⟩
 .cases hg;obtain⟨x,rfl,r⟩:=rs.one;obtain⟨a,ys,rfl,l,r⟩:=Rep.tup.mp r;exact⟨_,_,rfl, .inr ⟨ys,l.sq,rfl⟩,q _ H (aY.refl H)$ Rep.int.mpr$ by rw[r.length]⟩
 .cases hg
noncomputable def cInt:List D->R D
 | [.int i]=> .ok$ .int i
 | [.bl b]=> .ok$ .int$ if b then 1 else 0
 | _=> .no
def RU:cT X (.type "int") cInt:=cT.of FH λB H ds d xs Q _ rs hg q=>by
 unfold cInt at hg;split at hg
 .cases hg;obtain⟨x,rfl,r⟩:=rs.one;exact .inl ⟨_,by rw[Rep.int.mp r],q _ H (aY.refl H)$ Rep.int.mpr rfl⟩
 .cases hg;obtain⟨x,rfl,r⟩:=rs.one;exact .inr ⟨_,by rw[Rep.bl.mp r],q _ H (aY.refl H)$ Rep.int.mpr rfl⟩
 .cases hg
def cStr:List D->R D
 | [.int i]=>R.aS (decide$ i.natAbs.log2<1920)$ .ok$ .str$ toString i
 | _=> .no
noncomputable def KI:List D->R D
 | [.int i, .int j]=> .ok$ .int$ if j<i then j else i
 | _=> .no
def Tz(hc:X.calm=true):cT X (.builtin "min") KI:=cT.of (Fv hc) λB H ds d xs Q _ rs hg q=>by
 unfold KI at hg;split at hg
 .cases hg;obtain⟨x,y,rfl,r1,r2⟩:=rs.two;exact⟨_,_,by rw[Rep.int.mp r1,Rep.int.mp r2],q _ H (aY.refl H)$ Rep.int.mpr rfl⟩
 .cases hg
noncomputable def P0:List D->R D
 | [.int i, .int j]=> .ok$ .int$ if j > i then j else i
 | _=> .no
def So(hc:X.calm=true):cT X (.builtin "max") P0:=cT.of (F4 hc) λB H ds d xs Q _ rs hg q=>by
 unfold P0 at hg;split at hg
 .cases hg;obtain⟨x,y,rfl,r1,r2⟩:=rs.two;exact⟨_,_,by rw[Rep.int.mp r1,Rep.int.mp r2],q _ H (aY.refl H)$ Rep.int.mpr rfl⟩
 .cases hg
noncomputable def h_:List D->R D
 | [.lst ds]=> .ok$ .tup ds
 | [.tup ds]=> .ok$ .tup ds
 | _=> .no
def j9:cT X (.type "tuple") h_:=cT.of wt λB H ds d xs Q hb rs hg q=>by
 unfold h_ at hg;split at hg
 .cases hg;obtain⟨x,rfl,r⟩:=rs.one;obtain⟨a,ys,rfl,l,r⟩:=Rep.lst.mp r;refine⟨a,ys,rfl, .inl ⟨l.sq,λp hp=>q _ _ (aN hp)$ Rep.tup.mpr ⟨p,ys,rfl, .inl ⟨λha=>?_, .inl aU⟩,r.same$ aN hp⟩⟩⟩
  obtain⟨o,ho⟩:=hb p ha;rw[hp] at ho;cases ho
 .cases hg;obtain⟨x,rfl,r⟩:=rs.one;have r0:=r;obtain⟨a,ys,rfl,l,r⟩:=Rep.tup.mp r;exact⟨a,ys,rfl, .inr ⟨l.sq,q _ H (aY.refl H) r0⟩⟩
 .cases hg
noncomputable def zE:List D->R D
 | [.lst ds]=> .ok$ .lst ds
 | [.tup ds]=> .ok$ .lst ds
 | _=> .no
def Bx:cT X (.type "list") zE:=cT.of yY λB H ds d xs Q hb rs hg q=>by
 unfold zE at hg;split at hg
 .cases hg;obtain⟨x,rfl,r⟩:=rs.one;obtain⟨a,ys,rfl,l,r⟩:=Rep.lst.mp r;refine⟨a,ys,rfl, .inl l.sq,λp hp=>q _ _ (aN hp)$ Rep.lst.mpr ⟨p,ys,rfl, .rZ aU λha=>?_,r.same$ aN hp⟩⟩
  obtain⟨o,ho⟩:=hb p ha;rw[hp] at ho;cases ho
 .cases hg;obtain⟨x,rfl,r⟩:=rs.one;obtain⟨a,ys,rfl,l,r⟩:=Rep.tup.mp r;refine⟨a,ys,rfl, .inr l.sq,λp hp=>q _ _ (aN hp)$ Rep.lst.mpr ⟨p,ys,rfl, .rZ aU λha=>?_,r.same$ aN hp⟩⟩
  obtain⟨o,ho⟩:=hb p ha;rw[hp] at ho;cases ho
 .cases hg
noncomputable def cAbs:List D->R D
 | [.int i]=> .ok$ .int$ if i<0 then -i else i
 | _=> .no
def OS:List D->R D
 | [.lst ds]=>(match ints? ds with | some ns=> .ok (.int ns.sum) | none=> .no)
 | _=> .no
theorem fO:∀{ns:List Int} {us:List Value},Vals (ns.map V.int) us->∃l:List (Int × Tok),us=l.map (λp=>Value.int p.1 p.2)/\l.map (·.1)=ns
 | [],_, .nil=>⟨[],rfl,rfl⟩
 | n ::ns,_, .cons r t=>by
   obtain⟨l,rfl,e⟩:=fO t;obtain⟨tk,rfl⟩:=r;exact⟨(n,tk) ::l,rfl,by rw[QaO,e]⟩
def RC(hc:X.calm=true):cT X (.builtin "sum") OS:=by
 intro pins s σ H B ds d xs us I hb rx rs hg;unfold OS at hg;split at hg
 .split at hg
  .rename_i es ns e;cases hg;obtain⟨x,rfl,r⟩:=rs.one;obtain⟨a,ys,rfl,l,r⟩:=Rep.lst.mp r;obtain⟨u,rfl,ru⟩:=vals1 rx;cases ru;obtain⟨its,n,rv,e1,hz⟩:=I.DA l;rw[eu r e] at rv;obtain⟨ps,rfl,rfl⟩:=fO rv;have hl:s.heap.IsList a (intItems ps.toArray):=⟨_,e1,rfl,n,by simp [intItems]⟩
   refine sum_intListG (I.ok.hd hc) hl λh' tk t' k=>⟨.int _,H,I.kept k,⟨t',rfl⟩,aY.refl H,Rep.int.mpr ?_⟩
   rw[preSum_eq,QaU$ by simp]
  .cases hg
 .cases hg
noncomputable def tyName:D->String
 | .cI=>"NoneType" | .bl _=>"bool" | .int _=>"int" | .str _=>"str" | .lst _=>"list" | .tup _=>"tuple" | .dct _ _=>"dict"
def ZG(T:String)(f:FD):FD:=λδ=>(f δ).bind λd=>R.aS (tyName d==T && d.atom)$ .ok$ .bl true
def MtD(X:Cx)(id:String)(g:D->List D->R D):Prop:=
 ∀(pins:Aaa) (s:Qdj) (σ:St) (H:Hp) (B:List Addr) (da d:D) (ds:List D) (x:V) (xs:List V) (v:Value) (us:List Value),Inv X pins σ H s->(∀a∈B,∃o,H a=some o)->RelV x v->Vals xs us->Rep X.K B H da x->aI X.K B H ds xs->g da ds= .ok d->
  wpAny (model X.prog X.w) X.A (call (.builtin id) (v ::us)) (EP X pins σ λz H'=>aY H H'/\Rep X.K B H' d z) X.xe s
def eMt(T:String)(g:D->List D->R D)(f:FD)(fs:av->R (List D)):FD:=λδ=>(f δ).bind λd=>R.aS (tyName d==T && (d.atom || T=="list"))$ (fs δ).bind λds=>g d ds
def YD(d:D)(ds:List D):R D:=match d,ds with
 | .str sep,[.lst es]=>(match strs? es with | some ss=>R.aS (JoinOk sep ss) (.ok$ .str$ Str.join sep ss) | none=> .no)
 | _,_=> .no
abbrev PJ(X:Cx)(es:List Expr)(f:av->R (List Str)):Prop:=
 ∀(pins:Aaa) (s:Qdj) (σ:St) (H:Hp) (Z B:List Addr) (δ:av) (acc:Str) (ss:List Str) (Q:VK),Inv X pins σ H s->eh X.K Z B H σ δ->f δ= .ok ss->(ss.foldl (·++·) acc).length<=sizeLine->(∀H',aY H H'->Q (.str$ ss.foldl (·++·) acc) H')->
  wpAny (model X.prog X.w) X.A (joinParts acc$ evalEach es X.env) (EP X pins σ Q) X.xe s
noncomputable def ZT:av->R (List Str):=λ_=> .ok []
def Yb(f:FD)(g:av->R (List Str)):av->R (List Str):=λδ=>(f δ).bind λd=>match d with | .str x=>(g δ).bind λss=> .ok (x ::ss) | _=> .no
def Ut(g:av->R (List Str)):FD:=λδ=>(g δ).bind λss=>R.aS (decide$ (ss.foldl (·++·) Str.empty).length<=sizeLine)$ .ok$ .str$ ss.foldl (·++·) Str.empty
def Va:D->R D
 | .str x=>R.aS (decide$ x.length<=sizeLine)$ .ok$ .str x
 | .int i=>R.aS (decide$ i.natAbs.log2<1920)$ .ok$ .str$ toString i
 | _=> .no
def Z8(f:FD):FD:=λδ=>(f δ).bind Va
noncomputable def RH:List (D × D)->Str->R (Option D)
 | [],_=> .ok none
 | (.str y,d) ::r,x=>(RH r x).bind λo=> .ok$ match o with | some e=>some e | none=>if y=x then some d else none
 | _ ::_,_=> .no
noncomputable def Te(x:Str):List D:=x.cps.toList.map λc=> .str ⟨#[c]⟩
noncomputable def Its(x:Str):It:=⟨λi _=>i<x.cps.size,λi H v H'=>H'=H/\∃c,x.cps[i]? =some c/\v= .str ⟨#[c]⟩,λi _=>x.cps.size<=i⟩
def YC(f:FD):av->R (List D):=λδ=>(f δ).bind λd=>match d with | .str x=> .ok (Te x) | _=> .no
def ZK(K:Qdi)(a:Addr):It:=
 ⟨λi H=>∃xs x,pI K H a xs/\xs[i]? =some x,λi H v H'=>∃p x,H p=none/\v= .ref p/\(∀xs,pI K H a xs->xs[i]? =some x)/\H'=upd H p (.tup [.int i,x]),λi H=>∃xs,pI K H a xs/\xs.length<=i⟩
def Gb{K:Qdi}{k:Nat}(a e it:Addr)(Ru:e≠it):Turn P w K (.Tuple elts k pos) (ZK K a) [e,it] e (λi h=>(∃old,IsEnum h e it ((i:Nat):Int) old)/\h.IsListIter it a i) where
 mem:=by simp
 obj:=λi h st b hb=>by
  obtain⟨⟨old,he⟩,o,ho,c,d⟩:=st;rcases Qaw.mp hb with rfl | hb
  .exact⟨_,he,λv z=>by cases z⟩
  .have e:b=it:=by simpa using hb
   subst e;exact⟨o,ho,λv z=>by rw[d] at z;cases z⟩
 keep:=λi h h' st k=>by
  obtain⟨⟨old,he⟩,hi⟩:=st;exact⟨⟨old,k e (by simp) _ he⟩,hi.at λo x=>k it (by simp) o x⟩
 item:=by
  intro X hP hw hK hc i pins s σ H E I hf st hg;subst hP hw hK;obtain⟨xs,x,hq,hx⟩:=hg;obtain⟨its,rv,p,hz⟩:=I.list hq;obtain⟨u,hu,ru⟩:=rv.get hx;obtain⟨⟨old,he⟩,hit⟩:=st;obtain⟨f0,f1,f2,f3,f4,f5⟩:=hf e (by simp)
  obtain⟨g0,g1,g2,g3,g4,g5⟩:=hf it (by simp)
  refine wpAny_pyNext_enum_item he hit p.isList (x:=u) (by simpa using hu) Ru λi_ Kp CN J1 pA xK=>⟨_,rfl,?_⟩
  refine wpAny_letOwnedTupleGo_enum Kp λg8 JY dj=>?_
  replace dj:Heap.SameBut e i_ g8:=dj
  have hel:e<s.heap.objs.size:=Qar he;have A_:g8.get? s.heap.objs.size=some {cls:= .type "tuple",data:= .seq #[.int i s.toks,u]}:=(dj.2 _$ Qcg hel).trans J1;have kk:∀b o,b≠e->b≠it->s.heap.get? b=some o->g8.get? b=some o:=λb o h1 h2 q=>(dj.2 b h1).trans$ xK b o h1 h2 q
  have hn:H s.heap.objs.size=none:=I.fresh;have sm:aY H (upd H s.heap.objs.size$ .tup [.int i,x]):=aN hn;have nit:∀b o,H b=some o->b≠e/\b≠it:=λb o q=>⟨λz=>(by rw[z,f0] at q;cases q),λz=>(by rw[z,g0] at q;cases q)⟩
  have hok:mF X.prog X.w (upd H s.heap.objs.size$ .tup [.int i,x]) g8:=λb ob q=>by
   by_cases hb:b=s.heap.objs.size
   .subst hb;rw[aU] at q;cases q;exact⟨by show 2<=sizeLine;decide,[.int i s.toks,u], .cons ⟨_,rfl⟩$ .cons ru .nil,⟨_,A_,rfl,_,rfl⟩⟩
   .rw [bg hb] at q;refine(I.hok b ob q).t7 (λc v hc z=>?_) (λc z=>sm c _ z) λc ys z=>sm c _ z
    rcases hc with rfl | hc
    .exact kk c v (nit c _ q).1 (nit c _ q).2 z
    .exact kk c v (nit c _ hc).1 (nit c _ hc).2 z
  have nch:∀b,b ∉ [e,it]->b≠e/\b≠it:=λb hb=>⟨λz=>hb (by simp [z]),λz=>hb$ by simp [z]⟩
  have I2:Inv X pins σ (upd H s.heap.objs.size$ .tup [.int i,x]) {s with heap:=g8,toks:=s.toks+1}:=by
   refine I.step (g':=s.gens) (d':=s.drawn) (ch:=[e,it]) (λb hb=>?_) (λb o _ _ hb q _=>kk b o (nch b hb).1 (nch b hb).2 q) (λb o _ _ hb q _=>⟨o.slots,kk b o (nch b hb).1 (nch b hb).2 q⟩)
    (λb o hb q n=>by rw[bg$ QaE$ Qar q];exact n) (λb o hb q=>⟨o,kk b o (nch b hb).1 (nch b hb).2 q⟩) (λb ys z=>sm b _ z) (λb o u z=>sm b _ z) (λb ps z=>⟨#[],by rw[sm b _ z];simp⟩) (λm hm=>?_) hok I.bare
   .rcases Qaw.mp hb with rfl | hb
    .exact⟨f3,f1,f4,f5⟩
    .have z:b=it:=by simpa using hb
     subst z;exact⟨g3,g1,g4,g5⟩
   .obtain⟨o,es,ep,ho,r⟩:=hm;exact⟨o,es,ep,kk _ o (QbE f1) (QbE g1) ho,r⟩
  refine⟨.ref s.heap.objs.size,_,I2,rfl,⟨s.heap.objs.size,x,hn,rfl,λys hy=>(by rw[I.qJ hy hq];exact hx),rfl⟩,⟨⟨_,by simpa using JY⟩,CN.at λo q=>(dj.2 it$ QbE Ru).trans q⟩,λb hb=>?_⟩
  rcases Qaw.mp hb with rfl | hb
  .rw [bg$ QaE hel];exact f0
  .have z:b=it:=by simpa using hb
   subst z;obtain⟨o,ho,_⟩:=hit;rw[bg$ QaE$ Qar ho];exact g0
 done:=by
  intro X hP hw hK hc i pins s σ H E I hf st hg;subst hP hw hK;obtain⟨xs,hq,hx⟩:=hg;obtain⟨its,rv,p,hz⟩:=I.list hq;obtain⟨⟨old,he⟩,hit⟩:=st;obtain⟨g0,g1,g2,g3,g4,g5⟩:=hf it (by simp)
  have hl:=rv.length;exact wpAny_pyNext_enum_end (I.ok.hd hc) he hit p.isList (by simp;omega) λh' eb=>⟨rfl,I.turned (t':=s.toks) (λb o hb q=>eb b o hb q) g0 g1 g3 g4 g5⟩
 self:=λA i s Q E st h=>let⟨⟨_,he⟩,_⟩:=st;Qcq he h
noncomputable def eR(ds:List D):List D:=ds.zipIdx.map λp=> .tup [.int p.2,p.1]
def jG(f:FD):av->R (List D):=λδ=>(f δ).bind λd=>match d with | .lst ds=> .ok (eR ds) | _=> .no
def An{elts:List Expr}{k:Nat}{mX:Pos}{p pos:Pos}(h:PD X a f)(hg:Gl X "enumerate")(hm:X.mg "enumerate"=none)(hs:starEach [a] X.env=[(false,eval a X.env)]:=by rfl):LO X (.Tuple elts k mX) (.Call (.Name "enumerate" p) [a] [] pos) (jG f):=by
 intro pins s σ H RR I ⟨Z,B,δ,ds,E,hf,q⟩;obtain⟨d,h1,h2⟩:=R.aj hf;have hA:=cD h eB hs pos pins s σ H (λvs H1=>aY H H1/\∃v,vs=[v]/\Rep X.K B H1 d v) I ⟨Z,B,δ,d,E,h1,λv H1 s1 r1=>⟨s1,v,rfl,r1⟩⟩
 refine Call_$ l8 I hg hm boot_enumerate$ Qba (dP hA λus s1 ⟨vs,H1,I1,r1,ss,v,ev,rr⟩=>?_) hs rfl
 subst ev;obtain⟨u,rfl,ru⟩:=vals1 r1;cases d with
 | lst es=>
   cases h2;obtain⟨b,xs,rfl,l,rs⟩:=Rep.lst.mp rr;cases ru;obtain⟨its,n,rv,e1,hz⟩:=I1.DA l;refine call_enumerate_list (items:=its.toArray) ⟨_,e1,rfl,n,rfl⟩ λh' he hit hsz kk=>Qcq he ?_
   have I2:Inv X pins σ H1 {s1 with heap:=h'}:=I1.kept (t':=s1.toks) kk
   refine⟨s1.heap.objs.size+1,[s1.heap.objs.size+1,s1.heap.objs.size],_,_,H1,rfl,I2,Gb b (s1.heap.objs.size+1) s1.heap.objs.size$ Nat.succ_ne_self _,⟨⟨_,he⟩,hit⟩,λc hc=>?_,q _ H1 ss λB' H' pr=>?_⟩
   .have hle:s1.heap.objs.size<=c:=by
     rcases Qaw.mp hc with z | hc
     .rw [z];exact QbT _
     .have z:c=s1.heap.objs.size:=by simpa using hc
      rw[z];exact Qai _
    exact I1.wu hle$ I1.hok.fresh hle
   .have l':v_ X.K B' H' b xs:=l.bu pr;have rs':=rs.bu pr;refine⟨λi d hd=>?_,⟨xs,l'.sq,by rw[<-rs.length];unfold eR;simp⟩⟩
    unfold eR at hd;rw[Qaf,QbC] at hd;cases e:es[i]? with
    | none=>rw [e] at hd;cases hd
    | some d0=>
      rw[e] at hd;have hd:D.tup [.int ((0+i:Nat):Int),d0]=d:=QaS hd;rw[QcH] at hd;obtain⟨x,hx,rx⟩:=rs'.get e;refine⟨⟨xs,x,l'.sq,hx⟩,λv oO y MN=>?_⟩
      obtain⟨p,y,hp,rfl,hy,rfl⟩:=y;refine⟨aN hp,?_⟩;subst hd;have Gh:=hy xs l'.sq;rw[hx] at Gh;cases Gh;refine Rep.tup.mpr ⟨p,_,rfl, .inl ⟨λha=>?_, .inl aU⟩,aI.cons (Rep.int.mpr rfl)$ aI.cons (rx.same$ aN hp) aI.nil⟩
      obtain⟨o,ho⟩:=MN p ha;rw[hp] at ho;cases ho
 | _=>cases h2
end
def Def(K:Qdi)(mg:Aaf)(x:Str)(st:Stmt):Prop:=∃f fd,BQ K x x st f fd/\mg x=some (.ref f)
def Callee(P:Program)(w:World)(K:Qdi)(mg:Aaf)(base:Heap)(k:Nat)(x:Str)(n:Nat)(g:List D->R D):Prop:=
 ∃f fd ps,ip P w K mg base u7 k f fd ps (HA K n g)/\mg x=some (.ref f)/\PySem.W.keepIn K (.ref f)=true/\Binds K fd ps []
def HM:∀(δ:av) (ds:List D),ax δ= .ok ds->ds.length=0:=λδ ds h=>by cases h;rfl
def E5{g:av->R (List D)}{n:Nat}(h:∀(δ:av) (ds:List D),g δ= .ok ds->ds.length=n):∀(δ:av) (ds:List D),af f g δ= .ok ds->ds.length=n+1:=λδ ds e=>by
 obtain⟨d,h1,h2⟩:=R.aj e;obtain⟨es,h3,h4⟩:=R.aj h2;cases h4;rw[QaB,h δ es h3]
def Ii{P:Program}{w:World}{K:Qdi}{mg:Aaf}{base:Heap}{x qual:Str}{st:Stmt}{f:Addr}{fd:FuncData}{N ps:List Str}{k:Nat}{F:FS}{b:List Stmt}{sc:Scope}(hb:aP st=b)(hs:aD st=sc)(Fn:BQ K x qual st f fd)(S:bj N ps sc)
 (fH:∀(fL:Value) (A:Around) (outer:List Env) (s:Qdj) (H:Hp) (E:XK),dZ k (A.deeper$ envOfC qual sc s.heap.objs.size f fL)->
   tY (lV u7 P w K mg base N qual sc f fL A outer s H E).JA b F):ip P w K mg base u7 (k+1) f fd ps (HA K ps.length$ qP N F):=by
 subst hb hs;exact Mz Fn S fH
section
variable {X:Cx}
def HI{g:List D->R D}{k j n:Nat}{x:Str}{p pos:Pos}{e:Expr}{es:List Expr}{fs:av->R (List D)}(C:Callee X.prog X.w X.K X.mg X.base k x n g)(hr:dZ j X.A)(hkj:k<=j)(hg:Gl X x)(ha:Ke X (e ::es) fs)
 (hn:∀δ ds,fs δ= .ok ds->ds.length=n) (oi:(x==("__debug__":Str))=false:=by decide) (he:starEach (e ::es) X.env=(false,eval e X.env) ::starEach es X.env:=by rfl) (hJ:(backTo pos$ starEach es X.env).any (·.1)=false:=by rfl) :
 PD X (.Call (.Name x p) (e ::es) [] pos) (aJ g fs):=by
 obtain⟨f,fd,ps,F,hm,hk,hb⟩:=C;exact Kz F (hr.mono hkj) hg hm hk hb ha hn oi he hJ
noncomputable def Qy(sc:Scope)(N:List Str)(scope:Scope)(kp:List Nat)(kn:List Str):Bool:=
 decide (scope.kind= .function) && scope.names.all (λy=>decide$ y.2= .cell->scope.names.lookup y.1=some .cell) && scope.names.all (λy=>decide$ y.2= .local->scope.names.lookup y.1=some .local)
  && scope.names.all (λy=>decide$ y.2= .free->(sc.names.lookup y.1=some .cell\/sc.names.lookup y.1=some .free)) && scope.names.all (λy=>decide$ y.2= .free->scope.names.lookup y.1=some .free) && decide (kn.length=kp.length)
  && (List.range kp.length).all (λj=>decide$ (kp[j]?).bind (N[·]?)=kn[j]?) && kn.all (λx=>decide$ scope.names.lookup x=some .free)
def eF.of{own:List Str}{kp:List Nat}{kn:List Str}{N:List Str}(h1:X.env.scope=sc)(h2:X.N=N)(h:Qy sc N scope kp kn=true):eF X scope own kp kn:=by
 unfold Qy at h;simp only[QaW,decide_eq_true_eq,Qa6] at h;obtain⟨⟨⟨⟨⟨⟨⟨a1,a2⟩,a3⟩,a4⟩,a8⟩,a5⟩,a6⟩,a7⟩:=h;refine⟨a1,a2,a3,λy hy hf=>?_,a8,a5,λj i x hj hx=>?_,a7⟩
 .have:=a4 y hy hf;unfold Env.kindOf;rw[h1];exact this
 .have hlt:j<kp.length:=(Qae.mp hj).1;have:=a6 j$ QaI.mpr hlt;rw[hj] at this;rw[h2];exact this.trans hx
noncomputable def ji(kp:List Nat)(N:List Str):List Str:=kp.map λi=>N.getD i Str.empty
def Rh{own:List Str}{kp:List Nat}{kn:List Str}(h:Qy X.env.scope X.N scope kp kn=true):eF X scope own kp kn:=eF.of rfl rfl h
noncomputable def Yo:List Str->Bool
 | []=>true
 | x ::l=>!l.contains x && Yo l
theorem Kb:∀{l:List Str},Yo l=true->l.Nodup
 | [],_=>List.nodup_nil
 | x ::l,h=>by
   obtain⟨h1,h2⟩:=Qa0.mp h;exact Qcd.mpr ⟨λq=>(by rw[List.contains_iff_mem.mpr q] at h1;cases h1),Kb h2⟩
def HN(aW:List (Key × V))(f g:FD):FD:=λδ=>(f δ).bind λk=>(g δ).bind λd=>match k with
 | .str x=>(match nR (l5 [] aW) (Sum.inr x) with | some (.int i)=> .ok (.int i) | none=> .ok d | _=> .no)
 | _=> .no
def Qd{keys:List (Option Expr)}{values:List Expr}{xM:List (TE × TE)}{zo apos cF:Pos}{e f:Expr}{fe ff:FD}{aW:List (Key × V)}(hu:X.A.units+1<cLine)(h:N1 X zo keys values xM)(Gm:keys.all (·.isSome)=true)(hl:keys.length=values.length)(h0:keys≠[])
 (hc:∀σ H Q,Q (aW.map λkv=>(kV kv.1,kv.2)) H->sd xM σ H Q) (hlen:aW.length<=15) (he:PD X e fe) (hf:PD X f ff) (m:M2 X (.Dict keys values zo) "get" apos e f cF)
 (hd:PE X (.Dict keys values zo) (IF xM)):PD X (.Call (.Attribute (.Dict keys values zo) "get" apos) [e,f] [] cF) (HN aW fe ff):=by
 refine(Hw hu hd he hf m).imp λσ H Q ⟨Z,B,δ,d,E,hfd,q⟩=>?_
 obtain⟨k,h1,h2⟩:=R.aj hfd;obtain⟨dd,h3,h4⟩:=R.aj h2;intro p hp;refine hc σ _ _ ⟨aU,aW,rfl,hlen,p,rfl, .inl ⟨_, .inl aU⟩,?_⟩;rw[LS];have s0:aY H (upd H p$ .dK$ l5 [] aW):=aN hp;refine⟨Z,B,δ,k,E.same s0,h1,λv1 H1 s1 r1=>⟨Z,B,δ,dd,(E.same s0).same s1,h3,λv2 H2 s2 r2=>?_⟩⟩
 have hH2:H2 p=some (.dK$ l5 [] aW):=s2 p _$ s1 p _ aU;have sA:aY H H2:=s0.trans$ s1.trans s2;split at h4
 .rename_i x;refine⟨nR (l5 [] aW)$ Sum.inr x,?_,?_⟩
  .rw [Rep.str.mp r1];exact wm.k (k:=Sum.inr x) hH2
  .split at h4
   .rename_i i e1;cases h4;rw[e1];exact q _ H2 sA$ Rep.int.mpr rfl
   .rename_i e1;cases h4;rw[e1];exact q _ H2 sA r2
   .cases h4
 .cases h4
def X2(i:Nat)(f:FD):FS:=λδ=>(f δ).bind λd=>match d with
 | .lst es=>(sP δ i).bind λds=>R.aS (decide$ ds.length+es.length<=sizeLine)$ .ok$ .nx$ δ.set i$ .bld$ ds++es
 | _=> .no
end
structure QD (X:Cx) (e:Expr) (f:FD):Prop where
 h:PD X e f
structure QN (X:Cx) (e:Expr) (f:av->R (List D)):Prop where
 h:PN X e f
structure QB (X:Cx) (e:Expr) (f:av->R Bool):Prop where
 h:PB X e f
structure Uq (X:Cx) (e:Expr) (f:av->R Bool):Prop where
 h:Pe X e f
structure NA (X:Cx) (e:List Expr) (f:av->R (List D)):Prop where
 h:Ke X e f
structure GX (X:Cx) (e:Stmt) (f:FS):Prop where
 h:Gn X e f
structure uZ (X:Cx) (e:List Stmt) (f:FS):Prop where
 h:tY X e f
structure Nk (X:Cx) (e:Expr) (f:FT):Prop where
 h:Nq X e f
structure L7 (X:Cx) (e:List Expr) (f:Gr):Prop where
 h:GV X e f
structure y1 (X:Cx) (tg e:Expr) (f:av->R (List D)):Prop where
 h:LO X tg e f
structure QP (X:Cx) (e:Option Expr) (f:FO):Prop where
 h:PP X e f
structure QJ (X:Cx) (e:List Expr) (f:av->R (List Str)):Prop where
 h:PJ X e f
structure EG (X:Cx) (e:List Expr) (c:av->R Bool):Prop where
 h:pW X e (K1 X.K c)
section
variable {X:Cx}
def bq{f:av->R (List D)}(h:QN X e f):QD X e (eNew f):=⟨P2 h.1⟩
def ae(i:Nat){pos:Pos}(hN:X.N[i]? =some x:=by rfl)(hv:Kk X.env.scope x:=by first | exact Or.inl rfl | exact Or.inr Qdf | exact Or.inr (Or.inr rfl))(hd:(x==("__debug__":Str))=false:=by decide)(sL:(x==("__classdict__":Str))=false:=by decide):QD X (.Name x pos) (ai i):=⟨Qu i hN hv hd sL⟩
def ag{i j pos}:QD X (.Constant (.int i) j pos) (eC$ .int i):=⟨Ql⟩
def f7{b j pos}:QD X (.Constant (.bool b) j pos) (eC$ .bl b):=⟨Ti⟩
def Mc{j pos}:QD X (.Constant .none j pos) (eC .cI):=⟨Oa⟩
def bG{x j pos}:QD X (.Constant (.str x) j pos) (eC$ .str x):=⟨OL⟩
def ah:NA X [] ax:=⟨LP⟩
def aa{g:av->R (List D)}(h:QD X e f)(t:NA X es g)(hs:starEach (e ::es) X.env=(false,eval e X.env) ::starEach es X.env:=by rfl):NA X (e ::es) (af f g):=⟨Jt h.1 t.1 hs⟩
def aH{g:av->R (List D)}{x1 pos}(h:NA X es g):QD X (.Tuple es x1 pos) (bz g):=⟨Qo h.1⟩
def bQ{g:av->R (List D)}{pos}(h:NA X es g):QN X (.List es pos) (dy g):=⟨Qx h.1⟩
def aq{op:Operator}{g:D->D->R D}(ho:mG X (binaryOp op) g)(ha:QD X a fa)(hb:QD X b fb):QD X (.BinOp a op b pos) (e2 g fa fb):=⟨S7 ho ha.1 hb.1⟩
def iL{op:CmpOp}{g:D->D->R D}{pos:Pos}(ho:mG X (compareOp op) g)(ha:QD X a fa)(hb:QD X b fb)(hm:behindInMarks op b=false:=by first | exact Ci _ | with_unfolding_all rfl):QD X (.Compare a [op] [b] pos) (e2 g fa fb):=⟨PY ho ha.1 hb.1 hm⟩
def cg{op:CmpOp}{g:D->D->R D}{pos:Pos}(ho:mG X (compareOp op) g)(ha:QD X a fa)(hb:QD X b fb)(hm:behindInMarks op b=false:=by first | exact Ci _ | with_unfolding_all rfl):QB X (.Compare a [op] [b] pos) (b2 g fa fb):=⟨Oi ho ha.1 hb.1 hm⟩
def oF{a:Expr}(ha:QD X a f)(he:∀whole,isTrue a X.env whole=(do let v <-whole;standAt a.pos;holding [v] (truthy v)):=by intro _;rfl):QB X a (pG f):=⟨PR ha.1 he⟩
def KA{f:av->R Bool}(h:Uq X e f):QB X e f:=⟨Pe.pb h.1⟩
def GI{f:av->R Bool}(h:QB X a f):Uq X (.BoolOp .Or [a] pos) f:=⟨Lv h.1⟩
def LW{rest:List Expr}{f g:av->R Bool}(ha:QB X a f)(hb:Uq X (.BoolOp .Or (b ::rest) pos) g):Uq X (.BoolOp .Or (a ::b ::rest) pos) (Ur f g):=⟨Og ha.1 hb.1⟩
def rn{f:av->R Bool}(ha:QB X a f):QB X (.UnaryOp .Not a pos) (qu f):=⟨O9 ha.1⟩
def Di{op}(h:QD X a f):QD X (.BoolOp op [a] pos) f:=⟨PV h.1⟩
def xQ{rest:List Expr}(ha:QD X a f)(hb:QD X (.BoolOp .And (b ::rest) pos) g):QD X (.BoolOp .And (a ::b ::rest) pos) (ES f g):=⟨P_ ha.1 hb.1⟩
def LN(ha:QD X a f):QD X (.UnaryOp .Not a pos) (O6 f):=⟨O5 ha.1⟩
def GJ{fc:av->R Bool}(hc:QB X c fc)(ha:QD X a f)(hb:QD X b g):QD X (.IfExp c a b pos) (Rb fc f g):=⟨S8 hc.1 ha.1 hb.1⟩
def bp{g:List D->R D}{id:String}{p pos:Pos}{fs:av->R (List D)}(hc:cT X (.builtin id) g)(hg:Gl X x)(hm:X.mg x=none)(hv:bootBuiltins x=some (.builtin id))(ha:NA X (e ::es) fs)(hn:x≠"__name__":=by decide)(oi:(x==("__debug__":Str))=false:=by decide)(he:starEach (e ::es) X.env=(false,eval e X.env) ::starEach es X.env:=by rfl)(hJ:(backTo pos$ starEach es X.env).any (·.1)=false:=by rfl):QD X (.Call (.Name x p) (e ::es) [] pos) (aJ g fs):=⟨He hc hg hm hv ha.1 hn oi he hJ⟩
def cw{g:List D->R D}{T:String}{p pos:Pos}{fs:av->R (List D)}(hc:cT X (.type T) g)(hg:Gl X x)(hm:X.mg x=none)(hv:bootBuiltins x=some (.type T))(ha:NA X (e ::es) fs)(hn:x≠"__name__":=by decide)(oi:(x==("__debug__":Str))=false:=by decide)(he:starEach (e ::es) X.env=(false,eval e X.env) ::starEach es X.env:=by rfl)(hJ:(backTo pos$ starEach es X.env).any (·.1)=false:=by rfl):QD X (.Call (.Name x p) (e ::es) [] pos) (aJ g fs):=⟨FR hc hg hm hv ha.1 hn oi he hJ⟩
def dX:uZ X [] pQ:=⟨LQ⟩
def aQ{st:Stmt}{rest:List Stmt}{F G:FS}(h1:GX X st F)(h2:uZ X rest G):uZ X (st ::rest) (dw F G):=⟨Hr h1.1 h2.1⟩
def aV{st:Stmt}{F:FS}(h1:GX X st F):uZ X [st] F:=⟨MA h1.1⟩
def cH{i:Nat}{pos pos':Pos}(he:QD X e f)(hs:swapsWith e (some$ .Name x pos') pos.line X.env=pure false:=by rfl)(hf:X.fn x=true\/X.env.scope.names.lookup x=some .local:=by first | exact .inl rfl | exact .inr rfl | assumption)(hN:X.N.Nodup:=by first | assumption | exact Kb (by kernel_rfl))(hi:X.N[i]? =some x:=by rfl)(hx:Loc X.env.scope x:=by first | exact Or.inl rfl | exact Or.inr rfl):GX X (.Assign [.Name x pos'] e pos) (g6 i f):=⟨Mp hN hi hx he.1 hs hf⟩
def Jk{i:Nat}{f:av->R (List D)}{pos pos':Pos}(he:QN X e f)(hs:swapsWith e (some$ .Name x pos') pos.line X.env=pure false:=by rfl)(hf:X.fn x=true\/X.env.scope.names.lookup x=some .local:=by first | exact .inl rfl | exact .inr rfl | assumption)(hN:X.N.Nodup:=by first | assumption | exact Kb (by kernel_rfl))(hi:X.N[i]? =some x:=by rfl)(hx:Loc X.env.scope x:=by first | exact Or.inl rfl | exact Or.inr rfl):GX X (.Assign [.Name x pos'] e pos) (ya i f):=⟨Lw hN hi hx he.1 hs hf⟩
def Jm{i:Nat}{x:Str}{e:Expr}{f:FD}{gY apos cF pos:Pos}(he:QD X e f)(hd:(x==("__debug__":Str))=false:=by decide)(sL:(x==("__classdict__":Str))=false:=by decide)(hs:starEach [e] X.env=(false,eval e X.env) ::starEach [] X.env:=by rfl)(n8:(apos.endLine==cF.line)=true:=by rfl)(vX:((backTo cF$ starEach [e] X.env).all (λx=>!x.1) && (backToKw cF$ keywordEach [] X.env).all (λx=>x.1.isSome)
 && decide (([e]:List Expr).length+([]:List Keyword).length+(if([]:List Keyword).isEmpty then 0 else 1)<30))=true:=by rfl) (t9:swapsWith (.Call (.Attribute (.Name x gY) "append" apos) [e] [] cF) none pos.line X.env=pure false:=by rfl) (nY:attributeBase (.Name x gY) "append" X.env (eval (.Name x gY) X.env)=eval (.Name x gY) X.env:=by rfl) (hN:X.N[i]? =some x:=by rfl) (hv:Kk X.env.scope x:=by first | exact Or.inl rfl | exact Or.inr Qdf | exact Or.inr (Or.inr rfl)):GX X (.Expr (.Call (.Attribute (.Name x gY) "append" apos) [e] [] cF) pos) (GP i f):=⟨K7 hN hv he.1 hd sL hs n8 vX t9 nY⟩
def Iy{i:Nat}{x:Str}{e:Expr}{f:av->R (List D)}{gY apos cF pos:Pos}(he:QN X e f)(hd:(x==("__debug__":Str))=false:=by decide)(sL:(x==("__classdict__":Str))=false:=by decide)(hs:starEach [e] X.env=(false,eval e X.env) ::starEach [] X.env:=by rfl)(n8:(apos.endLine==cF.line)=true:=by rfl)(vX:((backTo cF$ starEach [e] X.env).all (λx=>!x.1) && (backToKw cF$ keywordEach [] X.env).all (λx=>x.1.isSome)
 && decide (([e]:List Expr).length+([]:List Keyword).length+(if([]:List Keyword).isEmpty then 0 else 1)<30))=true:=by rfl) (t9:swapsWith (.Call (.Attribute (.Name x gY) "extend" apos) [e] [] cF) none pos.line X.env=pure false:=by rfl) (nY:attributeBase (.Name x gY) "extend" X.env (eval (.Name x gY) X.env)=eval (.Name x gY) X.env:=by rfl) (hN:X.N[i]? =some x:=by rfl) (hv:Kk X.env.scope x:=by first | exact Or.inl rfl | exact Or.inr Qdf | exact Or.inr (Or.inr rfl)):GX X (.Expr (.Call (.Attribute (.Name x gY) "extend" apos) [e] [] cF) pos) (KW i f):=⟨Mi hN hv he.1 hd sL hs n8 vX t9 nY⟩
def zD(i:Nat){F:FS}(h:uZ X NK F):uZ X NK (G9 i F):=⟨MD i h.1⟩
def bB(he:QD X e f):GX X (.Return (some e) pos) (eE f):=⟨L8 he.1⟩
def fq{fc:av->R Bool}{F G:FS}(hc:QB X c fc)(ha:uZ X a F)(hb:uZ X b G):GX X (.If c a b pos) (x5 fc F G):=⟨Ox hc.1 ha.1 hb.1⟩
def aL{i:Nat}{pos:Pos}(hf:X.fn x=true\/X.env.scope.names.lookup x=some .local:=by first | exact .inl rfl | exact .inr rfl | assumption)(hN:X.N.Nodup:=by first | assumption | exact Kb (by kernel_rfl))(hi:X.N[i]? =some x:=by rfl)(hx:Loc X.env.scope x:=by first | exact Or.inl rfl | exact Or.inr rfl):Nk X (.Name x pos) (aK i):=⟨HL hN hi hx hf⟩
def jq:L7 X [] mQ:=⟨JN⟩
def de{u:Gr}(h1:Nk X e t)(h2:L7 X es u)(hs:(assignEach (e ::es) X.env).map (·.2)=assign e X.env ::(assignEach es X.env).map (·.2):=by rfl):L7 X (e ::es) (dv t u):=⟨Gd h1.1 h2.1 hs⟩
def lO{k:Nat}{t:Gr}{n:Nat}{pos:Pos}(h:L7 X es t)(hn:(assignEach es X.env).length=n:=by rfl)(ub:(assignEach es X.env).findIdx? (·.1)=none:=by rfl)(hc:X.calm=true:=by rfl):Nk X (.Tuple es k pos) (mM n t):=⟨K5 hc h.1 hn ub⟩
def bU(h:QD X e f):y1 X tg e (di f):=⟨Lk h.1⟩
def bo{tg a:Expr}{p pos:Pos}(h:QD X a f)(hg:Gl X "range")(hm:X.mg "range"=none)(hs:starEach [a] X.env=[(false,eval a X.env)]:=by rfl):y1 X tg (.Call (.Name "range" p) [a] [] pos) (cy f):=⟨Bq h.1 hg hm hs⟩
def tL{tg a b:Expr}{p pos:Pos}(h:QD X a f)(h':QD X b g)(hg:Gl X "range")(hm:X.mg "range"=none)(hs:starEach [a,b] X.env=[(false,eval a X.env),(false,eval b X.env)]:=by rfl)(hs2:starEach [b] X.env=[(false,eval b X.env)]:=by rfl):y1 X tg (.Call (.Name "range" p) [a,b] [] pos) (rF f g):=⟨B7 h.1 h'.1 hg hm hs hs2⟩
def gO{it:av->R (List D)}{F:FS}{pos:Pos}(hi:y1 X tg iter it)(hg:Nk X tg t)(hb:uZ X body F)(hs:∀x,foldedSetIterable iter X.env x=pure x:=by intro _;rfl)(hp:PassesOwn (model X.prog X.w) X.A X.env X.xe:=by exact PassesOwn.never)(hc:X.calm=true:=by rfl):GX X (.For tg iter body [] pos) (rO it t F):=⟨LK hp hc hi.1 hg.1 hb.1 hs⟩
def bW{own:List Str}{kp:List Nat}{it:av->R (List D)}{c:av->R Bool}{pos:Pos}(hi:y1 X tg iter it)(hg:∀fp s H,Nk (bw X scope (own++(ji kp X.N)) fp s H) tg t)(wM:∀fp s H,EG (bw X scope (own++(ji kp X.N)) fp s H) ifs c)(he:∀fp s H,QD (bw X scope (own++(ji kp X.N)) fp s H) elt f)(hs:∀x,foldedSetIterable iter X.env x=pure x:=by intro _;rfl)(hc:X.calm=true:=by rfl)(C:eF X scope own kp (ji kp X.N):=by exact Rh (by kernel_rfl)):QN X (.ListComp elt [⟨tg,iter,ifs,0⟩] scope pos) (b8 it t c f own kp):=⟨L9 hc C hi.1 (λfp s H=>(hg fp s H).1) (λfp s H=>(wM fp s H).1) (λfp s H=>(he fp s H).1) hs⟩
def bK:EG X [] f9:=⟨JH⟩
def qw{c:av->R Bool}(h:QB X e c):EG X [e] c:=⟨Ms h.1⟩
def yX{i:Nat}{pos' ix:Pos}{own:List Str}{kp:List Nat}{it:av->R (List D)}{c:av->R Bool}(hi:y1 X tg iter it)(hg:∀fp s H,Nk (bw X scope (own++(ji kp X.N)) fp s H) tg t)(wM:∀fp s H,EG (bw X scope (own++(ji kp X.N)) fp s H) ifs c)(he:∀fp s H,QD (bw X scope (own++(ji kp X.N)) fp s H) elt f)(t9:swapsWith (.ListComp elt [⟨tg,iter,ifs,0⟩] scope pos) (some$ .Name x pos') ix.line X.env=pure true:=by rfl)(hs:∀x,foldedSetIterable iter X.env x=pure x:=by intro _;rfl)(hc:X.calm=true:=by rfl)(hN:X.N.Nodup:=by first | assumption | exact Kb (by kernel_rfl))(hx:X.N[i]? =some x:=by rfl)(Ep:X.env.scope.names.lookup x=some .local:=by rfl)(C:eF X scope own kp (ji kp X.N):=by exact Rh (by kernel_rfl)):GX X (.Assign [.Name x pos'] (.ListComp elt [⟨tg,iter,ifs,0⟩] scope pos) ix) (g6 i$ eNew$ b8 it t c f own kp):=⟨AY hc hN hx Ep C hi.1 (λfp s H=>(hg fp s H).1) (λfp s H=>(wM fp s H).1) (λfp s H=>(he fp s H).1) t9 hs⟩
def yM{i:Nat}{pos' ix:Pos}{own:List Str}{kp:List Nat}{it:av->R (List D)}{c:av->R Bool}(hi:y1 X tg iter it)(hg:∀fp s H,Nk (bw X scope (own++(ji kp X.N)) fp s H) tg t)(wM:∀fp s H,EG (bw X scope (own++(ji kp X.N)) fp s H) ifs c)(he:∀fp s H,QD (bw X scope (own++(ji kp X.N)) fp s H) elt f)(t9:swapsWith (.ListComp elt [⟨tg,iter,ifs,0⟩] scope pos) (some$ .Name x pos') ix.line X.env=pure true:=by rfl)(hs:∀x,foldedSetIterable iter X.env x=pure x:=by intro _;rfl)(hc:X.calm=true:=by rfl)(hN:X.N.Nodup:=by first | assumption | exact Kb (by kernel_rfl))(hx:X.N[i]? =some x:=by rfl)(Ep:X.env.scope.names.lookup x=some .local:=by rfl)(C:eF X scope own kp (ji kp X.N):=by exact Rh (by kernel_rfl)):GX X (.Assign [.Name x pos'] (.ListComp elt [⟨tg,iter,ifs,0⟩] scope pos) ix) (ya i$ b8 it t c f own kp):=⟨A0 hc hN hx Ep C hi.1 (λfp s H=>(hg fp s H).1) (λfp s H=>(wM fp s H).1) (λfp s H=>(he fp s H).1) t9 hs⟩
def aF{pos:Pos}(ha:QD X a fa)(hb:QD X b fb)(hs:uv b:=by intro _ _;rfl):QD X (.Subscript a b pos) (e2 cb fa fb):=⟨TN ha.1 hb.1 hs⟩
def vU:QP X none AX:=⟨Mg⟩
def lC(h:QD X e f):QP X (some e) (oS f):=⟨Mb h.1⟩
def BG{lo hi:Option Expr}{fl fh:FO}(he:QD X e f)(hl:QP X lo fl)(hh:QP X hi fh):QD X (.Subscript e (.Slice lo hi none p2) pos) (Qz f fl fh):=⟨RE he.1 hl.1 hh.1⟩
def oq{elts:List Expr}{k:Nat}{mX:Pos}{p pos:Pos}(h:QD X a f)(hg:Gl X "enumerate")(hm:X.mg "enumerate"=none)(hs:starEach [a] X.env=[(false,eval a X.env)]:=by rfl):y1 X (.Tuple elts k mX) (.Call (.Name "enumerate" p) [a] [] pos) (jG f):=⟨An h.1 hg hm hs⟩
def sg{P:Program}{w:World}{K:Qdi}{mg:Aaf}{base:Heap}{x qual:Str}{st:Stmt}{f:Addr}{fd:FuncData}{N ps:List Str}{k:Nat}{F:FS}{b:List Stmt}{sc:Scope}(hb:aP st=b)(hs:aD st=sc)(Fn:BQ K x qual st f fd)(S:bj N ps sc)(fH:∀(fL:Value) (A:Around) (outer:List Env) (s:Qdj) (H:Hp) (E:XK),dZ k (A.deeper$ envOfC qual sc s.heap.objs.size f fL)->
 uZ (lV u7 P w K mg base N qual sc f fL A outer s H E).JA b F):ip P w K mg base u7 (k+1) f fd ps (HA K ps.length$ qP N F):=Ii hb hs Fn S$ λfL A outer s H E hr=>(fH fL A outer s H E hr).1
def zt{K:Qdi}{mg:Aaf}{st:Stmt}{N ps:List Str}{k:Nat}{F:FS}(h:Def K mg x st)(hb:aP st=b)(hs:aD st=sc)(S:bj N ps sc)(fH:∀(f:Addr) (fL:Value) (A:Around) (outer:List Env) (s:Qdj) (H:Hp) (E:XK),dZ k (A.deeper$ envOfC x sc s.heap.objs.size f fL)->N.Nodup->uZ (lV u7 P w K mg base N x sc f fL A outer s H E).JA b F)(bd:∀(kV doc pm:Value) (an:Option Addr) (fL ct:Value) (us:List Value),us.length=ps.length->bindArgs (PySem.W.fnOf x x (iK st) (aP st) (aD st) .none kV doc pm an fL ct) ⟨us,[]⟩=pure (ps.zip us):=by intro _ _ _ _ _ _ us hl;rcases us with _ | ⟨_,_ | ⟨_,_ | ⟨_,_ | ⟨_,_ | ⟨_,_ | ⟨_,_ | ⟨_,_⟩⟩⟩⟩⟩⟩⟩ <;> first | (simp at hl;done) | rfl):Callee P w K mg base (k+1) x ps.length (qP N F):=by
 obtain⟨f,fd,F,hm⟩:=h;exact⟨f,fd,_,sg hb hs F S (λfL A outer s H E hr=>fH f fL A outer s H E hr S.nd),hm,F.kp,F.binds bd⟩
def aT{g:List D->R D}{k j n:Nat}{p pos:Pos}{fs:av->R (List D)}(C:Callee X.prog X.w X.K X.mg X.base k x n g)(ha:NA X (e ::es) fs)(oi:(x==("__debug__":Str))=false:=by decide)(he:starEach (e ::es) X.env=(false,eval e X.env) ::starEach es X.env:=by rfl)(hJ:(backTo pos$ starEach es X.env).any (·.1)=false:=by rfl)(hr:dZ j X.A:=by assumption)(hkj:k<=j:=by decide)(hg:Gl X x:=by rfl)(hn:∀δ ds,fs δ= .ok ds->ds.length=n:=by(repeat apply E5);exact HM):QD X (.Call (.Name x p) (e ::es) [] pos) (aJ g fs):=⟨HI C hr hkj hg ha.1 hn oi he hJ⟩
def K3{keys:List (Option Expr)}{values:List Expr}{xM:List (TE × TE)}{aW:List (Key × V)}(hu:X.A.units+1<cLine)(h:N1 X zo keys values xM)(Gm:keys.all (·.isSome)=true)(hl:keys.length=values.length)(h0:keys≠[])(hc:∀σ H Q,Q (aW.map λkv=>(kV kv.1,kv.2)) H->sd xM σ H Q)(hlen:aW.length<=15)(he:QD X e fe)(hf:QD X f ff)(m:M2 X (.Dict keys values zo) "get" apos e f cF)(hd:PE X (.Dict keys values zo) (IF xM)):QD X (.Call (.Attribute (.Dict keys values zo) "get" apos) [e,f] [] cF) (HN aW fe ff):=⟨Qd hu h Gm hl h0 hc hlen he.1 hf.1 m hd⟩
end
def EO{P:Program}{w:World}{K:Qdi}{mg mb:Aaf}{CX:Gq}{k:Nat}{fa a:Addr}{fd:FuncData}{x:Str}{sp:Sp}{s₁:Qdj}{vs:List Value}{ns:List Int}
 (KX:K.In s₁.heap) (Zj:s₁.heap.Ns mainGlobals mg) (hb:s₁.heap.Ns builtinsNs mb) (hbb:∀x:Str,x≠"__name__"->mb x=bootBuiltins x) (Xe:s₁.heap.NoLimit) (hg:s₁.gens=#[])
 (ha:s₁.heap.get? a=some {cls:= .type "list",data:= .seq vs.toArray}) (hi:IntsAre vs ns) (hl:ns.length<=sizeLine) (hr:dZ k callerA)
 (F:∀base:Heap,K.In base->base.Ns mainGlobals mg->ip P w K mg base CX k fa fd [x] sp) (TY:∀(s:Qdj) (u:Value),BindsTo s fd ⟨[u],[]⟩ [(x,u)])
 (Kv:∀H:Hp,RA H->v_ K [] H a (ns.map V.int)->sp [.ref a] H (λv _=>v= .bl true) λ_ _ _=>False)
 (hCX:∀H e s',CX [] H s₁ (λ_ _ _=>False) e s'->False) :
 codeAny (model P w) callerA (.call (.ref fa) ⟨[.ref a],[]⟩) (λr s'=>r= .ok (.ret$ .bool true)/\OldK s₁.heap s'.heap/\s'.os=s₁.os/\AllBare s'.gens) s₁:=by
 have rv:=xy hi;have lenV:=hi.length;have core:∀H:Hp,RA H->v_ K [] H a (ns.map V.int)->mF P w H s₁.heap->(∀b,H b≠none->b=a)->(H a≠none->K.lookup a=none)->
  codeAny (model P w) callerA (.call (.ref fa) ⟨[.ref a],[]⟩) (λr s'=>r= .ok (.ret$ .bool true)/\OldK s₁.heap s'.heap/\s'.os=s₁.os/\AllBare s'.gens) s₁:=by
  intro H hO hS hok hA hK;have Eo:∀{b:Addr} {o:Obj},s₁.heap.get? b=some o->H b=none->(yU s₁.heap H).get? b=some o:=λe n=>HG e n
  have noA:∀{b:Addr} {o:Obj} {es:Array DictEntry} {ep:Nat},s₁.heap.get? b=some o->o.data= .dict es ep->H b=none:=fun {b o es ep} e d=>by
   cases q:H b with
   | none=>rfl
   | some u=>
     have e':b=a:=hA b (by rw[q];simp)
     subst e';rw[ha] at e;cases e;have d':Data.seq vs.toArray _=Data.dict es ep:=d;cases d'
  have nsK:∀{b:Addr} {m:Aaf},s₁.heap.Ns b m->(yU s₁.heap H).Ns b m:=fun {b m} ⟨o,es,ep,e,d,r⟩=>⟨o,es,ep,Eo e$ noA e d,d,r⟩
  have hKb:K.In (yU s₁.heap H):=λb o e=>Eo (KX b o e) (by
   cases q:H b with
   | none=>rfl
   | some u=>
     have e':b=a:=hA b (by rw[q];simp)
     subst e';rw[hK$ by rw[q];simp] at e;cases e)
  have hM:Mod K mg (yU s₁.heap H):=⟨hKb,nsK Zj,⟨mb,nsK hb,hbb⟩,let⟨mc,h1,h2⟩:=Xe;⟨mc,nsK h1,h2⟩⟩
  have e0:BC P w K mg (yU s₁.heap H) callerA [] s₁ H:=⟨rfl,hM,λb o e=>KN e,Nat.le_of_eq$ Ge _ _,trivial,λb hb=>absurd (show b∈([]:List Addr) from hb) (by simp),hok, .of_eq hg⟩
  refine codeAny_mono ((F _ hKb$ nsK Zj).run callerA [] s₁ H ⟨[.ref a],[]⟩ [.ref a] [.ref a] _ _ hr e0 (TY s₁$ .ref a) (.cons rfl .nil)$ Kv H hO hS) λr s' h=>?_
  cases r with
  | error e=>exact(hCX H e s' h).elim
  | ok fl=>
    cases fl with
    | next=>exact False.elim h
    | brk=>exact False.elim h
    | cont=>exact False.elim h
    | ret u=>
      obtain⟨v,H',os,bare,un,W7,r',q⟩:=h;have q':v= .bl true:=q;subst q';obtain rfl:u=Value.bool true:=r';refine⟨rfl,OldK.of_keep λb o e=>?_,os,bare⟩
      cases q:H b with
      | none=>exact un.keep b o e q (by intro z;exact absurd (show b∈([]:List Addr) from z) (by simp)) (by simp)
      | some u=>
        rcases hO b with z | ⟨ob,xs,z⟩
        .rw [q] at z;cases z
        .have z2:=un.frzs b ob _ z;obtain⟨e1,_⟩:=hok b _ z;obtain⟨e2,_⟩:=W7 b _ z2;rw[e] at e1;cases e1;exact e2
 cases hk:K.lookup a with
 | some o=>
   have e:=KX a o hk;rw[ha] at e;cases e;refine core (λ_=>none) (λ_=> .inl rfl) (.inr ⟨vs,_,hk,by rw[Qaa];exact hl,rv⟩) (λb u z=>by have z':(none:Option HO)=some u:=z;cases z') (λb z=>absurd rfl z) λz=>absurd rfl z
 | none=>
   refine core (λb=>if b=a then some (.jU {cls:= .type "list",data:= .seq vs.toArray} (.lst$ ns.map V.int)) else none) (λb=>?_) (.inl ⟨by simp, .inr ⟨{cls:= .type "list",data:= .seq vs.toArray},QaG rfl⟩⟩) (λb u z=>?_) (λb z=>?_) λ_=>hk
   .by_cases hb:b=a
    .exact .inr ⟨_,_,QaG hb⟩
    .exact .inl (QaA hb)
   .by_cases hb:b=a
    .have z':=(QaG hb).symm.trans z;cases z';subst hb;exact⟨ha,by rw[Qaa];exact hl,vs,_,rv,ha⟩
    .have z':=(QaA hb).symm.trans z;cases z'
   .by_cases hb:b=a
    .exact hb
    .exact absurd (QaA hb) z
theorem ints_rep{K:Qdi}{B:List Addr}:∀ns:List Int,aI K B H (ns.map D.int) (ns.map V.int)
 | []=>aI.nil
 | n ::ns=>aI.cons (Rep.int.mpr rfl)$ ints_rep ns
def Sy{l:PySem.W.OpenLaw}{n k:Nat}{q:Program}{loose:List Str}{XP:(Str->Option Value)->Heap->Prop}{YP:World->Heap->Prop}{d:DefRec}{K:Params->Qdi}{x:Str}{g:List D->R D}
 (hn:l.most=some n) (Kr:n<=sizeLine) (Xu:d.params.defaults=[]) (hr:dZ k callerA) (hY:∀(w:World) (h:Heap),YP w h->(K w.params).In h)
 (F:∀(w:World) (mg:Aaf) (fa:Addr) (h:Heap),(K w.params).In h->h.Ns mainGlobals mg->mg d.name=some (.ref fa)->
   ∃fd:FuncData,(∀(s:Qdj) (u:Value),BindsTo s fd ⟨[u],[]⟩ [(x,u)])/\∀base:Heap,(K w.params).In base->base.Ns mainGlobals mg->ip l.prog w (K w.params) mg base u7 k fa fd [x] (HA (K w.params) 1 g))
 (hg:∀ns:List Int,ns.length<=n->g [.lst$ ns.map D.int]= .ok (.bl true)):PySem.W.WalkO q loose XP YP l.row.toRowW d [] (λf vs=>PySem.call f vs):=by
 refine Att.AZ hn Xu λw s₀ s₁ mg mb fa o pm cd doc a vs ns G Y ho hd sL Uk Q5 hints hlen Xl=>?_
 have KX:=hY w _ Y;obtain⟨fd,hb,hF⟩:=F w mg fa _ KX G.T.g Uk;refine EO KX G.T.g G.T.b G.T.builtins G.T.nolimit Xl Q5 hints (QaP hlen Kr) hr hF hb (λH hO hS=>?_) λH e s' h=>h
 refine⟨rfl,[],[.lst$ ns.map D.int], .bl true,λb hb=>(by cases hb),aI.cons (Rep.lst.mpr ⟨_,_,rfl,hS,ints_rep ns⟩) aI.nil,hg ns hlen,λz H' _ r=>Rep.bl.mp r⟩
def cB{K:Qdi}{h:Heap}{mg:Aaf}{x:Str}{st:Stmt}{f:Addr}{oc:Value}{od an:Option Addr}{Gg:Array (Option Value)}{kV doc pm fL ct:Value}(X:K.In h)(G:h.Ns mainGlobals mg)(a:PySem.W.nsIn K mainGlobals x=some (some$ .ref f))
 (l:K.lookup f=some ⟨oc,od, .func$ PySem.W.fnOf x x (iK st) (aP st) (aD st) .none kV doc pm an fL ct,Gg⟩) (c:PySem.W.codeIn K fL x=true) (k:PySem.W.keepIn K (.ref f)=true):Def K mg x st:=
 ⟨f,_,yf l c k,Qa7 X G a⟩
def uY{t:FT}{body:FS}:∀(ds:List D) (n:Nat) (P:Nat->av->Prop) {δ:av},P n δ->
 (∀i d δ,ds[i]? =some d->P (n+i) δ->∃d5,((t d δ).bind body)= .ok (.nx d5)/\P (n+i+1) d5)->∃d5,o8 t body ds δ= .ok (.nx d5)/\P (n+ds.length) d5
 | [],n,P,δ,h0,_=>⟨δ,rfl,h0⟩
 | d ::ds,n,P,δ,h0,hs=>by
   obtain⟨c_,e1,p1⟩:=hs 0 d δ rfl h0;obtain⟨du,e2,p2⟩:=uY ds (n+1) P p1 (λi d' d5 hi hp=>by
    have:=hs (i+1) d' d5 (by simpa using hi) (by rw[show n+(i+1)=n+1+i by omega];exact hp)
    rw[show n+(i+1)+1=n+1+i+1 by omega] at this
    exact this)
   refine⟨du,?_,by rw[QaB,show n+(ds.length+1)=n+1+ds.length by omega];exact p2⟩
   obtain⟨δ0,h1,h2⟩:=R.aj e1;show(t d δ).bind (λc_=>(body c_).bind λo=>match o with | .nx du=>o8 t body ds du | .rt r=> .ok$ .rt r)=_
   rw[h1,R.aX,h2,R.aX];exact e2
def gf{t:FT}{body:FS}{ds:List D}(P:Nat->av->Prop){δ:av}(h0:P 0 δ)
 (hs:∀i d δ,ds[i]? =some d->P i δ->∃d5,((t d δ).bind body)= .ok (.nx d5)/\P (i+1) d5):∃d5,o8 t body ds δ= .ok (.nx d5)/\P ds.length d5:=by
 have:=uY (t:=t) (body:=body) ds 0 P h0 (λi d δ hi hp=>by simpa using hs i d δ hi (by simpa using hp))
 simpa using this
def l9{α:Type}{xs:List α}{i:Int}(h0:0<=i)(h:i.toNat<xs.length):vz xs i=some xs[i.toNat]:=by
 unfold vz Dh;rw[QaG h0,QaG$ by omega]
 simp [h]
theorem ints_map:∀ss:List Int,ints? (ss.map D.int)=some ss
 | []=>rfl
 | s ::ss=>by show(ints?$ ss.map D.int).map (s ::·)=_;rw [ints_map ss];rfl
def bA{F G:FS}{δ c_:av}{r:R Out}(h:F δ= .ok (.nx c_))(h2:G c_=r):dw F G δ=r:=by unfold dw;rw [h,R.aX];exact h2
def bX{f:av->R (List D)}{δ:av}{ds:List D}(h:f δ= .ok ds):eNew f δ= .ok (.lst ds):=by unfold eNew;rw [h];rfl
def qC{c:av->R Bool}{F G:FS}{δ:av}{r:R Out}(h:c δ= .ok true)(h2:F δ=r):x5 c F G δ=r:=by unfold x5;rw [h,R.aX,QaG rfl];exact h2
def jI{c:av->R Bool}{F G:FS}{δ:av}{r:R Out}(h:c δ= .ok false)(h2:G δ=r):x5 c F G δ=r:=by unfold x5;rw [h,R.aX,QaA$ by decide];exact h2
def iG{it:av->R (List D)}{F:FS}{δ:av}{ds:List D}{r:R Out}(h:it δ= .ok ds)(h2:o8 t F ds δ=r):rO it t F δ=r:=by unfold rO;rw [h,R.aX];exact h2
def bZ{f:FD}{δ:av}{d:D}(h:f δ= .ok d):eE f δ= .ok (.rt d):=by unfold eE;rw [h];rfl
def cM{N:List Str}{F:FS}{ds:List D}{d:D}(h:F (cP N ds)= .ok (.rt d)):qP N F ds= .ok d:=by unfold qP;rw [h];rfl
def cC{α:Type}{p:Prop} [Decidable p](r:R α)(h:p):R.aS (decide p) r=r:=by rw[Qan h];rfl
def cV{i:Nat}{f:FD}{δ:av}{d:D}(h:f δ= .ok d)(hi:i<δ.length):g6 i f δ= .ok (.nx$ δ.set i$ .val d):=by unfold g6;rw [h,R.aX,cC _ hi]
def DC{i:Nat}{f:av->R (List D)}{δ:av}{ds:List D}(h:f δ= .ok ds)(hi:i<δ.length):ya i f δ= .ok (.nx$ δ.set i$ .bld ds):=by unfold ya;rw [h,R.aX,cC _ hi]
def K_{i:Nat}{f:FD}{δ:av}{d:D}{ds:List D}(h:f δ= .ok d)(hb:δ[i]? =some (.bld ds))(hl:ds.length<sizeLine):GP i f δ= .ok (.nx$ δ.set i$ .bld$ ds++[d]):=by unfold GP sP;rw [h,R.aX,hb];show R.aS _ _=_;rw [cC _ hl]
def bM{it:av->R (List D)}{c:av->R Bool}{own:List Str}{kp:List Nat}{δ:av}{ds ys:List D}(h1:it δ= .ok ds)(h2:ds.length<=sizeLine)(h3:pd t c f (qb own kp δ) ds= .ok ys):b8 it t c f own kp δ= .ok ys:=by unfold b8;rw [h1,R.aX,cC _ h2,h3]
def rH{ds:List D}{i:Int}{d:D}(h:vz ds i=some d):cb (.lst ds) (.int i)= .ok d:=by unfold cb;simp only[h]
def uw{ds:List D}{i:Int}{d:D}(h:vz ds i=some d):cb (.tup ds) (.int i)= .ok d:=by unfold cb;simp only[h]
def jM{x:Str}{i:Int}{c:Nat}(hz:x.length<=sizeLine)(h:vz x.cps.toList i=some c):cb (.str x) (.int i)= .ok (.str ⟨#[c]⟩):=by unfold cb;simp only[h,cC _ hz]
def ak{g:D->D->R D}{fa fb:FD}{δ:av}{a b:D}{r:R D}(ha:fa δ= .ok a)(hb:fb δ= .ok b)(h:g a b=r):e2 g fa fb δ=r:=by unfold e2;rw [ha,R.aX,hb,R.aX];exact h
def eg{g:D->D->R D}{fa fb:FD}{δ:av}{a b:D}{k:Bool}(ha:fa δ= .ok a)(hb:fb δ= .ok b)(h:g a b= .ok (.bl k)):b2 g fa fb δ= .ok k:=by unfold b2;rw [ak ha hb h];rfl
def ao{f:FD}{g:av->R (List D)}{δ:av}{d:D}{ds:List D}(h:f δ= .ok d)(h2:g δ= .ok ds):af f g δ= .ok (d ::ds):=by unfold af;rw [h,R.aX,h2];rfl
def ay{g:List D->R D}{fs:av->R (List D)}{δ:av}{ds:List D}{r:R D}(h:fs δ= .ok ds)(h2:g ds=r):aJ g fs δ=r:=by unfold aJ;rw [h,R.aX];exact h2
def bL{g:av->R (List D)}{δ:av}{ds:List D}(h:g δ= .ok ds)(hl:ds.length<=sizeLine):bz g δ= .ok (.tup ds):=by unfold bz;rw [h,R.aX,cC _ hl]
def jm{g:av->R (List D)}{δ:av}{ds:List D}(h:g δ= .ok ds)(hl:ds.length<=sizeLine):dy g δ= .ok ds:=by unfold dy;rw [h,R.aX,cC _ hl]
def B9{f:FD}{fl fh:FO}{δ:av}{d:D}{lo hi:Option Int}{r:R D}(h:f δ= .ok d)(h1:fl δ= .ok lo)(h2:fh δ= .ok hi)(h3:N_ d lo hi=r):Qz f fl fh δ=r:=by unfold Qz;rw [h,R.aX,h1,R.aX,h2,R.aX];exact h3
def nA{f:FD}{δ:av}{i:Int}(h:f δ= .ok (.int i)):oS f δ= .ok (some i):=by unfold oS;rw [h];rfl
def rm{a b:Str}(h:a.length+b.length<=sizeLine):cW (.str a) (.str b)= .ok (.str$ a++b):=by unfold cW;exact cC _ h
def qk{a b:List D}(h:a.length+b.length<=sizeLine):cW (.lst a) (.lst b)= .ok (.lst$ a++b):=by unfold cW;exact cC _ h
def vN{a b:Int}(h:0<b):fI (.int a) (.int b)= .ok (.int$ a % b):=by unfold fI Kj;exact cC _ h
def xS{a b:Int}(h:0<b)(h2:b<1073741824):lR (.int a) (.int b)= .ok (.int$ a / b):=by unfold lR Kj;exact cC _ ⟨h,h2⟩
def uh{f:FD}{δ:av}{n:Nat}(h:f δ= .ok (.int n))(hn:n<1000000):cy f δ= .ok (jj 0 n):=by
 unfold cy;rw [h,R.aX];show R.aS (decide (-(2 ^ 62)<=(n:Int)/\(n:Int)<2 ^ 62)) _=_;rw[cC _ ⟨by omega,by omega⟩,Qbu]
def gG{f:FD}{δ:av}{ds:List D}(h:f δ= .ok (.lst ds)):di f δ= .ok ds:=by unfold di;rw [h];rfl
def yt{f:FD}{δ:av}{ds:List D}(h:f δ= .ok (.tup ds)):di f δ= .ok ds:=by unfold di;rw [h];rfl
def Bm{f:FD}{δ:av}{ds:List D}(h:f δ= .ok (.lst ds)):jG f δ= .ok (eR ds):=by unfold jG;rw [h];rfl
def OU{f:FD}{δ:av}{b:Bool}(h:f δ= .ok (.bl b)):Nz f δ= .ok b:=by unfold Nz;rw [h];rfl
def BJ(ds:List D):fP [.lst ds]= .ok (.int ds.length):=rfl
end L2
end
section
namespace L3
open PySem PySem.Spec PyProof.Rows L2
inductive V3 where
 | d (x:D) | loc (k:Nat) | lst (vs:List V3) | tup (vs:List V3) | fn (x:Str)
inductive SO where
 | lst (ds:List D) | dct (aW:List (Key × D)) | ins (c:Nat) (fs:List (Str × V3)) | jU | exc (c:Nat) | dcT (aW:List (List Key × D))
abbrev a_:=List SO
inductive R3 (α:Type) where
 | ok (a:α) (S:a_) | ex (c:Nat) (S:a_) | no
noncomputable def R3.bind{α β:Type}:R3 α->(α->a_->R3 β)->R3 β
 | .ok a S,f=>f a S
 | .ex c S,_=> .ex c S
 | .no,_=> .no
def R3.aj{α β:Type}{r:R3 α}{f:α->a_->R3 β}{b:β}{S':a_}(h:r.bind f= .ok b S'):∃a S,r= .ok a S/\f a S= .ok b S':=by
 cases r with
 | ok a S=>exact⟨a,S,rfl,h⟩
 | ex c S=>cases h
 | no=>cases h
@[simp] theorem R3.aX{α β:Type}(a:α)(S:a_)(f:α->a_->R3 β):(R3.ok a S).bind f=f a S:=rfl
noncomputable def R3.aS{α:Type}(c:Bool)(r:R3 α):R3 α:=if c then r else .no
def R3.bh{α:Type}{c:Bool}{r:R3 α}{a:α}{S:a_}(h:R3.aS c r= .ok a S):c=true/\r= .ok a S:=by
 cases c with
 | true=>exact⟨rfl,h⟩
 | false=>cases h
noncomputable def R3.of{α:Type}(r:R α)(S:a_):R3 α:=match r with | .ok a=> .ok a S | _=> .no
def R3.of_ok{α:Type}{r:R α}{S S':a_}{a:α}(h:R3.of r S= .ok a S'):r= .ok a/\S'=S:=by
 cases r with
 | ok b=>cases h;exact⟨rfl,rfl⟩
 | ex c=>cases h
 | no=>cases h
structure P3 where
 r:List Addr
 z:List Addr
 f:List Addr
noncomputable def P3.b(ρ:P3):List Addr:=ρ.r.filter (λa=>!ρ.f.contains a)++ρ.z
def P3.dU{ρ:P3}{a:Addr}:a∈ρ.b↔(a∈ρ.r/\a ∉ ρ.f)\/a∈ρ.z:=by
 unfold P3.b;rw[Qbp,Qbo];simp
noncomputable def P3.push(ρ:P3)(a:Addr):P3:=⟨ρ.r++[a],ρ.z,ρ.f⟩
noncomputable def P3.cut(ρ:P3)(n:Nat):P3:=⟨ρ.r.take n,ρ.z,ρ.f⟩
mutual
def bf(K:Qdi)(ρ:P3)(H:Hp):V3->V->Prop
 | .d x,v=>Rep K ρ.b H x v
 | .loc k,v=>∃a,ρ.r[k]? =some a/\v= .ref a
 | .lst vs,v=>∃a xs,v= .ref a/\v_ K ρ.b H a xs/\aM K ρ H vs xs
 | .tup vs,v=>∃a xs,v= .ref a/\xh K ρ.b H a xs/\aM K ρ H vs xs
 | .fn x,v=>∃a,PySem.W.nsIn K mainGlobals x=some (some$ .ref a)/\v= .ref a
def aM(K:Qdi)(ρ:P3)(H:Hp):List V3->List V->Prop
 | [],xs=>xs=[]
 | d ::ds,xs=>∃x r,xs=x ::r/\bf K ρ H d x/\aM K ρ H ds r
end
structure Pre (ρ:P3) (H:Hp) (cq:P3) (H':Hp):Prop where
 bu:dO ρ.b H cq.b H'
 zz:cq.z=ρ.z
 zs:∀(b:Addr) (o:HO),b∈ρ.z->H b=some o->H' b=some o
 ext:∀(k:Nat) (a:Addr),ρ.r[k]? =some a->cq.r[k]? =some a
def Pre.refl(ρ:P3)(H:Hp):Pre ρ H ρ H:=⟨dO.refl ρ.b H,rfl,λ_ _ _ h=>h,λ_ _ h=>h⟩
def Pre.trans(a:Pre ρ H cq H')(b:Pre cq H' J_ oO):Pre ρ H J_ oO:=⟨a.bu.trans b.bu,b.zz.trans a.zz,λc o hc h=>b.zs c o (by rw[a.zz];exact hc)$ a.zs c o hc h,λk x h=>b.ext k x$ a.ext k x h⟩
def Pre.same(s:aY H H'):Pre ρ H ρ H':=⟨dO.same s,rfl,λb o _ h=>s b o h,λ_ _ h=>h⟩
def xh.bu{K:Qdi}{B B':List Addr}(p:dO B H B' H'){a:Addr}{xs:List V}(l:xh K B H a xs):xh K B' H' a xs:=
 l.elim (λz=> .inl ⟨(p.rd z.2 z.1).2,(p.rd z.2 z.1).1⟩) .inr
mutual
theorem bf.pre{K:Qdi}(p:Pre ρ H cq H'):∀{d:V3} {v:V},bf K ρ H d v->bf K cq H' d v
 | .d x,v,h=>by unfold bf at h ⊢;exact h.bu p.bu
 | .loc k,v,h=>by unfold bf at h ⊢;obtain⟨a,h1,h2⟩:=h;exact⟨a,p.ext k a h1,h2⟩
 | .lst vs,v,h=>by unfold bf at h ⊢;obtain⟨a,xs,e,l,r⟩:=h;exact⟨a,xs,e,l.bu p.bu,aM.pre p r⟩
 | .tup vs,v,h=>by unfold bf at h ⊢;obtain⟨a,xs,e,l,r⟩:=h;exact⟨a,xs,e,xh.bu p.bu l,aM.pre p r⟩
 | .fn x,v,h=>by unfold bf at h ⊢;exact h
theorem aM.pre{K:Qdi}(p:Pre ρ H cq H'):∀{ds:List V3} {xs:List V},aM K ρ H ds xs->aM K cq H' ds xs
 | [],_,h=>by unfold aM at h ⊢;exact h
 | d ::ds,xs,h=>by
   unfold aM at h ⊢;obtain⟨x,r,e,h1,h2⟩:=h;exact⟨x,r,e,bf.pre p h1,aM.pre p h2⟩
end
structure PW (ρ:P3) (H:Hp) (cq:P3) (H':Hp):Prop where
 bu:dO ρ.b H cq.b H'
 ext:∀(k:Nat) (a:Addr),ρ.r[k]? =some a->cq.r[k]? =some a
def Pre.pw(p:Pre ρ H cq H'):PW ρ H cq H':=⟨p.bu,p.ext⟩
def PW.trans(a:PW ρ H cq H')(b:PW cq H' J_ oO):PW ρ H J_ oO:=⟨a.bu.trans b.bu,λk x h=>b.ext k x$ a.ext k x h⟩
mutual
theorem bf.pw{K:Qdi}(p:PW ρ H cq H'):∀{d:V3} {v:V},bf K ρ H d v->bf K cq H' d v
 | .d x,v,h=>by unfold bf at h ⊢;exact h.bu p.bu
 | .loc k,v,h=>by unfold bf at h ⊢;obtain⟨a,h1,h2⟩:=h;exact⟨a,p.ext k a h1,h2⟩
 | .lst vs,v,h=>by unfold bf at h ⊢;obtain⟨a,xs,e,l,r⟩:=h;exact⟨a,xs,e,l.bu p.bu,aM.pw p r⟩
 | .tup vs,v,h=>by unfold bf at h ⊢;obtain⟨a,xs,e,l,r⟩:=h;exact⟨a,xs,e,xh.bu p.bu l,aM.pw p r⟩
 | .fn x,v,h=>by unfold bf at h ⊢;exact h
theorem aM.pw{K:Qdi}(p:PW ρ H cq H'):∀{ds:List V3} {xs:List V},aM K ρ H ds xs->aM K cq H' ds xs
 | [],_,h=>by unfold aM at h ⊢;exact h
 | d ::ds,xs,h=>by
   unfold aM at h ⊢;obtain⟨x,r,e,h1,h2⟩:=h;exact⟨x,r,e,bf.pw p h1,aM.pw p h2⟩
end
def aM.nil{K:Qdi}:aM K ρ H [] []:=by unfold aM;rfl
def aM.cons{K:Qdi}{d:V3}{ds:List V3}{x:V}{xs:List V}(h:bf K ρ H d x)(t:aM K ρ H ds xs):aM K ρ H (d ::ds) (x ::xs):=by
 unfold aM;exact⟨x,xs,rfl,h,t⟩
def aM.cm{K:Qdi}{d:V3}{ds:List V3}{xs:List V}(h:aM K ρ H (d ::ds) xs):∃x r,xs=x ::r/\bf K ρ H d x/\aM K ρ H ds r:=by
 unfold aM at h;exact h
theorem aM.length{K:Qdi}:∀{ds:List V3} {xs:List V},aM K ρ H ds xs->ds.length=xs.length
 | [],_,h=>by unfold aM at h;rw [h];rfl
 | d ::ds,xs,h=>by
   obtain⟨x,r,rfl,_,h2⟩:=h.cm;simp [h2.length]
theorem aM.of{K:Qdi}{ρ:P3}:∀{ds:List D} {xs:List V},aI K ρ.b H ds xs->aM K ρ H (ds.map .d) xs
 | [],_,h=>by unfold aI at h;subst h;exact aM.nil
 | d ::ds,xs,h=>by
   obtain⟨x,r,rfl,h1,h2⟩:=h.cm;exact aM.cons (by unfold bf;exact h1) (aM.of h2)
theorem aM.to{K:Qdi}{ρ:P3}:∀{ds:List D} {xs:List V},aM K ρ H (ds.map .d) xs->aI K ρ.b H ds xs
 | [],_,h=>by unfold aM at h;subst h;exact aI.nil
 | d ::ds,xs,h=>by
   obtain⟨x,r,rfl,h1,h2⟩:=aM.cm h;unfold bf at h1;exact aI.cons h1$ aM.to h2
def isExc(C b:Addr):Heap->Prop:=λh=>∃o,h.get? b=some o/\o.cls= .ref C
def Gu(K:Qdi)(cl:Aag)(ρ:P3)(H:Hp):SO->Option HO->Prop
 | .lst ds,h=>∃xs,h=some (.lst xs)/\aI K ρ.b H ds xs
 | .dct aW,h=>∃ys,h=some (.dK ys)/\ys.map (·.1)=aW.map (·.1)/\aI K ρ.b H (aW.map (·.2)) (ys.map (·.2))
 | .ins c fs,h=>∃dx ys,h=some (.ins (cl c) dx ys)/\ys.map (·.1)=fs.map (·.1)/\aM K ρ H (fs.map (·.2)) (ys.map (·.2))
 | .jU,h=>∃u,h=some u
 | .exc c,h=>∃b,h=some (.ext$ isExc (cl c) b)
 | .dcT aW,h=>∃ys,h=some (.dT ys)/\ys.map (·.1)=aW.map (·.1)/\aI K ρ.b H (aW.map (·.2)) (ys.map (·.2))
def Gu.pre{K:Qdi}{cl:Aag}(p:Pre ρ H cq H'){o:SO}{h:Option HO}(r:Gu K cl ρ H o h):Gu K cl cq H' o h:=by
 cases o with
 | lst ds=>obtain⟨xs,e,q⟩:=r;exact⟨xs,e,q.bu p.bu⟩
 | dct aW=>obtain⟨ys,e,e2,q⟩:=r;exact⟨ys,e,e2,q.bu p.bu⟩
 | dcT aW=>obtain⟨ys,e,e2,q⟩:=r;exact⟨ys,e,e2,q.bu p.bu⟩
 | ins c fs=>obtain⟨dx,ys,e,e2,q⟩:=r;exact⟨dx,ys,e,e2,q.pre p⟩
 | jU=>exact r
 | exc c=>exact r
def Gu.pw{K:Qdi}{cl:Aag}(p:PW ρ H cq H'){o:SO}{h:Option HO}(r:Gu K cl ρ H o h):Gu K cl cq H' o h:=by
 cases o with
 | lst ds=>obtain⟨xs,e,q⟩:=r;exact⟨xs,e,q.bu p.bu⟩
 | dct aW=>obtain⟨ys,e,e2,q⟩:=r;exact⟨ys,e,e2,q.bu p.bu⟩
 | dcT aW=>obtain⟨ys,e,e2,q⟩:=r;exact⟨ys,e,e2,q.bu p.bu⟩
 | ins c fs=>obtain⟨dx,ys,e,e2,q⟩:=r;exact⟨dx,ys,e,e2,q.pw p⟩
 | jU=>exact r
 | exc c=>exact r
def Gu.some{K:Qdi}{cl:Aag}{o:SO}{h:Option HO}(r:Gu K cl ρ H o h):∃u,h=some u:=by
 cases o with
 | lst ds=>obtain⟨xs,e,q⟩:=r;exact⟨_,e⟩
 | dct aW=>obtain⟨ys,e,e2,q⟩:=r;exact⟨_,e⟩
 | dcT aW=>obtain⟨ys,e,e2,q⟩:=r;exact⟨_,e⟩
 | ins c fs=>obtain⟨dx,ys,e,e2,q⟩:=r;exact⟨_,e⟩
 | jU=>exact r
 | exc c=>obtain⟨b,e⟩:=r;exact⟨_,e⟩
structure SW (K:Qdi) (cl:Aag) (ρ:P3) (H:Hp) (S:a_):Prop where
 len:ρ.r.length=S.length
 nd:∀(i j:Nat) (a:Addr),ρ.r[i]? =some a->ρ.r[j]? =some a->i=j
 ob:∀(k:Nat) (a:Addr) (o:SO),ρ.r[k]? =some a->S[k]? =some o->Gu K cl ρ H o (H a)
 zb:∀b∈ρ.z,(∃xs,H b=some (.lst xs))/\b ∉ ρ.r
 fz:∀(k:Nat) (a:Addr),ρ.r[k]? =some a->S[k]?≠some .jU->a ∉ ρ.f
 ff:∀a∈ρ.f,∃o,H a=some o
 fi:∀(k:Nat) (a:Addr),ρ.r[k]? =some a->S[k]? =some .jU->a∈ρ.f
def SW.rs{K:Qdi}{cl:Aag}{ρ:P3}{H:Hp}{S:a_}(w:SW K cl ρ H S):∀a∈ρ.r,∃o,H a=some o:=λa z=>by
 obtain⟨k,hk⟩:=Qb6 z;have hl:=(Qae.mp hk).1;exact(w.ob k a _ hk$ Qad$ by rw[<-w.len];exact hl).some
def SW.bs{K:Qdi}{cl:Aag}{ρ:P3}{H:Hp}{S:a_}(w:SW K cl ρ H S):∀a∈ρ.b,∃o,H a=some o:=λa ha=>by
 rcases P3.dU.mp ha with z | z
 .exact w.rs a z.1
 .obtain⟨xs,h⟩:=(w.zb a z).1;exact⟨_,h⟩
def SW.same{K:Qdi}{cl:Aag}{S:a_}(w:SW K cl ρ H S)(s:aY H H'):SW K cl ρ H' S:=
 ⟨w.len,w.nd,λk a o h1 h2=>by
   have r:=w.ob k a o h1 h2;obtain⟨u,hu⟩:=r.some;rw[s a u hu,<-hu];exact r.pre$ Pre.same s,λb hb=>let⟨⟨o,ho⟩,n⟩:=w.zb b hb;⟨⟨o,s b _ ho⟩,n⟩,w.fz,λa ha=>let⟨o,ho⟩:=w.ff a ha;⟨o,s a o ho⟩,w.fi⟩
def P3.mem_push{ρ:P3}{a b:Addr}(h:b∈(ρ.push a).b):b∈ρ.b\/b=a:=by
 rcases P3.dU.mp h with⟨z,n⟩ | z
 .rcases Qbp.mp z with y | y
  .exact .inl (P3.dU.mpr$ .inl ⟨y,n⟩)
  .exact .inr (Qa1.mp y)
 .exact .inl (P3.dU.mpr$ .inr z)
def SW.new{K:Qdi}{cl:Aag}{ρ:P3}{H H':Hp}{S:a_}(w:SW K cl ρ H S){a:Addr}{o:SO}(s:aY H H')(n:H a=none)(r:Gu K cl (ρ.push a) H' o (H' a))(wa:o≠SO.jU:=by intro h;cases h) :
 SW K cl (ρ.push a) H' (S++[o])/\Pre ρ H (ρ.push a) H':=by
 have na:a ∉ ρ.b:=λha=>by obtain⟨o,ho⟩:=w.bs a ha;rw [n] at ho;cases ho
 have nr:a ∉ ρ.r:=λha=>by obtain⟨o,ho⟩:=w.rs a ha;rw [n] at ho;cases ho
 have nf:a ∉ ρ.f:=λha=>by obtain⟨o,ho⟩:=w.ff a ha;rw [n] at ho;cases ho
 have p:Pre ρ H (ρ.push a) H':=⟨λb u e nb=>⟨s b u e,λhb=>by
  rcases P3.mem_push hb with z | z
  .exact nb z
  .subst z;rw [n] at e;cases e⟩,rfl,λb o _ h=>s b o h,λk x hx=>by
   show(ρ.r++[a])[k]? =_;rw[Qaz (Qae.mp hx).1];exact hx⟩
 have last:∀(i:Nat) (b:Addr),(ρ.push a).r[i]? =some b->(i<ρ.r.length/\ρ.r[i]? =some b)\/(i=ρ.r.length/\b=a):=λi b h=>by
  have h:(ρ.r++[a])[i]? =some b:=h;by_cases q:i<ρ.r.length
  .rw [Qaz q] at h;exact .inl ⟨q,h⟩
  .rw [Qal$ by omega] at h
   have h0:i - ρ.r.length=0:=by
    have:=(Qae.mp h).1;simp at this;omega
   rw[h0] at h;cases h;exact .inr ⟨by omega,rfl⟩
 refine⟨⟨by show(ρ.r++[a]).length=_;rw [Qau,Qau,w.len];rfl,λi j b hi hj=>?_,λk b u hk hu=>?_,λb hb=>?_,λk b hk hu=>?_,λb hb=>?_,λk b hk hu=>?_⟩,p⟩
 .rcases last i b hi with⟨q1,q2⟩ | ⟨q1,rfl⟩
  .rcases last j b hj with⟨z1,z2⟩ | ⟨z1,rfl⟩
   .exact w.nd i j b q2 z2
   .exact absurd (QaD q2) nr
  .rcases last j b hj with⟨z1,z2⟩ | ⟨z1,z3⟩
   .exact absurd (QaD z2) nr
   .omega
 .rcases last k b hk with⟨q1,q2⟩ | ⟨q1,rfl⟩
  .rw [Qaz$ by rw[<-w.len];exact q1] at hu
   have r0:=w.ob k b u q2 hu;obtain⟨x,hx⟩:=r0.some;rw[s b x hx,<-hx];exact r0.pre p
  .rw [Qal (by rw[<-w.len];omega),q1,w.len,Qbl] at hu
   cases hu;exact r
 .obtain⟨⟨o,ho⟩,nb⟩:=w.zb b hb;refine⟨⟨o,s b _ ho⟩,λh=>?_⟩
  rcases Qbp.mp h with y | y
  .exact nb y
  .rw [Qa1] at y;subst y;rw [n] at ho;cases ho
 .rcases last k b hk with⟨q1,q2⟩ | ⟨q1,rfl⟩
  .rw [Qaz$ by rw[<-w.len];exact q1] at hu
   exact w.fz k b q2 hu
  .exact nf
 .obtain⟨o,ho⟩:=w.ff b hb;exact⟨o,s b o ho⟩
 .rcases last k b hk with⟨q1,q2⟩ | ⟨q1,rfl⟩
  .rw [Qaz$ by rw[<-w.len];exact q1] at hu
   exact w.fi k b q2 hu
  .rw [Qal (by rw[<-w.len];omega),q1,w.len,Qbl] at hu
   cases hu;exact absurd rfl wa
def SW.put{K:Qdi}{cl:Aag}{ρ:P3}{S:a_}(w:SW K cl ρ H S){k:Nat}{a:Addr}{o:SO}{u:HO}(hk:ρ.r[k]? =some a)(hf:a ∉ ρ.f)(r:Gu K cl ρ H o (some u))(wa:o≠SO.jU:=by intro h;cases h) :
 SW K cl ρ (upd H a u) (S.set k o)/\Pre ρ H ρ (upd H a u):=by
 have ha:a∈ρ.r:=QaD hk;have hb:a∈ρ.b:=P3.dU.mpr$ .inl ⟨ha,hf⟩;have nz:∀b∈ρ.z,b≠a:=λb hb z=>(w.zb b hb).2 (by rw[z];exact ha)
 have p:Pre ρ H ρ (upd H a u):=⟨λb x e nb=>⟨by rw[bg$ λ(z:b=a)=>nb$ by rw[z];exact hb];exact e,nb⟩,rfl,λb o hb h=>by rw[bg$ nz b hb];exact h,λ_ _ h=>h⟩
 have hl:k<S.length:=by rw[<-w.len];exact(Qae.mp hk).1
 refine⟨⟨by rw[QaT];exact w.len,w.nd,λj b x hj hx=>?_,λb hb=>?_,λj b hj hx=>?_,λb hb=>?_,λj b hj hx=>?_⟩,p⟩
 .by_cases q:k=j
  .subst q;rw[hk] at hj;cases hj;rw[Qaq hl] at hx;cases hx;rw[aU];exact r.pre p
  .rw [Qas q] at hx;have ne:b≠a:=λz=>by subst z;exact q (w.nd k j b hk hj)
   rw[bg ne];exact(w.ob j b x hj hx).pre p
 .obtain⟨⟨o,ho⟩,nb⟩:=w.zb b hb;exact⟨⟨o,by rw[bg$ nz b hb];exact ho⟩,nb⟩
 .by_cases q:k=j
  .subst q;rw[hk] at hj;cases hj;exact hf
  .rw [Qas q] at hx;exact w.fz j b hj hx
 .obtain⟨o,ho⟩:=w.ff b hb;exact⟨o,by rw[bg$ λz=>hf$ by rw[<-z];exact hb];exact ho⟩
 .by_cases q:k=j
  .subst q;rw[Qaq hl] at hx;cases hx;exact absurd rfl wa
  .rw [Qas q] at hx;exact w.fi j b hj hx
def SW.jU{K:Qdi}{cl:Aag}{ρ:P3}{S:a_}(w:SW K cl ρ H S){k:Nat}{a:Addr}{ds:List D}(hk:ρ.r[k]? =some a)(hS:S[k]? =some (.lst ds)) :
 SW K cl ⟨ρ.r,ρ.z,a ::ρ.f⟩ H (S.set k .jU)/\Pre ρ H ⟨ρ.r,ρ.z,a ::ρ.f⟩ H/\Rep K (⟨ρ.r,ρ.z,a ::ρ.f⟩:P3).b H (.lst ds) (.ref a):=by
 have hl:k<S.length:=by rw[<-w.len];exact(Qae.mp hk).1
 have sub:∀b,b∈(⟨ρ.r,ρ.z,a ::ρ.f⟩:P3).b->b∈ρ.b:=λb hb=>by
  rcases P3.dU.mp hb with⟨z,n⟩ | z
  .exact P3.dU.mpr (.inl ⟨z,λh=>n$ Qag _ h⟩)
  .exact P3.dU.mpr (.inr z)
 have p:Pre ρ H ⟨ρ.r,ρ.z,a ::ρ.f⟩ H:=⟨λb o e nb=>⟨e,λhb=>nb$ sub b hb⟩,rfl,λ_ _ _ h=>h,λ_ _ h=>h⟩
 obtain⟨xs,e1,r1⟩:=w.ob k a _ hk hS;refine⟨⟨by rw[QaT];exact w.len,w.nd,λj b x hj hx=>?_,w.zb,λj b hj hx=>?_,λb hb=>?_,λj b hj hx=>?_⟩,p,?_⟩
 .by_cases q:k=j
  .subst q;rw[Qaq hl] at hx;cases hx;rw[hk] at hj;cases hj;exact⟨_,e1⟩
  .rw [Qas q] at hx;exact(w.ob j b x hj hx).pre p
 .by_cases q:k=j
  .subst q;rw[Qaq hl] at hx;exact absurd rfl hx
  .rw [Qas q] at hx;intro h;rcases Qaw.mp h with z | z
   .subst z;exact q$ w.nd k j b hk hj
   .exact w.fz j b hj hx z
 .rcases Qaw.mp hb with z | z
  .subst z;exact⟨_,e1⟩
  .exact w.ff b z
 .by_cases q:k=j
  .subst q;rw[hk] at hj;cases hj;exact Qat
  .rw [Qas q] at hx;exact Qag _$ w.fi j b hj hx
 .refine Rep.lst.mpr ⟨a,xs,rfl, .inl ⟨λhb=>?_, .inl e1⟩,r1.bu p.bu⟩
  rcases P3.dU.mp hb with⟨_,n⟩ | z
  .exact n Qat
  .exact(w.zb a z).2 (QaD hk)
mutual
noncomputable def zP:D->Bool
 | .lst _=>false
 | .dct _ _=>false
 | .tup ds=>tH ds
 | _=>true
noncomputable def tH:List D->Bool
 | []=>true
 | d ::ds=>zP d && tH ds
end
mutual
theorem Rep.AW{K:Qdi}{B:List Addr}(hB:∀b∈B,∀xs,¬Rd H b (.tup xs)):∀{d:D} {v:V},zP d=true->Rep K [] H d v->Rep K B H d v
 | .cI,v,_,r=>Rep.cI.mpr$ Rep.cI.mp r
 | .bl _,v,_,r=>Rep.bl.mpr$ Rep.bl.mp r
 | .int _,v,_,r=>Rep.int.mpr$ Rep.int.mp r
 | .str _,v,_,r=>Rep.str.mpr$ Rep.str.mp r
 | .lst _,v,h,_=>by unfold zP at h;cases h
 | .dct _ _,v,h,_=>by unfold zP at h;cases h
 | .tup ds,v,h,r=>by
   unfold zP at h;obtain⟨a,xs,rfl,l,rs⟩:=Rep.tup.mp r;exact Rep.tup.mpr ⟨a,xs,rfl,l.elim (λz=> .inl ⟨λhb=>hB a hb xs z.2,z.2⟩) .inr,aI.AW hB h rs⟩
theorem aI.AW{K:Qdi}{B:List Addr}(hB:∀b∈B,∀xs,¬Rd H b (.tup xs)):∀{ds:List D} {vs:List V},tH ds=true->aI K [] H ds vs->aI K B H ds vs
 | [],_,_,r=>by unfold aI at r;subst r;exact aI.nil
 | d ::ds,vs,h,r=>by
   unfold tH at h;obtain⟨h1,h2⟩:=Qa0.mp h;obtain⟨x,xs,rfl,r1,r2⟩:=r.cm;exact aI.cons (Rep.AW hB h1 r1)$ aI.AW hB h2 r2
end
def SW.nt{K:Qdi}{cl:Aag}{ρ:P3}{S:a_}(w:SW K cl ρ H S):∀b∈ρ.b,∀xs,¬Rd H b (.tup xs):=λb hb xs h=>by
 have key:∀o,H b=some o->(∀xs,o≠ .tup xs)->(∀ob xs,o≠ .jU ob (.tup xs))->False:=λo e h1 h2=>by
  rcases h with z | ⟨ob,z⟩
  .rw [e] at z;cases z;exact h1 _ rfl
  .rw [e] at z;cases z;exact h2 _ _ rfl
 rcases P3.dU.mp hb with⟨z,n⟩ | z
 .obtain⟨k,hk⟩:=Qb6 z;have hl:=(Qae.mp hk).1;have hS:S[k]? =some (S[k]'(by rw[<-w.len];exact hl)):=Qad (by rw[<-w.len];exact hl)
  have r:=w.ob k b _ hk hS;generalize S[k]'(by rw[<-w.len];exact hl)=o at r hS
  cases o with
  | lst ds=>obtain⟨ys,e,_⟩:=r;exact key _ e (λ_ q=>by cases q) (λ_ _ q=>by cases q)
  | dct aW=>obtain⟨ys,e,_⟩:=r;exact key _ e (λ_ q=>by cases q) (λ_ _ q=>by cases q)
  | dcT aW=>obtain⟨ys,e,_⟩:=r;exact key _ e (λ_ q=>by cases q) (λ_ _ q=>by cases q)
  | ins c fs=>obtain⟨dx,ys,e,_⟩:=r;exact key _ e (λ_ q=>by cases q) (λ_ _ q=>by cases q)
  | jU=>exact n$ w.fi k b hk hS
  | exc c=>obtain⟨b',e⟩:=r;exact key _ e (λ_ q=>by cases q) (λ_ _ q=>by cases q)
 .obtain⟨⟨ys,e⟩,_⟩:=w.zb b z;exact key _ e (λ_ q=>by cases q) (λ_ _ q=>by cases q)
abbrev DE:=List$ Option V3
structure eV (K:Qdi) (cl:Aag) (ρ:P3) (H:Hp) (S:a_) (σ:L2.St) (δ:DE):Prop where
 len:δ.length=σ.length
 sw:SW K cl ρ H S
 val:∀(i:Nat) (d:V3),δ[i]? =some (some d)->∃v,σ[i]? =some (some v)/\bf K ρ H d v
def eV.to{K:Qdi}{cl:Aag}{S S':a_}{σ:L2.St}{δ:DE}(E:eV K cl ρ H S σ δ)(p:Pre ρ H cq H')(w:SW K cl cq H' S'):eV K cl cq H' S' σ δ:=
 ⟨E.len,w,λi d e=>let⟨v,h1,h2⟩:=E.val i d e;⟨v,h1,h2.pre p⟩⟩
def eV.set{K:Qdi}{cl:Aag}{S:a_}{σ:L2.St}{δ:DE}(E:eV K cl ρ H S σ δ){i:Nat}{d:V3}{v:V}(hi:i<σ.length)(r:bf K ρ H d v):eV K cl ρ H S (σ.set i$ some v) (δ.set i$ some d):=
 ⟨by rw[QaT,QaT];exact E.len,E.sw,λj d' e=>by
   by_cases h:i=j
   .subst h;rw[Qaq$ by rw[E.len];exact hi] at e
    cases e;exact⟨v,Qaq hi,r⟩
   .rw [Qas h] at e ⊢;exact E.val j d' e⟩
noncomputable def down(δ:DE):av:=δ.map λx=>match x with | some (.d d)=> .val d | _=> .un
def eV.down{K:Qdi}{cl:Aag}{ρ:P3}{S:a_}{σ:L2.St}{δ:DE}(E:eV K cl ρ H S σ δ):eh K [] ρ.b H σ (down δ) where
 len:=by unfold L3.down;rw [Qaa];exact E.len
 bs:=E.sw.bs
 zb:=λa ha=>by cases ha
 val:=λi d e=>by
  unfold L3.down at e;rw[Qaf] at e;cases q:δ[i]? with
  | none=>rw [q] at e;cases e
  | some x=>
    rw[q] at e
    match x,e,q with
    | some (.d y),e,q=>
      cases e;obtain⟨v,h1,h2⟩:=E.val i _ q;unfold bf at h2;exact⟨v,h1,h2⟩
    | some (.loc k),e,q=>cases e
    | some (.lst k),e,q=>cases e
    | some (.tup k),e,q=>cases e
    | none,e,q=>cases e
 bld:=λi ds e=>by
  unfold L3.down at e;rw[Qaf] at e;cases q:δ[i]? with
  | none=>rw [q] at e;cases e
  | some x=>
    rw[q] at e
    match x,e with
    | some (.d y),e=>cases e
    | some (.loc k),e=>cases e
    | some (.lst k),e=>cases e
    | some (.tup k),e=>cases e
    | none,e=>cases e
 dis:=λi j a ds es e=>by
  unfold L3.down at e;rw[Qaf] at e;cases q:δ[i]? with
  | none=>rw [q] at e;cases e
  | some x=>
    rw[q] at e
    match x,e with
    | some (.d y),e=>cases e
    | some (.loc k),e=>cases e
    | some (.lst k),e=>cases e
    | some (.tup k),e=>cases e
    | none,e=>cases e
mutual
noncomputable def res(S:a_):V3->Option D
 | .d x=>some x
 | .loc k=>(match S[k]? with | some (.lst ds)=>some (.lst ds) | some (.dct aW)=>some (.dct (aW.map (·.1))$ aW.map (·.2)) | _=>none)
 | .lst vs=>(Al S vs).map D.lst
 | .tup vs=>(Al S vs).map D.tup
 | .fn _=>none
noncomputable def Al(S:a_):List V3->Option (List D)
 | []=>some []
 | v ::vs=>(res S v).bind λd=>(Al S vs).map (d ::·)
end
def eG(S:a_)(δ:DE):av:=δ.map λx=>match x with | some v=>(match res S v with | some d=> .val d | none=> .un) | none=> .un
def jr{α β:Type}{o:Option α}{f:α->β}{b:β}(h:o.map f=some b):∃a,o=some a/\f a=b:=by
 cases o with
 | none=>cases h
 | some a=>cases h;exact⟨a,rfl,rfl⟩
def cx{α β:Type}{o:Option α}{f:α->Option β}{b:β}(h:o.bind f=some b):∃a,o=some a/\f a=some b:=by
 cases o with
 | none=>cases h
 | some a=>exact⟨a,rfl,h⟩
mutual
noncomputable def jf(n:Nat):V3->Bool
 | .d _=>true
 | .loc k=>decide$ n<=k
 | .lst vs=>tO n vs
 | .tup vs=>tO n vs
 | .fn _=>true
noncomputable def tO(n:Nat):List V3->Bool
 | []=>true
 | v ::vs=>jf n v && tO n vs
end
mutual
theorem bf.resB{K:Qdi}{cl:Aag}{ρ:P3}{S:a_}{B':List Addr}{n:Nat}(w:SW K cl ρ H S)(p:dO ρ.b H B' H)(hn:∀(k:Nat) (a:Addr),n<=k->ρ.r[k]? =some a->a ∉ B'):∀{v:V3} {d:D} {x:V},jf n v=true->res S v=some d->bf K ρ H v x->Rep K B' H d x
 | .d y,d,x,_,h,r=>by unfold L3.res at h;cases h;unfold bf at r;exact r.bu p
 | .fn y,d,x,_,h,r=>by unfold L3.res at h;cases h
 | .loc k,d,x,g,h,r=>by
   unfold L3.res at h;unfold bf at r;unfold jf at g;obtain⟨a,h1,rfl⟩:=r;split at h
   .rename_i ds e;cases h;obtain⟨xs,e2,q⟩:=w.ob k a _ h1 e;unfold Rep;exact⟨a,xs,rfl, .inl ⟨hn k a (Qah g) h1, .inl e2⟩,q.bu p⟩
   .rename_i aW e;cases h;obtain⟨ys,e2,e3,q⟩:=w.ob k a _ h1 e;unfold Rep;exact⟨a,ys,rfl,⟨hn k a (Qah g) h1,e2⟩,e3,q.bu p⟩
   .cases h
 | .lst vs,d,x,g,h,r=>by
   unfold L3.res at h;unfold jf at g;obtain⟨ds,e,rfl⟩:=jr h;unfold bf at r;obtain⟨a,xs,rfl,l,r⟩:=r;unfold Rep;exact⟨a,xs,rfl,l.bu p,aM.resB w p hn g e r⟩
 | .tup vs,d,x,g,h,r=>by
   unfold L3.res at h;unfold jf at g;obtain⟨ds,e,rfl⟩:=jr h;unfold bf at r;obtain⟨a,xs,rfl,l,r⟩:=r;unfold Rep;exact⟨a,xs,rfl,xh.bu p l,aM.resB w p hn g e r⟩
theorem aM.resB{K:Qdi}{cl:Aag}{ρ:P3}{S:a_}{B':List Addr}{n:Nat}(w:SW K cl ρ H S)(p:dO ρ.b H B' H)(hn:∀(k:Nat) (a:Addr),n<=k->ρ.r[k]? =some a->a ∉ B'):∀{vs:List V3} {ds:List D} {xs:List V},tO n vs=true->Al S vs=some ds->aM K ρ H vs xs->aI K B' H ds xs
 | [],ds,xs,_,h,r=>by unfold Al at h;cases h;unfold aM at r;subst r;exact aI.nil
 | v ::vs,ds,xs,g,h,r=>by
   unfold Al at h;unfold tO at g;obtain⟨g1,g2⟩:=Qa0.mp g;obtain⟨d,e1,h2⟩:=cx h;obtain⟨es,e2,rfl⟩:=jr h2;obtain⟨y,ys,rfl,r1,r2⟩:=r.cm;exact aI.cons (bf.resB w p hn g1 e1 r1)$ aM.resB w p hn g2 e2 r2
end
mutual
theorem wZ:∀v:V3,jf 0 v=true
 | .d _=>by unfold jf;rfl
 | .loc k=>by unfold jf;exact Qan$ Qbf _
 | .lst vs=>by unfold jf;exact pZ vs
 | .tup vs=>by unfold jf;exact pZ vs
 | .fn _=>by unfold jf;rfl
theorem pZ:∀vs:List V3,tO 0 vs=true
 | []=>by unfold tO;rfl
 | v ::vs=>by unfold tO;rw [wZ v,pZ vs];rfl
end
def bf.res{K:Qdi}{cl:Aag}{S:a_}(w:SW K cl ρ H S){v:V3}{d:D}{x:V}(h:res S v=some d)(r:bf K ρ H v x):Rep K [] H d x:=
 r.resB w (λb o e _=>⟨e,by simp⟩) (n:=0) (λ_ _ _ _=>by simp) (wZ v) h
def so{S:a_}{δ:DE}{i:Nat}{y:Sl}(e:(eG S δ)[i]? =some y):(∃v d,δ[i]? =some (some v)/\res S v=some d/\y= .val d)\/y= .un:=by
 unfold eG at e;rw[Qaf] at e;cases q:δ[i]? with
 | none=>rw [q] at e;cases e
 | some x=>
   rw[q] at e;cases x with
   | none=>cases e;exact .inr rfl
   | some v=>
     cases z:res S v with
     | none=>
       have e:some (match res S v with | some d=>Sl.val d | none=> .un)=some y:=e
       rw[z] at e;cases e;exact .inr rfl
     | some d=>
       have e:some (match res S v with | some d=>Sl.val d | none=> .un)=some y:=e
       rw[z] at e;cases e;exact .inl ⟨v,d,rfl,z,rfl⟩
def eV.eG{K:Qdi}{cl:Aag}{S:a_}{σ:L2.St}{δ:DE}(E:eV K cl ρ H S σ δ):eh K [] [] H σ (eG S δ) where
 len:=by unfold L3.eG;rw [Qaa];exact E.len
 bs:=λa ha=>by cases ha
 zb:=λa ha=>by cases ha
 val:=λi d e=>by
  rcases so e with⟨v,d',h1,h2,h3⟩ | h
  .cases h3;obtain⟨x,q1,q2⟩:=E.val i v h1;exact⟨x,q1,q2.res E.sw h2⟩
  .cases h
 bld:=λi ds e=>by
  rcases so e with⟨v,d',h1,h2,h3⟩ | h
  .cases h3
  .cases h
 dis:=λi j a ds es e=>by
  rcases so e with⟨v,d',h1,h2,h3⟩ | h
  .cases h3
  .cases h
abbrev FX:=DE->a_->R3 V3
abbrev FB:=DE->a_->R3 Bool
abbrev FA:=DE->a_->R3 (List V3)
def tX(K:Qdi)(cl:Aag)(f:FX):TE:=λσ H Q=>∃ρ S δ v S',eV K cl ρ H S σ δ/\f δ S= .ok v S'/\∀u cq H',Pre ρ H cq H'->SW K cl cq H' S'->bf K cq H' v u->Q u H'
def Np(K:Qdi)(cl:Aag)(f:FB):TT:=λσ H Q=>∃ρ S δ b S',eV K cl ρ H S σ δ/\f δ S= .ok b S'/\∀cq H',Pre ρ H cq H'->SW K cl cq H' S'->Q b H'
def Zx(K:Qdi)(cl:Aag)(f:FA):TA:=λσ H Q=>∃ρ S δ vs S',eV K cl ρ H S σ δ/\f δ S= .ok vs S'/\∀us cq H',Pre ρ H cq H'->SW K cl cq H' S'->aM K cq H' vs us->Q us H'
structure PX (X:Cx) (cl:Aag) (e:Expr) (f:FX):Prop where
 go:PE X e (tX X.K cl f)
structure DQ (X:Cx) (cl:Aag) (e:Expr) (f:FB):Prop where
 go:PT X e (Np X.K cl f)
structure KY (X:Cx) (cl:Aag) (es:List Expr) (f:FA):Prop where
 go:PA X es (Zx X.K cl f)
section
variable {X:Cx}{cl:Aag}
def xP(f:FD):FX:=λδ S=>(R3.of (f$ down δ) S).bind λd S=> .ok (.d d) S
def au(h:QD X e f):PX X cl e (xP f):=⟨h.1.imp λσ H Q ⟨ρ,S,δ,v,S',E,hf,q⟩=>by
 obtain⟨d,S1,h1,h2⟩:=R3.aj hf;obtain⟨h3,e3⟩:=R3.of_ok h1;cases h2;subst e3;exact⟨[],ρ.b,down δ,d,E.down,h3,λv H' s r=>q v ρ H' (Pre.same s) (E.sw.same s)$ by unfold bf;exact r⟩⟩
def xT(f:FD):FX:=λδ S=>(R3.of (f$ eG S δ) S).bind λd S=>R3.aS (zP d)$ .ok (.d d) S
def j_(h:QD X e f):PX X cl e (xT f):=⟨h.1.imp λσ H Q ⟨ρ,S,δ,v,S',E,hf,q⟩=>by
 obtain⟨d,S1,h1,h2⟩:=R3.aj hf;obtain⟨h4,e3⟩:=R3.of_ok h1;obtain⟨ha,h3⟩:=R3.bh h2;cases h3;subst e3;exact⟨[],[],eG _ δ,d,E.eG,h4,λv H' s r=>q v ρ H' (Pre.same s) (E.sw.same s)$ by unfold bf;exact Rep.AW (E.sw.same s).nt ha r⟩⟩
def bP(f:av->R Bool):FB:=λδ S=>R3.of (f$ down δ) S
def dS{f:av->R Bool}(h:QB X e f):DQ X cl e (bP f):=⟨h.1.imp λσ H Q ⟨ρ,S,δ,v,S',E,hf,q⟩=>by
 obtain⟨h1,e3⟩:=R3.of_ok hf;subst e3;exact⟨[],ρ.b,down δ,v,E.down,h1,λH' s=>q ρ H' (Pre.same s)$ E.sw.same s⟩⟩
def bT(f:av->R Bool):FB:=λδ S=>R3.of (f$ eG S δ) S
noncomputable def fw(i:Nat):FX:=λδ S=>match δ[i]? with | some (some v)=> .ok v S | _=> .no
def cN(i:Nat){x:Str}{pos:Pos}(hN:X.N[i]? =some x:=by rfl)(hv:Kk X.env.scope x:=by first | exact Or.inl rfl | exact Or.inr Qdf | exact Or.inr (Or.inr rfl))(hd:(x==("__debug__":Str))=false:=by decide)
 (sL:(x==("__classdict__":Str))=false:=by decide):PX X cl (.Name x pos) (fw i):=⟨(vP hN hv hd sL).imp λσ H Q ⟨ρ,S,δ,v,S',E,hf,q⟩=>by
 unfold fw at hf;split at hf
 .rename_i d' e;cases hf;obtain⟨u,h1,h2⟩:=E.val i _ e;exact⟨u,h1,q u ρ H (Pre.refl ρ H) E.sw h2⟩
 .cases hf⟩
def pB(f:av->R (List D)):FX:=λδ S=>(R3.of (f$ down δ) S).bind λds S=> .ok (.loc S.length)$ S++[.lst ds]
def l0{f:av->R (List D)}(h:QN X e f):PX X cl e (pB f):=⟨h.1.imp λσ H Q ⟨ρ,S,δ,v,S',E,hf,q⟩=>by
 obtain⟨ds,S1,h1,h2⟩:=R3.aj hf;obtain⟨h3,e3⟩:=R3.of_ok h1;cases h2;subst e3;refine⟨[],ρ.b,down δ,ds,E.down,h3,λa xs H' s n e r=>?_⟩
 have r':aI X.K (ρ.push a).b H' ds xs:=r.bu λb o e nb=>⟨e,λhb=>nb (by
  rcases P3.mem_push hb with z | z
  .exact Qag _ z
  .subst z;exact Qat)⟩
 obtain⟨w,p⟩:=E.sw.new (o:= .lst ds) s n ⟨xs,e,r'⟩;exact q _ _ H' p w$ by unfold bf;exact⟨a,by show(ρ.r++[a])[_]? =_;rw [<-E.sw.len,Qal (by omega),Qbl];rfl,rfl⟩⟩
end
end L3
end
section
namespace L3
open PySem PySem.Spec PyProof.Rows L2
section
variable {X:Cx}{cl:Aag}
noncomputable def eO:FA:=λ_ S=> .ok [] S
def bx(f:FX)(g:FA):FA:=λδ S=>(f δ S).bind λv S1=>(g δ S1).bind λvs S2=> .ok (v ::vs) S2
def bO:KY X cl [] eO:=⟨eB.imp λσ H Q ⟨ρ,S,δ,v,S',E,hf,q⟩=>by
 cases hf;exact q [] ρ H (Pre.refl ρ H) E.sw aM.nil⟩
def aC(h:PX X cl e f)(t:KY X cl es g)(hs:starEach (e ::es) X.env=(false,eval e X.env) ::starEach es X.env:=by rfl):KY X cl (e ::es) (bx f g):=
 ⟨(cD h.1 t.1 hs).imp λσ H Q ⟨ρ,S,δ,v,S',E,hf,q⟩=>by
   obtain⟨v1,S1,h1,h2⟩:=R3.aj hf;obtain⟨vs,S2,h3,h4⟩:=R3.aj h2;cases h4;exact⟨ρ,S,δ,v1,S1,E,h1,λu cf H1 p1 w1 r1=>⟨cf,S1,δ,vs,_,E.to p1 w1,h3,λus qg H2 p2 w2 r2=>q _ qg H2 (p1.trans p2) w2$ aM.cons (r1.pre p2) r2⟩⟩⟩
noncomputable def qK:List V3->Option (List D)
 | []=>some []
 | .d x ::r=>(qK r).map (x ::·)
 | _ ::_=>none
theorem lP:∀{vs:List V3} {ds:List D},qK vs=some ds->vs=ds.map .d
 | [],ds,h=>by cases h;rfl
 | .d x ::r,ds,h=>by
   cases e:qK r with
   | none=>have h:(qK r).map (x ::·)=some ds:=h;rw [e] at h;cases h
   | some es=>
     have h:(qK r).map (x ::·)=some ds:=h
     rw[e] at h;cases h;rw[lP e];rfl
 | .loc _ ::_,_,h=>by cases h
 | .lst _ ::_,_,h=>by cases h
 | .tup _ ::_,_,h=>by cases h
 | .fn _ ::_,_,h=>by cases h
theorem u_:∀ds:List D,qK (ds.map .d)=some ds
 | []=>rfl
 | d ::ds=>by show(qK$ ds.map .d).map (d ::·)=_;rw [u_ ds];rfl
def DP(vs:List V3):V3:=match qK vs with | some ds=> .d (.tup ds) | none=> .tup vs
def wW(vs:List V3):V3:=match qK vs with | some ds=> .d (.lst ds) | none=> .lst vs
def HZ(g:FA):FX:=λδ S=>(g δ S).bind λvs S=>R3.aS (decide$ vs.length<=sizeLine)$ .ok (DP vs) S
def yw{H:Hp}{p:Addr}{o:HO}(hp:H p=none):Pre ρ H ρ (upd H p o):=Pre.same$ aN hp
def E7{K:Qdi}{ρ:P3}{vs:List V3}{xs:List V}{a:Addr}(l:xh K ρ.b H a xs)(r:aM K ρ H vs xs):bf K ρ H (DP vs) (.ref a):=by
 unfold DP;split
 .rename_i ds e;rw[lP e] at r;unfold bf Rep;exact⟨a,xs,rfl,l,r.to⟩
 .unfold bf;exact⟨a,xs,rfl,l,r⟩
def Fs{K:Qdi}{ρ:P3}{vs:List V3}{xs:List V}{a:Addr}(l:v_ K ρ.b H a xs)(r:aM K ρ H vs xs):bf K ρ H (wW vs) (.ref a):=by
 unfold wW;split
 .rename_i ds e;rw[lP e] at r;unfold bf Rep;exact⟨a,xs,rfl,l,r.to⟩
 .unfold bf;exact⟨a,xs,rfl,l,r⟩
def CH{x1 pos}(h:KY X cl es g):PX X cl (.Tuple es x1 pos) (HZ g):=⟨(yT h.1).imp λσ H Q ⟨ρ,S,δ,v,S',E,hf,q⟩=>by
 obtain⟨vs,S1,h1,h2⟩:=R3.aj hf;obtain⟨hl,h3⟩:=R3.bh h2;cases h3;refine⟨ρ,S,δ,vs,_,E,h1,λus cf H1 p1 w1 r1=>⟨by rw[<-r1.length];exact Qah hl,λp hp=>q _ cf _ (p1.trans$ yw hp) (w1.same$ aN hp) ?_⟩⟩
 refine E7 (.inl ⟨λha=>?_, .inl aU⟩)$ r1.pre$ yw hp
 obtain⟨o,ho⟩:=w1.bs p ha;rw[hp] at ho;cases ho⟩
def aaP(g:FA):FX:=λδ S=>(g δ S).bind λvs S=>R3.aS (decide$ vs.length<=sizeLine)$ .ok (wW vs) S
def x2(g:D->D->R D)(fa fb:FX):FX:=λδ S=>(fa δ S).bind λa S1=>(fb δ S1).bind λb S2=>match a,b with
 | .d x, .d y=>(R3.of (g x y) S2).bind λd S=> .ok (.d d) S
 | _,_=> .no
def RQ{K:Qdi}{g:D->D->R D}{σ:L2.St}{Q:VK}(h:tX K cl (x2 g fa fb) σ H Q) :
 Rg (λx y H Q=>∃B da db d,(∀a∈B,∃o,H a=some o)/\Rep K B H da x/\Rep K B H db y/\g da db= .ok d/\∀z H',aY H H'->Rep K B H' d z->Q z H') (tX K cl fa) (tX K cl fb) σ H Q:=by
 obtain⟨ρ,S,δ,v,S',E,hf,q⟩:=h;obtain⟨a,S1,h1,h2⟩:=R3.aj hf;obtain⟨b,S2,h3,h4⟩:=R3.aj h2
 match a,b,h1,h3,h4 with
 | .d x, .d y,h1,h3,h4=>
   obtain⟨d,S3,h5,h6⟩:=R3.aj h4;obtain⟨h7,e⟩:=R3.of_ok h5;cases h6;subst e;refine⟨ρ,S,δ, .d x,S1,E,h1,λu1 cf H1 p1 w1 r1=>⟨cf,S1,δ, .d y,_,E.to p1 w1,h3,λu2 qg H2 p2 w2 r2=>?_⟩⟩
   have t8:=r1.pre p2;unfold bf at t8 r2;exact⟨qg.b,x,y,d,w2.bs,t8,r2,h7,λz H' s r=>q z qg H' (p1.trans$ p2.trans$ Pre.same s) (w2.same s)$ by unfold bf;exact r⟩
 | .d x, .loc _,_,_,h4=>cases h4
 | .d x, .lst _,_,_,h4=>cases h4
 | .d x, .tup _,_,_,h4=>cases h4
 | .d x, .fn _,_,_,h4=>cases h4
 | .loc _,_,_,_,h4=>cases h4
 | .lst _,_,_,_,h4=>cases h4
 | .tup _,_,_,_,h4=>cases h4
 | .fn _,_,_,_,h4=>cases h4
def RJ{op:Operator}{g:D->D->R D}(ho:mG X (binaryOp op) g)(ha:PX X cl a fa)(hb:PX X cl b fb):PX X cl (.BinOp a op b pos) (x2 g fa fb):=
 ⟨(D7 ho.r ha.1 hb.1).imp λσ H Q h=>RQ h⟩
def Vh(g:D->D->R D)(fa fb:FX):FB:=λδ S=>(x2 g fa fb δ S).bind λv S=>match v with | .d (.bl b)=> .ok b S | _=> .no
def LU{op:CmpOp}{g:D->D->R D}(ho:mG X (compareOp op) g)(ha:PX X cl a fa)(hb:PX X cl b fb)(hm:behindInMarks op b=false):DQ X cl (.Compare a [op] [b] pos) (Vh g fa fb):=
 ⟨(DF ho.r ha.1 hb.1 hm).imp λσ H Q ⟨ρ,S,δ,b,S',E,hf,q⟩=>by
   obtain⟨v,S1,h1,h2⟩:=R3.aj hf;have hv:v= .d (.bl b)/\S1=S':=by
    match v,h2 with
    | .d (.bl k),h2=>cases h2;exact⟨rfl,rfl⟩
    | .d .cI,h2=>cases h2
    | .d (.int _),h2=>cases h2
    | .d (.str _),h2=>cases h2
    | .d (.lst _),h2=>cases h2
    | .d (.tup _),h2=>cases h2
    | .d (.dct _ _),h2=>cases h2
    | .loc _,h2=>cases h2
    | .lst _,h2=>cases h2
    | .tup _,h2=>cases h2
    | .fn _,h2=>cases h2
   obtain⟨rfl,rfl⟩:=hv;exact RQ (g:=g) (Q:=λx H'=>∃k,x= .bl k/\Q k H') ⟨ρ,S,δ,_,_,E,h1,λu cq H' p w r=>⟨b,by unfold bf Rep at r;exact r,q cq H' p w⟩⟩⟩
inductive Ou where
 | nx (δ:DE) | rt (v:V3)
abbrev FZ:=DE->a_->R3 Ou
def Ai(K:Qdi)(cl:Aag)(ρ:P3)(H:Hp)(D:Ends)(S':a_):Ou->Prop
 | .nx d5=>∀c9 cq H',Pre ρ H cq H'->eV K cl cq H' S' c9 d5->D.nx c9 H'
 | .rt v=>∀u cq H',Pre ρ H cq H'->SW K cl cq H' S'->bf K cq H' v u->D.rt u H'
def Ai.pre{K:Qdi}{D:Ends}{S':a_}{o:Ou}(q:Ai K cl ρ H D S' o)(p:Pre ρ H cf H1):Ai K cl cf H1 D S' o:=by
 cases o with
 | nx d5=>exact λc9 cq H' p' E'=>q c9 cq H' (p.trans p') E'
 | rt d=>exact λv cq H' p' w r=>q v cq H' (p.trans p') w r
def sX(K:Qdi)(cl:Aag)(F:FZ):TS:=λD σ H=>∃ρ S δ o S',eV K cl ρ H S σ δ/\F δ S= .ok o S'/\Ai K cl ρ H D S' o
structure PZ (X:Cx) (cl:Aag) (st:Stmt) (F:FZ):Prop where
 go:PS X st (sX X.K cl F)
structure DD (X:Cx) (cl:Aag) (st:List Stmt) (F:FZ):Prop where
 go:y4 X st (sX X.K cl F)
noncomputable def mV:FZ:=λδ S=> .ok (.nx δ) S
def bN(F G:FZ):FZ:=λδ S=>(F δ S).bind λo S1=>match o with | .nx d5=>G d5 S1 | .rt d=> .ok (.rt d) S1
def fg:DD X cl [] mV:=⟨yR.imp λD σ H ⟨ρ,S,δ,o,S',E,hf,q⟩=>by
 cases hf;exact q σ ρ H (Pre.refl ρ H) E⟩
def az{st:Stmt}{rest:List Stmt}(h1:PZ X cl st F)(h2:DD X cl rest G):DD X cl (st ::rest) (bN F G):=⟨(vJ h1.1 h2.1).imp λD σ H ⟨ρ,S,δ,o,S',E,hf,q⟩=>by
 obtain⟨o1,S1,h1,h2⟩:=R3.aj hf;refine⟨ρ,S,δ,o1,S1,E,h1,?_⟩;cases o1 with
 | nx c_=>
   intro Q4 cf H1 p1 E1;exact⟨cf,S1,c_,o,S',E1,h2,q.pre p1⟩
 | rt d=>
   cases h2;exact q⟩
def bb{st:Stmt}(h1:PZ X cl st F):DD X cl [st] F:=⟨yk h1.1⟩
def cU(i:Nat)(f:FX):FZ:=λδ S=>(f δ S).bind λv S=>R3.aS (decide$ i<δ.length)$ .ok (.nx$ δ.set i$ some v) S
def bH{i:Nat}{pos pos':Pos}(he:PX X cl e f)(hs:swapsWith e (some$ .Name x pos') pos.line X.env=pure false:=by rfl)(hf:X.fn x=true\/X.env.scope.names.lookup x=some .local:=by first | exact .inl rfl | exact .inr rfl | assumption)(hN:X.N.Nodup:=by first | assumption | exact Kb (by kernel_rfl))(hi:X.N[i]? =some x:=by rfl)(hx:Loc X.env.scope x:=by first | exact Or.inl rfl | exact Or.inr rfl) :
 PZ X cl (.Assign [.Name x pos'] e pos) (cU i f):=⟨(CD hN hi hx he.1 hs hf).imp λD σ H ⟨ρ,S,δ,o,S',E,hf,q⟩=>by
 obtain⟨v,S1,h1,h2⟩:=R3.aj hf;obtain⟨hi,h3⟩:=R3.bh h2;cases h3;refine⟨ρ,S,δ,v,_,E,h1,λu cf H1 p1 w1 r1=>?_⟩
 exact q _ cf H1 p1$ (E.to p1 w1).set (by rw[<-E.len];exact Qah hi) r1⟩
def i7(f:FX):FZ:=λδ S=>(f δ S).bind λv S=> .ok (.rt v) S
def dz(he:PX X cl e f):PZ X cl (.Return (some e) pos) (i7 f):=⟨(IK he.1).imp λD σ H ⟨ρ,S,δ,o,S',E,hf,q⟩=>by
 obtain⟨v,S1,h1,h2⟩:=R3.aj hf;cases h2;exact⟨ρ,S,δ,v,_,E,h1,λu cf H1 p1 w1 r1=>q u cf H1 p1 w1 r1⟩⟩
def yu(c:FB)(F G:FZ):FZ:=λδ S=>(c δ S).bind λb S=>if b then F δ S else G δ S
def lS(hc:DQ X cl c fc)(ha:DD X cl a F)(hb:DD X cl b G):PZ X cl (.If c a b pos) (yu fc F G):=⟨(HS hc.1 ha.1 hb.1).imp λD σ H ⟨ρ,S,δ,o,S',E,hf,q⟩=>by
 obtain⟨k,S1,h1,h2⟩:=R3.aj hf;refine⟨ρ,S,δ,k,S1,E,h1,λcf H1 p1 w1=>?_⟩
 cases k with
 | true=>rw [QaG rfl] at h2;exact HE ⟨cf,S1,δ,o,S',E.to p1 w1,h2,q.pre p1⟩
 | false=>rw [QaA$ by decide] at h2;exact Iz ⟨cf,S1,δ,o,S',E.to p1 w1,h2,q.pre p1⟩⟩
def Ht(f:FX):FZ:=λδ S=>(f δ S).bind λ_ S=> .ok (.nx δ) S
noncomputable def DV(c:FB)(body:FZ):Nat->FZ
 | 0,_,_=> .no
 | n+1,δ,S=>(c δ S).bind λb S=>if b then(body δ S).bind λo S=>match o with | .nx du=>DV c body n du S | .rt r=> .ok (.rt r) S else .ok (.nx δ) S
def Wg(n:Nat)(c:FB)(body:FZ):FZ:=λδ S=>DV c body n δ S
end
theorem aM.get{K:Qdi}:∀{ds:List V3} {xs:List V} {i:Nat} {d:V3},aM K ρ H ds xs->ds[i]? =some d->∃x,xs[i]? =some x/\bf K ρ H d x
 | [],_,_,_,_,e=>by simp at e
 | d ::ds,xs,0,d',h,e=>by
   obtain⟨x,r,rfl,h1,h2⟩:=h.cm;simp at e;subst e;exact⟨x,rfl,h1⟩
 | d ::ds,xs,i+1,d',h,e=>by
   obtain⟨x,r,rfl,h1,h2⟩:=h.cm;obtain⟨y,e1,e2⟩:=aM.get (i:=i) h2 (by simpa using e)
   exact⟨y,by simpa using e1,e2⟩
def RS(K:Qdi)(ρ:P3)(H:Hp)(J:It)(vs:List V3):Prop:=∀cq H',PW ρ H cq H'->(∀a∈cq.b,∃o,H' a=some o)->(∀(i:Nat) (d:V3),vs[i]? =some d->J.go i H'/\∀x oO,J.yld i H' x oO->aY H' oO/\bf K cq oO d x)/\J.stop vs.length H'
def RS.of{K:Qdi}{ρ:P3}{J:It}{ds:List D}(h:Hz K ρ.b H J ds):RS K ρ H J (ds.map .d):=λcq H' p bs=>by
 obtain⟨h1,h2⟩:=h cq.b H' p.bu;refine⟨λi v hv=>?_,by rw[Qaa];exact h2⟩
 rw[Qaf] at hv;cases e:ds[i]? with
 | none=>rw [e] at hv;cases hv
 | some d=>
   rw[e] at hv;cases hv;obtain⟨g1,g2⟩:=h1 i d e;exact⟨g1,λx oO y=>let⟨s,r⟩:=g2 x oO y bs;⟨s,by unfold bf;exact r⟩⟩
def Y0(K:Qdi)(cl:Aag)(f:FA):TI:=λσ H R=>∃ρ S δ vs S',eV K cl ρ H S σ δ/\f δ S= .ok vs S'/\∀J cf H1,Pre ρ H cf H1->SW K cl cf H1 S'->RS K cf H1 J vs->R J H1
structure Rj (X:Cx) (cl:Aag) (tg e:Expr) (f:FA):Prop where
 go:PI X tg e (Y0 X.K cl f)
section
variable {X:Cx}{cl:Aag}
def iP(f:av->R (List D)):FA:=λδ S=>(R3.of (f$ down δ) S).bind λds S=> .ok (ds.map .d) S
def cu{f:av->R (List D)}(h:y1 X tg e f):Rj X cl tg e (iP f):=⟨h.1.imp λσ H Q ⟨ρ,S,δ,vs,S',E,hf,q⟩=>by
 obtain⟨ds,S1,h1,h2⟩:=R3.aj hf;obtain⟨h3,e3⟩:=R3.of_ok h1;cases h2;subst e3;exact⟨[],ρ.b,down δ,ds,E.down,h3,λJ H1 s r=>q J ρ H1 (Pre.same s) (E.sw.same s)$ RS.of r⟩⟩
def Ak(f:FX):FA:=λδ S=>(f δ S).bind λv S=>match v with | .d (.int j)=>R3.aS (decide (-(2 ^ 62)<=j/\j<2 ^ 62)) (.ok ((jj 0 j.toNat).map .d) S) | _=> .no
def B0{tg a:Expr}{p pos:Pos}(h:PX X cl a f)(hg:Gl X "range")(hm:X.mg "range"=none)(hs:starEach [a] X.env=[(false,eval a X.env)]:=by rfl):Rj X cl tg (.Call (.Name "range" p) [a] [] pos) (Ak f):=
 ⟨(xc hg hm (cD h.1 eB hs) hs).imp λσ H RR ⟨ρ,S,δ,vs,S',E,hf,q⟩=>by
   obtain⟨v,S1,h1,h2⟩:=R3.aj hf
   match v,h1,h2 with
   | .d (.int j),h1,h2=>
     obtain⟨hb,h3⟩:=R3.bh h2;cases h3;have hb:=Qah hb;refine⟨ρ,S,δ, .d$ .int j,_,E,h1,λu cf H1 p1 w1 r1=>⟨j,?_,hb.1,hb.2,q _ cf H1 p1 w1$ RS.of$ Cj 0 _⟩⟩
     unfold bf Rep at r1;rw[r1]
   | .d .cI,_,h2=>cases h2
   | .d (.bl _),_,h2=>cases h2
   | .d (.str _),_,h2=>cases h2
   | .d (.lst _),_,h2=>cases h2
   | .d (.tup _),_,h2=>cases h2
   | .d (.dct _ _),_,h2=>cases h2
   | .loc _,_,h2=>cases h2
   | .lst _,_,h2=>cases h2
   | .tup _,_,h2=>cases h2⟩
def O2(f:FX):FA:=λδ S=>(f δ S).bind λv S=>match v with | .d (.lst ds)=> .ok (ds.map .d) S | .lst vs=> .ok vs S | _=> .no
def K8(h:PX X cl e f):Rj X cl tg e (O2 f):=⟨by
 intro pins s σ H RR I ⟨ρ,S,δ,vs,S',E,hf,q⟩;obtain⟨v,S1,h1,h2⟩:=R3.aj hf;refine dP (h.1 pins s σ H (λu H1=>∃cf,Pre ρ H cf H1/\SW X.K cl cf H1 S1/\bf X.K cf H1 v u) I ⟨ρ,S,δ,v,S1,E,h1,λu cf H1 p1 w1 r1=>⟨cf,p1,w1,r1⟩⟩) λu s1 ⟨x,H1,I1,r1,cf,p1,w1,rr⟩=>?_
 have key:S1=S'/\∃a xs,x= .ref a/\v_ X.K cf.b H1 a xs/\aM X.K cf H1 vs xs:=by
  match v,h2,rr with
  | .d (.lst ds),h2,rr=>
    cases h2;unfold bf Rep at rr;obtain⟨a,xs,e,l,r⟩:=rr;exact⟨rfl,a,xs,e,l,aM.of r⟩
  | .lst ws,h2,rr=>
    cases h2;unfold bf at rr;exact⟨rfl,rr⟩
  | .d .cI,h2,_=>cases h2
  | .d (.bl _),h2,_=>cases h2
  | .d (.int _),h2,_=>cases h2
  | .d (.str _),h2,_=>cases h2
  | .d (.tup _),h2,_=>cases h2
  | .d (.dct _ _),h2,_=>cases h2
  | .loc _,h2,_=>cases h2
  | .tup _,h2,_=>cases h2
 obtain⟨rfl,a,xs,rfl,l,rr⟩:=key;cases r1;obtain⟨its,rv,p,hz⟩:=I1.list l.sq;refine Qcp p.isList ?_;refine⟨s1.heap.objs.size,[s1.heap.objs.size],_,_,H1,rfl,I1.kept (t':=s1.toks) λb o e=>Qac _ e,w9 a _,⟨_,QaF _ rfl,rfl,rfl⟩,λb hb=>?_,q _ cf H1 p1 w1 λcq H' pr bs=>?_⟩
 .have e:b=s1.heap.objs.size:=by simpa using hb
  subst e;exact I1.wu (Qai _)$ I1.hok.fresh$ Qai _
 .have l':v_ X.K cq.b H' a xs:=l.bu pr.bu;have QM:=rr.pw pr;refine⟨λi d hd=>?_,⟨xs,l'.sq,by rw[rr.length];exact Qai _⟩⟩
  obtain⟨x,hx,rx⟩:=QM.get hd;exact⟨⟨xs,x,l'.sq,hx⟩,λy oO ⟨e1,e2⟩=>by
   subst e1;have:=e2 xs l'.sq;rw[hx] at this;cases this;exact⟨aY.refl _,rx⟩⟩⟩
abbrev FG:=V3->DE->Option DE
abbrev Mr:=List V3->DE->Option DE
def gX(K:Qdi)(cl:Aag)(t:FG):TG:=λv σ H Q=>∃ρ S δ x d5,eV K cl ρ H S σ δ/\bf K ρ H x v/\t x δ=some d5/\∀c9 H',aY H H'->eV K cl ρ H' S c9 d5->Q c9 H'
def ZR(K:Qdi)(cl:Aag)(t:Mr):IY:=λv σ H Q=>∃ρ S δ x d5,eV K cl ρ H S σ δ/\aM K ρ H x v/\t x δ=some d5/\∀c9 H',aY H H'->eV K cl ρ H' S c9 d5->Q c9 H'
structure Rf (X:Cx) (cl:Aag) (tg:Expr) (t:FG):Prop where
 go:PG X tg (gX X.K cl t)
structure KG (X:Cx) (cl:Aag) (tg:List Expr) (t:Mr):Prop where
 go:K4 X tg (ZR X.K cl t)
def eV.same{K:Qdi}{S:a_}{σ:L2.St}{δ:DE}(E:eV K cl ρ H S σ δ)(s:aY H H'):eV K cl ρ H' S σ δ:=E.to (Pre.same s)$ E.sw.same s
noncomputable def mT(i:Nat):FG:=λd δ=>if i<δ.length then some (δ.set i$ some d) else none
def br{i:Nat}{pos:Pos}(hf:X.fn x=true\/X.env.scope.names.lookup x=some .local:=by first | exact .inl rfl | exact .inr rfl | assumption)(hN:X.N.Nodup:=by first | assumption | exact Kb (by kernel_rfl))(hi:X.N[i]? =some x:=by rfl)(hx:Loc X.env.scope x:=by first | exact Or.inl rfl | exact Or.inr rfl):Rf X cl (.Name x pos) (mT i):=
 ⟨(DR hN hi hx hf).imp λv σ H Q ⟨ρ,S,δ,d,d5,E,r,ht,q⟩=>by
   unfold mT at ht;split at ht
   .rename_i hi;cases ht;exact q _ H (aY.refl H) (E.set (by rw[<-E.len];exact hi) r)
   .cases ht⟩
noncomputable def GZ:Mr:=λds δ=>match ds with | []=>some δ | _=>none
noncomputable def v8(t:FG)(u:Mr):Mr:=λds δ=>match ds with | d ::r=>(t d δ).bind λd5=>u r d5 | []=>none
def fN:KG X cl [] GZ:=⟨Dg.imp λvs σ H Q ⟨ρ,S,δ,ds,d5,E,r,ht,q⟩=>by
 cases ds with
 | nil=>unfold aM at r;cases ht;exact⟨r,q σ H (aY.refl H) E⟩
 | cons=>cases ht⟩
def bR{u:Mr}(h1:Rf X cl e t)(h2:KG X cl es u)(hs:(assignEach (e ::es) X.env).map (·.2)=assign e X.env ::(assignEach es X.env).map (·.2):=by rfl):KG X cl (e ::es) (v8 t u):=
 ⟨(zO h1.1 h2.1 hs).imp λvs σ H Q ⟨ρ,S,δ,ds,d5,E,r,ht,q⟩=>by
   cases ds with
   | nil=>cases ht
   | cons d ds=>
     obtain⟨x,xs,rfl,r1,r2⟩:=r.cm;have ht:(t d δ).bind (λd5=>u ds d5)=some d5:=ht
     cases e1:t d δ with
     | none=>rw [e1] at ht;cases ht
     | some c_=>
       rw[e1] at ht;exact⟨x,xs,rfl,ρ,S,δ,d,c_,E,r1,e1,λQ4 H1 s1 E1=>⟨ρ,S,c_,ds,d5,E1,r2.pre$ Pre.same s1,ht,λzk H2 s2 E2=>q zk H2 (s1.trans s2) E2⟩⟩⟩
noncomputable def Gs(n:Nat)(t:Mr):FG:=λd δ=>match d with
 | .d (.tup ds)=>if ds.length=n then t (ds.map .d) δ else none
 | .tup vs=>if vs.length=n then t vs δ else none
 | _=>none
def iM{k:Nat}{t:Mr}{n:Nat}{pos:Pos}(h:KG X cl es t)(hn:(assignEach es X.env).length=n:=by rfl)(ub:(assignEach es X.env).findIdx? (·.1)=none:=by rfl)(hc:X.calm=true:=by rfl):Rf X cl (.Tuple es k pos) (Gs n t):=
 ⟨(HF hc h.1 hn ub).imp λv σ H Q ⟨ρ,S,δ,d,d5,E,r,ht,q⟩=>by
   have key:∃vs a xs,v= .ref a/\xh X.K ρ.b H a xs/\aM X.K ρ H vs xs/\vs.length=n/\t vs δ=some d5:=by
    unfold Gs at ht;split at ht
    .rename_i ds;split at ht
     .rename_i hl;unfold bf Rep at r;obtain⟨a,xs,e,l,r⟩:=r;exact⟨ds.map .d,a,xs,e,l,aM.of r,by rw[Qaa];exact hl,ht⟩
     .cases ht
    .rename_i vs;split at ht
     .rename_i hl;unfold bf at r;obtain⟨a,xs,e,l,r⟩:=r;exact⟨vs,a,xs,e,l,r,hl,ht⟩
     .cases ht
    .cases ht
   obtain⟨vs,a,xs,rfl,l,r,hl,ht⟩:=key;exact⟨a,xs,rfl,l.sq,by rw[<-r.length];exact hl,ρ,S,δ,vs,d5,E,r,ht,q⟩⟩
def Z0(f:FX)(t:FG):FZ:=λδ S=>(f δ S).bind λd S=>match t d δ with | some d5=> .ok (.nx d5) S | none=> .no
noncomputable def nG(t:FG)(body:FZ):List V3->FZ
 | [],δ,S=> .ok (.nx δ) S
 | d ::ds,δ,S=>match t d δ with
   | none=> .no
   | some c_=>(body c_ S).bind λo S=>match o with | .nx du=>nG t body ds du S | .rt r=> .ok (.rt r) S
def lU(it:FA)(t:FG)(body:FZ):FZ:=λδ S=>(it δ S).bind λvs S=>nG t body vs δ S
def eD{pos:Pos}(hi:Rj X cl tg iter it)(hg:Rf X cl tg t)(hb:DD X cl body F)(hs:∀x,foldedSetIterable iter X.env x=pure x:=by intro _;rfl)(hp:PassesOwn (model X.prog X.w) X.A X.env X.xe:=by exact PassesOwn.never)(hc:X.calm=true:=by rfl):PZ X cl (.For tg iter body [] pos) (lU it t F):=⟨(Hd hp hc hi.1 hg.1 hb.1 hs).imp λD σ H ⟨ρ,S,δ,o,S',E,hf,q⟩=>by
 obtain⟨ds,S0,h1,h2⟩:=R3.aj hf;refine⟨ρ,S,δ,ds,S0,E,h1,λJ cf H1 p1 w1 ir=>?_⟩
 refine⟨λi m c9 H'=>m=ds.length - i/\i<=ds.length/\∃cq S1 d5,Pre cf H1 cq H'/\eV X.K cl cq H' S1 c9 d5/\nG t F (ds.drop i) d5 S1= .ok o S',⟨ds.length,rfl,Qbf _,cf,S0,δ,Pre.refl cf H1,E.to p1 w1,by simpa using h2⟩,?_⟩
 rintro i m c9 H' ⟨rfl,hi,cq,S1,d5,pv,E',hl⟩;obtain⟨go,stop⟩:=ir cq H' pv.pw E'.sw.bs;by_cases hlt:i<ds.length
 .have hd:ds[i]? =some ds[i]:=Qad hlt;have hdrop:ds.drop i=ds[i] ::ds.drop (i+1):=QbA hlt;rw[hdrop] at hl;unfold nG at hl;split at hl
  .cases hl
  .rename_i c_ h3;obtain⟨o1,S2,h5,h6⟩:=R3.aj hl;obtain⟨g1,g2⟩:=go i _ hd;refine .inr ⟨g1,λzk H2=>∃qg S2 du,Pre cf H1 qg H2/\eV X.K cl qg H2 S2 zk du/\nG t F (ds.drop$ i+1) du S2= .ok o S',λzk H2 n=>⟨ds.length - (i+1),by omega,rfl,hlt,n⟩,λx oO y=>?_⟩
   obtain⟨ss,rr⟩:=g2 x oO y;refine⟨cq,S1,d5,ds[i],c_,E'.same ss,rr,h3,λzk H2 s2 E2=>⟨cq,S1,c_,o1,S2,E2,h5,?_⟩⟩
   have pv2:Pre cf H1 cq H2:=pv.trans$ Pre.same$ ss.trans s2;cases o1 with
   | nx du=>exact λMU MM H3 p3 E3=>⟨MM,S2,du,pv2.trans p3,E3,h6⟩
   | rt d=>
     cases h6;exact λv MM H3 p3 w r=>q v MM H3 (p1.trans$ pv2.trans p3) w r
 .have e:i=ds.length:=by omega
  subst e;rw[Qcx] at hl;cases hl;exact .inl ⟨stop,q c9 cq H' (p1.trans pv) E'⟩⟩
end
mutual
noncomputable def AD(n:Nat):V3->Bool
 | .d _=>true
 | .loc k=>decide$ k<n
 | .lst vs=>rV n vs
 | .tup vs=>rV n vs
 | .fn _=>true
noncomputable def rV(n:Nat):List V3->Bool
 | []=>true
 | v ::vs=>AD n v && rV n vs
end
def yj(n:Nat):SO->Bool
 | .ins _ fs=>rV n$ fs.map (·.2)
 | _=>true
def LZ{ρ:P3}{n:Nat}{b:Addr}(h:b∈(ρ.cut n).b):b∈ρ.b:=by
 rcases P3.dU.mp h with z | z
 .exact P3.dU.mpr (.inl ⟨Qbs z.1,z.2⟩)
 .exact P3.dU.mpr (.inr z)
def gr{ρ:P3}(n:Nat):dO ρ.b H (ρ.cut n).b H:=λb o e nb=>⟨e,λhb=>nb$ LZ hb⟩
mutual
theorem bf.cut{K:Qdi}{ρ:P3}{n:Nat}:∀{v:V3} {x:V},AD n v=true->bf K ρ H v x->bf K (ρ.cut n) H v x
 | .fn y,x,_,h=>by unfold bf at h ⊢;exact h
 | .d y,x,_,h=>by unfold bf at h ⊢;exact h.bu$ gr n
 | .loc k,x,o,h=>by
   unfold bf at h ⊢;unfold AD at o;obtain⟨a,h1,h2⟩:=h;exact⟨a,by show(ρ.r.take n)[k]? =_;rw [QbB$ Qah o];exact h1,h2⟩
 | .lst vs,x,o,h=>by
   unfold bf at h ⊢;unfold AD at o;obtain⟨a,xs,e,l,r⟩:=h;exact⟨a,xs,e,l.bu$ gr n,aM.cut o r⟩
 | .tup vs,x,o,h=>by
   unfold bf at h ⊢;unfold AD at o;obtain⟨a,xs,e,l,r⟩:=h;exact⟨a,xs,e,xh.bu (gr n) l,aM.cut o r⟩
theorem aM.cut{K:Qdi}{ρ:P3}{n:Nat}:∀{vs:List V3} {xs:List V},rV n vs=true->aM K ρ H vs xs->aM K (ρ.cut n) H vs xs
 | [],_,_,h=>by unfold aM at h ⊢;exact h
 | v ::vs,xs,o,h=>by
   unfold rV at o;obtain⟨o1,o2⟩:=Qa0.mp o;obtain⟨x,r,rfl,h1,h2⟩:=h.cm;exact aM.cons (bf.cut o1 h1)$ aM.cut o2 h2
end
def SW.cut{K:Qdi}{cl:Aag}{ρ:P3}{S:a_}(w:SW K cl ρ H S){n:Nat}(ok:(S.take n).all (yj n)=true):SW K cl (ρ.cut n) H (S.take n):=
 ⟨by show(ρ.r.take n).length=_;rw [QaK,QaK,w.len],λi j a hi hj=>by
   have hi:(ρ.r.take n)[i]? =some a:=hi;have hj:(ρ.r.take n)[j]? =some a:=hj;have gi:ρ.r[i]? =some a:=by
    rw[Qbg] at hi;split at hi
    .exact hi
    .cases hi
   have gj:ρ.r[j]? =some a:=by
    rw[Qbg] at hj;split at hj
    .exact hj
    .cases hj
   exact w.nd i j a gi gj,λk a o hk ho=>by
   have hk:(ρ.r.take n)[k]? =some a:=hk;have gk:ρ.r[k]? =some a:=by
    rw[Qbg] at hk;split at hk
    .exact hk
    .cases hk
   have go:S[k]? =some o:=by
    rw[Qbg] at ho;split at ho
    .exact ho
    .cases ho
   have r:=w.ob k a o gk go;have oo:yj n o=true:=Qa6.mp ok o$ QaD ho;cases o with
   | lst ds=>obtain⟨xs,e,q⟩:=r;exact⟨xs,e,q.bu$ gr n⟩
   | dct aW=>obtain⟨ys,e,e2,q⟩:=r;exact⟨ys,e,e2,q.bu$ gr n⟩
   | dcT aW=>obtain⟨ys,e,e2,q⟩:=r;exact⟨ys,e,e2,q.bu$ gr n⟩
   | ins c fs=>obtain⟨dx,ys,e,e2,q⟩:=r;exact⟨dx,ys,e,e2,q.cut oo⟩
   | exc c=>exact r
   | jU=>exact r,λb hb=>let⟨h1,h2⟩:=w.zb b hb;⟨h1,λh=>h2$ Qbs h⟩,(λk a hk ho=>by
   have hk:(ρ.r.take n)[k]? =some a:=hk;rw[Qbg] at hk;split at hk
   .rename_i hlt;rw[QbB hlt] at ho;exact w.fz k a hk ho
   .cases hk),w.ff,(λk a hk ho=>by
   have hk:(ρ.r.take n)[k]? =some a:=hk;rw[Qbg] at hk;split at hk
   .rename_i hlt;rw[QbB hlt] at ho;exact w.fi k a hk ho
   .cases hk)⟩
def SW.GH{K:Qdi}{cl:Aag}{ρ cq:P3}{n:Nat}(hn:ρ.r.length<=n)(p:Pre ρ H cq H'):Pre ρ H (cq.cut n) H':=
 ⟨p.bu.trans$ gr n,p.zz,p.zs,λk a h=>by show(cq.r.take n)[k]? =_;rw [QbB$ QaC (Qae.mp h).1 hn];exact p.ext k a h⟩
section
variable {X:Cx}{cl:Aag}
noncomputable def dh(S:a_)(k:Nat):Option (List D):=match S[k]? with | some (.lst ds)=>some ds | _=>none
def f6{S:a_}{k:Nat}{ds:List D}(h:dh S k=some ds):S[k]? =some (.lst ds):=by
 unfold dh at h;split at h
 .rename_i e;cases h;exact e
 .cases h
noncomputable def jb(δ:DE)(i:Nat):Option Nat:=match δ[i]? with | some (some$ .loc k)=>some k | _=>none
def pK{δ:DE}{i k:Nat}(h:jb δ i=some k):δ[i]? =some (some$ .loc k):=by
 unfold jb at h;split at h
 .rename_i e;cases h;exact e
 .cases h
def mS(i:Nat)(f:FX):FZ:=λδ S=>match jb δ i with
 | none=> .no
 | some k=>match dh S k with
   | none=> .no
   | some _=>(f δ S).bind λv S1=>match v with
     | .d d=>(match dh S1 k with | some ds=>R3.aS (decide$ ds.length<sizeLine) (.ok (.nx δ)$ S1.set k$ .lst$ ds++[d]) | none=> .no)
     | _=> .no
def kL{i:Nat}{x:Str}{e:Expr}{f:FX}{gY apos cF pos:Pos}(he:PX X cl e f)(hd:(x==("__debug__":Str))=false:=by decide)(sL:(x==("__classdict__":Str))=false:=by decide)(hs:starEach [e] X.env=(false,eval e X.env) ::starEach [] X.env:=by rfl)(n8:(apos.endLine==cF.line)=true:=by rfl)(vX:((backTo cF$ starEach [e] X.env).all (λx=>!x.1) && (backToKw cF$ keywordEach [] X.env).all (λx=>x.1.isSome)
 && decide (([e]:List Expr).length+([]:List Keyword).length+(if([]:List Keyword).isEmpty then 0 else 1)<30))=true:=by rfl) (t9:swapsWith (.Call (.Attribute (.Name x gY) "append" apos) [e] [] cF) none pos.line X.env=pure false:=by rfl) (nY:attributeBase (.Name x gY) "append" X.env (eval (.Name x gY) X.env)=eval (.Name x gY) X.env:=by rfl) (hN:X.N[i]? =some x:=by rfl) (hv:Kk X.env.scope x:=by first | exact Or.inl rfl | exact Or.inr Qdf | exact Or.inr (Or.inr rfl)) :
 PZ X cl (.Expr (.Call (.Attribute (.Name x gY) "append" apos) [e] [] cF) pos) (mS i f):=by
 refine⟨(uf (Ig (X:=X) Qcn Qdd Qde sf (vP hN hv hd sL) (cD he.1 eB hs) nY vX n8 hs) t9).imp λD σ H ⟨ρ,S,δ,o,S',E,hf,q⟩=>?_⟩
 unfold mS at hf;split at hf
 .cases hf
 .rename_i k hk;split at hf
  .cases hf
  .rename_i ds0 h0;obtain⟨v,S1,h1,h2⟩:=R3.aj hf;split at h2
   .rename_i d;split at h2
    .rename_i ds h3;obtain⟨hl,h4⟩:=R3.bh h2;cases h4;obtain⟨u,u1,u2⟩:=E.val i _$ pK hk;unfold bf at u2;obtain⟨a,a1,rfl⟩:=u2;obtain⟨xs0,x0,_⟩:=E.sw.ob k a _ a1$ f6 h0;refine⟨.ref a,u1, .inl ⟨rfl,xs0,pI.of x0⟩,⟨ρ,S,δ, .d d,S1,E,h1,λy cf H1 p1 w1 r1=>?_⟩⟩
     have b1:=p1.ext k a a1;obtain⟨xs,x1,x2⟩:=w1.ob k a _ b1$ f6 h3;refine⟨a,xs,y,rfl,rfl,x1,by rw[<-x2.length];exact Qah hl,?_⟩
     unfold bf at r1;obtain⟨w2,p2⟩:=w1.put (o:= .lst$ ds++[d]) (u:= .lst$ xs++[y]) b1 (w1.fz k a b1$ by rw[f6 h3];intro h;cases h) ⟨xs++[y],rfl,x2.append$ aI.cons r1 aI.nil⟩
     exact q σ cf _ (p1.trans p2)$ E.to (p1.trans p2) w2
    .cases h2
   .cases h2
def KR(fo fi fe:FX):FZ:=λδ S=>(fe δ S).bind λv S1=>(fo δ S1).bind λo S2=>(fi δ S2).bind λj S3=>match v,o,j with
 | .d d, .loc k, .d (.int n)=>(match dh S3 k with
   | some ds=>(match Dh ds.length n with | some m=> .ok (.nx δ) (S3.set k$ .lst$ ds.set m d) | none=> .no)
   | none=> .no)
 | _,_,_=> .no
def Ih(K:Qdi)(cl:Aag)(n:Nat)(g:List V3->a_->R3 V3):Sp:=λvs H Q _=>vs.length=n/\∃ρ S xs v S',SW K cl ρ H S/\aM K ρ H xs vs/\g xs S= .ok v S'/\∀u cq H',Pre ρ H cq H'->SW K cl cq H' S'->bf K cq H' v u->Q u H'
def fU(g:List V3->a_->R3 V3)(fs:FA):FX:=λδ S=>(fs δ S).bind g
def cX(P:Program)(w:World)(K:Qdi)(mg:Aaf)(base:Heap)(cl:Aag)(k:Nat)(x:Str)(n:Nat)(g:List V3->a_->R3 V3):Prop:=
 ∃(f:Addr) (fd:FuncData) (ps:List Str),ip P w K mg base u7 k f fd ps (Ih K cl n g)/\mg x=some (.ref f)/\PySem.W.keepIn K (.ref f)=true/\Binds K fd ps []
def eK{g:List V3->a_->R3 V3}{k j n:Nat}{p pos:Pos}(C:cX X.prog X.w X.K X.mg X.base cl k x n g)(ha:KY X cl (e ::es) fs)(oi:(x==("__debug__":Str))=false:=by decide)(he:starEach (e ::es) X.env=(false,eval e X.env) ::starEach es X.env:=by rfl)(hJ:(backTo pos$ starEach es X.env).any (·.1)=false:=by rfl)(hr:dZ j X.A:=by assumption)(hkj:k<=j:=by decide)(hg:Gl X x:=by rfl)(hn:∀δ S ds S',fs δ S= .ok ds S'->ds.length=n:=by(repeat apply cj);exact dR) :
 PX X cl (.Call (.Name x p) (e ::es) [] pos) (fU g fs):=by
 obtain⟨f,fd,ps,F,hm,hk,hb⟩:=C;refine⟨(uu F (hr.mono hkj) hg hm hk hb .nil Am ha.1 oi he hJ).imp λσ H Q ⟨ρ,S,δ,v,S',E,hf,q⟩=>?_⟩
 obtain⟨vs,S1,h1,h2⟩:=R3.aj hf;refine⟨ρ,S,δ,vs,S1,E,h1,λus cf H1 p1 w1 r1=>?_⟩
 show Ih X.K cl n g (us++[]) H1 Q E0;rw[Qbc];exact⟨by rw[<-r1.length];exact hn δ S vs S1 h1,cf,S1,vs,v,S',w1,r1,h2,λz qg H2 p2 w2 r2=>q z qg H2 (p1.trans p2) w2 r2⟩
end
noncomputable def df(N:List Str)(vs:List V3):DE:=vs.map some++List.replicate (N.length - vs.length) none
def Aq{K:Qdi}{cl:Aag}{S:a_}{N:List Str}{ds:List V3}{vs:List V}(w:SW K cl ρ H S)(r:aM K ρ H ds vs):eV K cl ρ H S (L2.start N vs) (df N ds) where
 len:=by unfold L2.start df;simp [r.length]
 sw:=w
 val:=λi d e=>by
  unfold df at e;unfold L2.start;by_cases hi:i<ds.length
  .rw [Qaz (by simpa using hi),Qaf] at e
   cases q:ds[i]? with
   | none=>rw [q] at e;cases e
   | some d'=>
     rw[q] at e;cases e;obtain⟨x,h1,h2⟩:=r.get q;exact⟨x,by rw[Qaz (by rw[Qaa,<-r.length];exact hi),Qaf,h1];rfl,h2⟩
  .rw [Qal (by simpa using hi),QaV] at e
   split at e <;> cases e
def qj(N:List Str)(F:FZ):List V3->a_->R3 V3:=λvs S=>(F (df N vs) S).bind λo S'=>match o with | .rt v=> .ok v S' | .nx _=> .ok (.d .cI) S'
def u9(N:List Str)(F:FZ):List V3->a_->R3 V3:=λvs S=>(qj N F vs S).bind λv S'=>match res S' v with
 | some d=>R3.aS ((S'.take S.length).all (yj S.length) && jf S.length v)$ .ok (.d d)$ S'.take S.length
 | none=> .no
def KS{P:Program}{w:World}{K:Qdi}{mg:Aaf}{base:Heap}{cl:Aag}{x qual:Str}{st:Stmt}{f:Addr}{fd:FuncData}{N ps:List Str}{k:Nat}{F:FZ}(Fn:BQ K x qual st f fd)(S:bj N ps (aD st))
 (fH:∀(fL:Value) (A:Around) (outer:List Env) (s:Qdj) (H:Hp) (E:XK),dZ k (A.deeper$ envOfC qual (aD st) s.heap.objs.size f fL)->
   DD (lV u7 P w K mg base N qual (aD st) f fL A outer s H E).JA cl (aP st) F):ip P w K mg base u7 (k+1) f fd ps (Ih K cl ps.length$ qj N F):=by
 refine Fn.ok S (λvs H Q E h=>h.1)$ λfL A outer s H vs Q E hr h=>⟨_,(fH fL A outer s H E hr).1,?_⟩
 obtain⟨_,ρ,S,ds,v,S',w,r,hg,q⟩:=h;obtain⟨o,S1,h1,h2⟩:=R3.aj hg;refine⟨ρ,S,df N ds,o,S1,Aq w r,h1,?_⟩;cases o with
 | nx d5=>
   cases h2;exact λc9 cq H' p' E'=>q _ cq H' p' E'.sw (by unfold bf Rep;rfl)
 | rt d'=>
   cases h2;exact λu cq H' p' w' r'=>q u cq H' p' w' r'
def Cb{K:Qdi}{cl:Aag}{N:List Str}{n:Nat}{vs:List V}{Q:VK}{E:XK}(h:Ih K cl n (u9 N F) vs H Q E):Ih K cl n (qj N F) vs H Q E:=by
 obtain⟨hl,ρ,S,xs,v,S',w,r,hg,q⟩:=h;obtain⟨v1,S1,h1,h2⟩:=R3.aj hg;refine⟨hl,ρ,S,xs,v1,S1,w,r,h1,λu cf H1 p1 w1 r1=>?_⟩
 have pc:Pre ρ H (cf.cut S.length) H1:=SW.GH (K:=K) (cl:=cl) (by rw[w.len];exact Qai _) p1
 split at h2
 .rename_i d e;obtain⟨ok,h3⟩:=R3.bh h2;obtain⟨ok,hk⟩:=Qa0.mp ok;cases h3;refine q u _ H1 pc (w1.cut ok) ?_;unfold bf;refine r1.resB w1 (gr _) (λk a hk a1 ha=>?_) hk e
  rcases P3.dU.mp ha with⟨z,_⟩ | z
  .obtain⟨j,hj⟩:=Qb6 z;have hj:(cf.r.take S.length)[j]? =some a:=hj;rw[Qbg] at hj;split at hj
   .rename_i hjl;have:=w1.nd j k a hj a1;omega
   .cases hj
  .exact(w1.zb a z).2 (QaD a1)
 .cases h2
end L3
end
section
namespace L3
open PySem PySem.Spec PyProof.Rows L2
theorem aI.setAt{K:Qdi}{ρ:P3}:∀{ds:List D} {xs:List V} {m:Nat} {d:D} {v:V},aI K ρ.b H ds xs->Rep K ρ.b H d v->aI K ρ.b H (ds.set m d) (xs.set m v)
 | [],_,_,_,_,h,_=>by unfold aI at h;subst h;exact aI.nil
 | e ::ds,xs,0,d,v,h,r=>by
   obtain⟨x,r',rfl,h1,h2⟩:=h.cm;exact aI.cons r h2
 | e ::ds,xs,m+1,d,v,h,r=>by
   obtain⟨x,r',rfl,h1,h2⟩:=h.cm;exact aI.cons h1$ aI.setAt h2 r
section
variable {X:Cx}{cl:Aag}
def Jh{o i e:Expr}{fo fi fe:FX}{ix pos:Pos}(he:PX X cl e fe)
 (hg:PG X (.Subscript o i ix) (Tg (tX X.K cl fo) (tX X.K cl fi) NH))
 (hs:swapsWithSole [.Subscript o i ix] e pos.line X.env=pure false:=by rfl) (hw:swappedStores [.Subscript o i ix] e X.env=pure none:=by rfl)
 (h1:(assignEach [.Subscript o i ix] X.env).map (·.2)=[assign (.Subscript o i ix) X.env]:=by rfl):PZ X cl (.Assign [.Subscript o i ix] e pos) (KR fo fi fe):=⟨(Px he.1 hg hs hw h1).imp λD σ H ⟨ρ,S,δ,ou,S',E,hf,q⟩=>by
 obtain⟨v,S1,h1,h2⟩:=R3.aj hf;obtain⟨vo,S2,h3,h4⟩:=R3.aj h2;obtain⟨vi,S3,h5,h6⟩:=R3.aj h4;split at h6
 .rename_i d k n;split at h6
  .rename_i ds hds;split at h6
   .rename_i m hm;cases h6;refine⟨ρ,S,δ, .d d,S1,E,h1,λu cf H1 p1 w1 r1=>⟨cf,S1,δ, .loc k,S2,E.to p1 w1,h3,λu2 qg H2 p2 w2 r2=>⟨qg,S2,δ, .d$ .int n,S3,(E.to p1 w1).to p2 w2,h5,λu3 MM H3 p3 w3 r3=>?_⟩⟩⟩
    unfold bf at r2;obtain⟨a,a1,rfl⟩:=r2;have a3:=p3.ext k a a1;obtain⟨xs,x1,x2⟩:=w3.ob k a _ a3$ f6 hds;unfold bf Rep at r3;have t8:=r1.pre$ p2.trans p3;unfold bf at t8;obtain⟨w4,p4⟩:=w3.put (o:= .lst$ ds.set m d) (u:= .lst$ xs.set m u) a3 (w3.fz k a a3$ by rw[f6 hds];intro h;cases h) ⟨xs.set m u,rfl,aI.setAt x2 t8⟩
    exact⟨a,xs,n,m,rfl,r3,x1,by rw[<-x2.length];exact hm,q σ MM _ (((p1.trans p2).trans p3).trans p4)$ E.to (((p1.trans p2).trans p3).trans p4) w4⟩
   .cases h6
  .cases h6
 .cases h6⟩
noncomputable def kX(δ:DE)(i:Nat):Option V3:=match δ[i]? with | some (some v)=>some v | _=>none
def oU(own:List Str)(kp:List Nat)(δ:DE):DE:=List.replicate own.length none++kp.map (kX δ)
def KO{K:Qdi}{S S':a_}{σ:L2.St}{δ:DE}{own:List Str}{kp:List Nat}(E:eV K cl ρ H S σ δ)(p:PW ρ H cq H')(w:SW K cl cq H' S'):eV K cl cq H' S' (dN own kp σ) (oU own kp δ) where
 len:=by unfold dN oU;simp
 sw:=w
 val:=λi d e=>by
  unfold oU at e;unfold dN;by_cases hi:i<own.length
  .rw [Qaz (by simpa using hi),QaV] at e
   split at e <;> cases e
  .rw [Qal (by simpa using hi),QaJ,Qaf] at e ⊢
   cases q:kp[i - own.length]? with
   | none=>rw [q] at e;cases e
   | some j=>
     rw[q] at e;have e:kX δ j=some d:=QaS e;unfold kX at e;split at e
     .rename_i d' ed;cases e;obtain⟨v,h1,h2⟩:=E.val j d ed;exact⟨v,by simp [h1],h2.pw p⟩
     .cases e
noncomputable def ny(t:FG)(c:FB)(f:FX)(δ:DE):List V3->a_->R3 (List V3)
 | [],S=> .ok [] S
 | v ::vs,S=>match t v δ with
   | none=> .no
   | some c_=>(c c_ S).bind λb S1=>if b then(f c_ S1).bind λy S2=>(ny t c f δ vs S2).bind λys S3=> .ok (y ::ys) S3 else ny t c f δ vs S1
def ni(it:FA)(t:FG)(c:FB)(f:FX)(own:List Str)(kp:List Nat):FX:=λδ S=>(it δ S).bind λvs S1=>R3.aS (decide$ vs.length<=sizeLine)$ (ny t c f (oU own kp δ) vs S1).bind λys S2=> .ok (wW ys) S2
theorem aM.append{K:Qdi}:∀{ds es:List V3} {xs ys:List V},aM K ρ H ds xs->aM K ρ H es ys->aM K ρ H (ds++es) (xs++ys)
 | [],_,_,_,h,t=>by unfold aM at h;subst h;exact t
 | d ::ds,es,xs,ys,h,t=>by
   obtain⟨x,r,rfl,h1,h2⟩:=h.cm;exact aM.cons h1$ aM.append h2 t
def DH{K:Qdi}{own:List Str}{kp:List Nat}{σ:L2.St}{Q:VK}(h:tX K cl (ni it t c f own kp) σ H Q) :
 Dj (Y0 K cl it) (gX K cl t) (Np K cl c) (tX K cl f) own kp σ H Q:=by
 obtain⟨ρ,S,δ,v,SF,E,hf,q⟩:=h;obtain⟨es,S1,h1,h2⟩:=R3.aj hf;obtain⟨hl,h3⟩:=R3.bh h2;have hl:=Qah hl;obtain⟨vs,S2,h4,h5⟩:=R3.aj h3;cases h5;refine⟨ρ,S,δ,es,S1,E,h1,λJ cf H1 p1 w1 ir Dd hD=>?_⟩
 have nDz:Dd ∉ cf.b:=λhb=>by obtain⟨o,ho⟩:=w1.bs Dd hb;rw [hD] at ho;cases ho
 have nDr:Dd ∉ cf.r:=λhb=>by obtain⟨o,ho⟩:=w1.rs Dd hb;rw [hD] at ho;cases ho
 have toZ:∀{r' f':List Addr} {H':Hp},Pre cf H1 ⟨r',cf.z,f'⟩ H'->PW cf H1 ⟨r',Dd ::cf.z,f'⟩ H':=fun {r' f' H'} p=>⟨λb o e nb=>⟨(p.bu b o e nb).1,λhb=>by
  rcases P3.dU.mp hb with z | z
  .exact(p.bu b o e nb).2 (P3.dU.mpr$ .inl z)
  .rcases Qaw.mp z with y | y
   .exact bJ e hD y
   .exact(p.bu b o e nb).2 (P3.dU.mpr$ .inr y)⟩,p.ext⟩
 have w0:SW K cl ⟨cf.r,Dd ::cf.z,cf.f⟩ (upd H1 Dd$ .lst []) S1:=by
  have s0:aY H1 (upd H1 Dd$ .lst []):=aN hD;have ws:=w1.same s0;refine⟨ws.len,ws.nd,λk a o hk ho=>?_,λb hb=>?_,ws.fz,ws.ff,ws.fi⟩
  .have r:=w1.ob k a o hk ho;obtain⟨u,hu⟩:=r.some;rw[s0 a u hu,<-hu];exact r.pw$ toZ$ Pre.same s0
  .rcases Qaw.mp hb with y | y
   .subst y;exact⟨⟨_,aU⟩,nDr⟩
   .exact ws.zb b y
 refine⟨λi m ys H'=>m=es.length - i/\i<=es.length/\ys.length<=i/\H' Dd=some (.lst ys)/\∃r' f' S' done rest,Pre cf H1 ⟨r',cf.z,f'⟩ H'/\SW K cl ⟨r',Dd ::cf.z,f'⟩ H' S'/\vs=done++rest/\aM K ⟨r',Dd ::cf.z,f'⟩ H' done ys/\ny t c f (oU own kp δ) (es.drop i) S'= .ok rest SF,
  ⟨es.length,rfl,Qbf _,Qai _,aU,cf.r,cf.f,S1,[],vs,Pre.same$ aN hD,w0,rfl,aM.nil,by simpa using h4⟩,?_⟩
 rintro i m ys H' ⟨rfl,hi,hy,hDl,r',f',S',done,rest,pv,w',rfl,rd,hc⟩;obtain⟨go,stop⟩:=ir ⟨r',Dd ::cf.z,f'⟩ H' (toZ pv) w'.bs;have unZ:∀{NI:P3} {H4:Hp},Pre ⟨r',Dd ::cf.z,f'⟩ H' NI H4->Pre cf H1 ⟨NI.r,cf.z,NI.f⟩ H4:=fun {NI H4} p4=>⟨λb o e nb=>by
  obtain⟨e1,n1⟩:=(toZ pv).bu b o e nb;obtain⟨je,n2⟩:=p4.bu b o e1 n1;refine⟨je,λhb=>n2 ?_⟩
  rcases P3.dU.mp hb with z | z
  .exact P3.dU.mpr (.inl z)
  .exact P3.dU.mpr (.inr$ by rw[p4.zz];exact Qag _ z),rfl,λb o hb h=>p4.zs b o (Qag _ hb)$ pv.zs b o hb h,λk a h=>p4.ext k a$ pv.ext k a h⟩
 by_cases hlt:i<es.length
 .have hd:es[i]? =some es[i]:=Qad hlt;have hdrop:es.drop i=es[i] ::es.drop (i+1):=QbA hlt;rw[hdrop] at hc;unfold ny at hc;split at hc
  .cases hc
  .rename_i c_ h6;obtain⟨b,T1,h7,h8⟩:=R3.aj hc;obtain⟨g1,g2⟩:=go i _ hd;refine .inr ⟨g1,λx H2 y=>?_⟩
   obtain⟨sy,ry⟩:=g2 x H2 y;have Ec:eV K cl ⟨r',Dd ::cf.z,f'⟩ H2 S' (dN own kp σ) (oU own kp δ):=KO E (p1.pw.trans$ (toZ pv).trans (Pre.same sy).pw)$ w'.same sy;refine⟨⟨r',Dd ::cf.z,f'⟩,S',oU own kp δ,es[i],c_,Ec,ry,h6,λMU H3 s3 E3=>⟨⟨r',Dd ::cf.z,f'⟩,S',c_,b,T1,E3,h7,λNI H4 p4 w4=>?_⟩⟩
   have Uc:Pre ⟨r',Dd ::cf.z,f'⟩ H' NI H4:=(Pre.same$ sy.trans s3).trans p4;cases b with
   | true=>
     rw[QaG rfl] at h8;refine HE ?_;obtain⟨yv,T2,h9,Xb⟩:=R3.aj h8;obtain⟨rs,T3,Xn,h12⟩:=R3.aj Xb;cases h12;refine⟨NI,T1,c_,yv,T2,E3.to p4 w4,h9,λv5 Zk H5 p5 w5 r5=>?_⟩
     have pv5:Pre ⟨r',Dd ::cf.z,f'⟩ H' Zk H5:=Uc.trans p5;have XD:H5 Dd=some (.lst ys):=pv5.zs Dd _ Qat hDl;have u5:=unZ pv5;obtain⟨UQ,z5,f5⟩:=Zk;have ez:z5=Dd ::cf.z:=pv5.zz;subst ez;have nr:Dd ∉ UQ:=(w5.zb Dd Qat).2;have pw:PW ⟨UQ,Dd ::cf.z,f5⟩ H5 ⟨UQ,Dd ::cf.z,f5⟩ (upd H5 Dd$ .lst$ ys++[v5]):=⟨λb o e nb=>⟨by rw[bg$ λ(z:b=Dd)=>nb$ by rw[z];exact P3.dU.mpr$ .inr Qat];exact e,nb⟩,λ_ _ h=>h⟩
     refine⟨XD,by omega,es.length - (i+1),by omega,rfl,hlt,by rw[Qau,QcA];omega,aU,UQ,f5,T2,done++[yv],rs,?_,?_,by simp,aM.append ((rd.pre pv5).pw pw)$ aM.cons (r5.pw pw) aM.nil,Xn⟩
     .refine⟨λb o e nb=>⟨by rw[bg$ bJ e hD];exact(u5.bu b o e nb).1,(u5.bu b o e nb).2⟩,rfl,λb o hb h=>?_,u5.ext⟩
      rw[bg$ bJ h hD];exact u5.zs b o hb h
     .refine⟨w5.len,w5.nd,λk a o hk ho=>?_,λb hb=>?_,w5.fz,λb hb=>?_,w5.fi⟩
      .have ne:a≠Dd:=λz=>nr (by rw[<-z];exact QaD hk)
       rw[bg ne];exact(w5.ob k a o hk ho).pw pw
      .obtain⟨⟨o,ho⟩,n⟩:=w5.zb b hb;refine⟨?_,n⟩;by_cases z:b=Dd
       .subst z;exact⟨_,aU⟩
       .rw [bg z];exact⟨o,ho⟩
      .obtain⟨o,ho⟩:=w5.ff b hb;by_cases z:b=Dd
       .subst z;exact⟨_,aU⟩
       .rw [bg z];exact⟨o,ho⟩
   | false=>
     rw[QaA$ by decide] at h8
     refine Iz ?_;have hD4:H4 Dd=some (.lst ys):=Uc.zs Dd _ Qat hDl;have u4:=unZ Uc;obtain⟨r4',z4,f4⟩:=NI;have ez:z4=Dd ::cf.z:=Uc.zz;subst ez;exact⟨es.length - (i+1),by omega,rfl,hlt,by omega,hD4,r4',f4,T1,done,rest,u4,w4,rfl,rd.pre Uc,h8⟩
 .have e:i=es.length:=by omega
  subst e;rw[Qcx] at hc;cases hc;rw[Qbc] at q;refine .inl ⟨stop,?_⟩;have back:PW ⟨r',Dd ::cf.z,f'⟩ H' ⟨r',cf.z,f'⟩ H':=⟨λb o e nb=>⟨e,λhb=>nb (by
   rcases P3.dU.mp hb with z | z
   .exact P3.dU.mpr (.inl z)
   .exact P3.dU.mpr (.inr$ Qag _ z))⟩,λ_ _ h=>h⟩
  have wB:SW K cl ⟨r',cf.z,f'⟩ H' _:=⟨w'.len,w'.nd,λk a o hk ho=>(w'.ob k a o hk ho).pw back,λb hb=>w'.zb b$ Qag _ hb,w'.fz,w'.ff,w'.fi⟩
  refine q _ ⟨r',cf.z,f'⟩ H' (p1.trans pv) wB$ Fs (.inl ⟨λhb=>?_, .inl hDl⟩)$ rd.pw back
  rcases P3.dU.mp hb with z | z
  .exact(w'.zb Dd Qat).2 z.1
  .exact nDz (P3.dU.mpr$ .inr z)
end
section
variable {X:Cx}{cl:Aag}
def yL{own:List Str}{kp:List Nat}{pos:Pos}(hi:Rj X cl tg iter it)(hg:∀fp s H,Rf (bw X scope (own++(ji kp X.N)) fp s H) cl tg t)(wM:∀fp s H,pW (bw X scope (own++(ji kp X.N)) fp s H) ifs$ Np X.K cl c)(he:∀fp s H,PX (bw X scope (own++(ji kp X.N)) fp s H) cl elt f)(hs:∀x,foldedSetIterable iter X.env x=pure x:=by intro _;rfl)(hc:X.calm=true:=by rfl)(C:eF X scope own kp (ji kp X.N):=by exact Rh (by kernel_rfl)):PX X cl (.ListComp elt [⟨tg,iter,ifs,0⟩] scope pos) (ni it t c f own kp):=
 ⟨(CY hc C hi.1 (λfp s H=>(hg fp s H).1) wM (λfp s H=>(he fp s H).1) hs).imp λσ H Q h=>DH h⟩
noncomputable def F6:FB:=λ_ S=> .ok true S
def oG:pW X [] (Np X.K cl F6):=λpins s σ H Q I ⟨ρ,S,δ,b,S',E,hf,q⟩=>AE pins s σ H Q I (by cases hf;exact q ρ H (Pre.refl ρ H) E.sw)
def zA(h:DQ X cl e c):pW X [e] (Np X.K cl c):=A9 h.1
def JR{K:Qdi}{i:Nat}{D:Ends}{σ:L2.St}(h:sX K cl (cU i f) D σ H):EX (tX K cl f) (vS i) D σ H:=by
 obtain⟨ρ,S,δ,o,S',E,hf,q⟩:=h;obtain⟨v,S1,h1,h2⟩:=R3.aj hf;obtain⟨hi,h3⟩:=R3.bh h2;cases h3;refine⟨ρ,S,δ,v,_,E,h1,λu cf H1 p1 w1 r1=>?_⟩
 exact q _ cf H1 p1 ((E.to p1 w1).set (by rw[<-E.len];exact Qah hi) r1)
def pL{i:Nat}{pos' ix:Pos}{own:List Str}{kp:List Nat}(hi:Rj X cl tg iter it)(hg:∀fp s H,Rf (bw X scope (own++(ji kp X.N)) fp s H) cl tg t)(wM:∀fp s H,pW (bw X scope (own++(ji kp X.N)) fp s H) ifs$ Np X.K cl c)(he:∀fp s H,PX (bw X scope (own++(ji kp X.N)) fp s H) cl elt f)(t9:swapsWith (.ListComp elt [⟨tg,iter,ifs,0⟩] scope pos) (some$ .Name x pos') ix.line X.env=pure true:=by rfl)(hs:∀x,foldedSetIterable iter X.env x=pure x:=by intro _;rfl)(hc:X.calm=true:=by rfl)(hN:X.N.Nodup:=by first | assumption | exact Kb (by kernel_rfl))(hx:X.N[i]? =some x:=by rfl)(Ep:X.env.scope.names.lookup x=some .local:=by rfl)(C:eF X scope own kp (ji kp X.N):=by exact Rh (by kernel_rfl)):PZ X cl (.Assign [.Name x pos'] (.ListComp elt [⟨tg,iter,ifs,0⟩] scope pos) ix) (cU i$ ni it t c f own kp):=
 ⟨(l3 hc hN hx Ep C hi.1 (λfp s H=>(hg fp s H).1) wM (λfp s H=>(he fp s H).1) t9 hs).imp λD σ H h=>DH$ JR h⟩
def xAl(g:FA):FX:=λδ S=>(g δ S).bind λvs S1=>match qK vs with
 | some ds=>R3.aS (decide$ ds.length<=sizeLine)$ .ok (.loc S1.length)$ S1++[.lst ds]
 | none=> .no
end
section
def sj(g:List D->R D)(fs:FA):FX:=λδ S=>(fs δ S).bind λvs S1=>match qK vs with
 | some ds=>(R3.of (g ds) S1).bind λd S=> .ok (.d d) S
 | none=> .no
def xIf(c:FB)(f g:FX):FX:=λδ S=>(c δ S).bind λb S=>if b then f δ S else g δ S
def dR:∀(δ:DE) (S:a_) (ds:List V3) (S':a_),eO δ S= .ok ds S'->ds.length=0:=λδ S ds S' h=>by cases h;rfl
def cj{g:FA}{n:Nat}(h:∀(δ:DE) (S:a_) (ds:List V3) (S':a_),g δ S= .ok ds S'->ds.length=n):∀(δ:DE) (S:a_) (ds:List V3) (S':a_),bx f g δ S= .ok ds S'->ds.length=n+1:=λδ S ds S' e=>by
 obtain⟨v,S1,h1,h2⟩:=R3.aj e;obtain⟨vs,S2,h3,h4⟩:=R3.aj h2;cases h4;rw[QaB,h δ S1 vs _ h3]
end
def wQ{K:Qdi}{ds:List V3}{xs:List V}{i:Int}{d:V3}(r:aM K ρ H ds xs)(h:vz ds i=some d):∃x,vz xs i=some x/\bf K ρ H d x:=by
 unfold vz at h ⊢;rw[<-r.length];cases e:Dh ds.length i with
 | none=>rw [e] at h;cases h
 | some j=>
   rw[e] at h;exact r.get h
section
variable {X:Cx}{cl:Aag}
def SD(fa fb:FX):FX:=λδ S=>(fa δ S).bind λa S1=>(fb δ S1).bind λb S2=>match a,b with
 | .d x, .d y=>(R3.of (cb x y) S2).bind λd S=> .ok (.d d) S
 | .lst vs, .d (.int i)=>(match vz vs i with | some v=> .ok v S2 | none=> .no)
 | .tup vs, .d (.int i)=>(match vz vs i with | some v=> .ok v S2 | none=> .no)
 | _,_=> .no
def Nw(ha:PX X cl a fa)(hb:PX X cl b fb)(hs:uv b):PX X cl (.Subscript a b pos) (SD fa fb):=by
 refine⟨(Nh (r:=Vd X.K) Ho ha.1 hb.1 hs).imp λσ H Q ⟨ρ,S,δ,v,S',E,hf,q⟩=>?_⟩
 obtain⟨v1,S1,h1,h2⟩:=R3.aj hf;obtain⟨v2,S2,h3,h4⟩:=R3.aj h2;refine⟨ρ,S,δ,v1,S1,E,h1,λu1 cf H1 p1 w1 r1=>⟨cf,S1,δ,v2,S2,E.to p1 w1,h3,λu2 qg H2 p2 w2 r2=>?_⟩⟩
 have t8:=r1.pre p2;have T4:=p1.trans p2;split at h4
 .rename_i x y;obtain⟨d,S3,h5,h6⟩:=R3.aj h4;obtain⟨h7,e7⟩:=R3.of_ok h5;cases h6;subst e7;unfold bf at t8 r2;unfold cb at h7;split at h7
  .split at h7
   .rename_i e;cases h7;obtain⟨p,xs,rfl,l,rs⟩:=Rep.lst.mp t8;obtain⟨y,e1,e2⟩:=qU rs e;exact .inl ⟨p,xs,_,y,rfl,Rep.int.mp r2,l.sq,e1,q y qg H2 T4 w2$ by unfold bf;exact e2⟩
   .cases h7
  .split at h7
   .rename_i e;cases h7;obtain⟨p,xs,rfl,l,rs⟩:=Rep.tup.mp t8;obtain⟨y,e1,e2⟩:=qU rs e;exact .inr (.inl ⟨p,xs,_,y,rfl,Rep.int.mp r2,l.sq,e1,q y qg H2 T4 w2$ by unfold bf;exact e2⟩)
   .cases h7
  .obtain⟨hl,h8⟩:=R.bh h7;split at h8
   .rename_i e;cases h8;exact .inr (.inr ⟨_,_,_,Rep.str.mp t8,Rep.int.mp r2,Qah hl,e,q _ qg H2 T4 w2$ by unfold bf;exact Rep.str.mpr rfl⟩)
   .cases h8
  .cases h7
 .split at h4
  .rename_i e;cases h4;unfold bf at t8 r2;obtain⟨p,xs,rfl,l,rs⟩:=t8;obtain⟨y,e1,e2⟩:=wQ rs e;exact .inl ⟨p,xs,_,y,rfl,Rep.int.mp r2,l.sq,e1,q y qg H2 T4 w2 e2⟩
  .cases h4
 .split at h4
  .rename_i e;cases h4;unfold bf at t8 r2;obtain⟨p,xs,rfl,l,rs⟩:=t8;obtain⟨y,e1,e2⟩:=wQ rs e;exact .inr$ .inl ⟨p,xs,_,y,rfl,Rep.int.mp r2,l.sq,e1,q y qg H2 T4 w2 e2⟩
  .cases h4
 .cases h4
end
section
variable {X:Cx}{cl:Aag}
structure Kn (X:Cx) (cl:Aag) (e:Expr) (f:FB):Prop where
 go:L2.PW X e (Np X.K cl f)
def Kn.pb(h:Kn X cl e f):DQ X cl e f:=⟨L2.PW.pt h.1⟩
def SY(f g:FB):FB:=λδ S=>(f δ S).bind λb S=>if b then g δ S else .ok false S
def Yq(f g:FB):FB:=λδ S=>(f δ S).bind λb S=>if b then .ok true S else g δ S
def L4(f:FB):FB:=λδ S=>(f δ S).bind λb S=> .ok (!b) S
def Im(h:DQ X cl a f):Kn X cl (.BoolOp .And [a] pos) f:=⟨KH h.1⟩
def KU(h:DQ X cl a f):Kn X cl (.BoolOp .Or [a] pos) f:=⟨GW h.1⟩
def Le{rest:List Expr}(ha:DQ X cl a f)(hb:Kn X cl (.BoolOp .And (b ::rest) pos) g):Kn X cl (.BoolOp .And (a ::b ::rest) pos) (SY f g):=⟨by
 intro wh pins s σ H Q I ⟨ρ,S,δ,k,S',E,hf,q⟩;refine Py ha.1 hb.1 wh pins s σ H Q I ?_;obtain⟨c,S1,h1,h2⟩:=R3.aj hf;refine⟨ρ,S,δ,c,S1,E,h1,λcf H1 p1 w1=>?_⟩
 cases c with
 | true=>rw [QaG rfl] at h2 ⊢;exact⟨cf,S1,δ,k,S',E.to p1 w1,h2,λqg H' p2 w2=>q qg H' (p1.trans p2) w2⟩
 | false=>rw [QaA$ by decide] at h2 ⊢;cases h2;exact q cf H1 p1 w1⟩
def P1{rest:List Expr}(ha:DQ X cl a f)(hb:Kn X cl (.BoolOp .Or (b ::rest) pos) g):Kn X cl (.BoolOp .Or (a ::b ::rest) pos) (Yq f g):=⟨by
 intro wh pins s σ H Q I ⟨ρ,S,δ,k,S',E,hf,q⟩;refine Nd ha.1 hb.1 wh pins s σ H Q I ?_;obtain⟨c,S1,h1,h2⟩:=R3.aj hf;refine⟨ρ,S,δ,c,S1,E,h1,λcf H1 p1 w1=>?_⟩
 cases c with
 | true=>rw [QaG rfl] at h2 ⊢;cases h2;exact q cf H1 p1 w1
 | false=>rw [QaA$ by decide] at h2 ⊢;exact⟨cf,S1,δ,k,S',E.to p1 w1,h2,λqg H' p2 w2=>q qg H' (p1.trans p2) w2⟩⟩
def DN(ha:DQ X cl a f):DQ X cl (.UnaryOp .Not a pos) (L4 f):=⟨(JJ ha.1).imp λσ H Q ⟨ρ,S,δ,k,S',E,hf,q⟩=>by
 obtain⟨c,S1,h1,h2⟩:=R3.aj hf;cases h2;exact⟨ρ,S,δ,c,_,E,h1,λcf H1 p1 w1=>q cf H1 p1 w1⟩⟩
def BH(f:FX):FB:=λδ S=>(f δ S).bind λv S=>match v with | .d d=>R3.of (Lq d) S | _=> .no
def MC(ha:PX X cl a f)(ht:∀{t:TE},PE X a t->PT X a (λσ H Q=>t σ H λx H'=>∃b,LV X.K x H' b/\Q b H')):DQ X cl a (BH f):=
 ⟨(ht ha.1).imp λσ H Q ⟨ρ,S,δ,b,S',E,hf,q⟩=>by
   obtain⟨v,S1,h1,h2⟩:=R3.aj hf;split at h2
   .rename_i d;obtain⟨h3,e3⟩:=R3.of_ok h2;subst e3;exact⟨ρ,S,δ, .d d,_,E,h1,λu cf H1 p1 w1 r1=>⟨b,Iu (by unfold bf at r1;exact r1) h3,q cf H1 p1 w1⟩⟩
   .cases h2⟩
abbrev Ra:=DE->a_->R3 (Option Int)
def tOX(K:Qdi)(cl:Aag)(f:Ra):TO:=λσ H Q=>∃ρ S δ o S',eV K cl ρ H S σ δ/\f δ S= .ok o S'/\∀cq H',Pre ρ H cq H'->SW K cl cq H' S'->Q o H'
structure PXO (X:Cx) (cl:Aag) (e:Option Expr) (f:Ra):Prop where
 go:PO X e (tOX X.K cl f)
noncomputable def U3:Ra:=λ_ S=> .ok none S
def U0(f:FX):Ra:=λδ S=>(f δ S).bind λv S=>match v with | .d (.int i)=> .ok (some i) S | _=> .no
def xSl(f:FX)(fl fh:Ra):FX:=λδ S=>(f δ S).bind λv S1=>(fl δ S1).bind λlo S2=>(fh δ S2).bind λhi S3=>match v with
 | .d d=>(R3.of (N_ d lo hi) S3).bind λr S=> .ok (.d r) S
 | _=> .no
end
end L3
end
section
namespace L2
open PySem PySem.Spec PyProof.Rows
section
variable {X:Cx}
noncomputable def nH(t T:String):Bool:=t==T || (t=="bool" && T=="int")
def nK{K:Qdi}(t T:String)(ht:t∈["NoneType","bool","int","str","list","tuple"])(hT:T∈["bool","int","str","list","tuple"]):PySem.W.kitOne K (.type t) (.type T)=some (nH t T):=by
 simp only[Qaw,Qb7,or_false] at ht hT;rcases ht with rfl | rfl | rfl | rfl | rfl | rfl <;> rcases hT with rfl | rfl | rfl | rfl | rfl <;> rfl
def Hs(T:String)(f:FD):FD:=λδ=>(f δ).bind λd=>match d with | .dct _ _=> .no | _=> .ok$ .bl$ nH (tyName d) T
def x8{T:Str}{Ts:String}{p p2 pos:Pos}{e:Expr}{f:FD}(he:QD X e f)(hT:Ts∈["bool","int","str","list","tuple"])(hg:Gl X "isinstance")(hm:X.mg "isinstance"=none)(Xd:Gl X T)(WS:X.mg T=none)(W5:bootBuiltins T=some (.type Ts))(Xw:T≠"__name__":=by decide)(Xf:(T==("__debug__":Str))=false:=by decide)
 (hs:starEach [e, .Name T p2] X.env=(false,eval e X.env) ::starEach [.Name T p2] X.env:=by rfl) (hJ:(backTo pos$ starEach [.Name T p2] X.env).any (·.1)=false:=by rfl):QD X (.Call (.Name "isinstance" p) [e, .Name T p2] [] pos) (Hs Ts f):=by
 have hc:iU X (.builtin "isinstance") (λxs H Q=>∃B d x,Rep X.K B H d x/\(∀a b,d≠ .dct a b)/\xs=[x, .ty Ts]/\Q (.bl$ nH (tyName d) Ts) H):=by
  intro pins s σ H xs us Q I r h;obtain⟨B,d,x,rd,ha,rfl,q⟩:=h;obtain⟨u,w',rfl,ru,xO⟩:=vals2 r;cases xO;have fin:∀tk,EP X pins σ Q (.bool$ nH (tyName d) Ts) {s with toks:=tk}:=λtk=>⟨.bl _,H,I.tok _,rfl,q⟩
  cases d with
  | cI=>exact oy I ru (by rw[Rep.cI.mp rd];exact .cI) (nK "NoneType" Ts (by decide) hT) fin
  | bl b=>exact oy I ru (by rw[Rep.bl.mp rd];exact .bl b) (nK "bool" Ts (by decide) hT) fin
  | int i=>exact oy I ru (by rw[Rep.int.mp rd];exact .int i) (nK "int" Ts (by decide) hT) fin
  | str z=>exact oy I ru (by rw[Rep.str.mp rd];exact .str z) (nK "str" Ts (by decide) hT) fin
  | lst es=>
    obtain⟨a,ys,rfl,l,_⟩:=Rep.lst.mp rd;cases(show u=Value.ref a from ru)
    obtain⟨t_,n2,r2,h1,z2⟩:=I.DA l;exact Qa4 Qco I.pz ⟨_,h1,rfl⟩ (nK "list" Ts (by decide) hT) (λz=>nomatch z) fin
  | tup es=>
    obtain⟨a,ys,rfl,l,_⟩:=Rep.tup.mp rd;cases(show u=Value.ref a from ru)
    obtain⟨its,rv,p,hz⟩:=I.tuple l.sq;obtain⟨o,h1,h2,_⟩:=p;exact Qa4 QcY I.pz ⟨o,h1,h2⟩ (nK "tuple" Ts (by decide) hT) (λz=>nomatch z) fin
  | dct a b=>exact absurd rfl$ ha a b
 refine⟨(nD hc hg hm QcI (cD he.1 (cD (uc (v:= .ty Ts) Xd WS W5 rfl Xw Xf) eB) hs) (by decide) (by decide) hs hJ).imp λσ H Q ⟨Z,B,δ,d,E,hf,q⟩=>?_⟩
 obtain⟨d1,h1,h2⟩:=R.aj hf;have key:(∀a b,d1≠ .dct a b)/\d= .bl (nH (tyName d1) Ts):=by
  cases d1 with
  | dct a b=>cases h2
  | _=>cases h2;exact⟨λ_ _ z=>(by cases z),rfl⟩
 obtain⟨k1,rfl⟩:=key;exact⟨Z,B,δ,d1,E,h1,λv H1 s1 r1=>⟨B,d1,v,r1,k1,rfl,q _ H1 s1$ Rep.bl.mpr rfl⟩⟩
def nList(f:FD):av->R (List D):=λδ=>(f δ).bind λd=>match d with | .lst ds=> .ok ds | .tup ds=> .ok ds | _=> .no
end
end L2
namespace L3
open PySem PySem.Spec PyProof.Rows L2
def nU{P:Program}{w:World}{K:Qdi}{mg:Aaf}{base:Heap}{cl:Aag}{x qual:Str}{st:Stmt}{f:Addr}{fd:FuncData}{N ps:List Str}{k:Nat}{F:FZ}{b:List Stmt}{sc:Scope}(hb:aP st=b)(hs:aD st=sc)(Fn:BQ K x qual st f fd)(S:bj N ps sc)
 (fH:∀(fL:Value) (A:Around) (outer:List Env) (s:Qdj) (H:Hp) (E:XK),dZ k (A.deeper$ envOfC qual sc s.heap.objs.size f fL)->
   DD (lV u7 P w K mg base N qual sc f fL A outer s H E).JA cl b F):ip P w K mg base u7 (k+1) f fd ps (Ih K cl ps.length$ qj N F):=by
 subst hb hs;exact KS Fn S fH
def Km{K:Qdi}{mg:Aaf}{cl:Aag}{st:Stmt}{N ps:List Str}{k:Nat}(h:Def K mg x st)(hb:aP st=b)(hs:aD st=sc)(S:bj N ps sc)(fH:∀(f:Addr) (fL:Value) (A:Around) (outer:List Env) (s:Qdj) (H:Hp) (E:XK),dZ k (A.deeper$ envOfC x sc s.heap.objs.size f fL)->N.Nodup->DD (lV u7 P w K mg base N x sc f fL A outer s H E).JA cl b F)(bd:∀(kV doc pm:Value) (an:Option Addr) (fL ct:Value) (us:List Value),us.length=ps.length->bindArgs (PySem.W.fnOf x x (iK st) (aP st) (aD st) .none kV doc pm an fL ct) ⟨us,[]⟩=pure (ps.zip us):=by intro _ _ _ _ _ _ us hl;rcases us with _ | ⟨_,_ | ⟨_,_ | ⟨_,_ | ⟨_,_ | ⟨_,_ | ⟨_,_ | ⟨_,_⟩⟩⟩⟩⟩⟩⟩ <;> first | (simp at hl;done) | rfl):cX P w K mg base cl (k+1) x ps.length (qj N F):=by
 obtain⟨f,fd,F,hm⟩:=h;exact⟨f,fd,_,nU hb hs F S (λfL A outer s H E hr=>fH f fL A outer s H E hr S.nd),hm,F.kp,F.binds bd⟩
def cX.p{K:Qdi}{mg:Aaf}{cl:Aag}{k:Nat}{n:Nat}{N:List Str}(C:cX P w K mg base cl k x n (qj N F)):cX P w K mg base cl k x n (u9 N F):=
 let⟨f,fd,ps,F,h⟩:=C;⟨f,fd,ps,F.imp λ_ _ _ _ h=>Cb h,h⟩
def U_(N:List Str)(F:FZ):List D->R D:=λds=>match u9 N F (ds.map .d) [] with
 | .ok (.d d) []=>R.aS d.atom$ .ok d
 | _=> .no
def Oe{K:Qdi}{cl:Aag}{N:List Str}{n:Nat}{vs:List V}{Q:VK}{E:XK}(h:HA K n (U_ N F) vs H Q E):Ih K cl n (qj N F) vs H Q E:=by
 obtain⟨hl,B,ds,d,hb,r,hg,q⟩:=h;unfold U_ at hg;split at hg
 .rename_i d' e;obtain⟨ha,h2⟩:=R.bh hg;cases h2;have r0:aI K (⟨[],[],[]⟩:P3).b H ds vs:=r.bu λb o e _=>⟨e,by simp [P3.b]⟩
  refine Cb ⟨hl,⟨[],[],[]⟩,[],ds.map .d, .d d,[],⟨rfl,λi j a hi=>by simp at hi,λk a o hk=>by simp at hk,λb hb=>by simp at hb,λk a hk=>by simp at hk,λb hb=>by simp at hb,λk a hk=>by simp at hk⟩,aM.of r0,e,λu cq H' p w' r'=>q u H' (λb o eb=>?_) ?_⟩
  .exact(p.bu b o eb$ by simp [P3.b]).1
  .unfold bf at r';exact r'.atom ha
 .cases hg
section
variable {X:Cx}{cl:Aag}
def qE{a:Expr}(ha:PX X cl a f)(he:∀whole,isTrue a X.env whole=(do let v <-whole;standAt a.pos;holding [v] (truthy v)):=by intro _;rfl):DQ X cl a (BH f):=MC ha λh=>Au h he
def qL{g:List D->R D}{k j n:Nat}{x:Str}{p pos:Pos}{e:Expr}{es:List Expr}{fs:FA}(C:Callee X.prog X.w X.K X.mg X.base k x n g)(hr:dZ j X.A)(hkj:k<=j)(hg:Gl X x)(ha:KY X cl (e ::es) fs)
 (hn:∀δ S ds S',fs δ S= .ok ds S'->ds.length=n) (oi:(x==("__debug__":Str))=false:=by decide) (he:starEach (e ::es) X.env=(false,eval e X.env) ::starEach es X.env:=by rfl) (hJ:(backTo pos$ starEach es X.env).any (·.1)=false:=by rfl) :
 PX X cl (.Call (.Name x p) (e ::es) [] pos) (sj g fs):=by
 obtain⟨f,fd,ps,F,hm,hk,hb⟩:=C;refine⟨(uu F (hr.mono hkj) hg hm hk hb .nil Am ha.1 oi he hJ).imp λσ H Q ⟨ρ,S,δ,v,S',E,hf,q⟩=>?_⟩
 obtain⟨vs,S1,h1,h2⟩:=R3.aj hf;split at h2
 .rename_i ds e;obtain⟨d,S2,h3,h4⟩:=R3.aj h2;obtain⟨h5,e5⟩:=R3.of_ok h3;cases h4;subst e5;refine⟨ρ,S,δ,vs,_,E,h1,λus cf H1 p1 w1 r1=>?_⟩
  have hl:=hn δ S vs _ h1;rw[lP e] at r1;show HA X.K n g (us++[]) H1 Q E0;rw[Qbc];exact⟨by rw[<-r1.length,<-lP e];exact hl,cf.b,ds,d,w1.bs,r1.to,h5,λz H' s r=>q z cf H' (p1.trans$ Pre.same s) (w1.same s)$ by unfold bf;exact r⟩
 .cases h2
def VI(f:FX):FA:=λδ S=>(f δ S).bind λv S=>match v with | .d (.tup ds)=> .ok (ds.map .d) S | .tup vs=> .ok vs S | _=> .no
end
def W3{α:Type}(r:R3 α)(Q:α->a_->Prop):Prop:=∃a S,r= .ok a S/\Q a S
section
variable {α β:Type}{Q Q':α->a_->Prop}{S:a_}
def W3.ok{a:α}(h:Q a S):W3 (.ok a S) Q:=⟨a,S,rfl,h⟩
def W3.bind{Q:β->a_->Prop}{r:R3 α}{f:α->a_->R3 β}(h:W3 r λa S=>W3 (f a S) Q):W3 (r.bind f) Q:=by
 obtain⟨a,S1,e1,b,S2,h2,q⟩:=h;exact⟨b,S2,by rw[e1];exact h2,q⟩
def W3.mono{r:R3 α}(h:W3 r Q)(m:∀a S,Q a S->Q' a S):W3 r Q':=let⟨a,S,e,q⟩:=h;⟨a,S,e,m a S q⟩
def W3.wh{c:Bool}{r:R3 α}(hc:c=true)(h:W3 r Q):W3 (R3.aS c r) Q:=by rw[hc];exact h
def W3.of{r:R α}{a:α}(e:r= .ok a)(h:Q a S):W3 (R3.of r S) Q:=by rw[e];exact⟨a,S,rfl,h⟩
end
section
variable {S:a_}{δ:DE}{QV:V3->a_->Prop}{QB:Bool->a_->Prop}{QA:List V3->a_->Prop}{QO:Ou->a_->Prop}
def dt{f:FD}{d:D}(e:f (down δ)= .ok d)(h:QV (.d d) S):W3 (xP f δ S) QV:=W3.bind$ W3.of e$ W3.ok h
def MX{f:FD}{d:D}(e:f (eG S δ)= .ok d)(ha:zP d=true)(h:QV (.d d) S):W3 (xT f δ S) QV:=W3.bind$ W3.of e$ W3.wh ha$ W3.ok h
def pO{f:av->R Bool}{b:Bool}(e:f (down δ)= .ok b)(h:QB b S):W3 (bP f δ S) QB:=W3.of e h
def w_var{i:Nat}{v:V3}(e:δ[i]? =some (some v))(h:QV v S):W3 (fw i δ S) QV:=by unfold fw;rw [e];exact W3.ok h
def nc{f:av->R (List D)}{ds:List D}(e:f (down δ)= .ok ds)(h:QV (.loc S.length) (S++[.lst ds])):W3 (pB f δ S) QV:=W3.bind$ W3.of e$ W3.ok h
def dH(h:QA [] S):W3 (eO δ S) QA:=W3.ok h
def aZ{f:FX}{g:FA}(h:W3 (f δ S) λv S1=>W3 (g δ S1) λvs S2=>QA (v ::vs) S2):W3 (bx f g δ S) QA:=W3.bind$ h.mono λ_ _ h=>W3.bind$ h.mono λ_ _ h=>W3.ok h
def JE{g:FA}(h:W3 (g δ S) λvs S1=>vs.length<=sizeLine/\QV (DP vs) S1):W3 (HZ g δ S) QV:=W3.bind$ h.mono λ_ _ h=>W3.wh (Qan h.1)$ W3.ok h.2
def X9{g:D->D->R D}{fa fb:FX}(h:W3 (fa δ S) λa S1=>W3 (fb δ S1) λb S2=>∃x y d,a= .d x/\b= .d y/\g x y= .ok d/\QV (.d d) S2):W3 (x2 g fa fb δ S) QV:=
 W3.bind (h.mono λ_ _ h=>W3.bind$ h.mono λ_ _ ⟨_,_,_,e1,e2,e3,q⟩=>by subst e1 e2;exact W3.bind$ W3.of e3$ W3.ok q)
def Vn{g:D->D->R D}{fa fb:FX}(h:W3 (fa δ S) λa S1=>W3 (fb δ S1) λb S2=>∃x y k,a= .d x/\b= .d y/\g x y= .ok (.bl k)/\QB k S2):W3 (Vh g fa fb δ S) QB:=
 W3.bind (X9$ h.mono λ_ _ h=>h.mono λ_ _ ⟨x,y,k,e1,e2,e3,q⟩=>⟨x,y, .bl k,e1,e2,e3,W3.ok q⟩)
def Wk{fa fb:FX}(h:W3 (fa δ S) λa S1=>W3 (fb δ S1) λb S2=>∃x y d,a= .d x/\b= .d y/\cb x y= .ok d/\QV (.d d) S2):W3 (SD fa fb δ S) QV:=
 W3.bind (h.mono λ_ _ h=>W3.bind$ h.mono λ_ _ ⟨_,_,_,e1,e2,e3,q⟩=>by subst e1 e2;exact W3.bind$ W3.of e3$ W3.ok q)
def fJ{g:List V3->a_->R3 V3}{fs:FA}(h:W3 (fs δ S) λvs S1=>W3 (g vs S1) QV):W3 (fU g fs δ S) QV:=W3.bind h
def ug{g:List D->R D}{fs:FA}(h:W3 (fs δ S) λvs S1=>∃ds d,vs=ds.map .d/\g ds= .ok d/\QV (.d d) S1):W3 (sj g fs δ S) QV:=
 W3.bind (h.mono λ_ _ ⟨ds,_,e1,e2,q⟩=>by subst e1;rw [u_];exact W3.bind$ W3.of e2$ W3.ok q)
def P4{it:FA}{own:List Str}{kp:List Nat}(h:W3 (it δ S) λvs S1=>vs.length<=sizeLine/\W3 (ny t c f (oU own kp δ) vs S1) λys S2=>QV (wW ys) S2):W3 (ni it t c f own kp δ S) QV:=
 W3.bind (h.mono λ_ _ h=>W3.wh (Qan h.1)$ W3.bind$ h.2.mono λ_ _ h=>W3.ok h)
def Dy{f:FX}(h:W3 (f δ S) λv S1=>∃d b,v= .d d/\Lq d= .ok b/\QB b S1):W3 (BH f δ S) QB:=W3.bind (h.mono λ_ _ ⟨_,_,e,e2,q⟩=>by subst e;exact W3.of e2 q)
def w_not{f:FB}(h:W3 (f δ S) λb S1=>QB (!b) S1):W3 (L4 f δ S) QB:=W3.bind$ h.mono λ_ _ h=>W3.ok h
def bt{F G:FZ}(h:W3 (F δ S) λo S1=>∃c_,o= .nx c_/\W3 (G c_ S1) QO):W3 (bN F G δ S) QO:=W3.bind (h.mono λ_ _ ⟨_,e,h⟩=>by subst e;exact h)
def Qb{F G:FZ}(h:W3 (F δ S) λo S1=>∃v,o= .rt v/\QO (.rt v) S1):W3 (bN F G δ S) QO:=W3.bind (h.mono λ_ _ ⟨_,e,h⟩=>by subst e;exact W3.ok h)
def bY{i:Nat}{f:FX}(hi:i<δ.length)(h:W3 (f δ S) λv S1=>QO (.nx$ δ.set i$ some v) S1):W3 (cU i f δ S) QO:=W3.bind$ h.mono λ_ _ h=>W3.wh (Qan hi)$ W3.ok h
def g9{f:FX}(h:W3 (f δ S) λv S1=>QO (.rt v) S1):W3 (i7 f δ S) QO:=W3.bind$ h.mono λ_ _ h=>W3.ok h
def p9{c:FB}{F G:FZ}(h:W3 (c δ S) λb S1=>if b then W3 (F δ S1) QO else W3 (G δ S1) QO):W3 (yu c F G δ S) QO:=W3.bind (h.mono λb _ h=>by cases b <;> exact h)
def f_(h:QO (.nx δ) S):W3 (mV δ S) QO:=W3.ok h
def jT{f:av->R (List D)}{ds:List D}(e:f (down δ)= .ok ds)(h:QA (ds.map .d) S):W3 (iP f δ S) QA:=W3.bind$ W3.of e$ W3.ok h
def Oc{f:FX}(h:W3 (f δ S) λv S1=>∃n:Nat,v= .d (.int n)/\n<1000000/\QA ((jj 0 n).map .d) S1):W3 (Ak f δ S) QA:=W3.bind (h.mono λ_ _ ⟨n,e,hn,q⟩=>by
 subst e;refine W3.wh (Qan ⟨by omega,by omega⟩)$ W3.ok ?_
 rw[Qbu];exact q)
def KD{f:FX}(h:W3 (f δ S) λv S1=>∃ds,v= .d (.lst ds)/\QA (ds.map .d) S1):W3 (O2 f δ S) QA:=W3.bind (h.mono λ_ _ ⟨n,e,q⟩=>by subst e;exact W3.ok q)
def g_{it:FA}(h:W3 (it δ S) λvs S1=>W3 (nG t F vs δ S1) QO):W3 (lU it t F δ S) QO:=W3.bind h
def o_{i k:Nat}{f:FX}(hk:δ[i]? =some (some$ .loc k))(h0:∃ds,S[k]? =some (.lst ds))(h:W3 (f δ S) λv S1=>∃d ds,v= .d d/\S1[k]? =some (.lst ds)/\ds.length<sizeLine/\QO (.nx δ) (S1.set k$ .lst$ ds++[d])):W3 (mS i f δ S) QO:=by
 obtain⟨es,h0⟩:=h0;unfold mS;have e1:jb δ i=some k:=by unfold jb;rw [hk]
 have e2:dh S k=some es:=by unfold dh;simp only[h0]
 rw[e1];show W3 (match dh S k with | none=>_ | some _=>_) _
 rw[e2];refine W3.bind$ h.mono λv S1 ⟨d,ds,e,h1,hl,q⟩=>?_
 subst e;have e3:dh S1 k=some ds:=by unfold dh;simp only[h1]
 show W3 (match dh S1 k with | some ds=>_ | none=>_) _
 rw[e3];exact W3.wh (Qan hl)$ W3.ok q
def ND{fo fi fe:FX}(h:W3 (fe δ S) λv S1=>W3 (fo δ S1) λo S2=>W3 (fi δ S2) λj S3=>∃d k n ds m,v= .d d/\o= .loc k/\j= .d (.int n)/\S3[k]? =some (.lst ds)/\Dh ds.length n=some m/\QO (.nx δ) (S3.set k$ .lst$ ds.set m d)):W3 (KR fo fi fe δ S) QO:=
 W3.bind (h.mono λ_ _ h=>W3.bind (h.mono λ_ _ h=>W3.bind (h.mono λ_ S3 ⟨d,k,n,ds,m,e1,e2,e3,h1,h2,q⟩=>by
  subst e1 e2 e3;have e3:dh S3 k=some ds:=by unfold dh;simp only[h1]
  show W3 (match dh S3 k with | some ds=>_ | none=>_) _
  rw[e3];show W3 (match Dh ds.length n with | some m=>_ | none=>_) _
  rw[h2];exact W3.ok q)))
def uC{t:FG}{body:FZ}:∀(vs:List V3) (n:Nat) (P:Nat->DE->a_->Prop) {δ:DE} {S:a_},P n δ S->
 (∀i v δ S,vs[i]? =some v->P (n+i) δ S->∃c_,t v δ=some c_/\W3 (body c_ S) λo S1=>∃du,o= .nx du/\P (n+i+1) du S1)->W3 (nG t body vs δ S) λo S1=>∃du,o= .nx du/\P (n+vs.length) du S1
 | [],n,P,δ,S,h0,_=>W3.ok ⟨δ,rfl,h0⟩
 | v ::vs,n,P,δ,S,h0,hs=>by
   obtain⟨c_,e1,o,S1,e2,du,rfl,p2⟩:=hs 0 v δ S rfl h0;have ih:=uC vs (n+1) P p2 (λi v' d5 S' hi hp=>by
    have:=hs (i+1) v' d5 S' (by simpa using hi) (by rw[show n+(i+1)=n+1+i by omega];exact hp)
    rw[show n+(i+1)+1=n+1+i+1 by omega] at this
    exact this)
   rw[show n+1+vs.length=n+(v ::vs).length by rw[QaB];omega] at ih
   unfold nG;rw[e1];refine W3.bind ⟨_,_,e2,?_⟩;exact ih
def dc{t:FG}{body:FZ}{vs:List V3}(P:Nat->DE->a_->Prop){δ:DE}{S:a_}(h0:P 0 δ S)
 (hs:∀i v δ S,vs[i]? =some v->P i δ S->∃c_,t v δ=some c_/\W3 (body c_ S) λo S1=>∃du,o= .nx du/\P (i+1) du S1):W3 (nG t body vs δ S) λo S1=>∃du,o= .nx du/\P vs.length du S1:=by
 have:=uC (t:=t) (body:=body) vs 0 P h0 (λi v δ S hi hp=>by simpa using hs i v δ S hi (by simpa using hp))
 simpa using this
def va{t:FG}{c:FB}{f:FX}{δ:DE}:∀(vs:List V3) (n:Nat) (P:Nat->List V3->a_->Prop) {ys:List V3} {S:a_},P n ys S->
 (∀i v ys S,vs[i]? =some v->P (n+i) ys S->∃c_,t v δ=some c_/\W3 (c c_ S) λb S1=>if b then W3 (f c_ S1) λy S2=>P (n+i+1) (ys++[y]) S2 else P (n+i+1) ys S1)->W3 (ny t c f δ vs S) λzs S1=>P (n+vs.length) (ys++zs) S1
 | [],n,P,ys,S,h0,_=>W3.ok (by rw[Qbc];exact h0)
 | v ::vs,n,P,ys,S,h0,hs=>by
   obtain⟨c_,e1,b,S1,e2,h2⟩:=hs 0 v ys S rfl h0;have ih:∀{Ua S'},P (n+1) Ua S'->W3 (ny t c f δ vs S') λzs S1=>P (n+(v ::vs).length) (Ua++zs) S1:=fun {Ua S'} p=>by
    have:=va (t:=t) (c:=c) (f:=f) (δ:=δ) vs (n+1) P p (λi v' Ua S' hi hp=>by
     have:=hs (i+1) v' Ua S' (by simpa using hi) (by rw[show n+(i+1)=n+1+i by omega];exact hp)
     rw[show n+(i+1)+1=n+1+i+1 by omega] at this
     exact this)
    rw[show n+1+vs.length=n+(v ::vs).length by rw[QaB];omega] at this
    exact this
   unfold ny;rw[e1];refine W3.bind ⟨b,S1,e2,?_⟩;cases b with
   | true=>
     rw[QaG rfl] at h2 ⊢;exact W3.bind (h2.mono λy S2 p=>W3.bind$ (ih p).mono λzs S3 q=>W3.ok$ by rw[QaR] at q;exact q)
   | false=>rw [QaA$ by decide] at h2 ⊢;exact ih h2
def Ey{t:FG}{c:FB}{f:FX}{δ:DE}{vs:List V3}(P:Nat->List V3->a_->Prop){S:a_}(h0:P 0 [] S)
 (hs:∀i v ys S,vs[i]? =some v->P i ys S->∃c_,t v δ=some c_/\W3 (c c_ S) λb S1=>if b then W3 (f c_ S1) λy S2=>P (i+1) (ys++[y]) S2 else P (i+1) ys S1):W3 (ny t c f δ vs S) λzs S1=>P vs.length zs S1:=by
 have:=va (t:=t) (c:=c) (f:=f) (δ:=δ) vs 0 P h0 (λi v ys S hi hp=>by simpa using hs i v ys S hi (by simpa using hp))
 simpa using this
def D_{QB:Bool->a_->Prop}(h:QB true S):W3 (F6 δ S) QB:=W3.ok h
def DX{N:List Str}{F:FZ}{vs:List V3}{δ:DE}(e:df N vs=δ)(h:W3 (F δ S) λo S1=>∃v,o= .rt v/\QV v S1):W3 (qj N F vs S) QV:=by
 subst e;exact W3.bind (h.mono λ_ _ ⟨_,e,q⟩=>by subst e;exact W3.ok q)
def XY(S:a_):Prop:=∀o∈S,∃ds,o=SO.lst ds
end
section
variable {S:a_}{δ:DE}{QV:V3->a_->Prop}
def oA{it:FA}{t:FG}{c:FB}{f:FX}{own:List Str}{kp:List Nat}(P:Nat->List D->a_->Prop)(h:W3 (it δ S) λvs S1=>vs.length<=sizeLine/\P 0 [] S1/\
 (∀i v ds S2,vs[i]? =some v->P i ds S2->∃c_,t v (oU own kp δ)=some c_/\W3 (c c_ S2) λb S3=>if b then W3 (f c_ S3) λy S4=>∃d,y= .d d/\P (i+1) (ds++[d]) S4 else P (i+1) ds S3)/\
 ∀ds S2,P vs.length ds S2->QV (.d$ .lst ds) S2):W3 (ni it t c f own kp δ S) QV:=by
 refine P4$ h.mono λvs S1 ⟨hl,h0,hs,hq⟩=>⟨hl,?_⟩
 refine(Ey (λi ys S=>∃ds,ys=ds.map V3.d/\P i ds S) ⟨[],rfl,h0⟩ ?_).mono λzs S2 ⟨ds,e,p⟩=>?_
 .rintro i v ys S2 hv ⟨ds,rfl,p⟩;obtain⟨c_,e1,h1⟩:=hs i v ds S2 hv p;refine⟨c_,e1,h1.mono λb S3 h3=>?_⟩
  cases b with
  | true=>
    rw[QaG rfl] at h3 ⊢;exact h3.mono λy S4 ⟨d,e,p⟩=>by subst e;exact⟨ds++[d],by simp,p⟩
  | false=>rw [QaA$ by decide] at h3 ⊢;exact⟨ds,rfl,h3⟩
 .subst e;unfold wW;rw[u_];exact hq ds S2 p
structure fF (n:Nat) (d:D):Prop where
 pl:d6 d=true
 ly:(toPy d).canLay0=true
 dp:(toPy d).depth<=n
def fF.int(i:Int):fF 0 (.int i):=⟨by unfold d6;rfl,by unfold toPy PyData.canLay0;rfl,by unfold toPy PyData.depth;omega⟩
def fF.bl(b:Bool):fF 0 (.bl b):=⟨by unfold d6;rfl,by unfold toPy PyData.canLay0;rfl,by unfold toPy PyData.depth;omega⟩
def fF.str(h:(PyData.str s).canLay0=true):fF 0 (.str s):=⟨by unfold d6;rfl,by unfold toPy;exact h,by unfold toPy PyData.depth;omega⟩
def fF.mono{n m:Nat}{d:D}(h:fF n d)(hm:n<=m):fF m d:=⟨h.pl,h.ly,QaP h.dp hm⟩
theorem fF.all{n:Nat}:∀{ds:List D},(∀d∈ds,fF n d)->jX ds=true/\PyData.canLayAll0 (mR ds)=true/\PyData.depthAll (mR ds)<=n
 | [],_=>⟨by unfold jX;rfl,by unfold mR PyData.canLayAll0;rfl,by unfold mR PyData.depthAll;omega⟩
 | d ::ds,h=>by
   obtain⟨h1,h2,h3⟩:=fF.all (ds:=ds) λx hx=>h x$ Qag _ hx
   have f:=h d Qat;refine⟨by unfold jX;rw [f.pl,h1];rfl,by unfold mR PyData.canLayAll0;rw [f.ly,h2];rfl,?_⟩
   unfold mR PyData.depthAll;have:=f.dp;omega
def fF.lst{n:Nat}{ds:List D}(h:∀d∈ds,fF n d):fF (n+1) (.lst ds):=by
 obtain⟨h1,h2,h3⟩:=fF.all h;exact⟨by unfold d6;exact h1,by unfold toPy PyData.canLay0;exact h2,by unfold toPy PyData.depth;omega⟩
def fF.tup{n:Nat}{ds:List D}(h:∀d∈ds,fF n d):fF (n+1) (.tup ds):=by
 obtain⟨h1,h2,h3⟩:=fF.all h;exact⟨by unfold d6;exact h1,by unfold toPy PyData.canLay0;exact h2,by unfold toPy PyData.depth;omega⟩
def fF.sh{n:Nat}{d:D}(h:fF n d)(hn:n<=64):SeqAt.shaped (toPy d)=true:=by
 unfold SeqAt.shaped;rw[h.ly,Qan$ QaP h.dp hn];rfl
def O_{d e:List D}:Gp (.lst d) (.lst e)=R.aS (d6 (.lst d) && d6 (.lst e) && SeqAt.shaped (toPy$ .lst d) && SeqAt.shaped (toPy$ .lst e)) (.ok$ PyData.eqv (toPy$ .lst d)$ toPy$ .lst e):=rfl
def NQ{d e:List D}:Gp (.tup d) (.tup e)=R.aS (d6 (.tup d) && d6 (.tup e) && SeqAt.shaped (toPy$ .tup d) && SeqAt.shaped (toPy$ .tup e)) (.ok$ PyData.eqv (toPy$ .tup d)$ toPy$ .tup e):=rfl
def fF.eqT{n:Nat}{ds:List D}(h:fF n (.tup ds))(hn:n<=64):Gp (.tup ds) (.tup ds)= .ok true:=by
 rw[NQ,h.pl,h.sh hn,SeqAt.eqv_refl _ h.ly];rfl
end
end L3
end
section
namespace L2
open PySem PySem.Spec PyProof.Rows
section
variable {X:Cx}
noncomputable def Nx:D->Bool | .cI=>true | _=>false
def dIs(d e:D):R D:=match e with | .cI=> .ok (.bl$ Nx d) | _=> .no
def aaS(d e:D):R D:=match e with | .cI=> .ok (.bl$ !Nx d) | _=> .no
def FF:iU X (.type "int") (λxs H Q=>∃x n,xs=[.str x]/\PySem.intText? x=some n/\x.length<=640/\Q (.int n) H):=by
 intro pins s σ H xs us Q I r h;obtain⟨x,n,rfl,h1,h2,q⟩:=h;obtain⟨u,rfl,ru⟩:=vals1 r;obtain⟨t,rfl⟩:=ru;exact PySem.W.KIN.call_text h1 h2 ⟨.int n,H,I.tok _,⟨_,rfl⟩,q⟩
def IL:List D->R D
 | [.str x]=>R.aS (decide$ x.length<=640)$ match PySem.intText? x with | some n=> .ok (.int n) | none=> .no
 | _=> .no
def OV:cT X (.type "int") IL:=cT.of FF λB H ds d xs Q _ rs hg q=>by
 unfold IL at hg;split at hg
 .obtain⟨h1,h2⟩:=R.bh hg;split at h2
  .rename_i e;cases h2;obtain⟨x,rfl,r⟩:=rs.one;exact⟨_,_,by rw[Rep.str.mp r],e,Qah h1,q _ H (aY.refl H)$ Rep.int.mpr rfl⟩
  .cases h2
 .cases hg
def rj(ds:List D):R D:=match ds with | [.str _]=>IL ds | _=>cInt ds
def uF:cT X (.type "int") rj:=cT.or OV RU λa d h=>by
 unfold rj at h;split at h
 .exact .inl h
 .exact .inr h
def Sn(f:FD):FD:=λδ=>(f δ).bind λd=>match d with | .int i=> .ok (.int (-i)) | _=> .no
def Kx(h:QD X a f):QD X (.UnaryOp .USub a pos) (Sn f):=⟨(To Ph h.1).imp λσ H Q ⟨Z,B,δ,d,E,hf,q⟩=>by
 obtain⟨d1,h1,h2⟩:=R.aj hf;split at h2
 .cases h2;exact⟨Z,B,δ,_,E,h1,λv H1 s1 r1=>⟨_,Rep.int.mp r1,q _ H1 s1$ Rep.int.mpr rfl⟩⟩
 .cases h2⟩
noncomputable def YM(d:D)(ds:List D):R D:=match d,ds with
 | .str x,[.str y]=> .ok$ .int$ Txt.find x y
 | _,_=> .no
noncomputable def aat(aW:List (Str × Str)):D:= .dct (aW.map λp=>Sum.inr p.1) (aW.map λp=> .str p.2)
noncomputable def kvV(aW:List (Str × Str)):List (Key × V):=aW.map λp=>((Sum.inr p.1:Key),V.str p.2)
noncomputable def aaD(d k:D):R D:=match d,k with
 | .dct ks ds, .str x=>(match (ks.zip ds).find? λp=>decide (p.1=Sum.inr x) with | some p=> .ok p.2 | none=> .no)
 | _,_=> .no
end
def Nl{K:Qdi}{mg:Aaf}{k n:Nat}{f:Addr}{fd:FuncData}{ps:List Str}:ip P w K mg base u7 k f fd ps (HA K n λ_=> .no):=
 ⟨λvs H Q E h=>(by obtain⟨_,_,_,_,_,_,h,_⟩:=h;cases h),λA outer s H args us vs Q E _ _ _ _ h=>(by obtain⟨_,_,_,_,_,_,h,_⟩:=h;cases h)⟩
end L2
namespace L3
open PySem PySem.Spec PyProof.Rows L2
section
variable {X:Cx}{cl:Aag}
def VX(f:FX):FB:=λδ S=>(f δ S).bind λv S=>match v with | .d (.bl b)=> .ok b S | _=> .no
def ON{f:FX}{δ:DE}{S S':a_}{b:Bool}(h:VX f δ S= .ok b S'):f δ S= .ok (.d$ .bl b) S':=by
 obtain⟨v,S1,h1,h2⟩:=R3.aj h;split at h2
 .cases h2;exact h1
 .cases h2
def LC(f g:FX):FX:=λδ S=>(VX f δ S).bind λb S=>if b then g δ S else .ok (.d$ .bl false) S
def xOr(f g:FX):FX:=λδ S=>(VX f δ S).bind λb S=>if b then .ok (.d$ .bl true) S else g δ S
def Od{op}(h:PX X cl a f):PX X cl (.BoolOp op [a] pos) f:=⟨Hy h.1⟩
def Hb{rest:List Expr}(ha:PX X cl a f)(hb:PX X cl (.BoolOp .And (b ::rest) pos) g):PX X cl (.BoolOp .And (a ::b ::rest) pos) (LC f g):=⟨(GD ha.1 hb.1).imp λσ H Q ⟨ρ,S,δ,k,S',E,hf,q⟩=>by
 obtain⟨c,S1,h1,h2⟩:=R3.aj hf;refine⟨ρ,S,δ, .d$ .bl c,S1,E,ON h1,λv cf H1 p1 w1 r1=>⟨c,by unfold bf Rep at r1;exact r1,?_⟩⟩
 cases c with
 | true=>rw [QaG rfl] at h2 ⊢;exact⟨cf,S1,δ,k,S',E.to p1 w1,h2,λv qg H' p2 w2 r2=>q v qg H' (p1.trans p2) w2 r2⟩
 | false=>rw [QaA$ by decide] at h2 ⊢;cases h2;exact q _ cf H1 p1 w1$ by unfold bf Rep;rfl⟩
def w_and{f g:FX}{δ:DE}{S:a_}{Q:V3->a_->Prop}(h:W3 (f δ S) λv S1=>v= .d (.bl true)/\W3 (g δ S1) Q):W3 (LC f g δ S) Q:=W3.bind (W3.bind$ h.mono λv S1 ⟨e,h2⟩=>by subst e;exact W3.ok$ by rw[QaG rfl];exact h2)
def AA(i:Nat)(F:FZ):FZ:=λδ S=>match jb δ i with
 | some k=>(match dh S k with | some ds=>F (δ.set i$ some$ .d$ .lst ds) (S.set k .jU) | none=> .no)
 | none=> .no
def yi(i:Nat)(h:DD X cl NK F):DD X cl NK (AA i F):=⟨h.1.imp λD σ H ⟨ρ,S,δ,o,S',E,hf,q⟩=>by
 unfold AA at hf;split at hf
 .rename_i k hk;split at hf
  .rename_i ds hds;obtain⟨v,v1,v2⟩:=E.val i _$ pK hk;unfold bf at v2;obtain⟨a,a1,rfl⟩:=v2;obtain⟨w,p,r⟩:=E.sw.jU a1$ f6 hds;have E1:eV X.K cl ⟨ρ.r,ρ.z,a ::ρ.f⟩ H (S.set k .jU) σ (δ.set i$ some$ .d$ .lst ds):=⟨by rw[QaT];exact E.len,w,λj d e=>by
    by_cases h:i=j
    .subst h;rw[Qaq (by obtain⟨h1,_⟩:=Qae.mp$ pK hk;exact h1)] at e
     cases e;exact⟨_,v1,by unfold bf;exact r⟩
    .rw [Qas h] at e;obtain⟨u,u1,u2⟩:=E.val j d e;exact⟨u,u1,u2.pre p⟩⟩
   exact⟨_,_,_,o,S',E1,hf,q.pre p⟩
  .cases hf
 .cases hf⟩
def HQ{i k:Nat}{ds:List D}{F:FZ}{δ:DE}{S:a_}{QO:Ou->a_->Prop}(hk:δ[i]? =some (some$ .loc k))(hS:S[k]? =some (.lst ds))(h:W3 (F (δ.set i$ some$ .d$ .lst ds)$ S.set k .jU) QO):W3 (AA i F δ S) QO:=by
 unfold AA;have e1:jb δ i=some k:=by unfold jb;rw [hk]
 have e2:dh S k=some ds:=by unfold dh;simp only[hS]
 simp only[e1,e2];exact h
end
def Flat(S:a_):Prop:=∀o∈S,∀n,yj n o=true
def Flat.nil:Flat []:=λo ho=>by cases ho
end L3
end
section
namespace PySem
open Sem (wp)
open AutoSeq1 (wpAny_loadPart')
end PySem
namespace L2
open PySem PySem.Spec PyProof.Rows
section
def Uw(f:FD):FD:=λδ=>(f δ).bind λd=>match d with
 | .int j=>R.aS (decide (-(2 ^ 62)<=j/\j<16777216))$ .ok$ .tup$ jj 0 j.toNat
 | _=> .no
end
end L2
end
section
namespace PySem
open Sem (wp)
open AutoSeq1 (wpAny_loadPart')
section
variable {prog:Program}{w:World}{A:Around}{E:Aab}{s:Qdj}
def mP{it l:Addr}{i:Nat}{items:Array Value}{x:Value}{Q:Aab}(hit:s.heap.IsTupleIter it l i)(hl:s.heap.IsTuple l items)(hx:items[i]? =some x)
 (hQ:∀h',h'.IsTupleIter it l (i+1)->Heap.SameBut it s.heap h'->Q x {s with heap:=h'}):wpAny (model prog w) A (Builtin.SmallTypes.nextOf$ .ref it) Q E s:=by
 obtain⟨o,ho,hc,hd⟩:=id hit;obtain⟨ol,hol,_,nl,hdl⟩:=hl;unfold Builtin.SmallTypes.nextOf;refine Qab$ Qbh (name:="__next__") hit.typeIs QbQ$ Qbr QbQ hit.typeIs F.entry_tuple_iterator_next ?_$ F.args_tuple_iterator_next_1 _;show wpAny _ _ (field (.ref it) 0 >>=_) _ _ s;refine Qab$ Qa5 ho hd (x:= .ref l) rfl ?_;show wpAny _ _ (if(Value.ref l==Value.none)=true then _ else _) _ _ s;rw [QaA$ show ¬((Value.ref l==Value.none)=true) from Qay]
 show wpAny _ _ (field (.ref it) 1 >>=_) _ _ s;refine Qab$ Qa5 ho hd (x:= .int i 0) rfl ?_;show wpAny _ _ (seqItems? (.ref l) >>=_) _ _ s;refine Qab$ QbL hol hdl ?_;simp only[Qbu,hx];refine Qab (wpAny_setField ho hd (by simp)$ Qaj ⟨x,rfl,Qaj$ hQ _ ⟨_,Heap.get?_update_self _ ho$ Obj.isFreed_of_fields$ Obj.data_mapFields hd _,(Obj.cls_mapFields ..).trans hc,by rw[Obj.data_mapFields hd];simp [rawInt]⟩$ Heap.SameBut.update ..⟩)
def jH{it l:Addr}{i:Nat}{items:Array Value}{Q:Aab}(hh:A.handled=none)(hit:s.heap.IsTupleIter it l i)(hl:s.heap.IsTuple l items)(hx:items[i]? =none)
 (hE:∀h' e,Heap.ExtBut it s.heap h'->(∃o,h'.get? e=some o/\o.cls= .type "StopIteration")->E (.ref e) {s with heap:=h'}):wpAny (model prog w) A (Builtin.SmallTypes.nextOf$ .ref it) Q E s:=by
 obtain⟨o,ho,hc,hd⟩:=id hit;obtain⟨ol,hol,_,nl,hdl⟩:=hl;unfold Builtin.SmallTypes.nextOf;refine Qab$ Qbh (name:="__next__") hit.typeIs QbQ$ Qbr QbQ hit.typeIs F.entry_tuple_iterator_next ?_$ F.args_tuple_iterator_next_1 _;show wpAny _ _ (field (.ref it) 0 >>=_) _ _ s;refine Qab$ Qa5 ho hd (x:= .ref l) rfl ?_;show wpAny _ _ (if(Value.ref l==Value.none)=true then _ else _) _ _ s;rw [QaA$ show ¬((Value.ref l==Value.none)=true) from Qay]
 show wpAny _ _ (field (.ref it) 1 >>=_) _ _ s;refine Qab$ Qa5 ho hd (x:= .int i 0) rfl ?_;show wpAny _ _ (seqItems? (.ref l) >>=_) _ _ s;refine Qab$ QbL hol hdl ?_;simp only[Qbu,hx];refine Qab (QcJ$ Qab$ wpAny_setField ho hd (by simp) ?_)
 show wpAny _ _ (newExc (.type "StopIteration") [] >>=_) _ _ _;refine Qab ?_;simp only[newExc,newTuple];refine Qab (Qa8 ?_$ by size_fits)
 refine Qab (m:=firstArgMember _ _) (wpAny_of_eq (a:=Value.none) (by first | rfl | (simp only[firstArgMember];rfl)) ?_);refine Qa8 ?_ (by size_fits)
 simp only[raiseNew];refine Qab$ wpAny_handled ?_
 first | rw[show A.in1.handled=none from hh] | rw[hh]
 exact Qab$ Qaj$ wpAny_throw$ hE _ _ (((Heap.SameBut.update ..).extBut.push _).push _) ⟨_,QaF _ rfl,rfl⟩
end
def F9{prog:Program}{w:World}{A:Around}(hh:A.handled=none)(it l:Addr)(wa:l≠it)(items:Array Value) :
 Draws prog w A it [it,l] items.size (λi v=>items[i]? =some v) (λi h=>h.IsTupleIter it l i/\h.IsTuple l items) where
 live:=λ_ _ st=>let⟨o,ho,_⟩:=st.1;⟨o,ho⟩
 frame:=λ_ _ _ st hk=>⟨st.1.at λo e=>hk it (by simp) o e,Heap.IsTuple.at st.2 λo e=>hk l (by simp) o e⟩
 item:=λi s Q E hi st hQ=>mP st.1 st.2 (x:=items[i]) (by simp [hi]) λh' WW Y5=>hQ _ h' s.toks (by simp [hi]) ⟨WW,st.2.extBut Y5.extBut wa⟩ Y5
 done:=λs Q E st hE=>jH hh st.1 st.2 (by simp) hE
def tS(l:Addr)(items:Array Value)(o:Obj)(n:Nat)(hc:o.cls= .type "tuple")(hd:o.data= .seq items n) :
 Meets (Builtin.«enumerate.__new__» ⟨[.type "enumerate", .ref l],[]⟩) (λ_ R s=>s.heap.get? l=some o/\
  R (.ok$ .ret$ .ref (s.heap.push {cls:= .type "tuple_iterator",data:= .fields #[.ref l, .int 0 0]}).objs.size)
   {s with heap:=(s.heap.push {cls:= .type "tuple_iterator",data:= .fields #[.ref l, .int 0 0]}).push {cls:= .type "enumerate",data:= .fields #[.none, .bool false, .ref s.heap.objs.size,rawInt 0, .none, .none]}}):=
 .of_wp λprog w A R s h=>by
   obtain⟨hp,g,d,tk,os⟩:=s;obtain⟨hl,h⟩:=h;have hsub:=sub_enumerate;have hL:Heap.IsTuple (Shared.heap ⟨hp,g,d,tk,os⟩) l items:=⟨_,hl,hc,n,hd⟩
   wp_walk using wpAny_loadPart' hl
   refine wpAny_stack_any λst=>Qaj ?_
   split
   .rename_i c _ _ _ _ _;cases(c==Value.type "enumerate") <;> (wp_walk using wpAny_loadPart' hl,Qck hL;exact⟨_,rfl,h⟩)
   .wp_walk using wpAny_loadPart' hl,Qck hL
    exact⟨_,rfl,h⟩
def BZ{prog:Program}{w:World}{A:Around}{E:Aab}{s:Qdj}{l:Addr}{items:Array Value}{Q:Aab}(hL:s.heap.IsTuple l items)
 (h:∀h':Heap,IsEnum h' (s.heap.objs.size+1) s.heap.objs.size 0 .none->h'.IsTupleIter s.heap.objs.size l 0->(∀b o,s.heap.get? b=some o->h'.get? b=some o)->Q (.ref$ s.heap.objs.size+1) {s with heap:=h'}) :
 wpAny (model prog w) A (call (.type "enumerate") [.ref l]) Q E s:=by
 obtain⟨o,hl,hc,n,hd⟩:=hL;refine callType_new F.called_enumerate (by decide) (F.typeCall_enumerate_1 _) (F.newCall_enumerate_1 _) (λobj=>F.args_object_init_2 obj _) F.entry_enumerate_new (tS l items o n hc hd) ⟨hl,?_⟩
 have hz:(s.heap.push {cls:= .type "tuple_iterator",data:= .fields #[.ref l, .int 0 0]}).objs.size=s.heap.objs.size+1:=Qbb ..;show _/\_;rw [hz];have he:IsEnum ((s.heap.push {cls:= .type "tuple_iterator",data:= .fields #[.ref l, .int 0 0]}).push {cls:= .type "enumerate",data:= .fields #[.none, .bool false, .ref s.heap.objs.size,rawInt 0, .none, .none]}) (s.heap.objs.size+1) s.heap.objs.size 0 .none:=by
  have:=QaF (s.heap.push {cls:= .type "tuple_iterator",data:= .fields #[.ref l, .int 0 0]}) (o:={cls:= .type "enumerate",data:= .fields #[.none, .bool false, .ref s.heap.objs.size,rawInt 0, .none, .none]}) rfl;rw[hz] at this;exact this
 exact⟨⟨_,he,rfl⟩,h _ he ⟨_,Qac _$ QaF _ rfl,rfl,rfl⟩ λb o x=>Qac _$ Qac _ x⟩
end PySem
namespace L2
open PySem PySem.Spec PyProof.Rows
def V6(K:Qdi)(a:Addr):It:=
 ⟨λi H=>∃xs x,rA K H a xs/\xs[i]? =some x,λi H v H'=>∃p x,H p=none/\v= .ref p/\(∀xs,rA K H a xs->xs[i]? =some x)/\H'=upd H p (.tup [.int i,x]),λi H=>∃xs,rA K H a xs/\xs.length<=i⟩
def Bv{K:Qdi}{k:Nat}(a e it:Addr)(Ru:e≠it):Turn P w K (.Tuple elts k pos) (V6 K a) [e,it] e (λi h=>(∃old,IsEnum h e it ((i:Nat):Int) old)/\h.IsTupleIter it a i) where
 mem:=by simp
 obj:=λi h st b hb=>by
  obtain⟨⟨old,he⟩,o,ho,c,d⟩:=st;rcases Qaw.mp hb with rfl | hb
  .exact⟨_,he,λv z=>by cases z⟩
  .have e:b=it:=by simpa using hb
   subst e;exact⟨o,ho,λv z=>by rw[d] at z;cases z⟩
 keep:=λi h h' st k=>by
  obtain⟨⟨old,he⟩,hi⟩:=st;exact⟨⟨old,k e (by simp) _ he⟩,hi.at λo x=>k it (by simp) o x⟩
 item:=by
  intro X hP hw hK hc i pins s σ H E I hf st hg;subst hP hw hK;obtain⟨xs,x,hq,hx⟩:=hg;obtain⟨its,rv,p,hz⟩:=I.tuple hq;have p':s.heap.IsTuple a its.toArray:=p;obtain⟨u,hu,ru⟩:=rv.get hx;obtain⟨⟨old,he⟩,hit⟩:=st;obtain⟨f0,f1,f2,f3,f4,f5⟩:=hf e (by simp)
  obtain⟨g0,g1,g2,g3,g4,g5⟩:=hf it (by simp)
  have ha_it:a≠it:=λz=>by
   obtain⟨o1,h1,c1,_⟩:=p';obtain⟨o2,h2,c2,_⟩:=hit;rw[z,h2] at h1;cases h1;rw[c2] at c1;exact absurd c1 (by decide)
  have ha_e:e ∉ [it,a]:=λz=>by
   rcases Qaw.mp z with q | q
   .exact Ru q
   .have q:e=a:=by simpa using q
    obtain⟨o1,h1,c1,_⟩:=p';rw[<-q,he] at h1;cases h1;exact absurd (show Value.type "enumerate"=Value.type "tuple" from c1) (by decide)
  refine wpAny_pyNext_enum_itemD (F9 (A:=X.A.in1) (I.ok.hd hc) it a ha_it its.toArray) he ⟨hit,p'⟩ (by have:=(Qae.mp hu).1;simpa using this) Ru ha_e λu2 i_ tk hu2 Kp TU J1 pA xK=>⟨_,rfl,?_⟩
  obtain rfl:u2=u:=by
   have h1:its[i]? =some u2:=by simpa using hu2
   rw[hu] at h1;cases h1;rfl
  obtain⟨CN,_⟩:=TU;refine wpAny_letOwnedTupleGo_enum Kp λg8 JY dj=>?_
  replace dj:Heap.SameBut e i_ g8:=dj
  have hel:e<s.heap.objs.size:=Qar he;have A_:g8.get? s.heap.objs.size=some {cls:= .type "tuple",data:= .seq #[.int i tk,u2]}:=(dj.2 _$ Qcg hel).trans J1;have kk:∀b o,b≠e->b≠it->s.heap.get? b=some o->g8.get? b=some o:=λb o h1 h2 q=>(dj.2 b h1).trans$ xK b o h1 h2 q
  have hn:H s.heap.objs.size=none:=I.fresh;have sm:aY H (upd H s.heap.objs.size$ .tup [.int i,x]):=aN hn;have nit:∀b o,H b=some o->b≠e/\b≠it:=λb o q=>⟨λz=>(by rw[z,f0] at q;cases q),λz=>(by rw[z,g0] at q;cases q)⟩
  have hok:mF X.prog X.w (upd H s.heap.objs.size$ .tup [.int i,x]) g8:=λb ob q=>by
   by_cases hb:b=s.heap.objs.size
   .subst hb;rw[aU] at q;cases q;exact⟨by show 2<=sizeLine;decide,[.int i tk,u2], .cons ⟨_,rfl⟩$ .cons ru .nil,⟨_,A_,rfl,_,rfl⟩⟩
   .rw [bg hb] at q;refine(I.hok b ob q).t7 (λc v hc z=>?_) (λc z=>sm c _ z) λc ys z=>sm c _ z
    rcases hc with rfl | hc
    .exact kk c v (nit c _ q).1 (nit c _ q).2 z
    .exact kk c v (nit c _ hc).1 (nit c _ hc).2 z
  have nch:∀b,b ∉ [e,it]->b≠e/\b≠it:=λb hb=>⟨λz=>hb (by simp [z]),λz=>hb$ by simp [z]⟩
  have I2:Inv X pins σ (upd H s.heap.objs.size$ .tup [.int i,x]) {s with heap:=g8,toks:=tk+1}:=by
   refine I.step (g':=s.gens) (d':=s.drawn) (ch:=[e,it]) (λb hb=>?_) (λb o _ _ hb q _=>kk b o (nch b hb).1 (nch b hb).2 q) (λb o _ _ hb q _=>⟨o.slots,kk b o (nch b hb).1 (nch b hb).2 q⟩)
    (λb o hb q n=>by rw[bg$ QaE$ Qar q];exact n) (λb o hb q=>⟨o,kk b o (nch b hb).1 (nch b hb).2 q⟩) (λb ys z=>sm b _ z) (λb o u z=>sm b _ z) (λb ps z=>⟨#[],by rw[sm b _ z];simp⟩) (λm hm=>?_) hok I.bare
   .rcases Qaw.mp hb with rfl | hb
    .exact⟨f3,f1,f4,f5⟩
    .have z:b=it:=by simpa using hb
     subst z;exact⟨g3,g1,g4,g5⟩
   .obtain⟨o,es,ep,ho,r⟩:=hm;exact⟨o,es,ep,kk _ o (QbE f1) (QbE g1) ho,r⟩
  refine⟨.ref s.heap.objs.size,_,I2,rfl,⟨s.heap.objs.size,x,hn,rfl,λys hy=>(by rw[I.rG hy hq];exact hx),rfl⟩,⟨⟨_,by simpa using JY⟩,CN.at λo q=>(dj.2 it$ QbE Ru).trans q⟩,λb hb=>?_⟩
  rcases Qaw.mp hb with rfl | hb
  .rw [bg$ QaE hel];exact f0
  .have z:b=it:=by simpa using hb
   subst z;obtain⟨o,ho,_⟩:=hit;rw[bg$ QaE$ Qar ho];exact g0
 done:=by
  intro X hP hw hK hc i pins s σ H E I hf st hg;subst hP hw hK;obtain⟨xs,hq,hx⟩:=hg;obtain⟨its,rv,p,hz⟩:=I.tuple hq;have p':s.heap.IsTuple a its.toArray:=p;obtain⟨⟨old,he⟩,hit⟩:=st;obtain⟨g0,g1,g2,g3,g4,g5⟩:=hf it (by simp)
  have hl:=rv.length;have hT:s.TypeIs (.ref e) "enumerate":=⟨_,he,rfl⟩;unfold pyNext;refine Qab$ Qb8$ Qbh (name:="__next__") hT F.slot_enumerate_next$ Qbr F.slot_enumerate_next hT F.entry_enumerate_next ?_$ F.args_enumerate_next_1 _;show wpAny _ _ (field (.ref e) 2 >>=_) _ _ _;refine Qab$ Qa5 he rfl (x:= .ref it) rfl ?_;refine Qab (jH (A:=X.A.in1) (I.ok.hd hc) hit p' (by simp;omega) λh' x he' hx'=>?_)
  obtain⟨o,ho,hcl⟩:=hx';refine Qab$ wpAny_isInstance (T:="StopIteration") (b:=true) ⟨o,ho,hcl⟩ isSubtype_stop ?_;exact Qaj ⟨rfl,I.turned (t':=s.toks) (λb o hb q=>he' b o hb q) g0 g1 g3 g4 g5⟩
 self:=λA i s Q E st h=>let⟨⟨_,he⟩,_⟩:=st;Qcq he h
section
variable {X:Cx}
def yQ(f:FD):av->R (List D):=λδ=>(f δ).bind λd=>match d with | .tup ds=> .ok (eR ds) | _=> .no
def Bn{elts:List Expr}{k:Nat}{mX:Pos}{p pos:Pos}(h:QD X a f)(hg:Gl X "enumerate")(hm:X.mg "enumerate"=none)(hs:starEach [a] X.env=[(false,eval a X.env)]:=by rfl):y1 X (.Tuple elts k mX) (.Call (.Name "enumerate" p) [a] [] pos) (yQ f):=by
 refine⟨?_⟩;intro pins s σ H RR I ⟨Z,B,δ,ds,E,hf,q⟩;obtain⟨d,h1,h2⟩:=R.aj hf;have hA:=cD h.1 eB hs pos pins s σ H (λvs H1=>aY H H1/\∃v,vs=[v]/\Rep X.K B H1 d v) I ⟨Z,B,δ,d,E,h1,λv H1 s1 r1=>⟨s1,v,rfl,r1⟩⟩
 refine Call_$ l8 I hg hm boot_enumerate$ Qba (dP hA λus s1 ⟨vs,H1,I1,r1,ss,v,ev,rr⟩=>?_) hs rfl
 subst ev;obtain⟨u,rfl,ru⟩:=vals1 r1;cases d with
 | tup es=>
   cases h2;obtain⟨b,xs,rfl,l,rs⟩:=Rep.tup.mp rr;cases ru;obtain⟨its,rv,pt,hz⟩:=I1.tuple l.sq;refine BZ (items:=its.toArray) pt λh' he hit kk=>Qcq he ?_
   have I2:Inv X pins σ H1 {s1 with heap:=h'}:=I1.kept (t':=s1.toks) kk
   refine⟨s1.heap.objs.size+1,[s1.heap.objs.size+1,s1.heap.objs.size],_,_,H1,rfl,I2,Bv b (s1.heap.objs.size+1) s1.heap.objs.size$ Nat.succ_ne_self _,⟨⟨_,he⟩,hit⟩,λc hc=>?_,q _ H1 ss λB' H' pr=>?_⟩
   .have hle:s1.heap.objs.size<=c:=by
     rcases Qaw.mp hc with z | hc
     .rw [z];exact QbT _
     .have z:c=s1.heap.objs.size:=by simpa using hc
      rw[z];exact Qai _
    exact I1.wu hle$ I1.hok.fresh hle
   .have l':xh X.K B' H' b xs:=l.elim (λz=> .inl ⟨(pr.rd z.2 z.1).2,(pr.rd z.2 z.1).1⟩) .inr
    have rs':=rs.bu pr;refine⟨λi d hd=>?_,⟨xs,l'.sq,by rw[<-rs.length];unfold eR;simp⟩⟩
    unfold eR at hd;rw[Qaf,QbC] at hd;cases e:es[i]? with
    | none=>rw [e] at hd;cases hd
    | some d0=>
      rw[e] at hd;have hd:D.tup [.int ((0+i:Nat):Int),d0]=d:=QaS hd;rw[QcH] at hd;obtain⟨x,hx,rx⟩:=rs'.get e;refine⟨⟨xs,x,l'.sq,hx⟩,λv oO y MN=>?_⟩
      obtain⟨p,y,hp,rfl,hy,rfl⟩:=y;refine⟨aN hp,?_⟩;subst hd;have Gh:=hy xs l'.sq;rw[hx] at Gh;cases Gh;refine Rep.tup.mpr ⟨p,_,rfl, .inl ⟨λha=>?_, .inl aU⟩,aI.cons (Rep.int.mpr rfl)$ aI.cons (rx.same$ aN hp) aI.nil⟩
      obtain⟨o,ho⟩:=MN p ha;rw[hp] at ho;cases ho
 | _=>cases h2
end
section
variable {X:Cx}
abbrev XU:D->D->R D:=Kj (fun _ j=>decide$ 0<j/\j.natAbs.log2<9000) fun i j=>i / j
theorem AU{K:Qdi}{B:List Addr}{ds:List D}{xs:List V}(r:aI K B H ds xs):∀n:Nat,aI K B H (List.replicate n ds).flatten (List.replicate n xs).flatten
 | 0=>aI.nil
 | n+1=>by rw[Qbw,Qbw,QbR,QbR];exact r.append$ AU r n
def Qf(f:av->R (List D))(g:FD):av->R (List D):=λδ=>(f δ).bind λds=>(g δ).bind λd=>match d with
 | .int k=>R.aS (decide$ 0<=k/\k<1000000/\ds.length*k.toNat<=sizeLine)$ .ok (List.replicate k.toNat ds).flatten
 | _=> .no
def MF{f:av->R (List D)}(ha:QN X a f)(hb:QD X b g):QN X (.BinOp a .Mult b pos) (Qf f g):=by
 refine⟨(D7 Qw ha.1 hb.1).imp λσ H Q ⟨Z,B,δ,es,E,hf,q⟩=>?_⟩
 obtain⟨ds,h1,h2⟩:=R.aj hf;obtain⟨d,h3,h4⟩:=R.aj h2;split at h4
 .rename_i k;obtain⟨h5,h6⟩:=R.bh h4;cases h6;obtain⟨k0,k1,k2⟩:=Qah h5;refine⟨Z,B,δ,ds,E,h1,λa xs H1 s1 n1 e1 r1=>⟨Z,B,δ, .int k,E.same s1,h3,λv H2 s2 r2=>⟨a,k,xs,rfl,Rep.int.mp r2,s2 a _ e1,by omega,by omega,by rw[<-r1.length];exact k2,λp hp=>?_⟩⟩⟩
  refine q p _ _ (s1.trans$ s2.trans$ aN hp) ((s1.trans s2).free hp) aU ?_;refine(AU r1 k.toNat).bu λb o e nb=>⟨(s2.trans$ aN hp) b o e,λhm=>?_⟩
  rcases Qaw.mp hm with z | z
  .rw [z] at e;rw [s2 p _ e] at hp;cases hp
  .exact nb (Qag _ z)
 .cases h4
noncomputable def Ed(ns:List Int):List Int:=ns.mergeSort λa b=>decide$ a<=b
def Um:List D->R D
 | [.lst ds]=>(match ints? ds with | some ns=>R.aS (decide$ ns.length<64) (.ok$ .lst$ (Ed ns).map .int) | none=> .no)
 | _=> .no
def getD_in{l:List Int}{i:Nat}(h:i<l.length):l.getD i 0∈l:=by
 have e:l.getD i 0=l[i]:=by simp [h]
 rw[e];exact Qbe h
theorem fold_min:∀(ns:List Int) (n:Int),ns.foldl min n∈n ::ns/\∀a∈n ::ns,ns.foldl min n<=a
 | [],n=>⟨by simp,λa ha=>by simp at ha;subst ha;exact Int.le_refl _⟩
 | x ::ns,n=>by
   obtain⟨h1,h2⟩:=fold_min ns$ min n x;rw[Qce];refine⟨?_,λa ha=>?_⟩
   .rcases Qaw.mp h1 with z | z
    .rw [z];by_cases hc:n<=x
     .rw [Int.min_eq_left hc];simp
     .rw [Int.min_eq_right$ by omega];simp
    .exact Qag _ (Qag _ z)
   .have hm:=h2 _ Qat;rcases Qaw.mp ha with z | z
    .subst z;omega
    .rcases Qaw.mp z with z | z
     .subst z;omega
     .exact h2 a (Qag _ z)
theorem fold_max:∀(ns:List Int) (n:Int),ns.foldl max n∈n ::ns/\∀a∈n ::ns,a<=ns.foldl max n
 | [],n=>⟨by simp,λa ha=>by simp at ha;subst ha;exact Int.le_refl _⟩
 | x ::ns,n=>by
   obtain⟨h1,h2⟩:=fold_max ns$ max n x;rw[Qce];refine⟨?_,λa ha=>?_⟩
   .rcases Qaw.mp h1 with z | z
    .rw [z];by_cases hc:n<=x
     .rw [Int.max_eq_right hc];simp
     .rw [Int.max_eq_left$ by omega];simp
    .exact Qag _ (Qag _ z)
   .have hm:=h2 _ Qat;rcases Qaw.mp ha with z | z
    .subst z;omega
    .rcases Qaw.mp z with z | z
     .subst z;omega
     .exact h2 a (Qag _ z)
def z6:List D->R D
 | [.lst ds]=>(match ints? ds with | some (n ::ns)=> .ok (.int$ ns.foldl min n) | _=> .no)
 | ds=>KI ds
def Iq:List D->R D
 | [.lst ds]=>(match ints? ds with | some (n ::ns)=> .ok (.int$ ns.foldl max n) | _=> .no)
 | ds=>P0 ds
def Il(hc:X.calm=true):cT X (.builtin "min") z6:=by
 intro pins s σ H B ds d xs us I hb rx rs hg;unfold z6 at hg;split at hg
 .split at hg
  .rename_i es n ns e;cases hg;obtain⟨x,rfl,r⟩:=rs.one;obtain⟨a,ys,rfl,l,r⟩:=Rep.lst.mp r;obtain⟨u,rfl,ru⟩:=vals1 rx;cases ru;obtain⟨its,k,rv,e1,hz⟩:=I.DA l;rw[eu r e] at rv;obtain⟨ps,rfl,CL⟩:=fO rv;have hl:s.heap.IsList a (intItems ps.toArray):=⟨_,e1,rfl,k,by simp [intItems]⟩
   have hlp:ps.length=ns.length+1:=by have:=Qbi List.length CL;simpa using this
   refine min_intList (I.ok.hd hc) hl (by simp;omega) λv h' tk hv hk=>?_
   obtain⟨t,rfl⟩:=intItems_at hv;obtain⟨b1,b2⟩:=argBest_lt (numAt ps.toArray)$ ps.toArray.size - 1;refine⟨.int _,H,I.kept hk,⟨t,rfl⟩,aY.refl H,Rep.int.mpr ?_⟩;obtain⟨m1,m2⟩:=fold_min ns n;have hge:∀j,j<ps.length->numAt ps.toArray j=(n ::ns).getD j 0:=λj hj=>by rw[numAt_eq,<-CL]
   have hin:numAt ps.toArray (argBest (λi j=>decide$ numAt ps.toArray i<numAt ps.toArray j)$ ps.toArray.size - 1)∈n ::ns:=by
    rw[hge _$ by simp at b1 ⊢;omega];exact getD_in (by simp at b1 ⊢;omega)
   have hle:=m2 _ hin;obtain⟨j,hj,ej⟩:=QcS m1;have Eh:j<ns.length+1:=by simpa using hj
   have h3:=b2 j (by simp;omega)
   rw[hge j$ by omega] at h3
   have h4:(n ::ns).getD j 0=ns.foldl min n:=by rw[<-ej,Qak,Qad hj];rfl
   rw[h4] at h3;congr 1;omega
  .cases hg
 .exact Tz hc pins s σ H B _ d xs us I hb rx rs hg
def NY(hc:X.calm=true):cT X (.builtin "max") Iq:=by
 intro pins s σ H B ds d xs us I hb rx rs hg;unfold Iq at hg;split at hg
 .split at hg
  .rename_i es n ns e;cases hg;obtain⟨x,rfl,r⟩:=rs.one;obtain⟨a,ys,rfl,l,r⟩:=Rep.lst.mp r;obtain⟨u,rfl,ru⟩:=vals1 rx;cases ru;obtain⟨its,k,rv,e1,hz⟩:=I.DA l;rw[eu r e] at rv;obtain⟨ps,rfl,CL⟩:=fO rv;have hl:s.heap.IsList a (intItems ps.toArray):=⟨_,e1,rfl,k,by simp [intItems]⟩
   have hlp:ps.length=ns.length+1:=by have:=Qbi List.length CL;simpa using this
   refine max_intList (I.ok.hd hc) hl (by simp;omega) λv h' tk hv hk=>?_
   obtain⟨t,rfl⟩:=intItems_at hv;obtain⟨b1,b2⟩:=argBest_gt (numAt ps.toArray)$ ps.toArray.size - 1;refine⟨.int _,H,I.kept hk,⟨t,rfl⟩,aY.refl H,Rep.int.mpr ?_⟩;obtain⟨m1,m2⟩:=fold_max ns n;have hge:∀j,j<ps.length->numAt ps.toArray j=(n ::ns).getD j 0:=λj hj=>by rw[numAt_eq,<-CL]
   have hin:numAt ps.toArray (argBest (λi j=>decide$ numAt ps.toArray i > numAt ps.toArray j)$ ps.toArray.size - 1)∈n ::ns:=by
    rw[hge _$ by simp at b1 ⊢;omega];exact getD_in (by simp at b1 ⊢;omega)
   have hle:=m2 _ hin;obtain⟨j,hj,ej⟩:=QcS m1;have Eh:j<ns.length+1:=by simpa using hj
   have h3:=b2 j (by simp;omega)
   rw[hge j$ by omega] at h3
   have h4:(n ::ns).getD j 0=ns.foldl max n:=by rw[<-ej,Qak,Qad hj];rfl
   rw[h4] at h3;congr 1;omega
  .cases hg
 .exact So hc pins s σ H B _ d xs us I hb rx rs hg
end
end L2
namespace L3
open PySem PySem.Spec PyProof.Rows L2
def EA(S:a_):V3->Option (List D)
 | .d (.lst ds)=>some ds
 | .loc k=>dh S k
 | _=>none
def Ha{K:Qdi}{cl:Aag}{ρ:P3}{S:a_}{v:V3}{x:V}{ds:List D}(w:SW K cl ρ H S)(h:EA S v=some ds)(r:bf K ρ H v x):∃a xs,x= .ref a/\v_ K [] H a xs/\aI K ρ.b H ds xs:=by
 unfold EA at h;split at h
 .cases h;unfold bf Rep at r;obtain⟨a,xs,e,l,rs⟩:=r;exact⟨a,xs,e,l.bu (λb o e _=>⟨e,by simp⟩),rs⟩
 .unfold bf at r;obtain⟨a,a1,rfl⟩:=r;obtain⟨xs,e,rs⟩:=w.ob _ a _ a1$ f6 h;exact⟨a,xs,rfl, .inl ⟨by simp, .inl e⟩,rs⟩
 .cases h
section
variable {X:Cx}{cl:Aag}
def MI(fa fb:FX):FX:=λδ S=>(fa δ S).bind λa S1=>(fb δ S1).bind λb S2=>match EA S2 a,EA S2 b with
 | some ds,some es=>R3.aS (decide$ ds.length+es.length<=sizeLine)$ .ok (.loc S2.length)$ S2++[.lst$ ds++es]
 | _,_=> .no
def HW(ha:PX X cl a fa)(hb:PX X cl b fb):PX X cl (.BinOp a .Add b pos) (MI fa fb):=⟨(D7 Eb ha.1 hb.1).imp λσ H Q ⟨ρ,S,δ,v,S',E,hf,q⟩=>by
 obtain⟨a,S1,h1,h2⟩:=R3.aj hf;obtain⟨b,S2,h3,h4⟩:=R3.aj h2;split at h4
 .rename_i ds es e1 je;obtain⟨hl,h5⟩:=R3.bh h4;cases h5;refine⟨ρ,S,δ,a,S1,E,h1,λu1 cf H1 p1 w1 r1=>⟨cf,S1,δ,b,S2,E.to p1 w1,h3,λu2 qg H2 p2 w2 r2=>?_⟩⟩
  obtain⟨la,xs,rfl,l1,TX⟩:=Ha w2 e1$ r1.pre p2;obtain⟨lb,ys,rfl,l2,QX⟩:=Ha w2 je r2;refine⟨[],la,lb,xs,ys,rfl,rfl,l1,l2,by rw[<-TX.length,<-QX.length];exact Qah hl,λp hp=>?_⟩
  obtain⟨w3,p3⟩:=w2.new (a:=p) (o:= .lst$ ds++es) (aN (o:= .lst$ xs++ys) hp) hp ⟨xs++ys,aU,(TX.append QX).bu (λb o e nb=>⟨by rw[bg$ bJ e hp];exact e,λhb=>by
   rcases P3.mem_push hb with z | z
   .exact nb z
   .exact bJ e hp z⟩)⟩
  exact q _ _ _ (p1.trans$ p2.trans p3) w3 (by unfold bf;exact⟨p,by show(qg.r++[p])[_]? =_;rw [<-w2.len,Qal$ Qai _,Qbl];rfl,rfl⟩)
 .cases h4⟩
def M4{fa fb:FX}{δ:DE}{S:a_}{Q:V3->a_->Prop}(h:W3 (fa δ S) λa S1=>W3 (fb δ S1) λb S2=>∃ds es,EA S2 a=some ds/\EA S2 b=some es/\ds.length+es.length<=sizeLine/\Q (.loc S2.length) (S2++[.lst$ ds++es])):W3 (MI fa fb δ S) Q:=
 W3.bind (h.mono λ_ _ h=>W3.bind (h.mono λ_ _ ⟨ds,es,e1,je,hl,q⟩=>by
  simp only[e1,je];exact W3.wh (Qan hl)$ W3.ok q))
def Zy(i:Nat):FZ:=λδ S=>match jb δ i with
 | none=> .no
 | some k=>(match dh S k with | some _=> .ok (.nx δ) (S.set k$ .lst []) | none=> .no)
end
noncomputable def nP(S:a_)(c k:Nat):Option (List$ Str × V3):=match S[k]? with | some (.ins c' fs)=>(if c'=c then some fs else none) | _=>none
def mf{S:a_}{c k:Nat}{fs:List (Str × V3)}(h:nP S c k=some fs):S[k]? =some (.ins c fs):=by
 unfold nP at h;split at h
 .rename_i c' Rr e;split at h
  .rename_i hc;cases h;rw [e,hc]
  .cases h
 .cases h
theorem DU{K:Qdi}{v:V3}:∀{fs:List (Str × V3)} {ys:List (Str × V)},ys.map (·.1)=fs.map (·.1)->aM K ρ H (fs.map (·.2)) (ys.map (·.2))->fs.lookup f=some v->∃x,ys.lookup f=some x/\bf K ρ H v x
 | [],ys,_,_,h=>by simp at h
 | (g,w) ::fs,[],e,_,_=>by simp at e
 | (g,w) ::fs,(g',y) ::ys,e,r,h=>by
   obtain⟨e1,je⟩:=List.cons.inj e;have e1:g'=g:=e1;subst e1;obtain⟨x,xs,ex,r1,r2⟩:=r.cm;cases ex;rw[Qav] at h ⊢;cases hq:f==g' with
   | true=>rw [hq] at h;cases h;exact⟨y,rfl,r1⟩
   | false=>rw [hq] at h;exact DU je r2 h
theorem Ag:∀{fs:List (Str × V3)} {ys:List (Str × V)},ys.map (·.1)=fs.map (·.1)->fs.lookup f=none->ys.lookup f=none
 | [],[],_,_=>rfl
 | [],_ ::_,e,_=>by simp at e
 | _ ::_,[],e,_=>by simp at e
 | (g,w) ::fs,(g',y) ::ys,e,h=>by
   obtain⟨e1,je⟩:=List.cons.inj e;have e1:g'=g:=e1;subst e1;rw[Qav] at h ⊢;cases hq:f==g' with
   | true=>rw [hq] at h;cases h
   | false=>rw [hq] at h;exact Ag je h
noncomputable def Av(f:Str)(v:V3):List (Str × V3)->List (Str × V3)
 | []=>[(f,v)]
 | (g,x) ::r=>if g=f then(g,v) ::r else(g,x) ::Av f v r
def D9{K:Qdi}{f:Str}{v:V3}{u:V}(rv:bf K ρ H v u):∀{fs:List (Str × V3)} {ys:List (Str × V)},ys.map (·.1)=fs.map (·.1)->aM K ρ H (fs.map (·.2)) (ys.map (·.2))->
 (km f u ys).map (·.1)=(Av f v fs).map (·.1)/\aM K ρ H ((Av f v fs).map (·.2)) ((km f u ys).map (·.2))
 | [],[],_,_=>⟨rfl,aM.cons rv aM.nil⟩
 | [],_ ::_,e,_=>by simp at e
 | _ ::_,[],e,_=>by simp at e
 | (g,w) ::fs,(g',y) ::ys,e,r=>by
   obtain⟨e1,je⟩:=List.cons.inj e;have e1:g'=g:=e1;subst e1;obtain⟨x,xs,ex,r1,r2⟩:=r.cm;cases ex;unfold Av km;by_cases hg:g'=f
   .rw [QaG hg,QaG hg];exact⟨by rw[QaO,QaO,je],aM.cons rv r2⟩
   .rw [QaA hg,QaA hg];obtain⟨h1,h2⟩:=D9 rv je r2;exact⟨by rw[QaO,QaO,h1],aM.cons r1 h2⟩
section
variable {X:Cx}{cl:Aag}
def Bt(c:Nat)(f:Str)(g:FX):FX:=λδ S=>(g δ S).bind λv S1=>match v with
 | .loc k=>(match nP S1 c k with | some fs=>(match fs.lookup f with | some v=> .ok v S1 | none=> .no) | none=> .no)
 | _=> .no
def vA{c:Nat}{pos:Pos}(hC:zY X.K (cl c))(hn:eP X.K (cl c) f)(he:PX X cl e g)(hb:attributeBase e f X.env (eval e X.env)=eval e X.env:=by rfl):PX X cl (.Attribute e f pos) (Bt c f g):=⟨(NS he.1 hb).imp λσ H Q ⟨ρ,S,δ,v,S',E,hf,q⟩=>by
 obtain⟨o,S1,h1,h2⟩:=R3.aj hf;split at h2
 .rename_i k;split at h2
  .rename_i fs e1;split at h2
   .rename_i w je;cases h2;refine⟨ρ,S,δ, .loc k,_,E,h1,λu cf H1 p1 w1 r1=>?_⟩
    unfold bf at r1;obtain⟨a,a1,rfl⟩:=r1;obtain⟨dx,ys,ey,ek,rs⟩:=w1.ob k a _ a1$ mf e1;obtain⟨x,hx,rx⟩:=DU ek rs je;exact⟨a,cl c,dx,ys,x,rfl,ey,hC,hn,hx,q x cf H1 p1 w1 rx⟩
   .cases h2
  .cases h2
 .cases h2⟩
def w_fld{c k:Nat}{g:FX}{δ:DE}{S:a_}{Q:V3->a_->Prop}(h:W3 (g δ S) λv S1=>∃fs w,v= .loc k/\S1[k]? =some (.ins c fs)/\fs.lookup f=some w/\Q w S1):W3 (Bt c f g δ S) Q:=
 W3.bind (h.mono λv S1 ⟨fs,w,e1,je,e3,q⟩=>by
  subst e1;have e4:nP S1 c k=some fs:=by unfold nP;simp only[je,QbP]
  simp only[e4,e3];exact W3.ok q)
def tE(P:Program)(w:World)(K:Qdi)(mg:Aaf)(base:Heap)(cl:Aag)(k c:Nat)(m:Str)(n:Nat)(g:List V3->a_->R3 V3):Prop:=
 ∃(f:Addr) (fd:FuncData) (ps:List Str),zY K (cl c)/\Meth K (cl c) m f/\ip P w K mg base u7 k f fd ps (Ih K cl (n+1) g)/\Binds K fd ps []
def u6(c:Nat)(m:Str)(g:List V3->a_->R3 V3)(fo:FX)(fs:FA):FX:=λδ S=>(fo δ S).bind λo S1=>match o with
 | .loc k=>(match nP S1 c k with | some ys=>(match ys.lookup m with | none=>(fs δ S1).bind λvs S2=>g (.loc k ::vs) S2 | some _=> .no) | none=> .no)
 | _=> .no
def uo{g:List V3->a_->R3 V3}{k j n c:Nat}{m:Str}{o e:Expr}{es:List Expr}{fo:FX}{fs:FA}{apos pos:Pos}{pl:Sem Bool}(M:tE X.prog X.w X.K X.mg X.base cl k c m n g)(hr:dZ j X.A)(hkj:k<=j)(ho:PX X cl o fo)(ha:KY X cl (e ::es) fs)(hn:∀δ S ds S',fs δ S= .ok ds S'->ds.length=n)
 (ub:starEach (e ::es) X.env=(false,eval e X.env) ::starEach es X.env:=by rfl) (hJ:(backTo pos$ starEach es X.env).any (·.1)=false:=by rfl)
 (ht:eval (.Call (.Attribute o m apos) (e ::es) [] pos) X.env=(do
   let ov <-eval o X.env
   standAt apos.atName
   let(f,first) <-holding [ov] (getMethod ov m pl)
   callWith pos f first (backTo pos$ starEach (e ::es) X.env) (backToKw pos$ keywordEach [] X.env)):=by rfl) :
 PX X cl (.Call (.Attribute o m apos) (e ::es) [] pos) (u6 c m g fo fs):=by
 obtain⟨f,fd,ps,hC,hm,F,hb⟩:=M;refine⟨(La ho.1 hC hm F (hr.mono hkj) hb .nil Am ha.1 ub hJ ht).imp λσ H Q ⟨ρ,S,δ,v,S',E,hf,q⟩=>?_⟩
 obtain⟨ov,S1,h1,h2⟩:=R3.aj hf;split at h2
 .rename_i kk;split at h2
  .rename_i ys e1;split at h2
   .rename_i je;obtain⟨vs,S2,h3,h4⟩:=R3.aj h2;refine⟨ρ,S,δ, .loc kk,S1,E,h1,λu cf H1 p1 w1 r1=>?_⟩
    have t8:=r1;unfold bf at r1;obtain⟨a,a1,rfl⟩:=r1;obtain⟨dx,zs,ey,ek,rs⟩:=w1.ob kk a _ a1$ mf e1;refine⟨a,dx,zs,rfl,ey,Ag ek je,cf,S1,δ,vs,S2,E.to p1 w1,h3,λus qg H2 p2 w2 r2=>?_⟩
    show Ih X.K cl (n+1) g (V.ref a ::(us++[])) H2 Q E0;rw[Qbc];exact⟨by rw[QaB,<-r2.length,hn δ S1 vs S2 h3],qg,S2, .loc kk ::vs,v,S',w2,aM.cons (t8.pre p2) r2,h4,λz MM H3 p3 w3 r3=>q z MM H3 (p1.trans$ p2.trans p3) w3 r3⟩
   .cases h2
  .cases h2
 .cases h2
def IG(P:Program)(w:World)(K:Qdi)(mg:Aaf)(base:Heap)(cl:Aag)(k c:Nat)(x:Str)(n:Nat)(g:List V3->a_->R3 V3):Prop:=
 ∃(f:Addr) (fd:FuncData) (ps:List Str),Mk K (cl c) f/\ip P w K mg base u7 k f fd ps (Ih K cl (n+1) g)/\mg x=some (.ref$ cl c)/\Binds K fd ps []
def Jp(c:Nat)(g:List V3->a_->R3 V3)(fs:FA):FX:=λδ S=>(fs δ S).bind λvs S1=>(g (.loc S1.length ::vs)$ S1++[.ins c []]).bind λv S2=>match v with
 | .d .cI=> .ok (.loc S1.length) S2
 | _=> .no
def KJ{g:List V3->a_->R3 V3}{k j n c:Nat}{x:Str}{p pos:Pos}{e:Expr}{es:List Expr}{fs:FA}(M:IG X.prog X.w X.K X.mg X.base cl k c x n g)(hr:dZ j X.A)(hkj:k+1<=j)(hg:Gl X x)(ha:KY X cl (e ::es) fs)(hn:∀δ S ds S',fs δ S= .ok ds S'->ds.length=n)
 (oi:(x==("__debug__":Str))=false:=by decide) (he:starEach (e ::es) X.env=(false,eval e X.env) ::starEach es X.env:=by rfl) (hJ:(backTo pos$ starEach es X.env).any (·.1)=false:=by rfl) :
 PX X cl (.Call (.Name x p) (e ::es) [] pos) (Jp c g fs):=by
 obtain⟨f,fd,ps,M,F,hm,hb⟩:=M;refine⟨(K9 M F (hr.mono hkj) hg hm hb .nil Am ha.1 oi he hJ).imp λσ H Q ⟨ρ,S,δ,v,S',E,hf,q⟩=>?_⟩
 obtain⟨vs,S1,h1,h2⟩:=R3.aj hf;obtain⟨v0,S2,h3,h4⟩:=R3.aj h2;split at h4
 .cases h4;refine⟨ρ,S,δ,vs,S1,E,h1,λus cf H1 p1 w1 r1 xa dx hx hdx wa=>?_⟩
  have hx1:upd H1 dx (.own xa) xa=none:=by rw[bg$ λz=>wa z.symm];exact hx
  have sm:aY H1 (upd (upd H1 dx$ .own xa) xa$ .ins (cl c) dx []):=(aN hdx).trans$ aN hx1;obtain⟨w2,p2⟩:=w1.new (a:=xa) (o:= .ins c []) sm hx ⟨dx,[],aU,rfl,aM.nil⟩;show Ih X.K cl (n+1) g (V.ref xa ::(us++[])) _ _ E0;rw[Qbc];have rl:bf X.K (cf.push xa) (upd (upd H1 dx$ .own xa) xa$ .ins (cl c) dx []) (.loc S1.length) (.ref xa):=by
   unfold bf;exact⟨xa,by show(cf.r++[xa])[_]? =_;rw [<-w1.len,Qal$ Qai _,Qbl];rfl,rfl⟩
  exact⟨by rw[QaB,<-r1.length,hn δ S vs S1 h1],_,_, .loc S1.length ::vs, .d .cI,_,w2,aM.cons rl$ r1.pre p2,h3,λz MM H3 p3 w3 r3=>⟨by unfold bf Rep at r3;exact r3,q _ MM H3 (p1.trans$ p2.trans p3) w3$ rl.pre p3⟩⟩
 .cases h4
def Fw(c:Nat)(f:Str)(fo fe:FX):FZ:=λδ S=>(fe δ S).bind λv S1=>(fo δ S1).bind λo S2=>match o with
 | .loc k=>(match nP S2 c k with | some fs=>R3.aS (decide$ fs.length<1000) (.ok (.nx δ)$ S2.set k$ .ins c$ Av f v fs) | none=> .no)
 | _=> .no
def yF{c:Nat}{pos pos':Pos}(hC:zY X.K (cl c))(hn:eP X.K (cl c) f)(ho:PX X cl o fo)(he:PX X cl value fe)(hs:swapsWith value (some$ .Attribute o f pos') pos.line X.env=pure false:=by rfl) :
 PZ X cl (.Assign [.Attribute o f pos'] value pos) (Fw c f fo fe):=⟨(N9 ho.1 he.1 hs).imp λD σ H ⟨ρ,S,δ,ou,S',E,hf,q⟩=>by
 obtain⟨v,S1,h1,h2⟩:=R3.aj hf;obtain⟨vo,S2,h3,h4⟩:=R3.aj h2;split at h4
 .rename_i k;split at h4
  .rename_i fs e1;obtain⟨hl,h5⟩:=R3.bh h4;cases h5;refine⟨ρ,S,δ,v,S1,E,h1,λu cf H1 p1 w1 r1=>⟨cf,S1,δ, .loc k,S2,E.to p1 w1,h3,λu2 qg H2 p2 w2 r2=>?_⟩⟩
   unfold bf at r2;obtain⟨a,a1,rfl⟩:=r2;obtain⟨dx,ys,ey,ek,rs⟩:=w2.ob k a _ a1$ mf e1;have hlen:ys.length=fs.length:=by have:=Qbi List.length ek;simpa using this
   obtain⟨k1,k2⟩:=D9 (f:=f) (r1.pre p2) ek rs;obtain⟨w3,p3⟩:=w2.put (o:= .ins c$ Av f v fs) (u:= .ins (cl c) dx$ km f u ys) a1 (w2.fz k a a1$ by rw[mf e1];intro h;cases h) ⟨dx,_,rfl,k1,k2⟩
   exact⟨a,cl c,dx,ys,rfl,ey,hC,hn,by rw[hlen];exact Qah hl,q σ qg _ (p1.trans$ p2.trans p3)$ E.to (p1.trans$ p2.trans p3) w3⟩
  .cases h4
 .cases h4⟩
def qR{c k:Nat}{fo fe:FX}{δ:DE}{S:a_}{QO:Ou->a_->Prop}(h:W3 (fe δ S) λv S1=>W3 (fo δ S1) λo S2=>∃fs,o= .loc k/\S2[k]? =some (.ins c fs)/\fs.length<1000/\QO (.nx δ) (S2.set k$ .ins c$ Av f v fs)):W3 (Fw c f fo fe δ S) QO:=
 W3.bind (h.mono λv S1 h=>W3.bind (h.mono λo S2 ⟨fs,e1,je,hl,q⟩=>by
  subst e1;have e4:nP S2 c k=some fs:=by unfold nP;simp only[je,QbP]
  simp only[e4];exact W3.wh (Qan hl)$ W3.ok q))
def CG{c k:Nat}{g:List V3->a_->R3 V3}{fo:FX}{fs:FA}{δ:DE}{S:a_}{Q:V3->a_->Prop}(h:W3 (fo δ S) λo S1=>∃ys,o= .loc k/\S1[k]? =some (.ins c ys)/\ys.lookup m=none/\W3 (fs δ S1) λvs S2=>W3 (g (.loc k ::vs) S2) Q):W3 (u6 c m g fo fs δ S) Q:=
 W3.bind (h.mono λo S1 ⟨ys,e1,je,e3,h⟩=>by
  subst e1;have e4:nP S1 c k=some ys:=by unfold nP;simp only[je,QbP]
  simp only[e4,e3];exact W3.bind h)
def Ow{c:Nat}{g:List V3->a_->R3 V3}{fs:FA}{δ:DE}{S:a_}{Q:V3->a_->Prop}(h:W3 (fs δ S) λvs S1=>W3 (g (.loc S1.length ::vs)$ S1++[.ins c []]) λv S2=>v= .d .cI/\Q (.loc S1.length) S2):W3 (Jp c g fs δ S) Q:=
 W3.bind (h.mono λvs S1 h=>W3.bind$ h.mono λv S2 ⟨e,q⟩=>by subst e;exact W3.ok q)
end
end L3
end
section
namespace PySem
open Sem (wp)
def gz(t:Bool)(h:Heap)(i l:Addr)(k:Nat):Prop:=cond t (h.IsTupleIter i l k)$ h.IsListIter i l k
def jS(t:Bool)(h:Heap)(l:Addr)(xs:Array Value):Prop:=cond t (h.IsTuple l xs)$ h.IsList l xs
noncomputable def vg(t:Bool):String:=cond t "tuple_iterator" "list_iterator"
def gz.at{t:Bool}{h h':Heap}{i l:Addr}{k:Nat}(x:gz t h i l k)(e:∀o,h.get? i=some o->h'.get? i=some o):gz t h' i l k:=by
 cases t with
 | true=>exact Heap.IsTupleIter.at x e
 | false=>exact Heap.IsListIter.at x e
def jS.at{t:Bool}{h h':Heap}{l:Addr}{xs:Array Value}(x:jS t h l xs)(e:∀o,h.get? l=some o->h'.get? l=some o):jS t h' l xs:=by
 cases t with
 | true=>exact Heap.IsTuple.at x e
 | false=>exact Heap.IsList.at x e
def gz.xb{t:Bool}{i l b:Addr}{k:Nat}(x:gz t h i l k)(hs:Heap.ExtBut b h h')(Bc:i≠b):gz t h' i l k:=x.at λo e=>hs i o Bc e
def jS.xb{t:Bool}{l b:Addr}{xs:Array Value}(x:jS t h l xs)(hs:Heap.ExtBut b h h')(Bc:l≠b):jS t h' l xs:=x.at λo e=>hs l o Bc e
def gz.ob{t:Bool}{h:Heap}{i l:Addr}{k:Nat}(x:gz t h i l k):∃o,h.get? i=some o/\∀v,o.data≠ .cell v:=by
 cases t with
 | true=>obtain⟨o,e,_,d⟩:=x;exact⟨o,e,λv z=>by rw[d] at z;cases z⟩
 | false=>obtain⟨o,e,_,d⟩:=x;exact⟨o,e,λv z=>by rw[d] at z;cases z⟩
def jS.lt{t:Bool}{h:Heap}{l:Addr}{xs:Array Value}(x:jS t h l xs):l<h.objs.size:=by
 cases t with
 | true=>obtain⟨o,e,_⟩:=x;exact Qar e
 | false=>obtain⟨o,e,_⟩:=x;exact Qar e
def gz.lt{t:Bool}{h:Heap}{i l:Addr}{k:Nat}(x:gz t h i l k):i<h.objs.size:=let⟨_,e,_⟩:=x.ob;Qar e
section
variable {prog:Program}{w:World}{A:Around}{E:Aab}{s:Qdj}
def jB{t:Bool}{it l:Addr}{i:Nat}{items:Array Value}{x:Value}{Q:Aab}(hit:gz t s.heap it l i)(hl:jS t s.heap l items)(hx:items[i]? =some x)
 (hQ:∀h',gz t h' it l (i+1)->Heap.SameBut it s.heap h'->Q x {s with heap:=h'}):wpAny (model prog w) A (Builtin.SmallTypes.nextOf$ .ref it) Q E s:=by
 cases t with
 | true=>exact mP hit hl hx hQ
 | false=>exact wpAny_nextOf_list_item hit hl hx hQ
def o9{t:Bool}{it l:Addr}{i:Nat}{items:Array Value}{Q:Aab}(hh:A.handled=none)(hit:gz t s.heap it l i)(hl:jS t s.heap l items)(hx:items[i]? =none)
 (hE:∀h' e,Heap.ExtBut it s.heap h'->(∃o,h'.get? e=some o/\o.cls= .type "StopIteration")->E (.ref e) {s with heap:=h'}):wpAny (model prog w) A (Builtin.SmallTypes.nextOf$ .ref it) Q E s:=by
 cases t with
 | true=>exact jH hh hit hl hx hE
 | false=>exact wpAny_nextOf_list_end hh hit hl hx hE
def xu{t:Bool}{l:Addr}{items:Array Value}{Q:Aab}(hl:jS t s.heap l items)
 (hQ:Q (.ref s.heap.objs.size) {s with heap:=s.heap.push {cls:= .type$ vg t,data:= .fields #[.ref l, .int 0 0]}}):wpAny (model prog w) A (pyIter$ .ref l) Q E s:=by
 cases t with
 | true=>exact Qck hl hQ
 | false=>exact Qcp hl hQ
def Fe{t u:Bool}{z TI TO i1 i2 l1 l2:Addr}{k1 k2:Nat}{xs ys:Array Value}{x y a b:Value}{Q:Aab}(D:ZipApart z TI TO i1 i2 l1 l2)(hz:IsZip s.heap z TI TO .none)(CT:IsPair s.heap TI (.ref i1) (.ref i2))
 (Ei:IsPair s.heap TO a b) (h1:gz t s.heap i1 l1 k1) (h2:gz u s.heap i2 l2 k2) (Gj:jS t s.heap l1 xs) (MP:jS u s.heap l2 ys) (hx:xs[k1]? =some x) (hy:ys[k2]? =some y)
 (hQ:∀h',IsZip h' z TI TO (rawInt s.heap.objs.size)->IsPair h' TO x y->gz t h' i1 l1 (k1+1)->gz u h' i2 l2 (k2+1)->IsPair h' s.heap.objs.size x y->h'.objs.size=s.heap.objs.size+1->(∀c o,c≠z->c≠TO->c≠i1->c≠i2->s.heap.get? c=some o->h'.get? c=some o)->Q (.ref s.heap.objs.size) {s with heap:=h'}) :
 wpAny (model prog w) A (Builtin.«zip.__next__» ⟨[.ref z],[]⟩) (λfin s'=>∃v,fin= .done (.ret v)/\Q v s') E s:=by
 show wpAny _ _ (field (.ref z) 2 >>=_) _ _ _;refine Qab$ Qa5 hz rfl (x:= .bool false) rfl ?_;show wpAny _ _ (field (.ref z) 3 >>=_) _ _ _;refine Qab$ Qa5 hz rfl (x:= .ref TI) rfl ?_;refine Qab$ QbL CT rfl ?_;show wpAny _ _ (Builtin.SmallTypes.ownedTupleIsFree (.ref z) >>=_) _ _ _;refine Qab ?_;unfold Builtin.SmallTypes.ownedTupleIsFree;refine Qab$ Qa5 hz rfl (x:= .none) rfl$ Qaj ?_;simp only[QbP];refine Qab$ QcJ ?_;refine Qab$ Qa5 hz rfl (x:= .ref TO) rfl ?_;refine Qab (QbN hz (by simp) λi_ pA i4=>?_)
 replace pA:IsZip i_ z TI TO .ellipsis:=pA;refine Qab ?_;simp only[Qcy,List.zipIdx_nil,Qcf,Qcl]
 refine Qab$ Qab$ wpAny_onRaise ?_;show wpAny _ _ (Builtin.SmallTypes.nextOf (.ref i1) >>=_) _ _ _;refine Qab$ jB (h1.xb i4.extBut D.i1z) (Gj.xb i4.extBut D.l1z) hx λg8 NJ dj=>Qaj ?_
 have hTO₂:IsPair g8 TO a b:=dj.extBut _ _ D.TOi1$ i4.extBut _ _ D.TOz Ei;refine Qab$ QbL hTO₂ rfl ?_;refine Qab$ QcK hTO₂ λMJ zl kh=>?_
 replace zl:IsPair MJ TO x b:=zl;refine Qab$ wpAny_letGo$ Qaj ?_;refine Qab$ Qab$ wpAny_onRaise ?_;show wpAny _ _ (Builtin.SmallTypes.nextOf (.ref i2) >>=_) _ _ _
 refine Qab$ jB (((h2.xb i4.extBut D.i2z).xb dj.extBut D.i12.symm).xb kh.extBut D.TOi2.symm) (((MP.xb i4.extBut D.l2z).xb dj.extBut D.l2i1).xb kh.extBut D.l2TO) hy λQG Ui tP=>Qaj ?_
 have hTO₄:IsPair QG TO x b:=tP.extBut _ _ D.TOi2 zl;refine Qab$ QbL hTO₄ rfl ?_;refine Qab$ QcK hTO₄ λoP zi tQ=>?_
 replace zi:IsPair oP TO x y:=zi;refine Qab$ wpAny_letGo$ Qaj$ Qaj ?_;refine Qab$ QbL zi rfl ?_;refine Qab$ wpAny_newTuple ?_
 have hsz:oP.objs.size=s.heap.objs.size:=(tQ.1.trans$ tP.1.trans$ kh.1.trans$ dj.1.trans i4.1);have hz₅:IsZip oP z TI TO .ellipsis:=tQ.extBut _ _ D.TOz.symm<|tP.extBut _ _ D.i2z.symm<|kh.extBut _ _ D.TOz.symm<|dj.extBut _ _ D.i1z.symm pA
 have hk₅:∀c o,c≠z->c≠TO->c≠i1->c≠i2->s.heap.get? c=some o->oP.get? c=some o:=λc o c1 c2 c3 c4 e=>tQ.extBut _ _ c2<|tP.extBut _ _ c4<|kh.extBut _ _ c2<|dj.extBut _ _ c3<|i4.extBut _ _ c1 e
 have h1₅:gz t oP i1 l1 (k1+1):=((NJ.xb kh.extBut D.TOi1.symm).xb tP.extBut D.i12).xb tQ.extBut D.TOi1.symm;have h2₅:gz u oP i2 l2 (k2+1):=Ui.xb tQ.extBut D.TOi2.symm;have hzlt:=Qar hz₅;show wpAny _ _ (Builtin.SmallTypes.ownedTupleHandOut (.ref z) (.ref oP.objs.size) >>=_) _ _ _;refine Qab ?_;unfold Builtin.SmallTypes.ownedTupleHandOut;have hz₆:IsZip (oP.push {cls:= .type "tuple",data:= .seq #[x,y]}) z TI TO .ellipsis:=Qac _ hz₅;refine Qab (QbN hz₆ (by simp) λW9 JX Ka=>?_)
 replace JX:IsZip W9 z TI TO (rawInt oP.objs.size):=JX;refine QbN JX (by simp) λJU Ej JV=>?_;replace Ej:IsZip JU z TI TO (rawInt oP.objs.size):=Ej
 have up:∀c o,c≠z->oP.get? c=some o->JU.get? c=some o:=λc o c1 e=>JV.extBut _ _ c1<|Ka.extBut _ _ c1$ Qac _ e
 have hT₈:IsPair JU oP.objs.size x y:=JV.extBut _ _ (Qcg hzlt)<|Ka.extBut _ _ (Qcg hzlt)$ QaF _ rfl
 have hz8:JU.objs.size=oP.objs.size+1:=(JV.1.trans Ka.1).trans$ Qbb ..;rw[hsz] at Ej hT₈ hz8;refine Qaj ⟨_,rfl,?_⟩;show Q (.ref oP.objs.size) _;rw [hsz];exact hQ JU Ej (up _ _ D.TOz zi) (h1₅.at λo e=>up _ o D.i1z e) (h2₅.at λo e=>up _ o D.i2z e) hT₈ hz8 λc o c1 c2 c3 c4 e=>up c o c1$ hk₅ c o c1 c2 c3 c4 e
def Hf{t u:Bool}{z TI TO i1 i2 l1 l2:Addr}{k1 k2:Nat}{xs ys:Array Value}{a b:Value}{Q:Fin->Qdj->Prop}(hh:A.handled=none)(D:ZipApart z TI TO i1 i2 l1 l2)(hz:IsZip s.heap z TI TO .none)
 (CT:IsPair s.heap TI (.ref i1) (.ref i2)) (Ei:IsPair s.heap TO a b) (h1:gz t s.heap i1 l1 k1) (h2:gz u s.heap i2 l2 k2) (Gj:jS t s.heap l1 xs) (MP:jS u s.heap l2 ys) (Xk:xs[k1]? =none\/ys[k2]? =none)
 (hE:∀h' e,(∀c o,c≠z->c≠TO->c≠i1->c≠i2->s.heap.get? c=some o->h'.get? c=some o)->(∃o,h'.get? e=some o/\o.cls= .type "StopIteration")->E (.ref e) {s with heap:=h'}):wpAny (model prog w) A (Builtin.«zip.__next__» ⟨[.ref z],[]⟩) Q E s:=by
 show wpAny _ _ (field (.ref z) 2 >>=_) _ _ _;refine Qab$ Qa5 hz rfl (x:= .bool false) rfl ?_;show wpAny _ _ (field (.ref z) 3 >>=_) _ _ _;refine Qab$ Qa5 hz rfl (x:= .ref TI) rfl ?_;refine Qab$ QbL CT rfl ?_;show wpAny _ _ (Builtin.SmallTypes.ownedTupleIsFree (.ref z) >>=_) _ _ _;refine Qab ?_;unfold Builtin.SmallTypes.ownedTupleIsFree;refine Qab$ Qa5 hz rfl (x:= .none) rfl$ Qaj ?_;simp only[QbP];refine Qab$ QcJ ?_;refine Qab$ Qa5 hz rfl (x:= .ref TO) rfl ?_;refine Qab (QbN hz (by simp) λi_ pA i4=>?_)
 replace pA:IsZip i_ z TI TO .ellipsis:=pA;refine Qab ?_;simp only[Qcy,List.zipIdx_nil,Qcf,Qcl]
 refine Qab$ Qab$ wpAny_onRaise ?_;show wpAny _ _ (Builtin.SmallTypes.nextOf (.ref i1) >>=_) _ _ _;cases hx:xs[k1]? with
 | none=>
   refine Qab$ o9 hh (h1.xb i4.extBut D.i1z) (Gj.xb i4.extBut D.l1z) hx λg8 e dj he=>?_
   obtain⟨oe,hoe,hce⟩:=he;have Ek:IsZip g8 z TI TO .ellipsis:=dj _ _ D.i1z.symm pA;have hez:e≠z:=λx=>by {subst x;rw [Ek] at hoe;cases hoe;simp at hce}
   exact QbN Ek (by simp) λMJ _ kh=>hE MJ e (λc o c1 _ c3 _ x=>kh.extBut _ _ c1<|dj _ _ c3<|i4.extBut _ _ c1 x) ⟨oe,kh.extBut _ _ hez hoe,hce⟩
 | some x=>
   have hy:ys[k2]? =none:=Xk.resolve_left λh=>by {rw [hx] at h;cases h}
   refine Qab$ jB (h1.xb i4.extBut D.i1z) (Gj.xb i4.extBut D.l1z) hx λg8 NJ dj=>Qaj ?_
   have hTO₂:IsPair g8 TO a b:=dj.extBut _ _ D.TOi1$ i4.extBut _ _ D.TOz Ei;refine Qab$ QbL hTO₂ rfl ?_;refine Qab$ QcK hTO₂ λMJ zl kh=>?_
   refine Qab$ wpAny_letGo$ Qaj ?_;refine Qab$ Qab$ wpAny_onRaise ?_;show wpAny _ _ (Builtin.SmallTypes.nextOf (.ref i2) >>=_) _ _ _;refine Qab$ o9 hh (((h2.xb i4.extBut D.i2z).xb dj.extBut D.i12.symm).xb kh.extBut D.TOi2.symm) (((MP.xb i4.extBut D.l2z).xb dj.extBut D.l2i1).xb kh.extBut D.l2TO) hy λQG e tP he=>?_
   obtain⟨oe,hoe,hce⟩:=he;have hz₄:IsZip QG z TI TO .ellipsis:=tP _ _ D.i2z.symm<|kh.extBut _ _ D.TOz.symm<|dj.extBut _ _ D.i1z.symm pA
   have hez:e≠z:=λx=>by {subst x;rw [hz₄] at hoe;cases hoe;simp at hce}
   exact QbN hz₄ (by simp) λoP _ tQ=>hE oP e (λc o c1 c2 c3 c4 x=>tQ.extBut _ _ c1<|tP _ _ c4<|kh.extBut _ _ c2<|dj.extBut _ _ c3<|i4.extBut _ _ c1 x) ⟨oe,tQ.extBut _ _ hez hoe,hce⟩
end
abbrev UK(t:Bool)(h:Heap)(l1:Addr):Heap:=h.push {cls:= .type$ vg t,data:= .fields #[.ref l1, .int 0 0]}
abbrev UE(t u:Bool)(h:Heap)(l1 l2:Addr):Heap:=(UK t h l1).push {cls:= .type$ vg u,data:= .fields #[.ref l2, .int 0 0]}
abbrev Ux(t u:Bool)(h:Heap)(l1 l2:Addr):Heap:=(UE t u h l1 l2).push {cls:= .type "tuple",data:= .seq #[.ref h.objs.size, .ref (UK t h l1).objs.size]}
abbrev UJ(t u:Bool)(h:Heap)(l1 l2:Addr):Heap:=(Ux t u h l1 l2).push {cls:= .type "tuple",data:= .seq #[.none, .none]}
abbrev Ri(t u:Bool)(h:Heap)(l1 l2:Addr):Heap:=(UJ t u h l1 l2).push {cls:= .type "zip",data:= .fields #[.none, .bool false, .bool false, .ref (UE t u h l1 l2).objs.size, .ref (Ux t u h l1 l2).objs.size]}
def Cg(t u:Bool)(l1 l2:Addr)(xs ys:Array Value):Meets (Builtin.«zip.__new__» ⟨[.type "zip", .ref l1, .ref l2],[]⟩) (λ_ R s=>jS t s.heap l1 xs/\jS u s.heap l2 ys/\R (.ok (.ret (.ref (UJ t u s.heap l1 l2).objs.size))) {s with heap:=Ri t u s.heap l1 l2}):=
 .of_wp λprog w A R s h=>by
   obtain⟨hp,g,d,tk,os⟩:=s;obtain⟨Gj,MP,h⟩:=h;have hsub:=sub_zip;have hL1:jS t (Shared.heap ⟨hp,g,d,tk,os⟩) l1 xs:=Gj;have hL2:jS u (Shared.heap ⟨hp.push {cls:= .type$ vg t,data:= .fields #[.ref l1, .int 0 0]},g,d,tk,os⟩) l2 ys:=MP.at λo e=>Qac _ e
   wp_walk using xu hL1,xu hL2
   exact⟨_,rfl,h⟩
def gz.new{t:Bool}{h:Heap}{i l:Addr}(e:h.get? i=some {cls:= .type$ vg t,data:= .fields #[.ref l, .int 0 0]}):gz t h i l 0:=by
 cases t with
 | true=>exact⟨_,e,rfl,rfl⟩
 | false=>exact⟨_,e,rfl,rfl⟩
def EU{prog:Program}{w:World}{A:Around}{E:Aab}{s:Qdj}{t u:Bool}{l1 l2:Addr}{xs ys:Array Value}{Q:Aab}(Gj:jS t s.heap l1 xs)(MP:jS u s.heap l2 ys)
 (h:∀h',IsZip h' (s.heap.objs.size+4) (s.heap.objs.size+2) (s.heap.objs.size+3) .none->IsPair h' (s.heap.objs.size+2) (.ref s.heap.objs.size) (.ref$ s.heap.objs.size+1)->IsPair h' (s.heap.objs.size+3) .none .none->
   gz t h' s.heap.objs.size l1 0->gz u h' (s.heap.objs.size+1) l2 0->(∀c o,s.heap.get? c=some o->h'.get? c=some o)->Q (.ref$ s.heap.objs.size+4) {s with heap:=h'}):wpAny (model prog w) A (call (.type "zip") [.ref l1, .ref l2]) Q E s:=by
 refine callType_new F.called_zip (by decide) (F.typeCall_zip_2 _ _) (F.newCall_zip_2 _ _) (λobj=>F.args_object_init_3 obj _ _) F.entry_zip_new (Cg t u l1 l2 xs ys) ⟨Gj,MP,?_⟩
 have z1:(UK t s.heap l1).objs.size=s.heap.objs.size+1:=Qbb ..;have z2:(UE t u s.heap l1 l2).objs.size=s.heap.objs.size+2:=(Qbb ..).trans$ Qbi (·+1) z1
 have z3:(Ux t u s.heap l1 l2).objs.size=s.heap.objs.size+3:=(Qbb ..).trans$ Qbi (·+1) z2
 have z4:(UJ t u s.heap l1 l2).objs.size=s.heap.objs.size+4:=(Qbb ..).trans$ Qbi (·+1) z3
 have g5:(Ri t u s.heap l1 l2).get? (UJ t u s.heap l1 l2).objs.size=some _:=QaF _ rfl;have g4:(Ri t u s.heap l1 l2).get? (Ux t u s.heap l1 l2).objs.size=some _:=Qac _$ QaF _ rfl;have g3:(Ri t u s.heap l1 l2).get? (UE t u s.heap l1 l2).objs.size=some _:=Qac _<|Qac _$ QaF _ rfl
 have g2:(Ri t u s.heap l1 l2).get? (UK t s.heap l1).objs.size=some _:=Qac _<|Qac _<|Qac _$ QaF _ rfl
 have g1:(Ri t u s.heap l1 l2).get? s.heap.objs.size=some _:=Qac _<|Qac _<|Qac _<|Qac _$ QaF _ rfl
 show _/\_;rw[z2,z3,z4] at g5;rw [z1,z2] at g3;rw [z3] at g4;rw [z1] at g2;rw [z4];exact⟨⟨_,g5,rfl⟩,h _ g5 g3 g4 (gz.new g1) (gz.new g2) λc o x=>Qac _<|Qac _<|Qac _<|Qac _<|Qac _ x⟩
end PySem
namespace L2
open PySem PySem.Spec PyProof.Rows
def Kc(t:Bool)(K:Qdi)(H:Hp)(a:Addr)(xs:List V):Prop:=cond t (rA K H a xs)$ pI K H a xs
def Inv.GY{X:Cx}{pins:Aaa}{σ:L2.St}{s:Qdj}{t:Bool}{a:Addr}{xs:List V}(I:Inv X pins σ H s)(h:Kc t X.K H a xs):∃its:List Value,Vals xs its/\jS t s.heap a its.toArray:=by
 cases t with
 | true=>obtain⟨its,r,p,_⟩:=I.tuple h;exact⟨its,r,p⟩
 | false=>obtain⟨its,r,p,_⟩:=I.list h;exact⟨its,r,p.isList⟩
def Inv.DW{X:Cx}{pins:Aaa}{σ:L2.St}{s:Qdj}{t:Bool}{a:Addr}{xs ys:List V}(I:Inv X pins σ H s)(h:Kc t X.K H a xs)(h':Kc t X.K H a ys):xs=ys:=by
 cases t with
 | true=>exact I.rG h h'
 | false=>exact I.qJ h h'
def Z4(K:Qdi)(t u:Bool)(a b:Addr):It:=
 ⟨λi H=>∃xs ys x y,Kc t K H a xs/\Kc u K H b ys/\xs[i]? =some x/\ys[i]? =some y,
  λi H v H'=>∃p x y,H p=none/\v= .ref p/\(∀xs,Kc t K H a xs->xs[i]? =some x)/\(∀ys,Kc u K H b ys->ys[i]? =some y)/\H'=upd H p (.tup [x,y]),
  λi H=>∃xs ys,Kc t K H a xs/\Kc u K H b ys/\(xs.length<=i\/ys.length<=i)⟩
def GS{K:Qdi}{k:Nat}{t u:Bool}{z TI TO i1 i2 a b:Addr}(D:ZipApart z TI TO i1 i2 a b):Turn P w K (.Tuple elts k pos) (Z4 K t u a b) [z,TI,TO,i1,i2] z
 (λi h=>IsZip h z TI TO .none/\IsPair h TI (.ref i1) (.ref i2)/\(∃x y,IsPair h TO x y)/\gz t h i1 a i/\gz u h i2 b i) where
 mem:=by simp
 obj:=λi h st c hc=>by
  obtain⟨hz,CT,⟨x,y,Ei⟩,h1,h2⟩:=st;simp only[Qaw,Qb7,or_false] at hc;rcases hc with rfl | rfl | rfl | rfl | rfl
  .exact⟨_,hz,λv z=>by cases z⟩
  .exact⟨_,CT,λv z=>by cases z⟩
  .exact⟨_,Ei,λv z=>by cases z⟩
  .exact h1.ob
  .exact h2.ob
 keep:=λi h h' st k=>by
  obtain⟨hz,CT,⟨x,y,Ei⟩,h1,h2⟩:=st;exact⟨k z (by simp) _ hz,k TI (by simp) _ CT,⟨x,y,k TO (by simp) _ Ei⟩,h1.at λo e=>k i1 (by simp) o e,h2.at λo e=>k i2 (by simp) o e⟩
 item:=by
  intro X hP hw hK hc i pins s σ H E I hf st hg;subst hP hw hK;obtain⟨xs,ys,x,y,hq,hr,hx,hy⟩:=hg;obtain⟨its,rv,p⟩:=I.GY hq;obtain⟨jts,xO,p'⟩:=I.GY hr;obtain⟨ux,hu,ru⟩:=rv.get hx;obtain⟨uy,hu',Xg⟩:=xO.get hy;obtain⟨hz,CT,⟨a0,b0,Ei⟩,h1,h2⟩:=st;have hT:s.TypeIs (.ref z) "zip":=⟨_,hz,rfl⟩;unfold pyNext;refine Qab (Qb8$ Qbh (name:="__next__") hT QcL$ Qbr QcL hT F.entry_zip_next (Fe D hz CT Ei h1 h2 p p' (x:=ux) (y:=uy) (by simpa using hu) (by simpa using hu') λi_ a1 a2 a3 a4 a5 a6 xK=>Qaj ?_) (F.args_zip_next_1 _))
  refine⟨_,rfl,wpAny_letOwnedTupleGo_zip a1 λg8 Ek dj=>?_⟩
  replace dj:Heap.SameBut z i_ g8:=dj
  have hzl:z<s.heap.objs.size:=Qar hz;have A_:g8.get? s.heap.objs.size=some {cls:= .type "tuple",data:= .seq #[ux,uy]}:=(dj.2 _$ Qcg hzl).trans a5;have kk:∀b o,b≠z->b≠TO->b≠i1->b≠i2->s.heap.get? b=some o->g8.get? b=some o:=λb o c1 c2 c3 c4 q=>(dj.2 b c1).trans$ xK b o c1 c2 c3 c4 q
  have hn:H s.heap.objs.size=none:=I.fresh;have sm:aY H (upd H s.heap.objs.size$ .tup [x,y]):=aN hn;have f0:∀c∈[z,TI,TO,i1,i2],H c=none:=λc hc=>(hf c hc).1
  have nit:∀b o,H b=some o->b≠z/\b≠TO/\b≠i1/\b≠i2:=λb o q=>by
   refine⟨λe=>?_,λe=>?_,λe=>?_,λe=>?_⟩
   .rw [e,f0 z$ by simp] at q;cases q
   .rw [e,f0 TO$ by simp] at q;cases q
   .rw [e,f0 i1$ by simp] at q;cases q
   .rw [e,f0 i2$ by simp] at q;cases q
  have kH:∀b o q,H b=some q->s.heap.get? b=some o->g8.get? b=some o:=λb o q hb e=>let⟨c1,c2,c3,c4⟩:=nit b q hb;kk b o c1 c2 c3 c4 e
  have hok:mF X.prog X.w (upd H s.heap.objs.size$ .tup [x,y]) g8:=λb ob q=>by
   by_cases hb:b=s.heap.objs.size
   .subst hb;rw[aU] at q;cases q;exact⟨by show 2<=sizeLine;decide,[ux,uy], .cons ru$ .cons Xg .nil,⟨_,A_,rfl,_,rfl⟩⟩
   .rw [bg hb] at q;refine(I.hok b ob q).t7 (λc v hc e=>?_) (λc e=>sm c _ e) λc ys e=>sm c _ e
    rcases hc with rfl | hc
    .exact kH c v _ q e
    .exact kH c v _ hc e
  have nch:∀b,b ∉ [z,TI,TO,i1,i2]->b≠z/\b≠TO/\b≠i1/\b≠i2:=λb hb=>⟨λe=>hb (by simp [e]),λe=>hb (by simp [e]),λe=>hb (by simp [e]),λe=>hb$ by simp [e]⟩
  have kc:∀b o,b ∉ [z,TI,TO,i1,i2]->s.heap.get? b=some o->g8.get? b=some o:=λb o hb e=>let⟨c1,c2,c3,c4⟩:=nch b hb;kk b o c1 c2 c3 c4 e
  have I2:Inv X pins σ (upd H s.heap.objs.size$ .tup [x,y]) {s with heap:=g8,toks:=s.toks}:=by
   refine I.step (g':=s.gens) (d':=s.drawn) (ch:=[z,TI,TO,i1,i2]) (λb hb=>?_) (λb o _ _ hb q _=>kc b o hb q) (λb o _ _ hb q _=>⟨o.slots,kc b o hb q⟩)
    (λb o hb q n=>by rw[bg$ QaE$ Qar q];exact n) (λb o hb q=>⟨o,kc b o hb q⟩) (λb ys e=>sm b _ e) (λb o u e=>sm b _ e) (λb ps e=>⟨#[],by rw[sm b _ e];simp⟩) (λm hm=>?_) hok I.bare
   .obtain⟨g0,g1,g2,g3,g4,g5⟩:=hf b hb;exact⟨g3,g1,g4,g5⟩
   .obtain⟨o,es,ep,ho,r⟩:=hm;refine⟨o,es,ep,kc _ o (λhb=>?_) ho,r⟩
    exact(hf _ hb).2.1 rfl
  have up:∀c,c≠z->∀o,i_.get? c=some o->g8.get? c=some o:=λc hc o e=>(dj.2 c hc).trans e
  refine⟨.ref s.heap.objs.size,_,I2,rfl,⟨s.heap.objs.size,x,y,hn,rfl,λzs XJ=>(by rw[I.DW XJ hq];exact hx),λzs XJ=>(by rw[I.DW XJ hr];exact hy),rfl⟩,
   ⟨Ek,up _ D.TIz _$ xK TI _ D.TIz D.TITO D.TIi1 D.TIi2 CT,⟨_,_,up _ D.TOz _ a2⟩,a3.at λo e=>up _ D.i1z o e,a4.at λo e=>up _ D.i2z o e⟩,λc hc=>?_⟩
  have hlt:c<s.heap.objs.size:=by
   simp only[Qaw,Qb7,or_false] at hc;rcases hc with rfl | rfl | rfl | rfl | rfl
   .exact hzl
   .exact Qar CT
   .exact Qar Ei
   .exact h1.lt
   .exact h2.lt
  rw[bg$ QaE hlt];exact f0 c hc
 done:=by
  intro X hP hw hK hc i pins s σ H E I hf st hg;subst hP hw hK;obtain⟨xs,ys,hq,hr,hl⟩:=hg;obtain⟨its,rv,p⟩:=I.GY hq;obtain⟨jts,xO,p'⟩:=I.GY hr;obtain⟨hz,CT,⟨a0,b0,Ei⟩,h1,h2⟩:=st;have hT:s.TypeIs (.ref z) "zip":=⟨_,hz,rfl⟩;have l1:=rv.length;have l2:=xO.length;unfold pyNext;refine Qab$ Qb8$ Qbh (name:="__next__") hT QcL$ Qbr QcL hT F.entry_zip_next (Hf (I.ok.hd hc) D hz CT Ei h1 h2 p p' ?_ λh' e hk he=>?_) (F.args_zip_next_1 _)
  .rcases hl with hl | hl
   .exact .inl (by simp;omega)
   .exact .inr (by simp;omega)
  obtain⟨o,ho,hcl⟩:=he;refine Qab$ wpAny_isInstance (T:="StopIteration") (b:=true) ⟨o,ho,hcl⟩ isSubtype_stop ?_;have nch:∀b,b ∉ [z,TI,TO,i1,i2]->b≠z/\b≠TO/\b≠i1/\b≠i2:=λb hb=>⟨λe=>hb (by simp [e]),λe=>hb (by simp [e]),λe=>hb (by simp [e]),λe=>hb$ by simp [e]⟩
  have kc:∀b o,b ∉ [z,TI,TO,i1,i2]->s.heap.get? b=some o->h'.get? b=some o:=λb o hb e=>let⟨c1,c2,c3,c4⟩:=nch b hb;hk b o c1 c2 c3 c4 e
  have f0:∀c∈[z,TI,TO,i1,i2],H c=none:=λc hc=>(hf c hc).1
  have kH:∀b o q,H b=some q->s.heap.get? b=some o->h'.get? b=some o:=λb o q hb e=>kc b o (λz=>by rw[f0 b z] at hb;cases hb) e
  refine Qaj ⟨rfl,?_⟩;refine I.step (h':=h') (H':=H) (g':=s.gens) (d':=s.drawn) (t':=s.toks) (ch:=[z,TI,TO,i1,i2]) (λb hb=>?_) (λb o _ _ hb q _=>kc b o hb q) (λb o _ _ hb q _=>⟨o.slots,kc b o hb q⟩)
   (λb o hb q n=>n) (λb o hb q=>⟨o,kc b o hb q⟩) (λb ys e=>e) (λb o u e=>e) (λb ps e=>⟨#[],by rw[e];simp⟩) (λm hm=>?_) (λb ob q=>?_) I.bare
  .obtain⟨g0,g1,g2,g3,g4,g5⟩:=hf b hb;exact⟨g3,g1,g4,g5⟩
  .obtain⟨o,es,ep,ho,r⟩:=hm;refine⟨o,es,ep,kc _ o (λhb=>?_) ho,r⟩
   exact(hf _ hb).2.1 rfl
  .refine(I.hok b ob q).t7 (λc v hc e=>?_) (λc e=>e) λc ys e=>e
   rcases hc with rfl | hc
   .exact kH c v _ q e
   .exact kH c v _ hc e
 self:=λA i s Q E st h=>wpAny_pyIter_zip st.1 h
section
variable {X:Cx}
noncomputable def tU(ds es:List D):List D:=(ds.zip es).map λp=> .tup [p.1,p.2]
noncomputable def seqD?:D->Option (List D)
 | .lst ds=>some ds
 | .tup ds=>some ds
 | _=>none
def Dr(f g:FD):av->R (List D):=λδ=>(f δ).bind λd=>(g δ).bind λe=>match seqD? d,seqD? e with | some ds,some es=> .ok (tU ds es) | _,_=> .no
def Rep.GY{K:Qdi}{B:List Addr}{d:D}{v:V}{ds:List D}(r:Rep K B H d v)(h:seqD? d=some ds):∃t a xs,v= .ref a/\(∀B' H',dO B H B' H'->Kc t K H' a xs/\aI K B' H' ds xs):=by
 cases d with
 | lst es=>
   cases h;obtain⟨a,xs,rfl,l,rs⟩:=Rep.lst.mp r;exact⟨false,a,xs,rfl,λB' H' p=>⟨(l.bu p).sq,rs.bu p⟩⟩
 | tup es=>
   cases h;obtain⟨a,xs,rfl,l,rs⟩:=Rep.tup.mp r;refine⟨true,a,xs,rfl,λB' H' p=>⟨?_,rs.bu p⟩⟩
   have l':xh K B' H' a xs:=l.elim (λz=> .inl ⟨(p.rd z.2 z.1).2,(p.rd z.2 z.1).1⟩) .inr
   exact l'.sq
 | _=>cases h
def uD{elts:List Expr}{k:Nat}{mX:Pos}{p pos:Pos}(h:QD X a f)(h':QD X b g)(hg:Gl X "zip")(hm:X.mg "zip"=none)(hs:starEach [a,b] X.env=[(false,eval a X.env),(false,eval b X.env)]:=by rfl)(hs2:starEach [b] X.env=[(false,eval b X.env)]:=by rfl) :
 y1 X (.Tuple elts k mX) (.Call (.Name "zip" p) [a,b] [] pos) (Dr f g):=by
 refine⟨?_⟩;intro pins s σ H RR I ⟨Z,B,δ,ds,E,hf,q⟩;obtain⟨d,h1,h2⟩:=R.aj hf;obtain⟨e,h3,h4⟩:=R.aj h2;have hA:=cD h.1 (cD h'.1 eB hs2) (by rw[hs,hs2]) pos pins s σ H (λvs H1=>aY H H1/\∃v v',vs=[v,v']/\Rep X.K B H1 d v/\Rep X.K B H1 e v') I
  ⟨Z,B,δ,d,E,h1,λv H1 s1 r1=>⟨Z,B,δ,e,E.same s1,h3,λv' H2 s2 r2=>⟨s1.trans s2,v,v',rfl,r1.same s2,r2⟩⟩⟩
 refine Call_ (l8 I hg hm boot_zip$ Qba (dP hA λus s1 ⟨vs,H1,I1,r1,ss,v,v',ev,rr,QM⟩=>?_) (by rw[hs,hs2]) (by rw[hs2];rfl))
 subst ev;obtain⟨u,u',rfl,ru,Xg⟩:=vals2 r1;cases e1:seqD? d with
 | none=>rw [e1] at h4;cases h4
 | some ls=>
   cases e2:seqD? e with
   | none=>rw [e1,e2] at h4;cases h4
   | some ms=>
     rw[e1,e2] at h4;cases h4;obtain⟨t,a,xs,rfl,k1⟩:=rr.GY e1;obtain⟨w,b,ys,rfl,k2⟩:=QM.GY e2;cases ru;cases Xg;obtain⟨its,rv,pp⟩:=I1.GY (k1 B H1$ dO.refl B H1).1;obtain⟨jts,xO,Y2⟩:=I1.GY (k2 B H1$ dO.refl B H1).1;have la:=pp.lt;have lb:=Y2.lt;refine EU pp Y2 λg8 hz CT Ei hi1 hi2 kk=>wpAny_pyIter_zip hz ?_
     have I2:Inv X pins σ H1 {s1 with heap:=g8}:=I1.kept (t':=s1.toks) kk
     refine⟨s1.heap.objs.size+4,[s1.heap.objs.size+4,s1.heap.objs.size+2,s1.heap.objs.size+3,s1.heap.objs.size,s1.heap.objs.size+1],_,_,H1,rfl,I2,GS (t:=t) (u:=w)$ zipApart_new la lb,⟨hz,CT,⟨_,_,Ei⟩,hi1,hi2⟩,λc hc=>?_,q _ H1 ss λB' H' pr=>?_⟩
     .have hle:s1.heap.objs.size<=c:=by
       simp only[Qaw,Qb7,or_false] at hc;rcases hc with rfl | rfl | rfl | rfl | rfl <;> omega
      exact I1.wu hle$ I1.hok.fresh hle
     .obtain⟨l1,TX⟩:=k1 B' H' pr;obtain⟨l2,QX⟩:=k2 B' H' pr;refine⟨λi d hd=>?_,⟨xs,ys,l1,l2,?_⟩⟩
      .unfold tU at hd;rw[Qaf] at hd;cases ez:(ls.zip ms)[i]? with
       | none=>rw [ez] at hd;cases hd
       | some pr'=>
         rw[ez] at hd;have hd:D.tup [pr'.1,pr'.2]=d:=QaS hd;obtain⟨ea,eb⟩:=Qc9.mp ez;obtain⟨x,hx,rx⟩:=TX.get ea;obtain⟨y,hy,ry⟩:=QX.get eb;refine⟨⟨xs,ys,x,y,l1,l2,hx,hy⟩,λv oO yl MN=>?_⟩
         obtain⟨p,x2,y2,hp,rfl,UO,Gh,rfl⟩:=yl;refine⟨aN hp,?_⟩;subst hd;have UO:=UO xs l1;have Gh:=Gh ys l2;rw[hx] at UO;cases UO;rw[hy] at Gh;cases Gh;refine Rep.tup.mpr ⟨p,_,rfl, .inl ⟨λha=>?_, .inl aU⟩,aI.cons (rx.same$ aN hp)$ aI.cons (ry.same$ aN hp) aI.nil⟩
         obtain⟨o,ho⟩:=MN p ha;rw[hp] at ho;cases ho
      .rw [<-TX.length,<-QX.length];unfold tU;rw[Qaa,List.length_zip];omega
def Nf(T U:String)(f:FD):FD:=λδ=>(f δ).bind λd=>match d with | .dct _ _=> .no | _=> .ok$ .bl (nH (tyName d) T || nH (tyName d) U)
def JI{K:Qdi}(t T U:String)(ht:t∈["NoneType","bool","int","str","list","tuple"])(hT:T∈["bool","int","str","list","tuple"])(hU:U∈["bool","int","str","list","tuple"]):PySem.W.kitAny K (.type t) [.type T, .type U]=some (nH t T || nH t U):=by
 unfold PySem.W.kitAny;rw[nK t T ht hT];cases nH t T with
 | true=>rfl
 | false=>
   show PySem.W.kitAny K (.type t) [.type U]=_;unfold PySem.W.kitAny;rw[nK t U ht hU];cases nH t U <;> rfl
def Jv{T U:Str}{Ts Us:String}{p p2 p3 p4 pos:Pos}{x1}{e:Expr}{f:FD}(he:QD X e f)(hT:Ts∈["bool","int","str","list","tuple"])(hU:Us∈["bool","int","str","list","tuple"])(hg:Gl X "isinstance")(hm:X.mg "isinstance"=none)(Xd:Gl X T)(WS:X.mg T=none)(W5:bootBuiltins T=some (.type Ts))
 (hgU:Gl X U) (hmU:X.mg U=none) (hvU:bootBuiltins U=some (.type Us)) (Xw:T≠"__name__":=by decide) (Xf:(T==("__debug__":Str))=false:=by decide) (hnU:U≠"__name__":=by decide) (hdU:(U==("__debug__":Str))=false:=by decide)
 (hs:starEach [e, .Tuple [.Name T p2, .Name U p3] x1 p4] X.env=(false,eval e X.env) ::starEach [.Tuple [.Name T p2, .Name U p3] x1 p4] X.env:=by rfl) (hJ:(backTo pos$ starEach [.Tuple [.Name T p2, .Name U p3] x1 p4] X.env).any (·.1)=false:=by rfl):QD X (.Call (.Name "isinstance" p) [e, .Tuple [.Name T p2, .Name U p3] x1 p4] [] pos) (Nf Ts Us f):=by
 have hc:iU X (.builtin "isinstance") (λxs H Q=>∃B d x a,Rep X.K B H d x/\(∀a b,d≠ .dct a b)/\xs=[x, .ref a]/\H a=some (.tup [.ty Ts, .ty Us])/\Q (.bl (nH (tyName d) Ts || nH (tyName d) Us)) H):=by
  intro pins s σ H xs us Q I r h;obtain⟨B,d,x,a,rd,ha,rfl,hta,q⟩:=h;obtain⟨u,w',rfl,ru,xO⟩:=vals2 r;cases xO;obtain⟨_,its,rv,o,ho,hoc,n,hod⟩:=I.hok a _ hta;obtain⟨v1,v2,rfl,hv1,hv2⟩:=vals2 rv;cases hv1;cases hv2;obtain⟨oc,odc,oda,Gg⟩:=o;have hoc:oc= .type "tuple":=hoc;have hod:oda= .seq #[.type Ts, .type Us] n:=hod;subst hoc hod;have fin:∀tk,EP X pins σ Q (.bool (nH (tyName d) Ts || nH (tyName d) Us)) {s with toks:=tk}:=λtk=>⟨.bl _,H,I.tok _,rfl,q⟩
  have kt:∀{t:String} {x:Value} {Hh:Heap->Prop},PySem.W.KitX X.K x (.type t) Hh->Hh s.heap->t∈["NoneType","bool","int","str","list","tuple"]->t=tyName d->x≠ .builtin "__main__.__loader__#opaque"->wpAny (model X.prog X.w) X.A (call (.builtin "isinstance") [x, .ref a]) (EP X pins σ Q) X.xe s:=λZ hp ht e hx=>
   PySem.W.kia_tup (its:=[.type Ts, .type Us]) Z I.pz hp ho (JI _ Ts Us ht hT hU) hx (by rw[e];exact fin)
  cases d with
  | cI=>cases(show u=Value.none from(by rw[Rep.cI.mp rd] at ru;exact ru));exact kt Qc7 True.intro (by decide) rfl$ λz=>nomatch z
  | bl b=>cases(show u=Value.bool b from(by rw[Rep.bl.mp rd] at ru;exact ru));exact kt PySem.W.kitx_bool True.intro (by decide) rfl$ λz=>nomatch z
  | int i=>obtain⟨t,hh⟩:=(show ∃t,u=Value.int i t from(by rw[Rep.int.mp rd] at ru;exact ru));subst hh;exact kt PySem.W.kitx_int True.intro (by decide) rfl$ λz=>nomatch z
  | str z=>obtain⟨t,hh⟩:=(show ∃t,u=Value.str z t from(by rw[Rep.str.mp rd] at ru;exact ru));subst hh;exact kt PySem.W.kitx_str True.intro (by decide) rfl$ λz=>nomatch z
  | lst es=>
    obtain⟨b,ys,rfl,l,_⟩:=Rep.lst.mp rd;cases(show u=Value.ref b from ru)
    obtain⟨t_,n2,r2,h1,z2⟩:=I.DA l;exact kt Qco ⟨_,h1,rfl⟩ (by decide) rfl$ λz=>nomatch z
  | tup es=>
    obtain⟨b,ys,rfl,l,_⟩:=Rep.tup.mp rd;cases(show u=Value.ref b from ru)
    obtain⟨its,rv,p,hz⟩:=I.tuple l.sq;obtain⟨o,h1,h2,_⟩:=p;exact kt QcY ⟨o,h1,h2⟩ (by decide) rfl$ λz=>nomatch z
  | dct a b=>exact absurd rfl$ ha a b
 refine⟨(nD hc hg hm QcI (cD he.1 (cD (yT$ cD (uc (v:= .ty Ts) Xd WS W5 rfl Xw Xf)$ cD (uc (v:= .ty Us) hgU hmU hvU rfl hnU hdU) eB) eB) hs) (by decide) (by decide) hs hJ).imp λσ H Q ⟨Z,B,δ,d,E,hf,q⟩=>?_⟩
 obtain⟨d1,h1,h2⟩:=R.aj hf;have key:(∀a b,d1≠ .dct a b)/\d= .bl (nH (tyName d1) Ts || nH (tyName d1) Us):=by
  cases d1 with
  | dct a b=>cases h2
  | _=>cases h2;exact⟨λ_ _ z=>(by cases z),rfl⟩
 obtain⟨k1,rfl⟩:=key;exact⟨Z,B,δ,d1,E,h1,λv H1 s1 r1=>⟨by show 2<=sizeLine;decide,λpa Zf=>⟨B,d1,v,pa,r1.same$ aN Zf,k1,rfl,aU,q _ _ (s1.trans$ aN Zf)$ Rep.bl.mpr rfl⟩⟩⟩
noncomputable def Itd(lo:Int)(n:Nat):It:=⟨λi _=>i<n,λi H x H'=>H'=H/\x= .int (lo - i),λi _=>n<=i⟩
noncomputable def VA(lo:Int)(n:Nat):List D:=(List.range n).map λ(i:Nat)=>D.int$ lo - i
def Y1(f g h:FD):av->R (List D):=λδ=>(f δ).bind λd=>(g δ).bind λe=>(h δ).bind λk=>match d,e,k with
 | .int i, .int j, .int m=>R.aS (decide$ m= -1/\ -(2 ^ 60)<=i/\i<2 ^ 60/\ -(2 ^ 60)<=j/\j<2 ^ 60) (.ok$ VA i (i - j).toNat) | _,_,_=> .no
noncomputable def bls?:List D->Option (List Bool)
 | []=>some []
 | .bl b ::ds=>(bls? ds).map (b ::·)
 | _ ::_=>none
theorem zZ{K:Qdi}{B:List Addr}:∀{ds:List D} {xs:List V} {bs:List Bool},aI K B H ds xs->bls? ds=some bs->xs=bs.map V.bl
 | [],xs,bs,r,h=>by unfold aI at r;subst r;cases h;rfl
 | d ::ds,xs,bs,r,h=>by
   obtain⟨x,q,rfl,r1,r2⟩:=r.cm;cases d with
   | bl b=>
     have h:(bls? ds).map (b ::·)=some bs:=h
     cases e:bls? ds with
     | none=>rw [e] at h;cases h
     | some cs=>
       rw[e] at h;cases h;rw[Rep.bl.mp r1,zZ r2 e];rfl
   | _=>cases h
theorem DO:∀bs:List Bool,bls? (bs.map D.bl)=some bs
 | []=>rfl
 | b ::bs=>by show(bls?$ bs.map D.bl).map (b ::·)=_;rw [DO bs];rfl
theorem vM:∀{bs:List Bool} {us:List Value},Vals (bs.map V.bl) us->us=bs.map Value.bool
 | [],us,h=>by cases h;rfl
 | b ::bs,us,h=>by
   cases h with
   | cons r t=>rw [vM t,show _=Value.bool b from r];rfl
def range_all(bs:List Bool):(List.range bs.length).all (λi=>bs.getD i false)=bs.all id:=by
 rw[Qbq];simp only[Qa6,QaI,id];constructor
 .intro h b hb;obtain⟨i,hi,rfl⟩:=QcS hb;have:=h i hi;rw[Qak,Qad hi] at this;exact this
 .intro h i hi;rw[Qak,Qad hi];exact h _$ Qbe hi
def IE:List D->R D
 | [.lst ds]=>(match bls? ds with | some bs=> .ok (.bl$ bs.all id) | none=> .no)
 | _=> .no
def aav:List D->R D
 | [.lst ds]=>(match bls? ds with | some bs=> .ok (.bl$ bs.any id) | none=> .no)
 | _=> .no
def TH{bs:List Bool}{i:Nat}{v:Value}(h:((bs.map Value.bool).toArray)[i]? =some v):v= .bool (bs.getD i false):=by
 rw[List.getElem?_toArray,Qaf] at h;rw[Qak];cases e:bs[i]? with
 | none=>rw [e] at h;cases h
 | some b=>rw [e] at h;cases h;rfl
def Nb(hc:X.calm=true):cT X (.builtin "all") IE:=by
 intro pins s σ H B ds d xs us I hb rx rs hg;unfold IE at hg;split at hg
 .split at hg
  .rename_i es bs e;cases hg;obtain⟨x,rfl,r⟩:=rs.one;obtain⟨a,ys,rfl,l,r⟩:=Rep.lst.mp r;obtain⟨u,rfl,ru⟩:=vals1 rx;cases ru;obtain⟨its,n,rv,e1,hz⟩:=I.DA l;rw[zZ r e] at rv;obtain rfl:=vM rv;have hl:s.heap.IsList a (bs.map Value.bool).toArray:=⟨_,e1,rfl,n,rfl⟩;have hlt:a<s.heap.objs.size:=Qar e1;refine call_all_walk$ Qcp hl ?_;refine⟨_,_,_,_,_,_,λi=>bs.getD i false,rfl,Walks.list (A:=X.A.in1) (I.ok.hd hc) _ a (QaE hlt) _,⟨⟨_,QaF _ rfl,rfl,rfl⟩,hl.push _⟩,?_,λh' tk hk=>?_⟩
   .intro i v s Q E hP hQ;rw[TH hP];exact Qb1 hQ
   .refine⟨.bl$ bs.all id,H,I.kept$ old_kept hk,?_,aY.refl H,Rep.bl.mpr rfl⟩;show Value.bool _=Value.bool _;rw[<-range_all];simp
  .cases hg
 .cases hg
end
section
noncomputable def sNo:FS:=λ_=> .no
def Ym(f:FD):FS:=λδ=>(f δ).bind λ_=> .ok$ .nx δ
end
end L2
namespace L3
open PySem PySem.Spec PyProof.Rows L2
section
variable {X:Cx}{cl:Aag}
noncomputable def zNo:FZ:=λ_ _=> .no
def Pd{K:Qdi}{f:av->R (List D)}{σ:L2.St}{Q:V->Hp->Prop}(h:tX K cl (pB f) σ H Q):tN K f σ H Q:=by
 obtain⟨ρ,S,δ,v,S',E,hf,q⟩:=h;obtain⟨ds,S1,h1,h2⟩:=R3.aj hf;obtain⟨h3,e3⟩:=R3.of_ok h1;cases h2;subst e3;refine⟨[],ρ.b,down δ,ds,E.down,h3,λa xs H' s n e r=>?_⟩
 have r':aI K (ρ.push a).b H' ds xs:=r.bu λb o e nb=>⟨e,λhb=>nb (by
  rcases P3.mem_push hb with z | z
  .exact Qag _ z
  .subst z;exact Qat)⟩
 obtain⟨w,p⟩:=E.sw.new (o:= .lst ds) s n ⟨xs,e,r'⟩;exact q _ _ H' p w (by unfold bf;exact⟨a,by show(ρ.r++[a])[_]? =_;rw [<-E.sw.len,Qal (by omega),Qbl];rfl,rfl⟩)
def Yz(f:av->R (List D)):FX:=λδ S=>(R3.of (f$ eG S δ) S).bind λds S=>R3.aS (tH ds)$ .ok (.loc S.length)$ S++[.lst ds]
def sZ{i:Nat}{pos' ix:Pos}{own:List Str}{kp:List Nat}{it:av->R (List D)}{c:av->R Bool}(hi:y1 X tg iter it)(hg:∀fp s H,Nk (bw X scope (own++(ji kp X.N)) fp s H) tg t)(wM:∀fp s H,EG (bw X scope (own++(ji kp X.N)) fp s H) ifs c)(he:∀fp s H,QD (bw X scope (own++(ji kp X.N)) fp s H) elt f)(t9:swapsWith (.ListComp elt [⟨tg,iter,ifs,0⟩] scope pos) (some$ .Name x pos') ix.line X.env=pure true:=by rfl)(hs:∀x,foldedSetIterable iter X.env x=pure x:=by intro _;rfl)(hc:X.calm=true:=by rfl)(hN:X.N.Nodup:=by first | assumption | exact Kb (by kernel_rfl))(hx:X.N[i]? =some x:=by rfl)(Ep:X.env.scope.names.lookup x=some .local:=by rfl)(C:eF X scope own kp (ji kp X.N):=by exact Rh (by kernel_rfl)):PZ X cl (.Assign [.Name x pos'] (.ListComp elt [⟨tg,iter,ifs,0⟩] scope pos) ix) (cU i$ pB$ b8 it t c f own kp):=
 ⟨(l3 hc hN hx Ep C hi.1 (λfp s H=>(hg fp s H).1) (λfp s H=>(wM fp s H).1) (λfp s H=>(he fp s H).1) t9 hs).imp λD σ H h=>ud$ Pd$ JR h⟩
def ZJ(i:Nat)(f:FX):FZ:=λδ S=>match jb δ i with
 | none=> .no
 | some k=>match dh S k with
   | none=> .no
   | some _=>(f δ S).bind λv S1=>match v with
     | .d (.lst es)=>(match dh S1 k with
       | some ds=>R3.aS (decide$ ds.length+es.length<=sizeLine)$ .ok (.nx δ)$ S1.set k$ .lst$ ds++es
       | none=> .no)
     | _=> .no
end
end L3
end
section
namespace L2
open PySem PySem.Spec PyProof.Rows
section
variable {X:Cx}
def Jg{prog:Program}{w:World}{A:Around}{E:Aab}{s:Qdj}{t b:Addr}{vs ws:List Value}{Q:Aab}(ht:IsTup s.heap t vs.toArray)(hb:IsTup s.heap b ws.toArray)
 (h0:vs=[]->Q (.ref b) s) (h1:vs≠[]->ws=[]->Q (.ref t) s) (h2:vs≠[]->ws≠[]->Q (.ref s.heap.objs.size) {s with heap:=s.heap.push {cls:= .type "tuple",data:= .seq (vs++ws).toArray}})
 (hsz:vs.length+ws.length<=sizeLine):wpAny (model prog w) A (binaryOp .Add (.ref t)$ .ref b) Q E s:=by
 by_cases hv:vs=[]
 .obtain⟨⟨cls,dd,data,sl⟩,ho,hc,n,hd⟩:=id ht;obtain⟨⟨Ug,NL,data2,Gw⟩,Ks,Bf,n2,hd2⟩:=id hb;simp only at hc hd Bf hd2;subst hc hd Bf hd2;exact concat_meets ⟨_,ho,rfl⟩ ⟨_,Ks,rfl⟩ noFill_tuple_add seq_tuple_add Qct Qcm (Qcj _ _) (tuple_addW0 t b vs.toArray ws.toArray n n2 dd NL sl Gw$ by simp [hv]) ⟨ho,Ks,h0 hv⟩
 .exact HT.Lf ht hb hv (h1 hv) (h2 hv) hsz
def lY(d e:D):R D:=match d,e with
 | .tup a, .tup b=>R.aS (decide$ a.length+b.length<=sizeLine)$ .ok$ .tup$ a++b
 | d,e=>cW d e
def xh.fresh{K:Qdi}{B:List Addr}{H:Hp}{p:Addr}{xs:List V}(hb:∀a∈B,∃o,H a=some o)(hp:H p=none):xh K B (upd H p$ .tup xs) p xs:= .inl ⟨λha=>(by obtain⟨o,ho⟩:=hb p ha;rw [hp] at ho;cases ho), .inl aU⟩
def m7:mG X (binaryOp .Add) lY:=by
 intro pins s σ H B da db d x y v u I hb rx ry ra rb hg;by_cases ht:∃a b,da= .tup a/\db= .tup b
 .obtain⟨a,b,rfl,rfl⟩:=ht;have hg:R.aS (decide$ a.length+b.length<=sizeLine) (.ok$ .tup$ a++b)= .ok d:=hg;obtain⟨h1,h2⟩:=R.bh hg;cases h2;have h1:=Qah h1;have ra':=ra;have rb':=rb;obtain⟨a1,XE,rfl,l1,r1⟩:=Rep.tup.mp ra;obtain⟨a2,WY,rfl,l2,r2⟩:=Rep.tup.mp rb;cases rx;cases ry;obtain⟨its,Y3,p1,_⟩:=I.tuple l1.sq;obtain⟨t_,MR,p2,_⟩:=I.tuple l2.sq;have e1:=Y3.length;have e2:=MR.length;have e3:=r1.length;have e4:=r2.length;refine Jg p1 p2 (λz=>⟨.ref a2,H,I,rfl,aY.refl H,?_⟩) (λ_ z=>⟨.ref a1,H,I,rfl,aY.refl H,?_⟩) (λ_ _=>?_) (by omega)
  .obtain rfl:a=[]:=QcO (by rw[e3,e1,z];rfl)
   exact rb'
  .obtain rfl:b=[]:=QcO (by rw[e4,e2,z];rfl)
   rw[Qbc];exact ra'
  .have hp:H s.heap.objs.size=none:=I.hok.fresh$ Qai _;refine⟨.ref s.heap.objs.size,_,I.laid (t':=s.toks) (o:= .tup$ XE++WY) (λb ob q=>Qac _ q) (Qai _) ⟨by rw[Qau];omega,_,Y3.append MR,IsTup.new _ _⟩,rfl,aN hp,Rep.tup.mpr ⟨_,_,rfl,xh.fresh hb hp,(r1.append r2).same$ aN hp⟩⟩
 .have hg:cW da db= .ok d:=by
   unfold lY at hg;split at hg
   .exact absurd ⟨_,_,rfl,rfl⟩ ht
   .exact hg
  exact cR pins s σ H B da db d x y v u I hb rx ry ra rb hg
def y1.or{F F1 F2:av->R (List D)}(h1:y1 X tg e F1)(h2:y1 X tg e F2)(h:∀δ ds,F δ= .ok ds->F1 δ= .ok ds\/F2 δ= .ok ds):y1 X tg e F:=
 ⟨λpins s σ H R I ⟨Z,B,δ,ds,E,hf,q⟩=>(h δ ds hf).elim (λz=>h1.1 pins s σ H R I ⟨Z,B,δ,ds,E,z,q⟩) λz=>h2.1 pins s σ H R I ⟨Z,B,δ,ds,E,z,q⟩⟩
def D4(f:FD):av->R (List D):=λδ=>(f δ).bind λd=>match d with | .lst ds=> .ok (eR ds) | .tup ds=> .ok (eR ds) | _=> .no
def Ca{elts:List Expr}{k:Nat}{mX:Pos}{p pos:Pos}(h:QD X a f)(hg:Gl X "enumerate")(hm:X.mg "enumerate"=none)(hs:starEach [a] X.env=[(false,eval a X.env)]:=by rfl):y1 X (.Tuple elts k mX) (.Call (.Name "enumerate" p) [a] [] pos) (D4 f):=
 y1.or (F1:=jG f) (F2:=yQ f) ⟨An h.1 hg hm hs⟩ (Bn h hg hm hs) λδ ds hf=>by
  obtain⟨d,h1,h2⟩:=R.aj hf;cases d with
  | lst es=>cases h2;exact .inl (by unfold jG;rw [h1];rfl)
  | tup es=>cases h2;exact .inr (by unfold yQ;rw [h1];rfl)
  | _=>cases h2
noncomputable def Itv(K:Qdi)(a:Addr)(n:Nat):It:=
 ⟨λi H=>∃xs x,pI K H a xs/\xs.length=n/\i<n/\xs[n - 1 - i]? =some x,λi H v H'=>H'=H/\∀xs,pI K H a xs->xs[n - 1 - i]? =some v,λi H=>(∃xs,pI K H a xs)/\i=n⟩
def JF{K:Qdi}(a it:Addr)(n:Nat):Turn P w K tg (Itv K a n) [it] it (λi h=>h.IsRevIter it a$ (n:Int) - 1 - (i:Int)) where
 mem:=by simp
 obj:=λi h st b hb=>by
  have e:b=it:=by simpa using hb
  subst e;obtain⟨o,e,c,d⟩:=st;exact⟨o,e,λv z=>by rw[d] at z;cases z⟩
 keep:=λi h h' st k=>st.at λo e=>k it (by simp) o e
 item:=by
  intro X hP hw hK hc i pins s σ H E I hf st hg;subst hP hw hK;obtain⟨xs,x,hq,hn,hi,hx⟩:=hg;obtain⟨its,rv,p,hz⟩:=I.list hq;obtain⟨u,hu,ru⟩:=rv.get hx;obtain⟨f0,f1,f2,f3,f4,f5⟩:=hf it (by simp)
  have e0:(n:Int) - 1 - (i:Int)=((n - 1 - i:Nat):Int):=by omega
  rw[e0] at st;refine wpAny_pyNext_rev_item st p.isList (x:=u) (by simpa using hu) λh' ua sb=>?_
  have I1:Inv X pins σ H {s with heap:=h'}:=I.turned (t':=s.toks) (λb o hb e=>(sb.2 b hb).trans e) f0 f1 f3 f4 f5
  have Ko:h'.IsRevIter it a ((n:Int) - 1 - ((i+1:Nat):Int)):=by
   rw[show((n - 1 - i:Nat):Int) - 1=(n:Int) - 1 - ((i+1:Nat):Int) by omega] at ua;exact ua
  obtain⟨o,e,c,d⟩:=id Ko;exact⟨u,rfl,De (s:={s with heap:=h'}) e c d (by decide) ⟨x,H,I1,ru,⟨rfl,λys hy=>by rw[I.qJ hy hq];exact hx⟩,Ko,λb hb=>(hf b hb).1⟩⟩
 done:=by
  intro X hP hw hK hc i pins s σ H E I hf st hg;subst hP hw hK;obtain⟨_,rfl⟩:=hg;obtain⟨f0,f1,f2,f3,f4,f5⟩:=hf it (by simp)
  rw[show(i:Int) - 1 - (i:Int)= -1 by omega] at st
  exact wpAny_pyNext_rev_end (I.ok.hd hc) st λh' eb=>⟨rfl,I.turned (t':=s.toks) (λb o hb e=>eb b o hb e) f0 f1 f3 f4 f5⟩
 self:=λ_ _ _ _ _ st h=>wpAny_pyIter_revIter st h
def Nt(f:FD):av->R (List D):=λδ=>(f δ).bind λd=>match d with | .lst ds=> .ok ds.reverse | _=> .no
def Hx{tg a:Expr}{p pos:Pos}(h:QD X a f)(hg:Gl X "reversed")(hm:X.mg "reversed"=none)(hs:starEach [a] X.env=[(false,eval a X.env)]:=by rfl):y1 X tg (.Call (.Name "reversed" p) [a] [] pos) (Nt f):=by
 refine⟨?_⟩;intro pins s σ H RR I ⟨Z,B,δ,ds,E,hf,q⟩;obtain⟨d,h1,h2⟩:=R.aj hf;have hA:=cD h.1 eB hs pos pins s σ H (λvs H1=>aY H H1/\∃v,vs=[v]/\Rep X.K B H1 d v) I ⟨Z,B,δ,d,E,h1,λv H1 s1 r1=>⟨s1,v,rfl,r1⟩⟩
 refine Call_$ l8 I hg hm boot_reversed$ Qba (dP hA λus s1 ⟨vs,H1,I1,r1,ss,v,ev,rr⟩=>?_) hs rfl
 subst ev;obtain⟨u,rfl,ru⟩:=vals1 r1;cases d with
 | lst es=>
   cases h2;obtain⟨b,xs,rfl,l,rs⟩:=Rep.lst.mp rr;cases ru;obtain⟨its,rv,pl,hz⟩:=I1.list l.sq;have e1:=rv.length;have e2:=rs.length;refine call_reversed_list pl.isList$ wpAny_pyIter_revIter (i:=(its.toArray.size:Int) - 1) ⟨_,QaF _ rfl,rfl,rfl⟩ ?_;refine⟨s1.heap.objs.size,[s1.heap.objs.size],_,_,H1,rfl,I1.kept (t':=s1.toks) λb o e=>Qac _ e,JF b _ es.length,?_,λc hc=>?_,q _ H1 ss λB' H' pr=>?_⟩
   .refine⟨_,QaF _ rfl,rfl,?_⟩;show Data.fields #[.ref b,rawInt$ (its.toArray.size:Int) - 1]=Data.fields #[.ref b,rawInt$ (es.length:Int) - 1 - ((0:Nat):Int)];rw[Qao,<-e1,<-e2,show((es.length:Nat):Int) - 1 - ((0:Nat):Int)=(es.length:Int) - 1 by omega]
   .have e:c=s1.heap.objs.size:=by simpa using hc
    subst e;exact I1.wu (Qai _)$ I1.hok.fresh$ Qai _
   .have l':v_ X.K B' H' b xs:=l.bu pr;have rs':=rs.bu pr;refine⟨λi d hd=>?_,⟨xs,l'.sq⟩,by rw[Qbx]⟩
    have hi:i<es.length:=by have:=(Qae.mp hd).1;rwa [Qbx] at this
    rw[List.getElem?_reverse hi] at hd;obtain⟨x,hx,rx⟩:=rs'.get hd;refine⟨⟨xs,x,l'.sq,e2.symm,hi,hx⟩,λv oO yl MN=>?_⟩
    obtain⟨rfl,hy⟩:=yl;have Gh:=hy xs l'.sq;rw[hx] at Gh;cases Gh;exact⟨aY.refl _,rx⟩
 | _=>cases h2
def EH(K:Qdi)(C:Addr)(m qual:Str)(st:Stmt):Prop:=∃f fd,BQ K m qual st f fd/\Meth K C m f
def OA(K:Qdi)(C:Addr)(m qual:Str)(st:Stmt):Prop:=∃f fd,BQ K m qual st f fd/\Mk K C f
end
end L2
namespace L3
open PySem PySem.Spec PyProof.Rows L2
section
variable {cl:Aag}
def tE.p{K:Qdi}{mg:Aaf}{cl:Aag}{k c:Nat}{n:Nat}{N:List Str}(C:tE P w K mg base cl k c m n (qj N F)):tE P w K mg base cl k c m n (u9 N F):=
 let⟨f,fd,ps,c1,c2,F,h⟩:=C;⟨f,fd,ps,c1,c2,F.imp λ_ _ _ _ h=>Cb h,h⟩
end
end L3
end
section
namespace L2
open PySem PySem.Spec PyProof.Rows
section
def ZO(f:FD):av->R (List D):=λδ=>(f δ).bind λd=>match d with | .int j=>R.aS (decide (-(2 ^ 62)<=j/\j<16777216)) (.ok$ jj 0 j.toNat) | _=> .no
def ZQ(f:FD):FD:=λδ=>(f δ).bind λd=>match d with | .lst ds=> .ok (.lst ds.reverse) | _=> .no
theorem aI.rev{K:Qdi}{B:List Addr}:∀{ds:List D} {xs:List V},aI K B H ds xs->aI K B H ds.reverse xs.reverse
 | [],xs,r=>by unfold aI at r;subst r;exact aI.nil
 | d ::ds,xs,r=>by
   obtain⟨x,q,rfl,r1,r2⟩:=r.cm;rw[Qcr,Qcr];exact r2.rev.append$ aI.cons r1 aI.nil
theorem Vals.rev:∀{xs:List V} {us:List Value},Vals xs us->Vals xs.reverse us.reverse
 | [],us,r=>by cases r;exact .nil
 | x ::xs,us,r=>by
   cases r with
   | cons r t=>
     rw[Qcr,Qcr];exact(Vals.rev t).append (.cons r .nil)
end
section
def Z6(K:Qdi)(n:Nat)(t:IY):TG:=λv σ H Q=>∃a xs,v= .ref a/\pI K H a xs/\xs.length=n/\t xs σ H Q
end
end L2
namespace L3
open PySem PySem.Spec PyProof.Rows L2
section
noncomputable def gLs(n:Nat)(t:Mr):FG:=λd δ=>match d with
 | .d (.lst ds)=>if ds.length=n then t (ds.map .d) δ else none
 | .lst vs=>if vs.length=n then t vs δ else none
 | _=>none
def ZH(f g:FX):FA:=λδ S=>(bx f (bx g eO) δ S).bind λvs S1=>match vs with
 | [.d d, .d e]=>(match seqD? d,seqD? e with | some ds,some es=> .ok ((tU ds es).map .d) S1 | _,_=> .no)
 | _=> .no
def D1(S:a_):Prop:=∀o∈S,yj S.length o=true
def Flat.clo{S:a_}(h:Flat S):D1 S:=λo ho=>h o ho _
def Tb{N:List Str}{vs:List V3}{S:a_}{QV:V3->a_->Prop}(h:W3 (qj N F vs S) λv S1=>(∀o∈S1.take S.length,yj S.length o=true)/\jf S.length v=true/\∃d,res S1 v=some d/\QV (.d d) (S1.take S.length)):W3 (u9 N F vs S) QV:=
 W3.bind (h.mono λv S1 ⟨hl,hg,d,e,q⟩=>by
  rw[e];exact W3.wh (by rw[Qa6.mpr hl,hg];rfl)$ W3.ok q)
def mD{N:List Str}{vs:List V3}{S:a_}{QV:V3->a_->Prop}(hS:D1 S)(h:W3 (qj N F vs S) λv S1=>jf S.length v=true/\(∃T,S1=S++T)/\∃d,res S1 v=some d/\QV (.d d) S):W3 (u9 N F vs S) QV:=
 Tb (h.mono λv S1 ⟨hg,⟨T,e1⟩,d,e,q⟩=>by
  subst e1;rw[QcP$ Qai _,QaX];exact⟨hS,hg,d,e,q⟩)
end
end L3
end
section
namespace L2
open PySem PySem.Spec PyProof.Rows
section
noncomputable def ois?:List D->Option (List$ Option Int)
 | []=>some []
 | .int i ::ds=>(ois? ds).map (some i ::·)
 | .cI ::ds=>(ois? ds).map (none ::·)
 | _ ::_=>none
noncomputable def oiV:Option Int->V | some i=> .int i | none=> .cI
def inN(d e:D):R Bool:=match d,e with
 | .cI, .lst ds=>(match ois? ds with | some ss=> .ok (ss.any (·.isNone)) | none=> .no)
 | _,_=> .no
def aa1(d e:D):R D:=(inN d e).bind λb=> .ok$ .bl b
end
section
def Vk(d:D)(ds:List D):R D:=match d,ds with
 | .lst es,[.int k]=>(match ints? es with | some ss=> .ok (.int (ss.count k:Nat)) | none=> .no)
 | _,_=> .no
end
section
variable {X:Cx}
abbrev OE:D->D->R D:=Kj (fun i j=>decide$ 0<=j/\j<1000/\ -1000<i/\i<1000) fun i j=>i*2 ^ j.toNat
def RN:mG X (binaryOp .LShift) OE:=zR Pq λi j h=>by
 have:=Qah h;exact⟨this.1,by omega,by omega⟩
noncomputable def Yi(d e:D):R D:=match d,e with | .bl a, .bl b=> .ok (.bl$ a !=b) | _,_=> .no
end
end L2
namespace L3
open PySem PySem.Spec PyProof.Rows L2
section
def Yh(fo f:FX):FZ:=λδ S=>(fo δ S).bind λo S0=>match o with
 | .loc k=>(match dh S0 k with
   | none=> .no
   | some _=>(f δ S0).bind λv S1=>match v with
     | .d d=>(match dh S1 k with | some ds=>R3.aS (decide$ ds.length<sizeLine) (.ok (.nx δ)$ S1.set k$ .lst$ ds++[d]) | none=> .no)
     | _=> .no)
 | _=> .no
def YG(f:FX):FA:=λδ S=>(bx f eO δ S).bind λvs S1=>match vs with
 | [.d (.lst ds)]=> .ok ((eR ds).map .d) S1
 | _=> .no
end
end L3
end
section
namespace L2
open PySem PySem.Spec PyProof.Rows
end L2
end
section
namespace L3
open PySem PySem.Spec PyProof.Rows L2
section
def U4(it:FA)(t:FG)(c:FB)(f:FX)(own:List Str)(kp:List Nat):FX:=λδ S=>(it δ S).bind λvs S1=>R3.aS (decide$ vs.length<=sizeLine)$ (ny t c f (oU own kp δ) vs S1).bind λys S2=>match qK ys with | some ds=> .ok (.loc S2.length) (S2++[.lst ds]) | none=> .no
end
section
def VR(g:List D->R D)(fs:FA):FX:=λδ S=>(fs δ S).bind λvs S1=>match Al S1 vs with
 | some ds=>(R3.of (g ds) S1).bind λd S=>R3.aS (zP d)$ .ok (.d d) S
 | none=> .no
end
end L3
end
section
namespace L2
open PySem PySem.Spec PyProof.Rows
section
variable {X:Cx}
def aaK(f:FD):FD:=λδ=>(f δ).bind λd=>match d with | .int i=> .ok (.int (-i - 1)) | _=> .no
def UH(d:D)(lo hi:Option Int):R D:=match d with
 | .tup ds=>R.aS (decide (¬(HT.gh ds.length 0 lo=0/\HT.gh ds.length ds.length hi=ds.length)))$ .ok$ .tup$ cutD ds lo hi
 | _=> .no
def Ld(f:FD)(fl fh:FO):FD:=λδ=>(f δ).bind λd=>(fl δ).bind λlo=>(fh δ).bind λhi=>UH d lo hi
def KZ{lo hi:Option Expr}{fl fh:FO}(he:QD X e f)(hl:QP X lo fl)(hh:QP X hi fh):QD X (.Subscript e (.Slice lo hi none p2) pos) (Ld f fl fh):=by
 refine⟨(As Pg he.1 hl.1 hh.1).imp λσ H Q ⟨Z,B,δ,d,E,hf,q⟩=>?_⟩
 obtain⟨d1,h1,h2⟩:=R.aj hf;obtain⟨l,h3,h4⟩:=R.aj h2;obtain⟨h,h5,h6⟩:=R.aj h4;refine⟨Z,B,δ,d1,E,h1,λv1 H1 s1 r1=>⟨Z,B,δ,l,E.same s1,h3,λH2 s2=>⟨Z,B,δ,h,(E.same s1).same s2,h5,λH3 s3=>?_⟩⟩⟩
 have sA:aY H H3:=s1.trans$ s2.trans s3;have t8:=r1.same$ s2.trans s3;unfold UH at h6;split at h6
 .obtain⟨hz,h7⟩:=R.bh h6;cases h7;obtain⟨a,xs,rfl,ls,rs⟩:=Rep.tup.mp t8;have hz:=Qah hz;rw[rs.length] at hz;refine⟨a,xs,rfl,ls.sq,hz,λp hp=>q _ _ (sA.trans$ aN hp)$ Rep.tup.mpr ⟨p,_,rfl, .inl ⟨λha=>?_,?_⟩,(Az rs l h).same$ aN hp⟩⟩
  .obtain⟨o,ho⟩:=(E.same sA).bs p ha;rw[hp] at ho;cases ho
  .exact .of aU
 .cases h6
end
end L2
namespace L3
open PySem PySem.Spec PyProof.Rows L2
section
variable {X:Cx}{cl:Aag}
structure PZc (X:Cx) (cl:Aag) (st:List Stmt) (F:FZ):Prop where
 go:y4 X st (fun D σ H=>D.ct=D.nx/\sX X.K cl F D σ H)
end
end L3
end
section
namespace L2
open PySem PySem.Spec PyProof.Rows
end L2
namespace L3
open PySem PySem.Spec PyProof.Rows L2
section
def aaA(i:Nat)(f:FX):FX:=λδ S=>match jb δ i with
 | none=> .no
 | some k=>match dh S k with
   | none=> .no
   | some _=>(f δ S).bind λv S1=>match v with
     | .d (.int j)=>(match dh S1 k with
       | some ds=>(match Dh ds.length j with
         | some p=>(match ds[p]? with | some d=>R3.aS (decide (-(2 ^ 63)<=j/\j<2 ^ 63)) (.ok (.d d)$ S1.set k$ .lst$ ds.eraseIdx p) | none=> .no)
         | none=> .no)
       | none=> .no)
     | _=> .no
end
section
def ZE(f:FX)(fl fh:Ra):FX:=λδ S=>(f δ S).bind λv S1=>(fl δ S1).bind λlo S2=>(fh δ S2).bind λhi S3=>match v with
 | .lst vs=> .ok (.lst$ L2.cutD vs lo hi) S3
 | _=> .no
end
end L3
end
section
namespace L2
open PySem PySem.Spec PyProof.Rows
section
def WI:List V->Hp->VK->Prop:=λxs H Q=>∃a aW ns,xs=[V.ref a]/\H a=some (.dK aW)/\aW.map (·.1)=ns.map Sum.inl/\ns.length<64/\∀p,H p=none->Q (.ref p) (upd H p$ .lst$ (Ed ns).map V.int)
end
end L2
end
section
namespace L3
open PySem PySem.Spec PyProof.Rows L2
section
noncomputable def KQ(aW:List (Key × D))(k:Key)(d:D):List (Key × D):=if(aW.any λkv=>decide$ kv.1=k)=true then aW.map (λkv=>if kv.1=k then(kv.1,d) else kv) else aW++[(k,d)]
noncomputable def zU(S:a_)(k:Nat):Option (List$ Key × D):=match S[k]? with | some (.dct aW)=>some aW | _=>none
noncomputable def Yt:FX:=λδ S=> .ok (.loc S.length)$ S++[.dct []]
def YJ(fo fi fe:FX):FZ:=λδ S=>(fe δ S).bind λv S1=>(fo δ S1).bind λo S2=>(fi δ S2).bind λj S3=>match v,o,j with
 | .d d, .loc k, .d (.int n)=>(match zU S3 k with | some aW=>R3.aS (decide$ aW.length<sizeLine) (.ok (.nx δ)$ S3.set k$ .dct$ KQ aW (Sum.inl n) d) | none=> .no)
 | _,_,_=> .no
def aac(fa fo:FX):FX:=λδ S=>(fa δ S).bind λj S1=>(fo δ S1).bind λo S2=>match j,o with
 | .d (.int n), .loc k=>(match zU S2 k with | some aW=> .ok (.d$ .bl$ aW.any λkv=>decide$ kv.1=Sum.inl n) S2 | none=> .no)
 | _,_=> .no
noncomputable def intK?:List Key->Option (List Int)
 | []=>some []
 | .inl n ::ks=>(intK? ks).map (n ::·)
 | .inr _ ::_=>none
def Vm(f:FX):FX:=λδ S=>(f δ S).bind λo S1=>match o with
 | .loc k=>(match zU S1 k with
   | some aW=>(match intK? (aW.map (·.1)) with | some ns=>R3.aS (decide$ ns.length<64) (.ok (.d$ .lst$ (Ed ns).map .int) S1) | none=> .no)
   | none=> .no)
 | _=> .no
end
end L3
end
section
namespace L2
open PySem PySem.Spec PyProof.Rows
section
def UG:V->List V->Hp->VK->Prop:=λx vs H Q=>∃(l:Addr) (xs:List V) (j:Int) (i:Nat) (y:V),x= .ref l/\vs=[.int j,y]/\H l=some (.lst xs)/\j=i/\i<=xs.length/\xs.length<sizeLine/\Q .cI (upd H l$ .lst (xs.take i++y ::xs.drop i))
end
end L2
namespace L3
open PySem PySem.Spec PyProof.Rows L2
section
def Zs(i:Nat)(f g:FX):FZ:=λδ S=>match jb δ i with
 | none=> .no
 | some k=>match dh S k with
   | none=> .no
   | some _=>(f δ S).bind λv S1=>match v with
     | .d (.int j)=>(g δ S1).bind λw S2=>(match w with
       | .d d=>(match dh S2 k with
         | some ds=>R3.aS (decide$ 0<=j/\j.toNat<=ds.length/\ds.length<sizeLine)$ .ok (.nx δ)$ S2.set k$ .lst (ds.take j.toNat++d ::ds.drop j.toNat)
         | none=> .no)
       | _=> .no)
     | _=> .no
end
section
variable {X:Cx}
structure QPr (X:Cx) (pos:Pos) (keys:List (Option Expr)) (values:List Expr) (ks:List Str) (g:av->R (List D)):Prop where
 h:∃xM,N1 X pos keys values xM/\∀(σ:L2.St) (H:Hp) (Q:List (V × V)->Hp->Prop),(∃Z B δ ds,eh X.K Z B H σ δ/\g δ= .ok ds/\∀vs H',aY H H'->aI X.K B H' ds vs->Q ((ks.zip vs).map fun p=>(V.str p.1,p.2)) H')->sd xM σ H Q
def Pc(ks:List Str)(ns:List Int):List (Key × D):=(ks.zip ns).foldl (λacc p=>KQ acc (Sum.inr p.1)$ .int p.2) []
def UY(ks:List Str)(g:av->R (List D)):FX:=λδ S=>(R3.of (g$ down δ) S).bind λds S=>match ints? ds with
 | some ns=>R3.aS (decide$ ns.length=ks.length/\ks.length<=15)$ .ok (.loc S.length)$ S++[.dct$ Pc ks ns]
 | none=> .no
noncomputable def Vt(aW:List (Key × D))(k:Key):Option D:=(aW.find? λkv=>decide$ kv.1=k).map (·.2)
def YQ(i:Nat)(f g:FD):FX:=λδ S=>match jb δ i with
 | none=> .no
 | some k=>match zU S k with
   | none=> .no
   | some aW=>(R3.of (f$ down δ) S).bind λkd S=>(R3.of (g$ down δ) S).bind λd S=>match kd with
     | .str x=> .ok (.d$ (Vt aW$ Sum.inr x).getD d) S
     | _=> .no
end
end L3
end
section
namespace L2
open PySem PySem.Spec PyProof.Rows
section
variable {X:Cx}
def D3:List D->R D
 | [.tup ds]=>(match ints? ds with | some ns=> .ok (.int ns.sum) | none=> .no)
 | ds=>OS ds
def Hv(hc:X.calm=true):cT X (.builtin "sum") D3:=by
 intro pins s σ H B ds d xs us I hb rx rs hg;unfold D3 at hg;split at hg
 .split at hg
  .rename_i es ns e;cases hg;obtain⟨x,rfl,r⟩:=rs.one;obtain⟨a,ys,rfl,l,r⟩:=Rep.tup.mp r;obtain⟨u,rfl,ru⟩:=vals1 rx;cases ru;obtain⟨its,rv,ht,hz⟩:=I.tuple l.sq;rw[eu r e] at rv;obtain⟨ps,rfl,rfl⟩:=fO rv;have hl:s.heap.IsTuple a (intItems ps.toArray):=by
    have ht:s.heap.IsTuple a (ps.map λp=>Value.int p.1 p.2).toArray:=ht
    simpa [intItems] using ht
   refine PySem.W.ktm_sumG (I.ok.hd hc) hl λh' tk t' k=>⟨.int _,H,I.kept k,⟨t',rfl⟩,aY.refl H,Rep.int.mpr ?_⟩
   rw[preSum_eq,QaU$ by simp]
  .cases hg
 .exact RC hc pins s σ H B ds d xs us I hb rx rs hg
end
section
def YX(d e:D):R D:=match d,e with
 | .tup a, .int k=>R.aS (decide$ 2<=k/\k<1000/\a≠[]/\a.length*k.toNat<=sizeLine)$ .ok$ .tup (List.replicate k.toNat a).flatten
 | d,e=>eU d e
end
def Dc(P:Program)(w:World):Gq:=λouter H s E e s'=>
 ∃(a:Addr) (B:Heap) (cls a0:Value) (H':Hp),e= .ref a/\s'.os=s.os/\AllBare s'.gens/\Un (pN outer) [] H H' s.heap s'.heap/\mF P w H' s'.heap/\Heap.FlyingW B outer a cls a0 s'.heap/\
  (∀b o,s'.heap.get? b=some o->b ∉ pN outer->((∃u,s.heap.get? b=some u)\/∃u,H' b=some u)->B.get? b=some o)/\E cls none H'
section
variable {X:Cx}{pins:Aaa}{σ:St}{H1 H':Hp}{s1 s':Qdj}{B Rv:Heap}{a:Addr}{cls a0:Value}{E:XK}
def ym{H:Hp}{h:Heap}{b:Addr}{o:HO}(k:mF P w H h)(e:H b=some o):∃u,h.get? b=some u:=by
 have hx:=k b o e
 induction o with
 | lst xs=>obtain⟨_,_,_,_,e⟩:=hx;exact⟨_,e⟩
 | tup xs=>obtain⟨_,_,_,o,e,_⟩:=hx;exact⟨_,e⟩
 | dK aW=>obtain⟨_,_,_,_,o,_,_,e,_⟩:=hx;exact⟨_,e⟩
 | dT aW=>obtain⟨_,_,_,_,o,_,_,e,_⟩:=hx;exact⟨_,e⟩
 | set S n=>obtain⟨o,_,_,_,e,_⟩:=hx;exact⟨_,e⟩
 | ins C dx fs=>obtain⟨_,_,_,e,_⟩:=hx;exact⟨_,e⟩
 | own y=>exact hx
 | xd fs=>obtain⟨_,⟨o,_,_,e,_⟩,_⟩:=hx;exact⟨_,e⟩
 | rng lo hi=>obtain⟨_,_,_,e⟩:=hx;exact⟨_,e⟩
 | jU o u _=>exact⟨_,hx.1⟩
 | JQ ps=>exact⟨_,hx⟩
 | met f x=>exact⟨_,hx⟩
 | ext φ=>exact hx.2.1
def Pa(I:Inv X pins σ H1 s1)(ub:X.stack=X.env ::X.outer)(hf:X.env.frame=some X.env.locals)(hex:X.ex=[])(os:s'.os=s1.os)(bare:AllBare s'.gens)(un:Un (pN X.stack) [] H1 H' s1.heap s'.heap)(hok:mF X.prog X.w H' s'.heap)
 (oZ:∀b o,s'.heap.get? b=some o->b ∉ pN X.stack->((∃u,s1.heap.get? b=some u)\/∃u,H' b=some u)->B.get? b=some o) (fl:Heap.FlyingW B X.outer a cls a0 Rv) (up:s'.heap.UpToSlots Rv) (e:E cls none H') :
 Dc X.prog X.w X.outer X.H₀ X.s₀ E (.ref a) {s' with heap:=Rv}:=by
 have Kt:∀b,b∈pN X.stack↔b=X.env.locals\/b∈pN X.outer:=λb=>by
  rw[ub];unfold pN;rw [QbH,hf];exact Qaw
 have hfree:∀b,b∈pN X.stack->H' b=none:=λb hb=>by
  obtain⟨_,o,ho,_⟩:=I.stack.mem hb;exact un.free b o ho (I.oC b hb) (by simp)
 have old:∀b o,X.s₀.heap.get? b=some o->b≠X.env.locals:=λb o q=>QaE$ QaC (Qar q) I.ok.above
 have thr:∀b o,X.s₀.heap.get? b=some o->∃u,s1.heap.get? b=some u:=λb o q=>I.base.there b o q (by rw[hex];simp)
 have thr2:∀b o,s1.heap.get? b=some o->∃u,s'.heap.get? b=some u:=λb o q=>un.there b o q (by simp)
 have stB:∀b o,B.get? b=some o->Rv.get? b=some o:=fl.1;have Kg:∀b o,H' b=some o->∀u,s'.heap.get? b=some u->Rv.get? b=some u:=λb o q u hu=>stB b u (oZ b u hu (λhb=>by rw[hfree b hb] at q;cases q) (.inr ⟨o,q⟩))
 refine⟨a,B,cls,a0,H',rfl,os.trans I.os,bare,⟨λb o q n hb _=>?_,λb o q n hb _=>?_,λb o q n _=>?_,λb o q _=>?_,λb xs q=>un.tups b xs$ I.base.tups b xs q,λb o u q=>un.frzs b o u$ I.base.frzs b o u q,λb ps q=>?_⟩,λb o q=>?_,fl,λb o q hb UU=>?_,e⟩
 .have h1:=I.base.keep b o q n hb (by rw[hex];simp)
  have n1:=I.base.free b o q n (by rw[hex];simp)
  have rD:b ∉ pN X.stack:=λz=>((Kt b).mp z).elim (old b o q) hb
  have h2:=un.keep b o h1 n1 rD (by simp)
  exact stB b o$ oZ b o h2 rD$ .inl ⟨o,h1⟩
 .obtain⟨sl,h1⟩:=I.base.slot b o q n hb (by rw[hex];simp)
  have n1:=I.base.free b o q n (by rw[hex];simp)
  obtain⟨Gw,h2⟩:=un.slot b _ h1 n1 ((Kt b).mpr$ .inr hb) (by simp)
  obtain⟨_,o',Ba,hd⟩:=I.ok.qS.mem hb;rw[q] at Ba;cases Ba;obtain⟨Ub,h3⟩:=up b _ h2 hd;exact⟨Ub,h3⟩
 .obtain⟨u,h1⟩:=thr b o q;exact un.free b u h1 (I.base.free b o q n$ by rw[hex];simp) (by simp)
 .obtain⟨u,h1⟩:=thr b o q;obtain⟨u2,h2⟩:=thr2 b u h1;by_cases hb:b∈pN X.outer
  .obtain⟨_,o',Ba,hd⟩:=I.stack.mem$ (Kt b).mpr$ .inr hb;obtain⟨sl,h3⟩:=un.slot b o' Ba (I.oC b$ (Kt b).mpr$ .inr hb) ((Kt b).mpr$ .inr hb) (by simp)
   obtain⟨Ub,h4⟩:=up b _ h3 hd;exact⟨_,h4⟩
  .exact⟨u2,stB b u2$ oZ b u2 h2 (λz=>((Kt b).mp z).elim (old b o q) hb)$ .inl ⟨u,h1⟩⟩
 .obtain⟨m1,e1⟩:=I.base.tbls b ps q;obtain⟨m2,e2⟩:=un.tbls b _ e1;exact⟨m1++m2,by rw[e2,Array.append_assoc]⟩
 .refine(hok b o q).t7 (λc u hc hu=>?_) (λc z=>z) (λc xs z=>z)
  rcases hc with rfl | hc
  .exact Kg c o q u hu
  .exact Kg c _ hc u hu
 .have rD:b≠X.env.locals:=λz=>by
   subst z;rcases UU with⟨u,hu⟩ | ⟨u,hu⟩
   .exact old _ u hu rfl
   .rw [hfree _$ (Kt _).mpr$ .inl rfl] at hu;cases hu
  have hb2:b ∉ pN X.stack:=λz=>((Kt b).mp z).elim rD hb
  have:(∃u,s1.heap.get? b=some u)\/∃u,H' b=some u:=UU.imp (λ⟨u,hu⟩=>thr b u hu) id
  obtain⟨u,hu⟩:∃u,s'.heap.get? b=some u:=this.elim (λ⟨u,hu⟩=>thr2 b u hu) λ⟨u,hu⟩=>ym hok hu
  have h3:=oZ b u hu hb2 this;have h4:=stB b u h3;rw[q] at h4;cases h4;exact h3
end
section
variable {P:Program}{w:World}{K:Qdi}{mg:Aaf}{base:Heap}{N:List Str}{qual:Str}{scope:Scope}{f:Addr}{cd:Value}{A:Around}{outer:List Env}{s:Qdj}{H:Hp}{E:XK}
def N4{pins:Aaa}{s1:Qdj}{a:Addr}{cls:Value}{vs:List Value}(I:Inv (lV (Dc P w) P w K mg base N qual scope f cd A outer s H E) pins σ H1 s1)(hx:Heap.MadeExcOf s1.heap h' a cls vs)(hE:E cls none H1) :
 (lV (Dc P w) P w K mg base N qual scope f cd A outer s H E).xe (.ref a) {s1 with heap:=h'}:=by
 have hin:∀env∈(envOfC qual scope s.heap.objs.size f cd ::outer),∀b,env.frame=some b->b∈pN (envOfC qual scope s.heap.objs.size f cd ::outer):=λenv he b hb=>QcX.mpr ⟨env,he,hb⟩
 have ff:s1.heap.FunFrames base (envOfC qual scope s.heap.objs.size f cd ::outer):=I.stack;refine wpAny_leaves_madeW (env:=envOfC qual scope s.heap.objs.size f cd) (outer:=outer) (L:=s.heap.objs.size) (base:=PySem.W.hideAll s1.heap$ pN (envOfC qual scope s.heap.objs.size f cd ::outer)) (h:=s1.heap) (s:={s1 with heap:=h'}) I.ok.frames rfl (λb o q=>PySem.W.of_hideAll _ q) (PySem.W.funFrames_hide ff hin) hx λRv t x1 x2 x3 x4=>?_
 exact Pa (s':={s1 with heap:=h'}) I rfl rfl rfl rfl I.bare (Un.kept hx.keeps) (I.hok.kept hx.keeps) (λb o q hb UU=>by
  obtain⟨u,hu⟩:∃u,s1.heap.get? b=some u:=UU.elim id λ⟨u,hu⟩=>ym I.hok hu
  have h2:=hx.keeps b u hu;have q:h'.get? b=some o:=q;rw[q] at h2;cases h2;exact QcQ _ hu hb) x1 x4 hE
end
noncomputable def RT:List Value:=[.type "ValueError", .type "Exception", .type "BaseException", .type "object"]
structure XC (K:Qdi) (C:Addr):Prop where
 ex:PySem.W.excIn K C RT "ValueError.__new__"=true
 ga:PySem.W.findIn K (.ref C) "__getattribute__"=some (some (.builtin "BaseException.__getattribute__"))
 gt:PySem.W.findIn K (.ref C) "__getattr__"=some none
 co:PySem.W.findIn K (.ref C) "__class__"=some (some (.builtin "object.__class__"))
 gs:PySem.W.specialIn K (.builtin "object.__class__") "__get__"=some (some (.builtin "getset_descriptor.__get__"))
 tk:PySem.W.takesIn K (.builtin "object.__class__")=some true
 mo:PySem.W.mroIn K C (.type "object")=some true
 mb:PySem.W.mroIn K C (.type "BaseException")=some true
 ic:(PySem.W.clsIn K C).isSome=true
def x9(x C:Addr)(h:Heap):Prop:=∃o,h.get? x=some o/\o.cls= .ref C
def x9.ty{M:Model}{x C:Addr}(I:x9 x C h):PySem.W.Looks M h (typeOf$ .ref x) (.ref C):=by
 obtain⟨o,e,c⟩:=I;exact c▸(PySem.W.Looks.ld e).andThen .now
section
variable {prog:Program}{w:World}{A:Around}{E:Aab}{s:Qdj}{K:Qdi}{x C:Addr}
def Ik{M:Model}(T:XC K C)(X:K.In h):PySem.W.Looks M h (Builtin.ObjectAttr.find (.ref x) (.ref C) "__class__") (.bind (.builtin "getset_descriptor.__get__")$ .builtin "object.__class__"):=by
 have a1:=Qb4 (M:=M) X T.co;have a2:PySem.W.Looks M h (Builtin.ObjectAttr.getOf$ some$ .builtin "object.__class__") (some$ .builtin "getset_descriptor.__get__"):=PySem.W.looks_specialIn X T.gs;have a3:=PySem.W.looks_takesIn (M:=M) X T.tk;exact a1.andThen$ a2.andThen$ (show PySem.W.Looks M h (Builtin.ObjectAttr.dataDescriptor? (some$ .builtin "object.__class__")$ some$ .builtin "getset_descriptor.__get__") (some (.builtin "getset_descriptor.__get__", .builtin "object.__class__")) from a3.andThen .now).andThen (PySem.W.Looks.tag .now)
def Mt{tp:Value}{R:Result->Qdj->Prop}(T:XC K C)(X:K.In s.heap)(I:x9 x C s.heap)(h:R (.ok$ .ret$ .ref C) s) :
 codeAny (model prog w) A (.call (.builtin "getset_descriptor.__get__") ⟨[.builtin "object.__class__", .ref x,tp],[]⟩) R s:=by
 obtain⟨hp,gn,dr,tk,oo⟩:=s;have b0:=I.ty (M:=model prog w);have b1:=PySem.W.looks_mroIn (M:=model prog w) X T.mo;refine codeAny_call_builtin PySem.W.KF.slot_gs.plain PySem.W.KF.entry_gs (PySem.W.KF.slot_gs.check _ _ _ _ _ _ _ _ PySem.W.KF.type_class (PySem.W.KF.args_gs _ _ _) ?_);unfold Builtin.«getset_descriptor.__get__» PySem.Builtin.Getset_descriptor.descrGet;rw[PySem.W.dga_obj];refine Qab (Qaj ?_);unfold PySem.Builtin.Getset_descriptor.descrGetter PySem.Builtin.Getset_descriptor.descrCheckInstance PySem.Builtin.Getset_descriptor.descrNameAndClass isInstance;simp only[PySem.W.KF.owner_class]
 repeat lk
 refine⟨Code.quiet_builtin _ (by decide+kernel),codeAny_builtin PySem.W.KF.entry_class ?_⟩
 unfold Builtin.«object.__class__» shownTypeOf
 repeat lk
 exact h
def OF{tk:Tok}{R:Result->Qdj->Prop}(T:XC K C)(X:K.In s.heap)(I:x9 x C s.heap)(h:R (.ok$ .ret$ .ref C) s) :
 codeAny (model prog w) A (.call (.builtin "BaseException.__getattribute__") ⟨[.ref x, .str "__class__" tk],[]⟩) R s:=by
 have L0:=I.ty (M:=model prog w);have L1:=Ik (M:=model prog w) (x:=x) T X;have LM:=PySem.W.looks_mroIn (M:=model prog w) X T.mb;have LI:PySem.W.Looks (model prog w) s.heap (isInstance (.ref x)$ .type "BaseException") true:=L0.andThen LM;have hk:builtinKind "BaseException.__getattribute__"=some .slot:=by decide+kernel
 have Kv:splitId "BaseException.__getattribute__"=some ("BaseException","__getattribute__"):=by decide+kernel
 have ha:=PySem.F.args_bexc_ga (.ref x)$ .str "__class__" tk;refine codeAny_call_builtin Qc5.ga.plain PySem.F.entry_bexc_ga ?_;obtain⟨hh,g,d,t,os⟩:=s;simp only[checkBuiltinCall,hk,Kv];refine Qab$ LI.at ?_;simp only[Bool.not_true,QbX,if_false];refine wpAny_of_eq ha ?_;refine Qab$ Qaj$ Qab$ Qaj$ Qab$ L0.at$ Qab$ L1.at ?_;show wpAny _ _ (holding [Value.builtin "object.__class__"] (call (.builtin "getset_descriptor.__get__") [.builtin "object.__class__", .ref x, .ref C]) >>=ret) _ _ _;refine Qab$ Qbk$ wpAny_call$ Mt (s:=⟨hh,g,d,t,os⟩) T X I ?_;exact Qaj h
def EZ{Q:Option Value->Qdj->Prop}(T:XC K C)(X:K.In s.heap)(I:x9 x C s.heap)(h:Q (some$ .ref C) {s with toks:=s.toks+1}):wpAny (model prog w) A (getAttr? (.ref x) "__class__") Q E s:=by
 obtain⟨hh,g,d,t,os⟩:=s;have L0:=I.ty (M:=model prog w);have L1:=Qb4 (M:=model prog w) X T.ga;have L2:=Qb4 (M:=model prog w) X T.gt;have hb:=Qc5.ga.bind$ .ref x;unfold getAttr? getAttrBy? getAttrBy;refine Qab$ wpAny_mkText$ Qab$ Qb8$ Qbk$ Qab$ L0.at$ Qab$ L1.at ?_;have wa:(onTheHeap (Value.ref C) && Value.builtin "BaseException.__getattribute__"==Value.builtin "object.__getattribute__")=false:=by
  have z:(Value.builtin "BaseException.__getattribute__"==Value.builtin "object.__getattribute__")=false:=by decide+kernel
  rw[z];exact Bool.and_false _
 dsimp only;rw[wa,QaA Qay];unfold getAttrByItsOwn hookBefore;refine Qab$ L2.at ?_;refine Qab$ Qb8$ Qbk ?_;show wpAny _ _ (boundAndCalled _ _ _) _ _ _;unfold boundAndCalled;rw[hb];refine Qab$ Qaj ?_;refine wpAny_call$ OF (s:=⟨hh,g,d,t+1,os⟩) T X I ?_;show wpAny _ _ (handedOut$ .ref C) _ _ _;exact PySem.W.handed_on rfl$ Qaj h
def Ad(T:XC K C):PySem.W.KitX K (.ref x) (.ref C) (x9 x C) where
 ty:=λ_ _ _ I=>I.ty
 it:=λM h X _=>by
  obtain⟨cd,hc⟩:=Qci.mp T.ic;unfold PySem.W.clsIn at hc;split at hc
  .rename_i ho;intro A' Q' E' s' k q;unfold isType loadHead;exact Qab$ wpAny_loadPart (k _ _$ X _ _ ho)$ Qaj q
  .cases hc
 ne:=λh tp dd its n sl X TR=>by
  obtain⟨cd,hc⟩:=Qci.mp T.ic;refine Qc8.mpr λq=>?_
  cases Value.ref.inj (Qbj.mp q);unfold PySem.W.clsIn at hc;split at hc
  .rename_i ho;have z:=(X _ _ ho).symm.trans TR;cases z
  .cases hc
 ca:=λX I k=>EZ T X I k
def MB(X:K.In h)(q:PySem.W.excIn K C RT "ValueError.__new__"=true):∃bm N nm qn bs hdct sn sub ab col dd k0 k1 k2 k3 k5 mN,
 h.get? C=some (excClassObj nm qn C N bs bm hdct sn sub ab col dd k0 k1 k2 k3 k5 "ValueError.__new__")/\h.Ns N mN/\mN "__init__"=none/\OwnTail h RT bm:=by
 unfold PySem.W.excIn at q;split at q
 .rename_i dd cd sl ho;split at q
  .rename_i C' bm k0 k1 k2 k3 n k5 hm hs;simp only[QaW,Qbj,Bool.not_eq_true'] at q;obtain⟨⟨⟨⟨⟨q1,q2⟩,q3⟩,q4⟩,q5⟩,q6⟩:=q;subst q1 q2;obtain⟨nm,bs,mro,ns,qn,hd,sn,sub,ab,col,del⟩:=cd;obtain⟨l⟩:=sl;dsimp only at hm hs q3 q5 q6;subst hm hs q3;exact⟨bm,ns,nm,qn,bs,hd,sn,sub,ab,col,dd,k0,k1,k2,k3,k5,_,X _ _ ho,Heap.Ns.of_isNs$ PySem.W.isNs_of_in X q5,PySem.W.nsMap_none_of_in X q5 q6,PySem.W.tail_of_in X q4⟩
  .cases q
 .cases q
end
end L2
end
section
namespace L3
open PySem PySem.Spec PyProof.Rows L2
def R3.oH{α β:Type}{r:R3 α}{f:α->a_->R3 β}{c:Nat}{S':a_}(h:r.bind f= .ex c S'):r= .ex c S'\/∃a S,r= .ok a S/\f a S= .ex c S':=by
 cases r with
 | ok a S=>exact .inr ⟨a,S,rfl,h⟩
 | ex c' S=>cases h;exact .inl rfl
 | no=>cases h
noncomputable def LH{α:Type}(r:R3 α):R3 α:=match r with | .ex _ _=> .no | .ok a S=> .ok a S | .no=> .no
def si{α:Type}{r:R3 α}{a:α}{S:a_}(h:LH r= .ok a S):r= .ok a S:=by
 cases r with
 | ok b S=>exact h
 | ex c S=>cases h
 | no=>cases h
def BM{α:Type}{r:R3 α}{c:Nat}{S:a_}(h:LH r= .ex c S):False:=by
 cases r <;> cases h
def Hm(K:Qdi)(cl:Aag)(E:XK)(ρ:P3)(H:Hp)(S':a_)(c:Nat):Prop:=∀cq H',Pre ρ H cq H'->SW K cl cq H' S'->E (.ref$ cl c) none H'
def Hm.pre{K:Qdi}{cl:Aag}{E:XK}{S':a_}{c:Nat}(q:Hm K cl E ρ H S' c)(p:Pre ρ H cf H1):Hm K cl E cf H1 S' c:=λcq H' p' w=>q cq H' (p.trans p') w
def tXe(K:Qdi)(cl:Aag)(E:XK)(f:FX):TE:=λσ H Q=>∃ρ S δ,eV K cl ρ H S σ δ/\((∃v S',f δ S= .ok v S'/\∀u cq H',Pre ρ H cq H'->SW K cl cq H' S'->bf K cq H' v u->Q u H')\/∃c S',f δ S= .ex c S'/\Hm K cl E ρ H S' c)
def We(K:Qdi)(cl:Aag)(E:XK)(f:FA):TA:=λσ H Q=>∃ρ S δ,eV K cl ρ H S σ δ/\((∃vs S',f δ S= .ok vs S'/\∀us cq H',Pre ρ H cq H'->SW K cl cq H' S'->aM K cq H' vs us->Q us H')\/∃c S',f δ S= .ex c S'/\Hm K cl E ρ H S' c)
def Uz(K:Qdi)(cl:Aag)(E:XK)(F:FZ):TS:=λD σ H=>∃ρ S δ,eV K cl ρ H S σ δ/\((∃o S',F δ S= .ok o S'/\Ai K cl ρ H D S' o)\/∃c S',F δ S= .ex c S'/\Hm K cl E ρ H S' c)
structure VC (X:Cx) (cl:Aag) (E:XK) (e:Expr) (f:FX):Prop where
 go:PE X e (tXe X.K cl E f)
structure Qj (X:Cx) (cl:Aag) (E:XK) (es:List Expr) (f:FA):Prop where
 go:PA X es (We X.K cl E f)
structure RD (X:Cx) (cl:Aag) (E:XK) (st:Stmt) (F:FZ):Prop where
 go:PS X st (Uz X.K cl E F)
structure xR (X:Cx) (cl:Aag) (E:XK) (st:List Stmt) (F:FZ):Prop where
 go:y4 X st (Uz X.K cl E F)
section
variable {X:Cx}{cl:Aag}{E:XK}
def xOk(f:FX):FX:=λδ S=>LH$ f δ S
def BK(f:FA):FA:=λδ S=>LH$ f δ S
def V5(f:FZ):FZ:=λδ S=>LH$ f δ S
def ur(h:KY X cl es f):Qj X cl E es (BK f):=⟨h.1.imp λσ H Q ⟨ρ,S,δ,En,z⟩=>by
 rcases z with⟨v,S',hf,q⟩ | ⟨c,S',hf,q⟩
 .exact⟨ρ,S,δ,v,S',En,si hf,q⟩
 .exact(BM hf).elim⟩
def Md{st:List Stmt}(h:DD X cl st F):xR X cl E st (V5 F):=⟨h.1.imp λD σ H ⟨ρ,S,δ,En,z⟩=>by
 rcases z with⟨v,S',hf,q⟩ | ⟨c,S',hf,q⟩
 .exact⟨ρ,S,δ,v,S',En,si hf,q⟩
 .exact(BM hf).elim⟩
def CB(K:Qdi)(cl:Aag)(n:Nat)(g:List V3->a_->R3 V3):Sp:=λvs H Q E=>vs.length=n/\∃ρ S xs,SW K cl ρ H S/\aM K ρ H xs vs/\
 ((∃v S',g xs S= .ok v S'/\∀u cq H',Pre ρ H cq H'->SW K cl cq H' S'->bf K cq H' v u->Q u H')\/∃c S',g xs S= .ex c S'/\Hm K cl E ρ H S' c)
def iI(P:Program)(w:World)(K:Qdi)(mg:Aaf)(base:Heap)(cl:Aag)(k:Nat)(x:Str)(n:Nat)(g:List V3->a_->R3 V3):Prop:=
 ∃(f:Addr) (fd:FuncData) (ps:List Str),ip P w K mg base (Dc P w) k f fd ps (CB K cl n g)/\mg x=some (.ref f)/\PySem.W.keepIn K (.ref f)=true/\Binds K fd ps []
def uB{g:List V3->a_->R3 V3}{k j n:Nat}{x:Str}{p pos:Pos}{e:Expr}{es:List Expr}{fs:FA}(hp:Passes (Dc X.prog X.w) X E)(C:iI X.prog X.w X.K X.mg X.base cl k x n g)(hr:dZ j X.A)(hkj:k<=j)(hg:Gl X x)(ha:Qj X cl E (e ::es) fs)
 (hn:∀δ S ds S',fs δ S= .ok ds S'->ds.length=n) (oi:(x==("__debug__":Str))=false:=by decide) (he:starEach (e ::es) X.env=(false,eval e X.env) ::starEach es X.env:=by rfl) (hJ:(backTo pos$ starEach es X.env).any (·.1)=false:=by rfl) :
 VC X cl E (.Call (.Name x p) (e ::es) [] pos) (fU g fs):=by
 obtain⟨f,fd,ps,F,hm,hk,hb⟩:=C;refine⟨(uu F (hr.mono hkj) hg hm hk hb .nil hp ha.1 oi he hJ).imp λσ H Q ⟨ρ,S,δ,En,z⟩=>⟨ρ,S,δ,En,?_⟩⟩
 have go:∀vs S1,fs δ S= .ok vs S1->((∃v S',g vs S1= .ok v S'/\∀u cq H',Pre ρ H cq H'->SW X.K cl cq H' S'->bf X.K cq H' v u->Q u H')\/∃c S',g vs S1= .ex c S'/\Hm X.K cl E ρ H S' c)->
  (∃vs S',fs δ S= .ok vs S'/\∀us cq H',Pre ρ H cq H'->SW X.K cl cq H' S'->aM X.K cq H' vs us->(λvs H1=>CB X.K cl n g (vs++[]) H1 Q E) us H')\/∃c S',fs δ S= .ex c S'/\Hm X.K cl E ρ H S' c:=λvs S1 h1 h2=>by
  refine .inl ⟨vs,S1,h1,λus cf H1 p1 w1 r1=>?_⟩
  show CB X.K cl n g (us++[]) H1 Q E;rw[Qbc];refine⟨by rw[<-r1.length];exact hn δ S vs S1 h1,cf,S1,vs,w1,r1,?_⟩
  rcases h2 with⟨v,S',h3,q⟩ | ⟨c,S',h3,q⟩
  .exact .inl ⟨v,S',h3,λu qg H2 p2 w2 r2=>q u qg H2 (p1.trans p2) w2 r2⟩
  .exact .inr ⟨c,S',h3,q.pre p1⟩
 rcases z with⟨v,S',hf,q⟩ | ⟨c,S',hf,q⟩
 .obtain⟨vs,S1,h1,h2⟩:=R3.aj hf;exact go vs S1 h1$ .inl ⟨v,S',h2,q⟩
 .rcases R3.oH hf with h1 | ⟨vs,S1,h1,h2⟩
  .exact .inr ⟨c,S',h1,q⟩
  .exact go vs S1 h1 (.inr ⟨c,S',h2,q⟩)
def JC{pos:Pos}(he:VC X cl E e f)(t9:swapsWith e none pos.line X.env=pure false:=by rfl):RD X cl E (.Expr e pos) (Ht f):=⟨(uf he.1 t9).imp λD σ H ⟨ρ,S,δ,En,z⟩=>by
 refine⟨ρ,S,δ,En,?_⟩;rcases z with⟨o,S',hf,q⟩ | ⟨c,S',hf,q⟩
 .obtain⟨v,S1,h1,h2⟩:=R3.aj hf;cases h2;exact .inl ⟨v,_,h1,λu cf H1 p1 w1 r1=>q _ cf H1 p1$ En.to p1 w1⟩
 .rcases R3.oH hf with h1 | ⟨v,S1,h1,h2⟩
  .exact .inr ⟨c,S',h1,q⟩
  .cases h2⟩
def Vs(f:FB):FB:=λδ S=>LH$ f δ S
def Pb(hc:DQ X cl c fc)(ha:xR X cl E a F)(hb:xR X cl E b G):RD X cl E (.If c a b pos) (yu (Vs fc) F G):=⟨(HS hc.1 ha.1 hb.1).imp λD σ H ⟨ρ,S,δ,En,z⟩=>by
 have fin:∀k S1,fc δ S= .ok k S1->((∃o S',(if k then F δ S1 else G δ S1)= .ok o S'/\Ai X.K cl ρ H D S' o)\/∃c S',(if k then F δ S1 else G δ S1)= .ex c S'/\Hm X.K cl E ρ H S' c)->RF (Np X.K cl fc) (Uz X.K cl E F) (Uz X.K cl E G) D σ H:=λk S1 h1 h2=>by
  refine⟨ρ,S,δ,k,S1,En,h1,λcf H1 p1 w1=>?_⟩
  cases k with
  | true=>
    refine HE ⟨cf,S1,δ,En.to p1 w1,?_⟩;rcases h2 with⟨o,S',h3,q⟩ | ⟨c,S',h3,q⟩
    .rw [QaG rfl] at h3;exact .inl ⟨o,S',h3,q.pre p1⟩
    .rw [QaG rfl] at h3;exact .inr ⟨c,S',h3,q.pre p1⟩
  | false=>
    refine Iz ⟨cf,S1,δ,En.to p1 w1,?_⟩;rcases h2 with⟨o,S',h3,q⟩ | ⟨c,S',h3,q⟩
    .rw [QaA$ by decide] at h3;exact .inl ⟨o,S',h3,q.pre p1⟩
    .rw [QaA$ by decide] at h3;exact .inr ⟨c,S',h3,q.pre p1⟩
 rcases z with⟨o,S',hf,q⟩ | ⟨c,S',hf,q⟩
 .obtain⟨k,S1,h1,h2⟩:=R3.aj hf;exact fin k S1 (si h1)$ .inl ⟨o,S',h2,q⟩
 .rcases R3.oH hf with h1 | ⟨k,S1,h1,h2⟩
  .exact(BM h1).elim
  .exact fin k S1 (si h1) (.inr ⟨c,S',h2,q⟩)⟩
def I_:xR X cl E [] mV:=⟨yR.imp λD σ H ⟨ρ,S,δ,En,z⟩=>by
 rcases z with⟨o,S',hf,q⟩ | ⟨c,S',hf,q⟩
 .cases hf;exact q σ ρ H (Pre.refl ρ H) En
 .cases hf⟩
def zG{st:Stmt}(h:RD X cl E st F):xR X cl E [st] F:=⟨yk h.1⟩
def Eu{st:Stmt}{rest:List Stmt}(h1:RD X cl E st F)(h2:xR X cl E rest G):xR X cl E (st ::rest) (bN F G):=⟨(vJ h1.1 h2.1).imp λD σ H ⟨ρ,S,δ,En,z⟩=>by
 refine⟨ρ,S,δ,En,?_⟩;rcases z with⟨o,S',hf,q⟩ | ⟨c,S',hf,q⟩
 .obtain⟨o1,S1,h1,h2⟩:=R3.aj hf;refine .inl ⟨o1,S1,h1,?_⟩;cases o1 with
  | nx c_=>exact λQ4 cf H1 p1 E1=>⟨cf,S1,c_,E1, .inl ⟨o,S',h2,q.pre p1⟩⟩
  | rt d=>cases h2;exact q
 .rcases R3.oH hf with h1 | ⟨o1,S1,h1,h2⟩
  .exact .inr ⟨c,S',h1,q⟩
  .refine .inl ⟨o1,S1,h1,?_⟩;cases o1 with
   | nx c_=>exact λQ4 cf H1 p1 E1=>⟨cf,S1,c_,E1, .inr ⟨c,S',h2,q.pre p1⟩⟩
   | rt d=>cases h2⟩
def BP(X:Cx)(E:XK):Prop:=∀(pins:Aaa) (σ:L2.St) (H:Hp) (s:Qdj) (h':Heap) (a:Addr) (cls:Value) (vs:List Value),Inv X pins σ H s->Heap.MadeExcOf s.heap h' a cls vs->E cls none H->X.xe (.ref a) {s with heap:=h'}
def BN(c:Nat)(fs:FA):FZ:=λδ S=>(fs δ S).bind λvs S=>R3.aS (decide$ vs.length<=sizeLine)$ .ex c S
def Ij{C:Addr}{t:TA}{x:Str}{e:Expr}{es:List Expr}{np cF pos:Pos}(hf:BP X E)(hc:X.calm=true)(T:XC X.K C)(hg:Gl X x)(hm:X.mg x=some (.ref C))(ha:PA X (e ::es) t)(oi:(x==("__debug__":Str))=false:=by decide)
 (he:starEach (e ::es) X.env=(false,eval e X.env) ::starEach es X.env:=by rfl) (hJ:(backTo cF$ starEach es X.env).any (·.1)=false:=by rfl) :
 PS X (.Raise (some$ .Call (.Name x np) (e ::es) [] cF) none pos) (λD σ H=>t σ H λvs H1=>vs.length<=sizeLine/\E (.ref C) none H1):=by
 intro pins s σ H D I h;obtain⟨bm,N,nm,qn,bs,hdct,sn,sub,ab,col,dd,k0,k1,k2,k3,k5,mN,hC,hN,hni,OT⟩:=MB (C:=C) I.mod.kin T.ex;refine wpAny_Raise_call_subT (C:=C) (nm:=nm) (q:=qn) (N:=N) (bs:=bs) (bm:=bm) (hdct:=hdct) (sn:=sn) (sub:=sub) (ab:=ab) (col:=col) (dd:=dd) (k0:=k0) (k1:=k1) (k2:=k2) (k3:=k3) (k5:=k5) (bmB:=RT) Qc6 (mN:=mN) (OT.hasType Qc6.hasBase) (I.ok.hd hc)
  (by rw[he];show(false || (backTo cF$ starEach es X.env).any (·.1))=false;rw [hJ];rfl) hni (qx I hg hm ⟨rfl,?_⟩ oi)
 have hA:=ha cF pins s σ H _ I h;rw[he] at hA ⊢;refine QcF (QbM hA (λus s2 ⟨vs,H1,I1,r,hl,hE⟩=>⟨rfl,by rw[<-r.length];exact hl,I1.bk _ _ hC,hN.keeps I1.bk,OT.keeps I1.bk,λh' a hx=>hf pins σ H1 s2 h' a _ _ I1 hx hE⟩) λ_ _ y=>y)
def Fy{c:Nat}{fs:FA}{x:Str}{e:Expr}{es:List Expr}{np cF pos:Pos}(hf:BP X E)(hc:X.calm=true)(T:XC X.K (cl c))(hg:Gl X x)(hm:X.mg x=some (.ref$ cl c))(ha:Qj X cl E (e ::es) fs)(oi:(x==("__debug__":Str))=false:=by decide)
 (he:starEach (e ::es) X.env=(false,eval e X.env) ::starEach es X.env:=by rfl) (hJ:(backTo cF$ starEach es X.env).any (·.1)=false:=by rfl) :
 RD X cl E (.Raise (some$ .Call (.Name x np) (e ::es) [] cF) none pos) (BN c fs):=⟨(Ij hf hc T hg hm ha.1 oi he hJ).imp λD σ H ⟨ρ,S,δ,En,z⟩=>by
 refine⟨ρ,S,δ,En,?_⟩;rcases z with⟨o,S',hf,q⟩ | ⟨c',S',hf,q⟩
 .obtain⟨vs,S1,h1,h2⟩:=R3.aj hf;unfold R3.aS at h2;split at h2 <;> cases h2
 .rcases R3.oH hf with h1 | ⟨vs,S1,h1,h2⟩
  .exact .inr ⟨c',S',h1,q⟩
  .unfold R3.aS at h2;split at h2
   .rename_i hl;cases h2;exact .inl ⟨vs,_,h1,λus cf H1 p1 w1 r1=>⟨by rw[<-r1.length];exact Qah hl,q cf H1 p1 w1⟩⟩
   .cases h2⟩
end
def Hk{P:Program}{w:World}{K:Qdi}{mg:Aaf}{base:Heap}{cl:Aag}{x qual:Str}{st:Stmt}{f:Addr}{fd:FuncData}{N ps:List Str}{k:Nat}{F:FZ}{b:List Stmt}{sc:Scope}(hb:aP st=b)(hs:aD st=sc)(Fn:BQ K x qual st f fd)(S:bj N ps sc)
 (fH:∀(fL:Value) (A:Around) (outer:List Env) (s:Qdj) (H:Hp) (E:XK),dZ k (A.deeper$ envOfC qual sc s.heap.objs.size f fL)->
   xR (lV (Dc P w) P w K mg base N qual sc f fL A outer s H E) cl E b F):ip P w K mg base (Dc P w) (k+1) f fd ps (CB K cl ps.length$ qj N F):=by
 subst hb hs;obtain⟨oc,od,kV,doc,pm,an,fL,ct,Gg,rfl,lk,sL⟩:=Fn.ex;refine Ny lk sL S (λvs H Q E h=>h.1) λA outer s H vs Q E hr Kv=>⟨_,(fH fL A outer s H E hr).1,?_⟩
 obtain⟨_,ρ,S,ds,w,r,z⟩:=Kv;refine⟨ρ,S,df N ds,Aq w r,?_⟩;rcases z with⟨v,S',hg,q⟩ | ⟨c,S',hg,q⟩
 .obtain⟨o,S1,h1,h2⟩:=R3.aj hg;refine .inl ⟨o,S1,h1,?_⟩;cases o with
  | nx d5=>
    cases h2;exact λc9 cq H' p' E'=>q _ cq H' p' E'.sw (by unfold bf Rep;rfl)
  | rt d'=>
    cases h2;exact λu cq H' p' w' r'=>q u cq H' p' w' r'
 .rcases R3.oH hg with h1 | ⟨o,S1,h1,h2⟩
  .exact .inr ⟨c,S',h1,q⟩
  .cases o with
   | nx d5=>cases h2
   | rt d'=>cases h2
def EM{P:Program}{w:World}{K:Qdi}{mg:Aaf}{base:Heap}{N:List Str}{qual:Str}{scope:Scope}{f:Addr}{cd:Value}{A:Around}{outer:List Env}{s:Qdj}{H:Hp}{E:XK} :
 BP (lV (Dc P w) P w K mg base N qual scope f cd A outer s H E) E:=λpins σ H1 s1 h' a cls vs I hx hE=>N4 I hx hE
end L3
end
section
namespace L2
open PySem PySem.Spec PyProof.Rows
noncomputable abbrev Cx.alt(X:Cx)(A:Around)(calm:Bool)(pn:Aaa)(xe:Aab):Cx:={X with A:=A,calm:=calm,pn:=pn,xe:=xe}
def Cx.Ok.alt{X:Cx}(ok:X.Ok){A:Around}{calm:Bool}{pn:Aaa}{xe:Aab}(hd:calm=true->A.handled=none)(hf:A.frames=X.A.frames):(X.alt A calm pn xe).Ok:=
 ⟨ok.mod,ok.kind,ok.glob,ok.blt,ok.above,ok.inj,ok.has,ok.cab,hd,hf.trans ok.frames,ok.stk,ok.exf,ok.bs,ok.bsz,ok.noex,ok.exfs,ok.qS,ok.frf⟩
section
variable {X:Cx}{pins lZ:Aaa}{σ:St}{H H1 H':Hp}{s s1 s':Qdj}
def Inv.alt{A:Around}{calm:Bool}{pn:Aaa}{xe:Aab}(I:Inv X pins σ H s)(hd:calm=true->A.handled=none)(hf:A.frames=X.A.frames)(hp:∀p∈pn++lZ,p∈X.pn++pins):Inv (X.alt A calm pn xe) lZ σ H s:=
 ⟨I.ok.alt hd hf,I.os,I.bare,I.base,I.loc,I.cell,I.free,I.freeC,λp hq=>I.pin p$ hp p hq,I.hok,I.len⟩
def Inv.RV{calm:Bool}{pn:Aaa}{xe:Aab}(ok:X.Ok)(I:Inv (X.alt A calm pn xe) lZ σ H s)(hp:∀p∈X.pn++pins,p∈pn++lZ):Inv X pins σ H s:=
 ⟨ok,I.os,I.bare,I.base,I.loc,I.cell,I.free,I.freeC,λp hq=>I.pin p$ hp p hq,I.hok,I.len⟩
def D5{M:Model}{A:Around}{E:Aab}{i:Nat}{x:Str}{pos:Pos}{Q:Unit->Qdj->Prop}(I:Inv X pins σ H s)(hN:X.N.Nodup)(hi:X.N[i]? =some x)(hk:X.env.kindOf x=some .local)
 (h:∀s',Inv X pins (σ.set i none) H s'->Q () s'):wpAny M A (do bindName X.env x .none;unbindBehindTheSuite X.env x pos) Q E s:=by
 obtain⟨m,hn,hl⟩:=id I.loc;have hcls:(X.env.scope.kind== .class || (X.env.scope.kind== .module && X.env.locals !=X.env.globals))=false:=by rw[I.ok.kind];rfl
 have hiσ:i<σ.length:=by rw[I.len];exact(Qae.mp hi).1
 have JG:=I.JG;refine wpAny_nameGoes_keeps hk hn hcls λh' v T6 hs=>?_
 refine h _ ⟨I.ok,I.os,I.bare,⟨λb o e n hb hx=>?_,λb o e n hb hx=>?_,I.base.free,λb o e hx=>?_,I.base.tups,I.base.frzs,I.base.tbls⟩,⟨_,T6,λj y v' e1 e2 e3=>?_⟩,λy c e=>?_,I.free,I.freeC,λp hp=>?_,λb ob e=>?_,by simpa using I.len⟩
 .exact(hs.2 b$ QaE$ QaC (Qar e) I.ok.above).trans (I.base.keep b o e n hb hx)
 .obtain⟨sl,e1⟩:=I.base.slot b o e n hb hx;exact⟨sl,(hs.2 b$ QaE$ QaC (Qar e) I.ok.above).trans e1⟩
 .obtain⟨o',e1⟩:=I.base.there b o e hx;exact⟨o',(hs.2 b$ QaE$ QaC (Qar e) I.ok.above).trans e1⟩
 .by_cases hj:j=i
  .subst hj;rw[Qaq hiσ] at e2;cases e2
  .rw [Qas$ QbE hj] at e2;obtain⟨u',r',q⟩:=hl j y v' e1 e2 e3;refine⟨u',r',?_⟩;rcases q with⟨k,e⟩ | ⟨k,c,e,z⟩
   .refine .inl ⟨k,?_⟩;have:y≠x:=λe=>hj (vR hN e1$ e▸hi)
    simp [this,e]
   .exact .inr ⟨k,c,e,z.sameBut hs$ JG y c e⟩
 .obtain⟨w',z⟩:=I.cell y c e;exact⟨w',z.sameBut hs$ JG y c e⟩
 .obtain⟨e,n,ne,nf,d⟩:=I.pin p hp;exact⟨(hs.2 p.1 ne).trans e,n,ne,nf,d⟩
 .refine(I.hok b ob e).t7 (λc w' hc q=>(hs.2 c ?_).trans q) (λ_ q=>q) λ_ _ q=>q
  rintro rfl;rcases hc with rfl | hc
  .have z:=I.free;rw [z] at e;cases e
  .have z:=I.free;rw [z] at hc;cases hc
def vv{B h5:Heap}{a:Addr}{C:Addr}{a0:Value}(I:Inv X pins σ H1 s1)(ub:X.stack=X.env ::X.outer)(os:s'.os=s1.os)(bare:AllBare s'.gens)(un:Un (pN X.stack) [] H1 H' s1.heap s'.heap)(hok:mF X.prog X.w H' s'.heap)
 (oZ:∀b o,s'.heap.get? b=some o->b ∉ pN X.stack->((∃u,s1.heap.get? b=some u)\/∃u,H' b=some u)->B.get? b=some o) (fl:Heap.FlyingW B X.stack a (.ref C) a0 h5) (up:s'.heap.UpToSlots h5) :
 H' a=none/\x9 a C h5/\Inv X pins σ (upd H' a$ .ext$ L3.isExc C a) {s' with heap:=h5}:=by
 have hfree:∀b,b∈pN X.stack->H' b=none:=λb hb=>by
  obtain⟨_,o,ho,_⟩:=I.stack.mem hb;exact un.free b o ho (I.oC b hb) (by simp)
 have stB:∀b o,B.get? b=some o->h5.get? b=some o:=fl.1;have Kg:∀b o,H' b=some o->∀u,s'.heap.get? b=some u->h5.get? b=some u:=λb o q u hu=>stB b u (oZ b u hu (λhb=>by rw[hfree b hb] at q;cases q) (.inr ⟨o,q⟩))
 obtain⟨oe,vs,he,hec,hed,_⟩:=fl.first
 have nst:a ∉ pN X.stack:=λhb=>by
  obtain⟨_,o,ho,hd⟩:=fl.2.2.1.mem hb;rw[he] at ho;cases ho;exact hd _ hed
 have n0:∀u,s1.heap.get? a≠some u:=λu hu=>by
  obtain⟨u2,h2⟩:=un.there a u hu (by simp)
  have:=oZ a u2 h2 nst$ .inl ⟨u,hu⟩;rw[fl.2.1] at this;cases this
 have n1:H' a=none:=by
  cases q:H' a with
  | none=>rfl
  | some u=>
    obtain⟨u2,h2⟩:=ym hok q;have:=oZ a u2 h2 nst$ .inr ⟨u,q⟩;rw[fl.2.1] at this;cases this
 have n2:H1 a=none:=by
  cases q:H1 a with
  | none=>rfl
  | some u=>
    obtain⟨u2,h2⟩:=ym I.hok q;exact absurd h2$ n0 u2
 refine⟨n1,⟨oe,he,hec⟩,?_⟩;have un2:Un (pN X.stack) [] H1 (upd H' a$ .ext$ L3.isExc C a) s1.heap h5:=by
  refine⟨λb o q n hb _=>?_,λb o q n hb _=>?_,λb o q n _=>?_,λb o q _=>?_,λb xs q=>?_,λb o u q=>?_,λb ps q=>?_⟩
  .exact stB b o (oZ b o (un.keep b o q n hb$ by simp) hb$ .inl ⟨o,q⟩)
  .obtain⟨Gw,h2⟩:=un.slot b o q n hb (by simp)
   obtain⟨_,o',Ba,hd⟩:=I.stack.mem hb;rw[q] at Ba;cases Ba;obtain⟨Ub,h3⟩:=up b _ h2 hd;exact⟨Ub,h3⟩
  .rw [bg$ λz=>by subst z;exact n0 o q];exact un.free b o q n (by simp)
  .obtain⟨u2,h2⟩:=un.there b o q (by simp)
   by_cases hb:b∈pN X.stack
   .obtain⟨_,o',Ba,hd⟩:=I.stack.mem hb;obtain⟨sl,h3⟩:=un.slot b o' Ba (I.oC b hb) hb (by simp)
    obtain⟨Ub,h4⟩:=up b _ h3 hd;exact⟨_,h4⟩
   .exact⟨u2,stB b u2$ oZ b u2 h2 hb$ .inl ⟨o,q⟩⟩
  .rw [bg$ bJ q n2];exact un.tups b xs q
  .rw [bg$ bJ q n2];exact un.frzs b o u q
  .rw [bg$ bJ q n2];exact un.tbls b ps q
 have hok2:mF X.prog X.w (upd H' a$ .ext$ L3.isExc C a) h5:=λb o q=>by
  by_cases hb:b=a
  .subst hb;rw[aU] at q;cases q;refine⟨⟨oe,he,hec⟩,⟨oe,he⟩,λh1 h2 p k=>?_⟩
   obtain⟨o,h3,h4⟩:=p;exact⟨o,k o h3,h4⟩
  .rw [bg hb] at q;refine(hok b o q).t7 (λc u hc hu=>?_) (λc z=>by rw[bg$ bJ z n1];exact z) (λc xs z=>by rw[bg$ bJ z n1];exact z)
   rcases hc with rfl | hc
   .exact Kg c o q u hu
   .exact Kg c _ hc u hu
 exact I.M9 (s':={s' with heap:=h5}) os un2 hok2 bare (λb z=>absurd z$ by simp)
end
end L2
namespace L3
open PySem PySem.Spec PyProof.Rows L2
section
variable {X:Cx}{cl:Aag}
def BR(F:FZ)(ok:Nat->Bool)(i:Nat)(G:FZ):FZ:=λδ S=>match F δ S with
 | .ok o S'=> .ok o S'
 | .ex c S'=>R3.aS (ok c)$ (LH$ G ((List.replicate δ.length none).set i$ some$ .loc S'.length)$ S'++[.exc c]).bind λo S2=>match o with | .nx d5=> .ok (.nx$ d5.set i none) S2 | .rt v=> .ok (.rt v) S2
 | .no=> .no
def PQ{F G:FZ}{ok:Nat->Bool}{i:Nat}{n fx:Str}{Cf:Addr}{body JW:List Stmt}{b0:Stmt}{np T7 pos:Pos}(ub:X.stack=X.env ::X.outer)(Kt:X.env.frame=some X.env.locals)(Y_:X.calm=true)
 (hC:∀c,ok c=true->PySem.W.exmOne X.K (.ref$ cl c) (.ref Cf)=some true) (hg:Gl X fx) (hm:X.mg fx=some (.ref Cf)) (hN:X.N.Nodup) (hi:X.N[i]? =some n) (hk:X.env.kindOf n=some .local)
 (fH:∀(pn:Aaa) (xe:Aab) (E:XK),Passes (Dc X.prog X.w) (X.alt X.A X.calm pn xe) E->xR (X.alt X.A X.calm pn xe) cl E body F)
 (T5:∀(a:Addr) (pn:Aaa),DD (X.alt (X.A.mark$ some$ .ref a) false pn λ_ _=>False) cl (b0 ::JW) G) (oi:(fx==("__debug__":Str))=false:=by decide) :
 PZ X cl (.Try body [.ExceptHandler (some$ .Name fx np) (some n) (b0 ::JW) T7] [] [] pos) (BR F ok i G):=⟨by
 intro pins s σ H D I ⟨ρ,S,δ,o,S',En,hf,q⟩;refine wpAny_Try_except ?_;have I1:∀xe,Inv (X.alt X.A X.calm (X.pn++pins) xe) [] σ H s:=λxe=>I.alt I.ok.hd rfl λp hp=>by simpa using hp
 have back:∀{c9 H' s'} {xe} {A calm lZ},Inv (X.alt A calm (X.pn++pins) xe) lZ c9 H' s'->Inv X pins c9 H' s':=λJ=>Inv.RV I.ok J λp hp=>Qb3 _ hp
 have nxt:∀{xe f s1},SP (X.alt X.A X.calm (X.pn++pins) xe) [] D f s1->(match f with | .next=>wpAny (model X.prog X.w) X.A (execs [] X.env) (SP X pins D) X.xe s1 | f=>SP X pins D f s1):=fun {xe f s1} z=>by
  cases f with
  | next=>obtain⟨c9,H',J,w⟩:=z;exact QcD ⟨c9,H',back J,w⟩
  | brk=>obtain⟨c9,H',J,w⟩:=z;exact⟨c9,H',back J,w⟩
  | cont=>obtain⟨c9,H',J,w⟩:=z;exact⟨c9,H',back J,w⟩
  | ret u=>obtain⟨v,c9,H',J,r,w⟩:=z;exact⟨v,c9,H',back J,r,w⟩
 cases hF:F δ S with
 | no=>simp only[BR,hF] at hf;cases hf
 | ok o1 S1=>
   simp only[BR,hF] at hf;cases hf;exact dP ((fH (X.pn++pins) _ E0 λ_ _ _ _ _ _ _ ⟨_,_,_,_,_,_,_,_,_,_,_,_,z⟩=>z.elim).1 [] s σ H D (I1 _) ⟨ρ,S,δ,En, .inl ⟨_,_,hF,q⟩⟩) λf s1 z=>nxt z
 | ex c S1=>
   simp only[BR,hF] at hf;obtain⟨hok,hf⟩:=R3.bh hf;obtain⟨o2,S2,hG,hf⟩:=R3.aj hf;have hG:=si hG;refine dP ((fH (X.pn++pins) (λe s₁=>wpAny (model X.prog X.w) X.A (noteFrame e X.env) (λ_ J3=>wpAny (model X.prog X.w) X.A (setFlight e none) (λ_ XQ=>wpAny (model X.prog X.w) X.A (handleBy e X.env [.ExceptHandler (some$ .Name fx np) (some n) (b0 ::JW) T7]) (SP X pins D) X.xe XQ) X.xe J3) X.xe s₁)
    (λcls d H'=>cls= .ref (cl c)/\∃cq,Pre ρ H cq H'/\SW X.K cl cq H' S1) ?_).1 [] s σ H D (I1 _) ⟨ρ,S,δ,En, .inr ⟨c,S1,hF,λcq H' p w=>⟨rfl,cq,p,w⟩⟩⟩) λf s1 z=>nxt z
   intro lZ c9 H1 s1 e s' J hc;obtain⟨a,B,cls,a0,H',rfl,os,bare,un,hokH,fl,oZ,rfl,cq,p',w'⟩:=hc;have fl:Heap.FlyingW B (X.env ::X.outer) a (.ref$ cl c) a0 s'.heap:=by rw[<-ub];exact fl
   refine wpAny_looks_onW (by rw[I.ok.frames,ub]) Kt fl λh4 held Zb=>?_
   refine wpAny_landsW held λh5 Y4 Y6=>?_
   have C5:=vv (X:=X.alt X.A X.calm (X.pn++pins) _) (s':=s') J ub os bare un hokH oZ (by rw[show Cx.stack (X.alt X.A X.calm (X.pn++pins) _)=X.env ::X.outer from ub];exact Y4) (Zb.trans Y6)
   have J5:Inv (X.alt (X.A.mark$ some$ .ref a) false (X.pn++pins) λ_ _=>False) lZ c9 _ {s' with heap:=h5}:=Inv.alt (X:=X.alt X.A X.calm (X.pn++pins) _) C5.2.2 (λz=>by cases z) rfl λp hp=>hp
   refine wpAny_handleBy_cons (codeAny_handlers_test$ qx J5 hg hm ?_ oi) (by intro q;cases q)
   refine(PySem.W.exm_one J5.pz (x9.ty C5.2.1)$ hC c hok).here ?_;refine codeAny_handlers_suite_as ?_;refine PyProof.Rows.lands_againW Y4 λh6 fl6 up6=>?_
   have C6:=vv (X:=X.alt X.A X.calm (X.pn++pins) _) (s':=s') J ub os bare un hokH oZ (by rw[show Cx.stack (X.alt X.A X.calm (X.pn++pins) _)=X.env ::X.outer from ub];exact fl6) ((Zb.trans Y6).trans up6)
   have J6:Inv (X.alt (X.A.mark$ some$ .ref a) false (X.pn++pins) λ_ _=>False) lZ c9 _ {s' with heap:=h6}:=Inv.alt (X:=X.alt X.A X.calm (X.pn++pins) _) C6.2.2 (λz=>by cases z) rfl λp hp=>hp
   have sm:aY H' (upd H' a$ .ext$ isExc (cl c) a):=aN C6.1;obtain⟨w6,p6⟩:=w'.new (o:= .exc c) sm C6.1$ show Gu X.K cl (cq.push a) _ (.exc c) _ from⟨a,aU⟩
   have la:(cq.push a).r[S1.length]? =some a:=by
    show(cq.r++[a])[S1.length]? =some a;rw[<-w'.len,Qal$ Qai _,Qbl];rfl
   refine uI (X:=X.alt (X.A.mark$ some$ .ref a) false (X.pn++pins) λ_ _=>False) J6 hN hi (.inl hk) (v:= .ref a) rfl (λs7 J7=>?_) (.inr hk)
   have En7:eV X.K cl (cq.push a) (upd H' a$ .ext$ isExc (cl c) a) (S1++[.exc c]) (c9.set i$ some$ .ref a) ((List.replicate δ.length none).set i$ some$ .loc S1.length):=by
    refine⟨?_,w6,λj d e=>?_⟩
    .rw [QaT,QaT,QaJ,En.len,I.len];exact J.len.symm
    .by_cases hj:i=j
     .subst hj;have hlt:i<(List.replicate δ.length (none:Option V3)).length:=by
       rw[QaJ,En.len,I.len];exact(Qae.mp hi).1
      rw[Qaq hlt] at e;cases e;refine⟨.ref a,?_,by unfold bf;exact⟨a,la,rfl⟩⟩
      rw[Qaq];have:c9.length=X.N.length:=J.len;rw[this];exact(Qae.mp hi).1
     .rw [Qas hj,QaV] at e;split at e <;> cases e
   have q7:Ai X.K cl (cq.push a) (upd H' a$ .ext$ isExc (cl c) a) {nx:=λQ8 H8=>D.nx (Q8.set i none) H8,rt:=D.rt} S2 o2:=by
    cases o2 with
    | nx du=>
      cases hf;intro Q8 Xx H8 p8 E8;refine q (Q8.set i none) Xx H8 ((p'.trans p6).trans p8) ⟨?_,E8.sw,λj d e=>?_⟩
      .rw [QaT,QaT];exact E8.len
      .by_cases hj:i=j
       .subst hj;by_cases hlt:i<du.length
        .rw [Qaq hlt] at e;cases e
        .rw [QcB$ by rw[QaT];omega] at e;cases e
       .rw [Qas hj] at e ⊢;exact E8.val j d e
    | rt v=>
      cases hf;exact λu Xx H8 p8 w8 r8=>q u Xx H8 ((p'.trans p6).trans p8) w8 r8
   refine QbM ((T5 a$ X.pn++pins).1 lZ s7 _ _ _ J7 ⟨cq.push a,S1++[.exc c],_,o2,S2,En7,hG,q7⟩) (λf s8 z=>?_) λ_ _ z=>z.elim
   cases f with
   | next=>
     obtain⟨Q8,H8,J8,z⟩:=z;exact D5 (back J8) hN hi hk λs9 J9=>⟨_,H8,J9,z⟩
   | brk=>obtain⟨Q8,H8,J8,z⟩:=z;exact z.elim
   | cont=>obtain⟨Q8,H8,J8,z⟩:=z;exact z.elim
   | ret u=>
     obtain⟨v,Q8,H8,J8,r8,z⟩:=z;exact D5 (back J8) hN hi hk λs9 J9=>⟨v,_,H8,J9,r8,z⟩⟩
end
end L3
end
section
namespace L2
open PySem PySem.Spec PyProof.Rows
def Hi{H:Hp}{a b C:Addr}(k:mF P w H h)(e:H a=some (.ext$ L3.isExc C b)):x9 a C h:=by
 obtain⟨p,⟨o,ho⟩,st⟩:=(show dk P w H h a (.ext$ L3.isExc C b) from k a _ e)
 by_cases Bc:a=b
 .subst Bc;exact p
 .exfalso
  obtain⟨o2,h2,_⟩:=st h (PySem.W.hideAll h [b]) p λo q=>QcQ [b] q (by simpa using Bc)
  rw[PySem.W.hideAll_none [b]$ Qa1.mpr rfl] at h2;cases h2
noncomputable def pV:V->Bool | .ref _=>true | .ty _=>true | _=>false
noncomputable def yc:V->Value | .ref a=> .ref a | .ty n=> .type n | _=> .none
def xU{v:V}{u:Value}(h:pV v=true)(r:RelV v u):u=yc v:=by
 cases v with
 | ref a=>exact r
 | ty n=>exact r
 | _=>cases h
theorem AG:∀{vs:List V} {us:List Value},vs.all pV=true->Vals vs us->us=vs.map yc
 | [],_,_, .nil=>rfl
 | v ::vs,_,h, .cons r t=>by
   rw[Qcv,QaW] at h;rw[xU h.1 r,AG h.2 t];rfl
section
variable {X:Cx}
def OR(K:Qdi):List V->Hp->VK->Prop:=λxs H Q=>∃a b C cv k,xs=[V.ref a,cv]/\H a=some (.ext$ L3.isExc C b)/\XC K C/\pV cv=true/\PySem.W.kitOne K (.ref C) (yc cv)=some k/\Q (.bl k) H
def OJ(K:Qdi):List V->Hp->VK->Prop:=λxs H Q=>∃cv k,xs=[V.cI,cv]/\pV cv=true/\PySem.W.kitOne K (.type "NoneType") (yc cv)=some k/\Q (.bl k) H
def Sv(K:Qdi):List V->Hp->VK->Prop:=λxs H Q=>∃a b C tp El k,xs=[V.ref a,V.ref tp]/\H a=some (.ext$ L3.isExc C b)/\XC K C/\H tp=some (.tup El)/\El.all pV=true/\PySem.W.kitAny K (.ref C) (El.map yc)=some k/\Q (.bl k) H
def Jr:iU X (.builtin "isinstance") (OR X.K):=by
 intro pins s σ H xs us Q I r h;obtain⟨a,b,C,cv,k,rfl,e,T,hc,hk,q⟩:=h;obtain⟨u,w',rfl,ru,xO⟩:=vals2 r;cases ru;rw[xU hc xO];exact Qa4 (Ad T) I.pz (Hi I.hok e) hk (λz=>nomatch z) λtk=>⟨.bl k,H,I.tok _,rfl,q⟩
def JO:iU X (.builtin "isinstance") (OJ X.K):=by
 intro pins s σ H xs us Q I r h;obtain⟨cv,k,rfl,hc,hk,q⟩:=h;obtain⟨u,w',rfl,ru,xO⟩:=vals2 r;cases ru;rw[xU hc xO];exact Qa4 Qc7 I.pz True.intro hk (λz=>nomatch z) λtk=>⟨.bl k,H,I.tok _,rfl,q⟩
def Ja:iU X (.builtin "isinstance") (Sv X.K):=by
 intro pins s σ H xs us Q I r h;obtain⟨a,b,C,tp,El,k,rfl,e,T,et,hc,hk,q⟩:=h;obtain⟨u,w',rfl,ru,xO⟩:=vals2 r;cases ru;cases xO;obtain⟨_,its,rv,o,ho,hoc,n,hod⟩:=(show dk X.prog X.w H s.heap tp (.tup El) from I.hok tp _ et)
 have hi:=AG hc rv;subst hi;obtain⟨oc,odc,oda,Gg⟩:=o;have hoc:oc= .type "tuple":=hoc;have hod:oda= .seq (El.map yc).toArray n:=hod;subst hoc hod;exact PySem.W.kia_tup (Ad T) I.pz (Hi I.hok e) ho hk (λz=>nomatch z) λtk=>⟨.bl k,H,I.tok _,rfl,q⟩
end
end L2
namespace L3
open PySem PySem.Spec PyProof.Rows L2
section
variable {X:Cx}{cl:Aag}
def Er(f:FX)(tb:Nat->Option Bool):FX:=λδ S=>(f δ S).bind λv S1=>match v with
 | .loc k=>(match S1[k]? with | some (.exc c)=>(match tb c with | some b=> .ok (.d$ .bl b) S1 | none=> .no) | _=> .no)
 | .d .cI=> .ok (.d$ .bl false) S1
 | _=> .no
def B4{e c:Expr}{f:FX}{tb:Nat->Option Bool}{cv:V}{p pos:Pos}(he:PX X cl e f)(hc:PE X c (tC cv))(UT:pV cv=true)(hg:Gl X "isinstance")(hm:X.mg "isinstance"=none)
 (ht:∀c b,tb c=some b->XC X.K (cl c)/\PySem.W.kitOne X.K (.ref$ cl c) (yc cv)=some b) (hn:PySem.W.kitOne X.K (.type "NoneType") (yc cv)=some false)
 (hs:starEach [e,c] X.env=(false,eval e X.env) ::starEach [c] X.env:=by rfl) (hs2:starEach [c] X.env=(false,eval c X.env) ::starEach [] X.env:=by rfl) (hJ:(backTo pos$ starEach [c] X.env).any (·.1)=false:=by rfl) :
 PX X cl (.Call (.Name "isinstance" p) [e,c] [] pos) (Er f tb):=⟨by
 have both:iU X (.builtin "isinstance") (λxs H Q=>OR X.K xs H Q\/OJ X.K xs H Q):=λpins s σ H xs us Q I r h=>h.elim (Jr pins s σ H xs us Q I r)$ JO pins s σ H xs us Q I r
 refine(nD both hg hm QcI (cD he.1 (cD hc eB hs2) hs) (by decide) (by decide) hs hJ).imp λσ H Q ⟨ρ,S,δ,v,S',En,hf,q⟩=>?_
 obtain⟨v1,S1,h1,h2⟩:=R3.aj hf;refine⟨ρ,S,δ,v1,S1,En,h1,λu cf H1 p1 w1 r1=>?_⟩
 show OR X.K [u,cv] H1 Q\/OJ X.K [u,cv] H1 Q;split at h2
 .rename_i k;split at h2
  .rename_i cc hS;split at h2
   .rename_i b hb;cases h2;unfold bf at r1;obtain⟨a,ha,rfl⟩:=r1;obtain⟨b',hH⟩:=w1.ob k a _ ha hS;exact .inl ⟨a,b',cl cc,cv,b,rfl,hH,(ht cc b hb).1,UT,(ht cc b hb).2,q _ cf H1 p1 w1$ by unfold bf;exact Rep.bl.mpr rfl⟩
   .cases h2
  .cases h2
 .cases h2;unfold bf at r1;cases Rep.cI.mp r1;exact .inr ⟨cv,false,rfl,UT,hn,q _ cf H1 p1 w1$ by unfold bf;exact Rep.bl.mpr rfl⟩
 .cases h2⟩
def Pr(f:FX)(tb:Nat->Option Bool):FX:=λδ S=>(f δ S).bind λv S1=>match v with
 | .loc k=>(match S1[k]? with | some (.exc c)=>(match tb c with | some b=> .ok (.d$ .bl b) S1 | none=> .no) | _=> .no)
 | _=> .no
def Uv(El:List V):TA:=λ_ H Q=>Q El H
def FC:PA X [] (Uv []):=eB
def dq{v:V}{vs:List V}(h:PE X e (tC v))(t:PA X es (Uv vs))(hs:starEach (e ::es) X.env=(false,eval e X.env) ::starEach es X.env:=by rfl):PA X (e ::es) (Uv (v ::vs)):=(cD h t hs).imp λσ H Q q=>q
def Pj{e:Expr}{cs:List Expr}{f:FX}{tb:Nat->Option Bool}{El:List V}{x1}{p pos mX:Pos}(he:PX X cl e f)(hc:PA X cs (Uv El))(UT:El.all pV=true)(hz:El.length<=sizeLine)(hg:Gl X "isinstance")(hm:X.mg "isinstance"=none)
 (ht:∀c b,tb c=some b->XC X.K (cl c)/\PySem.W.kitAny X.K (.ref$ cl c) (El.map yc)=some b)
 (hs:starEach [e, .Tuple cs x1 mX] X.env=(false,eval e X.env) ::starEach [.Tuple cs x1 mX] X.env:=by rfl) (hs2:starEach [.Tuple cs x1 mX] X.env=(false,eval (.Tuple cs x1 mX) X.env) ::starEach [] X.env:=by rfl) (hJ:(backTo pos$ starEach [.Tuple cs x1 mX] X.env).any (·.1)=false:=by rfl) :
 PX X cl (.Call (.Name "isinstance" p) [e, .Tuple cs x1 mX] [] pos) (Pr f tb):=⟨by
 refine(nD (Ja (X:=X)) hg hm QcI (cD he.1 (cD (yT hc) eB hs2) hs) (by decide) (by decide) hs hJ).imp λσ H Q ⟨ρ,S,δ,v,S',En,hf,q⟩=>?_
 obtain⟨v1,S1,h1,h2⟩:=R3.aj hf;refine⟨ρ,S,δ,v1,S1,En,h1,λu cf H1 p1 w1 r1=>⟨hz,λtp TR=>?_⟩⟩
 show Sv X.K [u, .ref tp] _ Q;split at h2
 .rename_i k;split at h2
  .rename_i cc hS;split at h2
   .rename_i b hb;cases h2;unfold bf at r1;obtain⟨a,ha,rfl⟩:=r1;obtain⟨b',hH⟩:=w1.ob k a _ ha hS;exact⟨a,b',cl cc,tp,El,b,rfl,by rw[bg$ bJ hH TR];exact hH,(ht cc b hb).1,aU,UT,(ht cc b hb).2,q _ cf _ (p1.trans$ yw TR) (w1.same$ aN TR)$ by unfold bf;exact Rep.bl.mpr rfl⟩
   .cases h2
  .cases h2
 .cases h2⟩
def yD{fs:FA}{n:Nat}(h:∀δ S ds S',fs δ S= .ok ds S'->ds.length=n):∀δ S ds S',BK fs δ S= .ok ds S'->ds.length=n:=λδ S ds S' e=>h δ S ds S'$ si e
end
section
variable {α β:Type}{S S':a_}{δ:DE}{c:Nat}
def Lu{r:R3 α}{Q:α->a_->Prop}(h:W3 r Q):W3 (LH r) Q:=by
 obtain⟨a,S,e,q⟩:=h;rw[e];exact⟨a,S,rfl,q⟩
def yg{f:FA}{Q:List V3->a_->Prop}(h:W3 (f δ S) Q):W3 (BK f δ S) Q:=Lu h
def Se{f:FZ}{Q:Ou->a_->Prop}(h:W3 (f δ S) Q):W3 (V5 f δ S) Q:=Lu h
def Nv{f:FB}{Q:Bool->a_->Prop}(h:W3 (f δ S) Q):W3 (Vs f δ S) Q:=Lu h
def xY{r:R3 α}{f:α->a_->R3 β}(h:r= .ex c S'):r.bind f= .ex c S':=by rw[h];rfl
def y7{r:R3 α}{f:α->a_->R3 β}(h:W3 r λa S1=>f a S1= .ex c S'):r.bind f= .ex c S':=by
 obtain⟨a,S1,e,q⟩:=h;rw[e];exact q
def Pf{F G:FZ}(h:F δ S= .ex c S'):bN F G δ S= .ex c S':=xY h
def Vo{fc:FB}(h:W3 (fc δ S) λb S1=>(if b then F δ S1 else G δ S1)= .ex c S'):yu fc F G δ S= .ex c S':=y7 h
def Ob{f:FX}(h:f δ S= .ex c S'):Ht f δ S= .ex c S':=xY h
def x_call{g:List V3->a_->R3 V3}{fs:FA}(h:W3 (fs δ S) λvs S1=>g vs S1= .ex c S'):fU g fs δ S= .ex c S':=y7 h
def x_K{N:List Str}{F:FZ}{vs:List V3}(e:df N vs=δ)(h:F δ S= .ex c S'):qj N F vs S= .ex c S':=by
 unfold qj;rw[e];exact xY h
def x_raise{fs:FA}(h:W3 (fs δ S) λvs S1=>vs.length<=sizeLine/\S1=S'):BN c fs δ S= .ex c S':=y7 (h.mono λvs S1 ⟨h1,h2⟩=>by
 subst h2;unfold R3.aS;rw[Qan h1];rfl)
def Qa{F G:FZ}{ok:Nat->Bool}{i:Nat}{Q:Ou->a_->Prop}(h:F δ S= .ex c S')(hc:ok c=true)(hg:W3 (G ((List.replicate δ.length none).set i$ some$ .loc S'.length)$ S'++[.exc c]) λo S2=>∃c_,o= .nx c_/\Q (.nx$ c_.set i none) S2):W3 (BR F ok i G δ S) Q:=by
 unfold BR;rw[h];refine W3.wh hc$ W3.bind$ Lu$ hg.mono λo S2 ⟨c_,e,q⟩=>?_
 subst e;exact W3.ok q
def SQ{f:FX}{tb:Nat->Option Bool}{Q:V3->a_->Prop}(h:W3 (f δ S) λv S1=>∃k c b,v= .loc k/\S1[k]? =some (.exc c)/\tb c=some b/\Q (.d$ .bl b) S1):W3 (Er f tb δ S) Q:=W3.bind (h.mono λv S1 ⟨k,c,b,e,e1,e2,q⟩=>by
 subst e;simp only[e1,e2];exact W3.ok q)
def Th{f:FX}{tb:Nat->Option Bool}{Q:V3->a_->Prop}(h:W3 (f δ S) λv S1=>∃k c b,v= .loc k/\S1[k]? =some (.exc c)/\tb c=some b/\Q (.d$ .bl b) S1):W3 (Pr f tb δ S) Q:=W3.bind (h.mono λv S1 ⟨k,c,b,e,e1,e2,q⟩=>by
 subst e;simp only[e1,e2];exact W3.ok q)
end
def FnV(K:Qdi)(mg:Aaf)(x:Str):Prop:=∃f,PySem.W.nsIn K mainGlobals x=some (some$ .ref f)/\mg x=some (.ref f)
section
variable {X:Cx}{cl:Aag}{E:XK}
noncomputable def xFn(x:Str):FX:=λ_ S=> .ok (.fn x) S
def Ji:Passes (Dc X.prog X.w) X E0:=λ_ _ _ _ _ _ _ ⟨_,_,_,_,_,_,_,_,_,_,_,_,z⟩=>z.elim
def II(h:VC X cl E e f):PX X cl e f:=⟨h.1.imp λσ H Q ⟨ρ,S,δ,v,S',En,hf,q⟩=>⟨ρ,S,δ,En, .inl ⟨v,S',hf,q⟩⟩⟩
abbrev GT:=List$ Str × (List V3->a_->R3 V3)
def Ft(P:Program)(w:World)(K:Qdi)(mg:Aaf)(base:Heap)(cl:Aag)(j n:Nat)(l:GT):Prop:=∀x g,l.lookup x=some g->∃k,k<=j/\iI P w K mg base cl k x n g
def Wy(i:Nat)(l:GT)(fs:FA):FX:=λδ S=>match δ[i]? with
 | some (some (.fn x))=>(match l.lookup x with | some g=>(fs δ S).bind g | none=> .no)
 | _=> .no
end
end L3
end
section
namespace HT
open PySem PySem.Spec PyProof.Rows
section
variable {prog:Program}{w:World}{A:Around}{E:Aab}{s:Qdj}
def Ce(n:Nat):Builtin.Slice.slicePlaces ((n:Int) - 1) (-1) (-1)=n:=by
 unfold Builtin.Slice.slicePlaces;have h1:¬((-1:Int) > 0):=by decide
 have h2:(- -1:Int)=1:=by decide
 simp;split <;> omega
def H0(xs:Array Value):((List.range xs.size).filterMap λ(m:Nat)=>xs[(((xs.size:Nat):Int) - 1+(m:Int)* -1).toNat]?).toArray=xs.toList.reverse.toArray:=by
 have e:∀m∈List.range xs.size,xs[(((xs.size:Nat):Int) - 1+(m:Int)* -1).toNat]? =(λk=>xs[k]?) (xs.size - 1 - m):=by
  intro m hm;have:=QaI.mp hm;have:(((xs.size:Nat):Int) - 1+(m:Int)* -1).toNat=xs.size - 1 - m:=by omega
  rw[this]
 have fc:∀(l:List Nat),(∀m∈l,m∈List.range xs.size)->l.filterMap (λ(m:Nat)=>xs[(((xs.size:Nat):Int) - 1+(m:Int)* -1).toNat]?)=l.filterMap ((λk=>xs[k]?) ∘ λm=>xs.size - 1 - m):=by
  intro l
  induction l with
  | nil=>intro _;rfl
  | cons m l ih=>
    intro hm;rw[QbH,QbH,e m (hm m$ by simp),ih λk hk=>hm k$ by simp [hk]];rfl
 rw[fc _ λ_ h=>h]
 have:=PySem.W.krv_range xs.size;have h2:(List.range xs.size).filterMap ((λk=>xs[k]?) ∘ λm=>xs.size - 1 - m)=((List.range xs.size).map λm=>xs.size - 1 - m).filterMap λk=>xs[k]?:=(List.filterMap_map ..).symm
 rw[h2,this,List.filterMap_reverse,PySem.W.krv_all]
def qm{t sl:Addr}{items:Array Value}{vk:Value}{Q:Aab}(ht:IsTup s.heap t items)(hs:s.heap.IsSliceOf sl .none .none vk)(pk:IsPart vk (some (-1)))
 (h:Q (.ref s.heap.objs.size) {s with heap:=s.heap.push {cls:= .type "tuple",data:= .seq items.toList.reverse.toArray}})
 (hsz:items.size<=sizeLine):wpAny (model prog w) A (getItem (.ref t)$ .ref sl) Q E s:=by
 have htake:sizeOk (.seq items.toList.reverse.toArray):=by
  show items.toList.reverse.toArray.size<=sizeLine;rw[Qao,Qbx,Qbv];exact hsz
 obtain⟨os,zh,hcs,hds⟩:=id hs;have hTs:s.TypeIs (.ref sl) "slice":=⟨os,zh,hcs⟩;unfold getItem
 try with_reducible refine Qbk ?_
 first | refine Qab (Qaj ?_) | skip
 refine Qab (wpAny_sequenceKey ht.typeIs (by decide) ?_)
 refine Qab (Qbh ht.typeIs Qbm
  (Qbr Qbm ht.typeIs entry_tuple_getitem ?_$ args_tuple_getitem _ _))
 show wpAny _ _ (Builtin.Tuple.tupleItemsOf (.ref t) >>=_) _ _ s;refine Qab$ tupleItemsOf_ ht ?_;refine Qab$ wpAny_typeOf hTs ?_;have ap:∀{A:Around} {Q:Int × Int × Nat->Qdj->Prop},Q (((items.size:Nat):Int) - 1, -1,items.size) s->wpAny (model prog w) A (Builtin.Slice.sliceApplied (.ref sl)$ pure ((items.size:Nat):Int)) Q E s:=by
  intro A Q h;refine Qab$ Qab$ Qa5 zh hds rfl$ Qab$ Qa5 zh hds rfl$ Qab$ Qa5 zh hds rfl$ Qaj ?_;refine Qab$ pY pk ?_;refine Qab$ slicePart_none$ Qab$ slicePart_none$ Qab$ Qaj ?_;show wpAny _ _ (pure (((items.size:Nat):Int) - 1,(-1:Int),Builtin.Slice.slicePlaces (((items.size:Nat):Int) - 1) (-1) (-1))) _ _ s;rw[Ce];exact Qaj h
 refine Qab$ ap ?_;have Ku:¬(((((items.size:Nat):Int) - 1)==0 && (-1:Int)==1 && items.size==items.size)=true):=by
  intro q;rw[QaW,QaW] at q;exact absurd (eq_of_beq q.1.2) (by decide)
 show wpAny _ _ (if((((items.size:Nat):Int) - 1)==0 && (-1:Int)==1 && items.size==items.size)=true then _ else _) _ _ s
 rw[QaA Ku,H0]
 first
  | exact Qab (Qa8 (Qaj ⟨_,rfl,Qaj h⟩) htake)
  | exact Qab (Qa8 (Qab$ Qaj$ Qaj ⟨_,rfl,Qaj h⟩) htake)
  | exact Qab (Qab$ Qa8 (Qaj$ Qaj ⟨_,rfl,Qaj h⟩) htake)
  | exact Qab (Qab$ Qa8 (Qaj ⟨_,rfl,Qaj h⟩) htake)
end
end HT
namespace L2
open PySem PySem.Spec PyProof.Rows
noncomputable def F5:D->Option Key
 | .int n=>some$ Sum.inl n
 | .str x=>some$ Sum.inr x
 | _=>none
noncomputable def Tj(ks:List Key)(k:Key):Bool:=ks.any λx=>decide$ x=k
noncomputable def V7(ks:List Key)(ds:List D)(k:Key):Option D:=((ks.zip ds).find? λp=>decide$ p.1=k).map (·.2)
def Z1(a b:D):R D:=match b with
 | .dct ks _=>(match F5 a with | some k=> .ok (.bl$ Tj ks k) | none=> .no)
 | _=> .no
def aaU(a b:D):R D:=match b with
 | .dct ks _=>(match F5 a with | some k=> .ok (.bl$ !Tj ks k) | none=> .no)
 | _=> .no
def X8(d k:D):R D:=match d with
 | .dct ks ds=>(match F5 k with | some k=>(match V7 ks ds k with | some x=> .ok x | none=> .no) | none=> .no)
 | _=> .no
section
variable {X:Cx}
def NB(f:FD):FD:=λδ=>(f δ).bind λd=>match d with | .tup ds=> .ok (.tup ds.reverse) | _=> .no
def HB{e step:Expr}(he:QD X e f)(ub:QP X (some step) (oS$ Sn$ eC$ .int 1)):QD X (.Subscript e (.Slice none none (some step) p2) pos) (NB f):=by
 refine⟨?_⟩;intro pins s σ H Q I ⟨Z,B,δ,d,E,hf,q⟩;obtain⟨d1,h1,h2⟩:=R.aj hf;cases d1 with
 | tup es=>
   cases h2;refine Subscript_$ dP (he.1 pins s σ H (λx H1=>aY H H1/\Rep X.K B H1 (.tup es) x) I ⟨Z,B,δ, .tup es,E,h1,λv H1 s1 r1=>⟨s1,r1⟩⟩) λv s1 ⟨x,H1,I1,r1,WU,rr⟩=>?_
   refine wpAny_Slice ?_;refine Qaj ?_;refine Qaj ?_;refine dP (ub.1 pins s1 σ H1 (λo H2=>aY H1 H2/\o=some (-1)) I1 ⟨Z,B,δ,some (-1),E.same WU,rfl,λH2 s2=>⟨s2,rfl⟩⟩) λvk s2 ⟨o,H2,I2,pk,XF,eo⟩=>?_
   subst eo;obtain⟨a,xs,rfl,ls,rs⟩:=Rep.tup.mp$ rr.same XF;cases r1;have I3:Inv X pins σ H2 {s2 with heap:=s2.heap.push {cls:= .type "slice",data:= .fields #[.none, .none,vk]}}:=I2.kept λb ob q=>Qac _ q
   obtain⟨its,r,ht,hz⟩:=I3.tuple ls.sq;refine tail_any ht.typeIs slot_tuple_getitem.lookup ?_ (by with_unfolding_all rfl)
   have hlen:=r.length;refine HT.qm ht (Heap.IsSliceOf.new ..) pk ?_ (by rw[Qao] <;> omega)
   have hp:H2 (s2.heap.push {cls:= .type "slice",data:= .fields #[.none, .none,vk]}).objs.size=none:=I3.hok.fresh$ Qai _;refine⟨.ref _,_,I3.laid (λb ob q=>Qac _ q) (Qai _) ?_,rfl,q _ _ ((WU.trans XF).trans$ aN hp)$ Rep.tup.mpr ⟨_,_,rfl, .inl ⟨λha=>?_, .of aU⟩,(rs.rev).same$ aN hp⟩⟩
   .exact⟨by rw[Qbx];exact hz,_,r.rev,IsTup.new _ _⟩
   .obtain⟨o,ho⟩:=(E.same$ WU.trans XF).bs _ ha;rw[hp] at ho;cases ho
 | _=>cases h2
def Ys(i:Nat)(f:FD):FS:=λδ=>(f δ).bind λd=>match seqD? d with
 | some es=>(sP δ i).bind λds=>R.aS (decide$ ds.length+es.length<=sizeLine)$ .ok$ .nx$ δ.set i$ .bld$ ds++es
 | none=> .no
def Ye(f g:FD):av->R (List D):=λδ=>(f δ).bind λd=>(g δ).bind λe=>match d,e with
 | .int i, .int j=>R.aS (decide (-(2 ^ 62)<=i/\i<2 ^ 62/\ -(2 ^ 62)<=j/\j<2 ^ 62/\j - i<16777216))$ .ok$ jj i (j - i).toNat
 | _,_=> .no
end
end L2
namespace L3
open PySem PySem.Spec PyProof.Rows L2
section
def YI(i:Nat)(f:FX):FZ:=λδ S=>match jb δ i with
 | none=> .no
 | some k=>match dh S k with
   | none=> .no
   | some _=>(f δ S).bind λv S1=>match v with
     | .d d=>(match seqD? d with
       | some es=>(match dh S1 k with
         | some ds=>R3.aS (decide$ ds.length+es.length<=sizeLine)$ .ok (.nx δ)$ S1.set k$ .lst$ ds++es
         | none=> .no)
       | none=> .no)
     | _=> .no
def VP(fo fi fe:FX):FZ:=λδ S=>(fe δ S).bind λv S1=>(fo δ S1).bind λo S2=>(fi δ S2).bind λj S3=>match v,o,j with
 | .d d, .loc k, .d n=>(match zU S3 k,F5 n with | some aW,some key=>R3.aS (decide$ aW.length<sizeLine) (.ok (.nx δ)$ S3.set k$ .dct$ KQ aW key d) | _,_=> .no)
 | _,_,_=> .no
end
end L3
end
section
namespace PySem.W
open PySem PySem.Calls PyProof.Rows
noncomputable def xj{α:Type}(n:Nat)(lt:Nat->Nat->Bool):KasT α->Option α
 | .ret a=>some a
 | .ask i j k=>if i<n/\j<n then xj n lt (k$ lt i j) else none
def zS{α:Type}{cmp:Nat->Nat->(Bool->Qdj->Prop)->Qdj->Prop}{n:Nat}{lt:Nat->Nat->Bool}{s:Qdj}(hc:∀i j C,i<n->j<n->C (lt i j) s->cmp i j C s){Q:α->Qdj->Prop} :
 ∀(t:KasT α) (a:α),xj n lt t=some a->Q a s->t.kasWp cmp Q s
 | .ret b,a,h,q=>by cases h;exact q
 | .ask i j k,a,h,q=>by
   unfold xj at h;split at h
   .rename_i hij;exact hc i j _ hij.1 hij.2$ zS hc (k$ lt i j) a h q
   .cases h
section
variable {prog:Program}{w:World}{A:Around}{E:Aab}{s:Qdj}{a:Addr}{vs:List Value}{κ:SortKind}
noncomputable abbrev i5(h:Heap)(a:Addr)(vs:List Value):Heap:=((h.update a$ Obj.mapSeq fun _=>(#[]:Array Value)).push (seqObj "tuple" vs.toArray 0)).push (seqObj "list" #[] 0)
def tW{n:Nat}{P:PySem.Fin->Qdj->Prop}{lt:Nat->Nat->Bool}{p:Array Nat}(ho:s.heap.get? a=some (seqObj "list" vs.toArray n))(h2:2<=vs.length)(Em:vs.length<64)(QW:xj vs.length lt (kas_sort vs.length)=some p)
 (hk:∀Q:SortKind->Qdj->Prop,Q κ {s with heap:=i5 s.heap a vs}->wpAny (model prog w) A (keyKind' vs.toArray) Q (λ_ _=>False) {s with heap:=i5 s.heap a vs})
 (hc:∀i j C,i<vs.length->j<vs.length->C (lt i j) {s with heap:=i5 s.heap a vs}->kas_ask prog w A κ vs i j C {s with heap:=i5 s.heap a vs})
 (h:∀c2,((i5 s.heap a vs).update a$ Obj.mapSeq λ_=>List.toArray$ p.toList.map λi=>vs.getD i Value.none).get? a=some (seqObj "list" (List.toArray$ p.toList.map λi=>vs.getD i Value.none) c2)->P (.done$ .ret .none) {s with heap:=(i5 s.heap a vs).update a$ Obj.mapSeq λ_=>List.toArray$ p.toList.map λi=>vs.getD i Value.none}) :
 wpAny (model prog w) A (Builtin.«list.sort» ⟨[.ref a],[]⟩) P E s:=by
 obtain⟨e1,MK⟩:∃e1,(s.heap.update a$ Obj.mapSeq λ_=>(#[]:Array Value)).get? a=some (seqObj "list" #[] e1):=⟨_,QcM ho λ_=>#[]⟩
 have na:(i5 s.heap a vs).get? a=some (seqObj "list" #[] e1):=Qac _$ Qac _ MK;rw[list_sort_plain];refine Qab$ listItems_at ho rfl ?_;refine Qab (listUpdate_at ho rfl ?_ (by rw[Qao,Qam];omega)$ Qbf _)
 refine Qab$ seqEpoch_at MK rfl ?_;refine Qab (wpAny_newTuple ?_$ by show vs.length<=_;rw [Qam];omega)
 refine Qab$ wpAny_newList ?_$ Qbf _;refine Qbk ?_;have Kr:¬vs.toArray.size<2:=by rw[Qao];omega
 rw[QaA Kr,QaA Kr];refine Qab$ QbM (hk (λMS s0=>MS=κ/\s0={s with heap:=i5 s.heap a vs}) ⟨rfl,rfl⟩) (λMS s0 hk'=>?_) λ_ _ x=>x.elim
 obtain⟨rfl,rfl⟩:=hk';have hrun:=zS (Q:=λp' s'=>p'=p/\s'={s with heap:=i5 s.heap a vs}) hc (kas_sort vs.length) p QW ⟨rfl,rfl⟩
 refine Qab (QbM (kat_run (Q:=λua s'=>p.size=vs.length/\arrOf ua=p.map (kas_item$ vs.toArray.zip vs.toArray)/\failedOf ua=none/\s'={s with heap:=i5 s.heap a vs})
  rfl h2 Em (λp' ua s' a1 a2 a3 a4=>by obtain⟨rfl,rfl⟩:=a4;exact⟨a1,a2,a3,rfl⟩) hrun) ?_ λ_ _ e=>e)
 rintro⟨⟨⟩,ua⟩ s' ⟨hp,har,hf,rfl⟩;dsimp only;have hout:=kat_snds rfl har;have hsz:(List.toArray$ p.toList.map λi=>vs.getD i Value.none).size=vs.length:=by rw[Qao,Qaa,Qbv,hp]
 rw[hout];obtain⟨c2,Bf⟩:∃c2,((i5 s.heap a vs).update a$ Obj.mapSeq λ_=>List.toArray$ p.toList.map λi=>vs.getD i Value.none).get? a=some (seqObj "list" (List.toArray$ p.toList.map λi=>vs.getD i Value.none) c2):=⟨_,QcM na λ_=>List.toArray$ p.toList.map λi=>vs.getD i Value.none⟩
 refine Qab$ seqEpoch_at na rfl ?_;refine Qab (listUpdate_at na rfl ?_ (Qbf _)$ QaP (Nat.le_of_eq hsz)$ by rw[Qam];omega)
 rw[hf];simp;exact Qaj$ h c2 Bf
def qV{l:Addr}{Q:Aab}{lt:Nat->Nat->Bool}{p:Array Nat}(hl:s.heap.IsList l vs.toArray)(h2:2<=vs.length)(Em:vs.length<64)(QW:xj vs.length lt (kas_sort vs.length)=some p)
 (hk:∀s0:Qdj,(∀b o,s.heap.get? b=some o->s0.heap.get? b=some o)->∀Q:SortKind->Qdj->Prop,Q κ s0->wpAny (model prog w) A.in1.in1 (keyKind' vs.toArray) Q (λ_ _=>False) s0)
 (hc:∀s0:Qdj,(∀b o,s.heap.get? b=some o->s0.heap.get? b=some o)->∀i j C,i<vs.length->j<vs.length->C (lt i j) s0->kas_ask prog w A.in1.in1 κ vs i j C s0)
 (h:∀h' c,(∀b o,s.heap.get? b=some o->h'.get? b=some o)->h'.get? (s.heap.objs.size+1)=some (seqObj "list" (List.toArray$ p.toList.map λi=>vs.getD i Value.none) c)->Q (.ref$ s.heap.objs.size+1) {s with heap:=h'}) :
 wpAny (model prog w) A (call (.builtin "sorted") [.ref l]) Q E s:=by
 refine Calls.call_function_entry kind_sorted plain_sorted entry_sorted (args_sorted1 _) ?_;refine Qab$ Qaj ?_;refine Qab (collect_list hl ?_$ by rw[Qam];omega)
 refine Qab (wpAny_newList ?_$ by rw[Qam];omega)
 have hsz:((s.heap.push$ seqObj "list" #[] 0).update s.heap.objs.size$ Obj.mapSeq (·++vs.toArray)).objs.size=s.heap.objs.size+1:=by
  rw[Heap.size_update,size_push']
 have hoL:(((s.heap.push$ seqObj "list" #[] 0).update s.heap.objs.size$ Obj.mapSeq (·++vs.toArray)).push$ seqObj "list" vs.toArray 0).get? (s.heap.objs.size+1)=some (seqObj "list" vs.toArray 0):=by
  rw[<-hsz];exact QaF _ rfl
 have keep:∀b o,s.heap.get? b=some o->(((s.heap.push$ seqObj "list" #[] 0).update s.heap.objs.size$ Obj.mapSeq (·++vs.toArray)).push$ seqObj "list" vs.toArray 0).get? b=some o:=λb o q=>by
  have hlt:b<s.heap.objs.size:=Qar q;rw[Qcs _ _ _ (by rw[hsz];exact QaE$ QbS hlt),QbI _ _ _ _$ QaE hlt,Qcs _ _ _$ QaE hlt]
  exact q
 rw[hsz];have keep2:∀(h0:Heap),(∀b o,s.heap.get? b=some o->h0.get? b=some o)->∀b o,s.heap.get? b=some o->(i5 h0 (s.heap.objs.size+1) vs).get? b=some o:=λh0 hk b o q=>by
  have hlt:b<s.heap.objs.size:=Qar q;refine Qac _$ Qac _ ?_;rw[QbI _ _ _ _$ QaE$ QbS hlt];exact hk b o q
 refine Qab$ Qbk$ Qbr slot_list_sort ⟨_,hoL,rfl⟩ entry_list_sort ?body$ args_list_sort _
 case body=>
  refine tW (κ:=κ) hoL h2 Em QW (hk _$ keep2 _ keep) (hc _$ keep2 _ keep) λc2 Bf=>?_
  refine⟨_,rfl,Qaj ⟨_,rfl,h _ c2 (λb o q=>?_) Bf⟩⟩
  have hlt:b<s.heap.objs.size:=Qar q;rw[QbI _ _ _ _$ QaE$ QbS hlt];exact keep2 _ keep b o q
end
end PySem.W
namespace L2
open PySem PySem.Spec PyProof.Rows
def Sb:D->Option (Int × List Int)
 | .tup [.int a, .tup zs]=>(ints? zs).map λns=>(a,ns)
 | _=>none
noncomputable def zf:List D->Option (List$ Int × List Int)
 | []=>some []
 | d ::ds=>(Sb d).bind λp=>(zf ds).map (p ::·)
def t5(x y:Int × List Int):Bool:=if x.1=y.1 then(if x.2=y.2 then false else HT.lexLt x.2 y.2) else decide (x.1<y.1)
def EB(ps:List (Int × List Int)):Option (Array Nat):=PySem.W.xj ps.length (λi j=>t5 (ps.getD i (0,[]))$ ps.getD j (0,[]))$ PySem.W.kas_sort ps.length
def vx:List D->R D
 | [.lst ds]=>(match zf ds with
   | some ps=>R.aS (decide$ 2<=ps.length/\ps.length<64)$ match EB ps with | some p=>R.aS (p.toList.all (λi=>decide$ i<ps.length) && decide (p.toList.length<64)) (.ok$ .lst$ p.toList.map λi=>ds.getD i .cI) | none=> .no
   | none=> .no)
 | _=> .no
def yn(h:Heap)(v:Value)(p:Int × List Int):Prop:=
 ∃(x b:Addr) (t:Tok) (n:Nat) (o:Obj) (its:Array Value),v= .ref x/\h.get? x=some o/\o.cls= .type "tuple"/\o.data= .seq #[.int p.1 t, .ref b] n/\IsTup h b its/\IntsAre its.toList p.2
def yn.keeps{h h':Heap}{v:Value}{p:Int × List Int}(k:∀b o,h.get? b=some o->h'.get? b=some o)(x:yn h v p):yn h' v p:=by
 obtain⟨x,b,t,n,o,its,e,h1,h2,h3,⟨o2,g1,g2,g3⟩,h5⟩:=x;exact⟨x,b,t,n,o,its,e,k _ _ h1,h2,h3,⟨o2,k _ _ g1,g2,g3⟩,h5⟩
section
variable {X:Cx}
def K0{pins:Aaa}{s:Qdj}{B:List Addr}(I:Inv X pins σ H s){d:D}{x:V}{v:Value}{p:Int × List Int}(hp:Sb d=some p)(r:Rep X.K B H d x)(rx:RelV x v):yn s.heap v p:=by
 unfold Sb at hp;split at hp
 .rename_i a zs;obtain⟨ns,e1,rfl⟩:=L3.jr hp;obtain⟨ad,xs,rfl,l,rs⟩:=Rep.tup.mp r;cases rx;obtain⟨x1,r1,rfl,q1,q2⟩:=rs.cm;obtain⟨x2,r2,rfl,q3,q4⟩:=q2.cm;subst q4;have:=Rep.int.mp q1;subst this;obtain⟨bd,ys,rfl,l2,QX⟩:=Rep.tup.mp q3;obtain⟨its,rv,⟨o,o1,o2,n,o3⟩,_⟩:=I.tuple l.sq;obtain⟨t_,MR,tp2,_⟩:=I.tuple l2.sq;rw[eu QX e1] at MR;cases rv with
  | cons u1 rv=>
    cases rv with
    | cons u2 rv=>
      cases rv;obtain⟨t,rfl⟩:=u1;cases u2;exact⟨ad,bd,t,n,o,t_.toArray,rfl,o1,o2,o3,tp2,by simpa using intsAre_of MR⟩
 .cases hp
def Hg{pins:Aaa}{s:Qdj}{B:List Addr}(I:Inv X pins σ H s):∀{ds:List D} {ps:List (Int × List Int)} {xs:List V} {vs:List Value},zf ds=some ps->aI X.K B H ds xs->Vals xs vs->
 vs.length=ps.length/\∀i (hi:i<ps.length),yn s.heap (vs.getD i Value.none)$ ps.getD i (0,[])
 | [],ps,xs,vs,hp,r,rv=>by
   cases hp;subst r;cases rv;exact⟨rfl,λi hi=>by simp at hi⟩
 | d ::ds,ps,xs,vs,hp,r,rv=>by
   obtain⟨p,e1,h2⟩:=L3.cx hp;obtain⟨Eg,e2,rfl⟩:=L3.jr h2;obtain⟨x,xs',rfl,r1,r2⟩:=r.cm;cases rv with
   | cons u rv=>
     obtain⟨a,b⟩:=Hg I e2 r2 rv;refine⟨by rw[QaB,QaB,a],λi hi=>?_⟩
     cases i with
     | zero=>exact K0 I e1 r1 u
     | succ i=>exact b i (by simpa using hi)
theorem vq:∀{ds:List D} {ps:List (Int × List Int)},zf ds=some ps->ds.length=ps.length
 | [],ps,hp=>by cases hp;rfl
 | d ::ds,ps,hp=>by
   obtain⟨p,e1,h2⟩:=L3.cx hp;obtain⟨Eg,e2,rfl⟩:=L3.jr h2;rw[QaB,QaB,vq e2]
theorem kq:∀{vs:List Value} {ns:List Int},IntsAre vs ns->ItemsAre (intKind prog w) ns vs
 | _,_, .nil=> .nil
 | _,_, .cons n t hr=> .cons (intKind_is _ _ _ _)$ kq hr
theorem rQ:∀{xs:List V} {vs:List Value},Vals xs vs->∀i,i<xs.length->RelV (xs.getD i .cI) (vs.getD i Value.none)
 | _,_, .nil,i,h=>by simp at h
 | _,_, .cons r t,0,h=>r
 | _,_, .cons r t,i+1,h=>by
   have:=rQ t i (by simpa using h)
   simpa using this
theorem xE{K:Qdi}{B:List Addr}:∀{ds:List D} {xs:List V},aI K B H ds xs->∀i,i<ds.length->Rep K B H (ds.getD i .cI) (xs.getD i .cI)
 | [],xs,r,i,h=>by simp at h
 | d ::ds,xs,r,i,h=>by
   obtain⟨x,r',rfl,r1,r2⟩:=r.cm;cases i with
   | zero=>exact r1
   | succ i=>
     have:=xE r2 i (by simpa using h)
     simpa using this
theorem rK{K:Qdi}{B:List Addr}{ds:List D}{xs:List V}(r:aI K B H ds xs):∀l:List Nat,(∀i∈l,i<ds.length)->aI K B H (l.map λi=>ds.getD i .cI) (l.map λi=>xs.getD i .cI)
 | [],_=>aI.nil
 | i ::l,hi=>aI.cons (xE r i$ hi i Qat)$ rK r l λj hj=>hi j$ Qag _ hj
def DL{prog:Program}{w:World}{A:Around}{s:Qdj}{u v:Value}{p q:Int × List Int}{C:Bool->Qdj->Prop}(hu:A.units<cLine)(hp:yn s.heap u p)(hq:yn s.heap v q)(h:C (t5 p q) s) :
 wpAny (model prog w) A (keyLt' (tuples' true) u v) C (λ_ _=>False) s:=by
 obtain⟨x,b,t,n,o,its,rfl,h1,h2,h3,tb,ib⟩:=hp;obtain⟨y,c,t',n',o',its',rfl,g1,g2,g3,tc,ic⟩:=hq;refine PySem.W.kat_lt h1 h3 g1 g3 ?_;refine PySem.W.kat_cons$ wpAny_eqBool_int ?_;by_cases e:p.1=q.1
 .rw [show(p.1==q.1)=true from Qbj.mpr e]
  refine PySem.W.kat_yes$ PySem.W.kat_cons ?_;have kb:IsTupleKey (intKind prog w) s.heap p.2 b:=by
   obtain⟨o,o1,o2,n,o3⟩:=tb;exact⟨o,its,n,o1,o2,o3,kq ib⟩
  have kc:IsTupleKey (intKind prog w) s.heap q.2 c:=by
   obtain⟨o,o1,o2,n,o3⟩:=tc;exact⟨o,its',n,o1,o2,o3,kq ic⟩
  refine wpAny_eqBool_tuple hu kb kc ?_;by_cases e2:p.2=q.2
  .rw [Qan e2];refine PySem.W.kat_yes$ PySem.W.kat_nil ?_;have:t5 p q=false:=by unfold t5;rw [QaG e,QaG e2]
   rw[this] at h;exact h
  .rw [Qax e2];refine PySem.W.kat_no$ PySem.W.kat_one _ _ ?_;have:t5 p q=HT.lexLt p.2 q.2:=by unfold t5;rw [QaG e,QaA e2]
   rw[this] at h;exact HT.Cw tb tc ib ic hu h
 .rw [show(p.1==q.1)=false from Qa9.mpr e]
  refine PySem.W.kat_no ?_;have:t5 p q=decide (p.1<q.1):=by unfold t5;rw [QaA e]
  rw[this] at h;exact oneLt_int h
def LF(hu:X.A.units+64<cLine):cT X (.builtin "sorted") vx:=by
 intro pins s σ H B ds d xs us I hb rx rs hg;unfold vx at hg;split at hg
 .split at hg
  .rename_i es ps e;obtain⟨Em,h2⟩:=R.bh hg;obtain⟨MP,Em⟩:=Qah Em;split at h2
   .rename_i p hp;obtain⟨hal,h3⟩:=R.bh h2;cases h3;obtain⟨hpi,xN⟩:=Qa0.mp hal;have hpi:∀i∈p.toList,i<ps.length:=λi hi=>Qah (Qa6.mp hpi i hi)
    have xN:=Qah xN;obtain⟨x,rfl,r⟩:=rs.one;obtain⟨a,ys,rfl,l,r⟩:=Rep.lst.mp r;obtain⟨u,rfl,ru⟩:=vals1 rx;cases ru;obtain⟨its,n,rv,e1,hz⟩:=I.DA l;obtain⟨q1,q2⟩:=Hg I e r rv;have hl:s.heap.IsList a its.toArray:=⟨_,e1,rfl,n,rfl⟩;have hJ:=vq e;refine PySem.W.qV (κ:=tuples' true) hl (by omega) (by omega) (by rw[q1];exact hp) (λs0 k Q q=>?_) (λs0 k i j C hi hj q=>?_) λh' c k QH=>?_
    .have kt:∀(vs:List Value) (ps:List (Int × List Int)),vs.length=ps.length->(∀i,i<ps.length->yn s.heap (vs.getD i Value.none) (ps.getD i (0,[])))->∃fs:List Value,fs.length=ps.length/\PySem.W.KatTups s0.heap vs fs/\∀f∈fs,∃z t,f=Value.int z t:=by
      intro vs
      induction vs with
      | nil=>intro ps hl _;cases ps with
        | nil=>exact⟨[],rfl,PySem.W.KatTups.nil,λf hf=>by cases hf⟩
        | cons _ _=>simp at hl
      | cons v vs ih=>intro ps hl CL;cases ps with
        | nil=>simp at hl
        | cons p0 ps=>
          obtain⟨fs,f1,f2,f3⟩:=ih ps (by simpa using hl) λi hi=>by have:=CL (i+1) (by simpa using hi);simpa using this
          obtain⟨x,b,t,n,o,its,ev,h1,h2,h3,tb,ib⟩:=(CL 0$ by simp).keeps k
          subst ev;refine⟨.int p0.1 t ::fs,by simp [f1],PySem.W.KatTups.cons h1 h2 h3 rfl f2,λf hf=>?_⟩
          rcases Qaw.mp hf with rfl | hf
          .exact⟨_,_,rfl⟩
          .exact f3 f hf
     obtain⟨fs,f1,f2,f3⟩:=kt its ps q1 q2;exact PySem.W.kat_kind (T:= .type "int") f2 (by omega) (λv hv=>by obtain⟨z,t,rfl⟩:=f3 v hv;exact PySem.W.Looks.of_pure rfl) rfl q
    .show wpAny _ _ (keyLt' _ (its.getD i Value.none)$ its.getD j Value.none) C _ s0;exact DL (show X.A.units+1+1<cLine by omega) ((q2 i$ by omega).keeps k) ((q2 j$ by omega).keeps k) q
    .have hle:(p.toList.map λi=>ys.getD i .cI).length<=sizeLine:=by
      have hzz:sizeLine=16777216:=Qam;rw[Qaa];omega
     have hrl:=r.length;have MR:∀l:List Nat,(∀i∈l,i<ps.length)->Vals (l.map λi=>ys.getD i .cI) (l.map λi=>its.getD i Value.none):=by
      intro l
      induction l with
      | nil=>intro _;exact .nil
      | cons i l ih=>intro hi;exact .cons (rQ rv i (by have:=hi i Qat;omega))$ ih λj hj=>hi j$ Qag _ hj
     have hn:H (s.heap.objs.size+1)=none:=I.hok.fresh$ QbT _;have I2:=I.laid (t':=s.toks) k (QbT _)$ show dk X.prog X.w _ _ _ (.lst _) from⟨hle,_,c,MR _ hpi,QH⟩
     refine⟨.ref$ s.heap.objs.size+1,_,I2,rfl,aN hn,Rep.lst.mpr ⟨_,_,rfl, .rZ aU λha=>?_,(rK r p.toList λi hi=>by rw[hJ];exact hpi i hi).same (aN hn)⟩⟩
     obtain⟨o,ho⟩:=hb _ ha;rw[hn] at ho;cases ho
   .cases h2
  .cases hg
 .cases hg
end
def Ki(d a:D):Bool:=PyData.eqv (toPy d)$ toPy a
def Pk(d:D):Bool:=d6 d && (toPy d).canLay0 && decide ((toPy d).depth<=8)
def Wa(a b:D):R Bool:=match seqD? b with
 | some ds=>R.aS (Pk a && ds.all Pk)$ .ok$ ds.any λd=>Ki d a
 | none=> .no
def ZM(a b:D):R D:=(Wa a b).bind λx=> .ok$ .bl x
def HV(a b:D):R D:=(Wa a b).bind λx=> .ok$ .bl$ !x
section
variable {X:Cx}
open Classical in
def Kh(h:Heap)(a:D)(y:Value):Bool:=decide (∃d as,Reads h y (toPy d) as/\(toPy d).canLay0=true/\Ki d a=true)
open Classical in
def Qs{a d:D}{y:Value}{as:List Addr}(r:Reads h y (toPy d) as)(hl:(toPy d).canLay0=true):Kh h a y=Ki d a:=by
 unfold Kh;cases q:Ki d a with
 | true=>exact Qan ⟨d,as,r,hl,q⟩
 | false=>
   refine Qax λ⟨d',Zl,r',hl',q'⟩=>?_
   have:=SeqAt.Reads.unique _ _ y as Zl hl r r';unfold Ki at q q';rw[<-this,q] at q';cases q'
def r9{d:D}(h:Pk d=true):d6 d=true/\(toPy d).canLay0=true/\(toPy d).depth<=8:=by
 obtain⟨h1,h2⟩:=Qa0.mp h;obtain⟨h3,h4⟩:=Qa0.mp h1;exact⟨h3,h4,Qah h2⟩
def DK{pins:Aaa}{s:Qdj}{B:List Addr}(I:Inv X pins σ H s){a:D}:∀{ds:List D} {xs:List V} {us:List Value},ds.all Pk=true->aI X.K B H ds xs->Vals xs us->
 us.any (Kh s.heap a)=ds.any (λd=>Ki d a)/\∀u∈us,∃d as,Pk d=true/\Reads s.heap u (toPy d) as/\Kh s.heap a u=Ki d a
 | [],xs,us,_,r,rv=>by
   subst r;cases rv;exact⟨rfl,λu hu=>by cases hu⟩
 | d ::ds,xs,us,hk,r,rv=>by
   rw[Qcv,QaW] at hk;obtain⟨x,xs',rfl,r1,r2⟩:=r.cm;cases rv with
   | cons u rv=>
     obtain⟨i1,i2⟩:=DK I hk.2 r2 rv;obtain⟨p1,p2,p3⟩:=r9 hk.1;obtain⟨as,ra⟩:=r1.reads I p1 u;have e:=Qs (a:=a) ra p2;refine⟨by rw[QbG,QbG,e,i1],λu' hu=>?_⟩
     rcases Qaw.mp hu with rfl | hu
     .exact⟨d,as,hk.1,ra,e⟩
     .exact i2 u' hu
def Sr(hu:X.A.units+64<cLine):mG X (compareOp .NotIn) HV:=by
 intro pins s σ H B da db d x y v u I hb rx ry ra rb hg;obtain⟨b,h1,h2⟩:=R.aj hg;cases h2;unfold Wa at h1;split at h1
 .rename_i ds hs;obtain⟨hk,h3⟩:=R.bh h1;cases h3;obtain⟨hk1,hk2⟩:=Qa0.mp hk;obtain⟨p1,p2,p3⟩:=r9 hk1;obtain⟨as,rda⟩:=ra.reads I p1 rx;obtain⟨t,p,xs,rfl,k1⟩:=rb.GY hs;obtain⟨sq,rs⟩:=k1 B H$ dO.refl B H;cases ry;obtain⟨its,rv,e2⟩:=I.GY sq;obtain⟨q1,q2⟩:=DK I hk2 rs rv;have he:∀w,w∈its.toArray->SeqAt.EqAt X.A.in1 s w v (Kh s.heap da w):=λw hw=>by
   obtain⟨d',Zl,o1,o2,o3⟩:=q2 w (by simpa using hw)
   rw[o3];obtain⟨z1,z2,z3⟩:=r9 o1;refine SeqAt.eqAt_reads _ _ _ _ _ _ _ _ o2 rda z2 p2 ?_;show X.A.units+1+_<cLine;omega
  have fin:EP X pins σ (λz H'=>aY H H'/\Rep X.K B H' (.bl$ !(ds.any λd=>Ki d da)) z) (.bool$ !its.toArray.any (Kh s.heap da)) s:=by
   refine⟨.bl (!(ds.any λd=>Ki d da)),H,I,?_,aY.refl H,Rep.bl.mpr rfl⟩
   rw[show its.toArray.any (Kh s.heap da)=its.any (Kh s.heap da) by simp,q1];rfl
  cases t with
  | true=>exact SeqAt.notIn_tupleAt (Kh s.heap da) (show s.heap.IsTuple p its.toArray from e2) he fin
  | false=>exact SeqAt.notIn_listAt (Kh s.heap da) (show s.heap.IsList p its.toArray from e2) he fin
 .cases h1
end
end L2
end
section
set_option maxHeartbeats 1000000
namespace L3
open PySem PySem.Spec PyProof.Rows L2
section
def Yv(i:Nat)(F:FZ):FZ:=λδ S=>match jb δ i with
 | some k=>(match S[k]? with | some (.dct aW)=>F (δ.set i$ some$ .d$ .dct (aW.map (·.1))$ aW.map (·.2)) (S.set k .jU) | _=> .no)
 | none=> .no
end
end L3
end
section
set_option maxHeartbeats 3200000
namespace PySem.W
open PySem PySem.Calls PyProof.Rows
namespace F2
end F2
section
variable {prog:Program}{w:World}{K:Type}[DecidableEq K]{knd:KeyKind prog w K}
def WM(knd:KeyKind prog w K)(h:Heap)(v:Value)(q:K × Value):Prop:=
 ∃(x:Addr) (n:Nat) (o:Obj) (kv:Value),v= .ref x/\h.get? x=some o/\o.cls= .type "tuple"/\o.data= .seq #[kv,q.2] n/\knd.is q.1 kv=true
noncomputable def fills(qs:List (K × Value))(aW:List (K × Value)):List (K × Value):=qs.foldl (λacc q=>stored acc q.1 q.2) aW
end
end PySem.W
namespace L2
open PySem PySem.Spec PyProof.Rows
def Z9:D->Option (Key × D)
 | .tup [a,b]=>(F5 a).map λk=>(k,b)
 | _=>none
noncomputable def TQ:List D->Option (List$ Key × D)
 | []=>some []
 | d ::ds=>(Z9 d).bind λp=>(TQ ds).map (p ::·)
def NC(qs:List (Key × D))(aW:List (Key × D)):List (Key × D):=qs.foldl (λacc q=>L3.KQ acc q.1 q.2) aW
def Vz:List D->R D
 | [.lst ds]=>(match TQ ds with
   | some qs=>R.aS (decide$ ds.length<=1000000)$ .ok$ .dct ((NC qs []).map (·.1))$ (NC qs []).map (·.2)
   | none=> .no)
 | _=> .no
end L2
end
section
set_option maxHeartbeats 1000000
namespace L3
open PySem PySem.Spec PyProof.Rows L2
def Mq(g:List V3->a_->R3 V3):List V3->a_->R3 V3:=λvs S=>match g vs S with
 | .ok v S'=>(match res S' v with
   | some d=>R3.aS ((S'.take S.length).all (yj S.length) && jf S.length v)$ .ok (.d d)$ S'.take S.length
   | none=> .no)
 | .ex c S'=>R3.aS ((S'.take S.length).all$ yj S.length)$ .ex c$ S'.take S.length
 | .no=> .no
def OH{K:Qdi}{cl:Aag}{g:List V3->a_->R3 V3}{n:Nat}{vs:List V}{Q:VK}{E:XK}(h:CB K cl n (Mq g) vs H Q E):CB K cl n g vs H Q E:=by
 obtain⟨hl,ρ,S,xs,w,r,z⟩:=h;refine⟨hl,ρ,S,xs,w,r,?_⟩;have pc:∀{cf H1},Pre ρ H cf H1->Pre ρ H (cf.cut S.length) H1:=λp1=>SW.GH (K:=K) (cl:=cl) (by rw[w.len];exact Qai _) p1
 rcases z with⟨v,S',hg,q⟩ | ⟨c,S',hg,q⟩
 .unfold Mq at hg;split at hg
  .rename_i v1 S1 h1;split at hg
   .rename_i d e;obtain⟨ok,h3⟩:=R3.bh hg;obtain⟨ok,hk⟩:=Qa0.mp ok;cases h3;refine .inl ⟨v1,S1,h1,λu cf H1 p1 w1 r1=>q u _ H1 (pc p1) (w1.cut ok) ?_⟩
    unfold bf;refine r1.resB w1 (gr _) (λk a hk a1 ha=>?_) hk e
    rcases P3.dU.mp ha with⟨z,_⟩ | z
    .obtain⟨j,hj⟩:=Qb6 z;have hj:(cf.r.take S.length)[j]? =some a:=hj;rw[Qbg] at hj;split at hj
     .rename_i hjl;have:=w1.nd j k a hj a1;omega
     .cases hj
    .exact(w1.zb a z).2 (QaD a1)
   .cases hg
  .rename_i c1 S1 h1;unfold R3.aS at hg;split at hg <;> cases hg
  .cases hg
 .unfold Mq at hg;split at hg
  .rename_i v1 S1 h1;split at hg
   .unfold R3.aS at hg;split at hg <;> cases hg
   .cases hg
  .rename_i c1 S1 h1;unfold R3.aS at hg;split at hg
   .rename_i ok;cases hg;exact .inr ⟨_,S1,h1,λcf H1 p1 w1=>q _ H1 (pc p1)$ w1.cut ok⟩
   .cases hg
  .cases hg
def iI.q{K:Qdi}{mg:Aaf}{cl:Aag}{k:Nat}{n:Nat}{g:List V3->a_->R3 V3}(C:iI P w K mg base cl k x n g):iI P w K mg base cl k x n (Mq g):=
 let⟨f,fd,ps,F,h⟩:=C;⟨f,fd,ps,F.imp λ_ _ _ _ h=>OH h,h⟩
section
variable {X:Cx}{cl:Aag}{E:XK}
def Qq(f:FX):FX:=λδ S=>(f δ S).bind λv S1=>match v with | .d (.bl b)=> .ok (.d$ .bl$ !b) S1 | _=> .no
def OO(ha:PX X cl a f):PX X cl (.UnaryOp .Not a pos) (Qq f):=⟨(HR ha.1).imp λσ H Q ⟨ρ,S,δ,v,S',En,hf,q⟩=>by
 obtain⟨v1,S1,h1,h2⟩:=R3.aj hf;split at h2
 .rename_i b;cases h2;refine⟨ρ,S,δ,_,_,En,h1,λu cf H1 p1 w1 r1=>⟨b,?_,q _ cf H1 p1 w1$ by unfold bf;exact Rep.bl.mpr rfl⟩⟩
  unfold bf at r1;exact Rep.bl.mp r1
 .cases h2⟩
def P6{f:FX}{δ:DE}{S:a_}{Q:V3->a_->Prop}(h:W3 (f δ S) λv S1=>∃b,v= .d (.bl b)/\Q (.d$ .bl$ !b) S1):W3 (Qq f δ S) Q:=W3.bind (h.mono λv S1 ⟨b,e,q⟩=>by subst e;exact W3.ok q)
def aaG(K:Qdi)(cl:Aag)(E:XK)(ρ:P3)(H:Hp)(D:Ends)(r:R3 Ou):Prop:=match r with
 | .ok o S'=>Ai K cl ρ H D S' o
 | .ex c S'=>Hm K cl E ρ H S' c
 | .no=>False
def iOk(f:FA):FA:=λδ S=>LH$ f δ S
def Qv{P:Program}{w:World}{K:Qdi}{mg:Aaf}{base:Heap}{N:List Str}{qual:Str}{scope:Scope}{f:Addr}{cd:Value}{A:Around}{outer:List Env}{s:Qdj}{H:Hp}{E:XK} :
 PassesOwn (model P w) (lV (Dc P w) P w K mg base N qual scope f cd A outer s H E).A (lV (Dc P w) P w K mg base N qual scope f cd A outer s H E).env (lV (Dc P w) P w K mg base N qual scope f cd A outer s H E).xe:=PassesOwn.leaving
def Yj(P:Program)(w:World)(K:Qdi)(mg:Aaf)(base:Heap)(cl:Aag)(k c:Nat)(m:Str)(n:Nat)(g:List V3->a_->R3 V3):Prop:=
 ∃(f:Addr) (fd:FuncData) (ps:List Str),zY K (cl c)/\Meth K (cl c) m f/\ip P w K mg base (Dc P w) k f fd ps (CB K cl (n+1) g)/\Binds K fd ps []
def ZA{g:List V3->a_->R3 V3}{vs:List V3}{S:a_}{QV:V3->a_->Prop}(hS:D1 S)(h:W3 (g vs S) λv S1=>jf S.length v=true/\(∃T,S1=S++T)/\∃d,res S1 v=some d/\QV (.d d) S):W3 (Mq g vs S) QV:=by
 obtain⟨v,S1,e,hg,⟨T,rfl⟩,d,hd,q⟩:=h;unfold Mq;rw[e];simp only[hd];rw[QcP$ Qai _,QaX];exact W3.wh (by rw[Qa6.mpr hS,hg];rfl)$ W3.ok q
def WE{α:Type}(r:R3 α)(Q:α->a_->Prop)(Y:Nat->a_->Prop):Prop:=(∃a S,r= .ok a S/\Q a S)\/∃c S,r= .ex c S/\Y c S
end
end L3
end
section
namespace L2
open PySem PySem.Spec PyProof.Rows
noncomputable def gK(ks:List (Str × Int)):List (Key × V):=ks.map λp=>(Sum.inr p.1,V.int p.2)
def YB(P:Program)(w:World)(K:Qdi)(mg:Aaf)(x:Str)(ks:List (Str × Int)):Prop:=∃a,mg x=some (.ref a)/\∀(H:Hp) (h:Heap),K.In h->dk P w H h a (.dK$ gK ks)
noncomputable def ZY(w:World)(es:List (Str × Tok × Int × Tok)):List DictEntry:=es.map λe=>⟨hashStr w e.1, .str e.1 e.2.1, .int e.2.2.1 e.2.2.2⟩
section
noncomputable def UB(ks:List (Str × Int))(d:D):R Bool:=match d with | .str x=> .ok (ks.lookup x).isSome | _=> .no
def aaN(ks:List (Str × Int))(f:FD):FD:=λδ=>(f δ).bind λd=>(UB ks d).bind λb=> .ok$ .bl b
def ZU(ks:List (Str × Int))(f:FD):FD:=λδ=>(f δ).bind λd=>(UB ks d).bind λb=> .ok$ .bl$ !b
def aab(ks:List (Str × Int))(f:FD):av->R Bool:=λδ=>(f δ).bind λd=>UB ks d
def aas(ks:List (Str × Int))(f:FD):av->R Bool:=λδ=>(f δ).bind λd=>(UB ks d).bind λb=> .ok$ !b
def Yd(ks:List (Str × Int))(f:FD):FD:=λδ=>(f δ).bind λd=>match d with | .str x=>(match ks.lookup x with | some i=> .ok (.int i) | none=> .no) | _=> .no
def aag(ks:List (Str × Int))(neg:Bool)(t:TE):TE:=λσ H Q=>t σ H λy H1=>∃x,y= .str x/\Q (.bl$ neg !=(ks.lookup x).isSome) H1
end
end L2
namespace L3
open PySem PySem.Spec PyProof.Rows L2
section
noncomputable def Nm(S:a_)(k:Nat):Option Nat:=match S[k]? with | some (.lst ds)=>some ds.length | some (.dct aW)=>some aW.length | _=>none
def ZL(f:FX):FX:=λδ S=>(f δ S).bind λv S1=>match v with | .loc k=>(match Nm S1 k with | some n=> .ok (.d$ .int n) S1 | none=> .no) | _=> .no
def YN(f:FX):FB:=λδ S=>(f δ S).bind λv S1=>match v with | .loc k=>(match Nm S1 k with | some n=> .ok (decide$ n≠0) S1 | none=> .no) | _=> .no
def Qg(v o:V3)(S:a_):Option (Option D):=match v,o with
 | .d x, .loc k=>(match F5 x,S[k]? with | some key,some (.dct aW)=>some ((aW.find? λkv=>decide$ kv.1=key).map (·.2)) | _,_=>none)
 | _,_=>none
def aaE(neg:Bool)(fa fb:FX):FX:=λδ S=>(fa δ S).bind λv S1=>(fb δ S1).bind λo S2=>match Qg v o S2 with | some r=> .ok (.d$ .bl$ neg !=r.isSome) S2 | none=> .no
def Z2(neg:Bool)(fa fb:FX):FB:=λδ S=>(fa δ S).bind λv S1=>(fb δ S1).bind λo S2=>match Qg v o S2 with | some r=> .ok (neg !=r.isSome) S2 | none=> .no
def YR(fo fi:FX):FX:=λδ S=>(fo δ S).bind λo S1=>(fi δ S1).bind λv S2=>match Qg v o S2 with | some (some d)=> .ok (.d d) S2 | _=> .no
end
end L3
end
section
namespace L2
open PySem PySem.Spec PyProof.Rows
section
def Yf(f:FD):FD:=λδ=>(f δ).bind λd=>match d with | .str x=>R.aS (decide$ (reprText x).length<=sizeLine) (.ok$ .str$ reprText x) | _=> .no
end
end L2
end
section
namespace L3
open PySem PySem.Spec PyProof.Rows L2
section
def Zv(g:D->List D->R D)(fo:FX)(fs:FA):FX:=λδ S=>(fo δ S).bind λo S1=>match o with
 | .d (.str z)=>(fs δ S1).bind λvs S2=>(match qK vs with | some ds=>(R3.of (g (.str z) ds) S2).bind λd S=> .ok (.d d) S | none=> .no)
 | _=> .no
end
end L3
end
section
namespace L2
open PySem PySem.Spec PyProof.Rows Builtin Builtin.Str
section
variable {x:Str}
noncomputable def Ss(x y:Str):List Str:=match occurrences x y 0 x.length 1 with
 | i ::_=>[strSub x 0 i,y,strSub x (i+y.length) x.length]
 | []=>[x,Str.empty,Str.empty]
end
section
def V2(d:D)(ds:List D):R D:=match d,ds with
 | .str x,[.str y]=>R.aS (decide$ (y.length==0)=false/\x.length<=sizeLine/\(Txt.split x y).length<=sizeLine/\(partsBetween x (occurrences x y 0 x.length$ x.length+1) y.length).length<=sizeLine)$ .ok$ .lst$ (Txt.split x y).map .str
 | _,_=> .no
def YL(d:D)(ds:List D):R D:=match d,ds with
 | .str x,[.str y]=>R.aS (decide$ (y.length==0)=false/\x.length<=sizeLine)$ .ok$ .tup$ (Ss x y).map .str
 | _,_=> .no
end
end L2
end
section
namespace L2
open PySem PySem.Spec PyProof.Rows
section
noncomputable def aad(aW:List (Str × Int)):D:= .dct (aW.map λp=>Sum.inr p.1) (aW.map λp=> .int p.2)
noncomputable def kvI(aW:List (Str × Int)):List (Key × V):=aW.map λp=>((Sum.inr p.1:Key),V.int p.2)
end
end L2
namespace L3
open PySem PySem.Spec PyProof.Rows L2
noncomputable def Nu(l:List (Nat × Bool))(c:Nat):Option Bool:=l.lookup c
def TC(P:Nat->Bool->Prop):List (Nat × Bool)->Prop | []=>True | p ::l=>P p.1 p.2/\TC P l
def yE{P:Nat->Bool->Prop}:TC P []:=trivial
def uj{P:Nat->Bool->Prop}{c:Nat}{b:Bool}{l:List (Nat × Bool)}(h:P c b)(t:TC P l):TC P ((c,b) ::l):=⟨h,t⟩
theorem zJ{P:Nat->Bool->Prop}:∀{l:List (Nat × Bool)},TC P l->∀c b,Nu l c=some b->P c b
 | [],_,c,b,h=>by cases h
 | (c1,b1) ::l,t,c,b,h=>by
   unfold Nu at h;rw[Qav] at h;cases e:c==c1 with
   | true=>rw [e] at h;cases h;rw [eq_of_beq e];exact t.1
   | false=>rw [e] at h;exact zJ t.2 c b h
def Rl(P:Nat->Prop):List Nat->Prop | []=>True | c ::l=>P c/\Rl P l
def Pw{P:Nat->Prop}:Rl P []:=trivial
def K6{P:Nat->Prop}{c:Nat}{l:List Nat}(h:P c)(t:Rl P l):Rl P (c ::l):=⟨h,t⟩
theorem ID{P:Nat->Prop}:∀{l:List Nat},Rl P l->∀c∈l,P c
 | [],_,c,h=>by cases h
 | d ::l,t,c,h=>by
   rcases Qaw.mp h with rfl | z
   .exact t.1
   .exact ID t.2 c z
def R_{P:Nat->Prop}{l:List Nat}(t:Rl P l):∀c,l.contains c=true->P c:=λc h=>ID t c$ List.contains_iff_mem.mp h
end L3
namespace L2
open PySem PySem.Spec PyProof.Rows
section
def UC(d:D)(ds:List D):R D:=match d,ds with
 | .lst es,[.str k]=>(match strs? es with | some ss=> .ok (.int (ss.count k:Nat)) | none=> .no)
 | _,_=> .no
end
section
def YE(n:Nat)(t:Gr):FT:=λd δ=>match d with | .lst ds=>R.aS (decide$ ds.length=n) (t ds δ) | _=> .no
end
section
def Yg(d e:D):R D:=match d,e with
 | .lst ds, .int k=>R.aS (decide$ 0<=k/\k<1000000/\ds.length*k.toNat<=sizeLine)$ .ok$ .lst (List.replicate k.toNat ds).flatten
 | _,_=> .no
end
section
def Vl(d:D)(ds:List D):R D:=match d,ds with
 | .lst es,[.str k]=>(match strs? es with | some ss=>(match ss.findIdx? (·==k) with | some j=>R.aS (decide$ j<1000000) (.ok$ .int (j:Nat)) | none=> .no) | none=> .no)
 | _,_=> .no
end
end L2
end
section
namespace HT
open PySem PySem.Spec PyProof.Rows
end HT
namespace L2
open PySem PySem.Spec PyProof.Rows
section
def aan(K:Qdi):V->Option Int->Option Int->Hp->VK->Prop:=λx lo hi H Q=>∃a xs,x= .ref a/\rA K H a xs/\HT.gh xs.length 0 lo=0/\HT.gh xs.length xs.length hi=xs.length/\Q (.ref a) H
def slW(d:D)(lo hi:Option Int):R D:=match d with
 | .tup ds=> .ok$ .tup$ cutD ds lo hi
 | _=> .no
def Z5(f:FD)(fl fh:FO):FD:=λδ=>(f δ).bind λd=>(fl δ).bind λlo=>(fh δ).bind λhi=>slW d lo hi
end
end L2
end
section
namespace L2
open PySem PySem.Spec PyProof.Rows Builtin Builtin.Str
section
noncomputable def Ng(v c y z:Str):Bool:=decide (v.length<=1000000) && (decide (c.length<=10) && (decide (z.length<=14) && !(y==z)))
def aam(i:Nat)(c y z:Str):TA:=λσ H Q=>∃v:Str,σ[i]? =some (some$ .str v)/\Ng v c y z=true/\Q [.str$ v++c, .str$ Txt.replace v y z] H
def aaT(i:Nat)(c y z:Str):av->R (List D):=λδ=>match δ[i]? with | some (.val$ .str v)=>R.aS (Ng v c y z) (.ok [.str$ v++c, .str$ Txt.replace v y z]) | _=> .no
def Wn(f:FD)(fs:av->R (List D)):av->R (List D):=λδ=>(f δ).bind λd=>(fs δ).bind λds=>match d,ds with
 | .str x,[.str y]=>R.aS (decide$ (y.length==0)=false/\x.length<=sizeLine/\(Txt.split x y).length<=sizeLine/\(partsBetween x (occurrences x y 0 x.length$ x.length+1) y.length).length<=sizeLine)$ .ok$ (Txt.split x y).map .str
 | _,_=> .no
end
end L2
end
section
namespace L2
open PySem PySem.Spec PyProof.Rows
noncomputable def JQ(led:Bool)(p:List Nat):SetTable:={mask:=7,place:=p.toArray,dummies:=#[],finger:=0,led:=led,moves:=0,plain:=true}
noncomputable def GU(m:Nat):List Nat:=(List.range 8).filter λi=>m.testBit i
def Yw(led:Bool)(p:List Nat)(h:Nat):Nat:=match (JQ led p).freeSlot (h:Int) with
 | some (slot,false)=>slot
 | _=>99
def Ve(k:Nat):List Nat:=(List.range 256).filter λm=>decide$ (GU m).length<=k
noncomputable def YU(p:List Nat):Nat->Nat
 | 0=>0
 | j+1=>p.getD j 0+1
structure SI (h:Heap) (a:Addr) (led:Bool) (σ:List Nat) (es:Array (Int × Value)) (ep m:Nat):Prop where
 get:h.get? a=some {cls:= .type "set",dict:=none,data:= .set es ep (JQ led (GU m)),slots:=#[]}
 m256:m<256
 len:(GU m).length=es.size
 prm:(es.toList.map (·.1)).Perm (σ.map fun n:Nat=>(n:Int))
 el:∀e∈es.toList,∃(n:Nat) (t:Tok),n<32/\e=((n:Int),Value.int n t)
end L2
end
section
set_option maxHeartbeats 3200000
namespace L2
open PySem PySem.Spec PyProof.Rows
noncomputable abbrev Sw(w:World):Bool:=w.params.followText "set-order"
noncomputable abbrev V_(led:Bool):Obj:={cls:= .type "set",dict:=none,data:= .set #[] 0 (.fresh 0 0 led)}
end L2
end
section
set_option maxHeartbeats 1000000
namespace L2
open PySem PySem.Spec PyProof.Rows
def aah(w:World)(a:Addr)(ep:Nat)(es:Array (Int × Value)):Array (Int × Value):=if Sw w then pickOrder (w.params.setOrder a ep) es else es
def SIt(h:Heap)(I d:Addr)(f i n ep:Nat):Prop:=h.get? I=some {cls:= .type "set_iterator",dict:=none,data:= .fields #[.int f 0, .int i 0, .ref d, .int n 0, .int ep 0],slots:=#[]}
def fz(w:World)(p:List Nat)(i:Nat):Nat:=if Sw w then 0 else YU p i
section
noncomputable def Zw(ns:List Nat):List Int:=ns.map λn:Nat=>(n:Int)
noncomputable def OD(zs:List Int):Bool:=decide (zs.Nodup) && (decide (zs.length<=4) && zs.all λz=>decide$ 0<=z/\z<32)
def eSS(f:FD):FD:=λδ=>(f δ).bind λd=>match d with
 | .tup ds=>(match ints? ds with | some zs=>R.aS (OD zs) (.ok$ .lst$ (Ed zs).map .int) | none=> .no)
 | _=> .no
def VS(g g':D->D->R D)(fa fb fc:FD):av->R Bool:=λδ=>(Pu g g' fa fb fc δ).bind λd=>match d with | .bl b=> .ok b | _=> .no
end
section
noncomputable def Wu(zs:List Int):List Int:=zs.foldl step_dedup []
def eLS(f:FD):FD:=λδ=>(f δ).bind λd=>match d with
 | .lst ds=>(match ints? ds with | some zs=>R.aS (decide$ zs.length<1000) (.ok$ .int ((Wu zs).length:Nat)) | none=> .no)
 | _=> .no
end
section
def Uu(d:D)(ds:List D):R D:=match d,ds with
 | .lst es,[k]=>R.aS (Pk k && es.all Pk)$ match es.findIdx? (λd=>Ki d k) with | some j=>R.aS (decide$ j<1000000) (.ok$ .int (j:Nat)) | none=> .no
 | _,_=> .no
end
end L2
end
section
namespace L3
open PySem PySem.Spec PyProof.Rows L2
section
noncomputable def keyV?:D->Option Key
 | .int n=>some$ .inl n
 | .str x=>some$ .inr x
 | _=>none
noncomputable def keysV?:List D->Option (List Key)
 | []=>some []
 | d ::ds=>match keyV? d,keysV? ds with | some k,some ks=>some (k ::ks) | _,_=>none
noncomputable def RM(S:a_)(k:Nat):Option (List$ List Key × D):=match S[k]? with | some (.dcT aW)=>some aW | _=>none
noncomputable def Vw{κ α:Type} [DecidableEq κ](aW:List (κ × α))(k:κ)(d:α):List (κ × α):=if(aW.any λkv=>decide$ kv.1=k)=true then aW.map (λkv=>if kv.1=k then(kv.1,d) else kv) else aW++[(k,d)]
noncomputable def VZ{κ:Type} [DecidableEq κ](aW:List (κ × D))(k:κ):Option D:=(aW.find? λkv=>decide$ kv.1=k).map (·.2)
noncomputable def VL:FX:=λδ S=> .ok (.loc S.length)$ S++[.dcT []]
def V8(td ty tx:TE)(K:Qdi):TE:=λσ H Q=>td σ H λx H1=>∃a,x= .ref a/\Rn H1 a/\ty σ H1 λy H2=>tx σ H2 λz H3=>∃aW k b,Rd H3 a (.dT aW)/\y= .ref b/\rA K H3 b (k.map kV)/\Q ((nR aW k).getD z) H3
def Ww(i:Nat)(f g:FD):FX:=λδ S=>match jb δ i with
 | none=> .no
 | some k=>match RM S k with
   | none=> .no
   | some aW=>(R3.of (f$ down δ) S).bind λkd S=>(R3.of (g$ down δ) S).bind λd S=>match kd with
     | .tup ds=>(match keysV? ds with | some ks=> .ok (.d$ (VZ aW ks).getD d) S | none=> .no)
     | _=> .no
def WN(fo:FX)(g:FA)(fe:FX):FZ:=λδ S=>(fe δ S).bind λv S1=>(fo δ S1).bind λo S2=>(g δ S2).bind λjs S3=>match v,o,qK js with
 | .d d, .loc k,some ds=>(match keysV? ds,RM S3 k with | some ks,some aW=>R3.aS (decide$ aW.length<sizeLine/\js.length<=sizeLine) (.ok (.nx δ)$ S3.set k$ .dcT$ Vw aW ks d) | _,_=> .no)
 | _,_,_=> .no
end
section
noncomputable def X6(S:a_):V3->Option D
 | .d x=>some x
 | .loc k=>(match S[k]? with | some (.lst ds)=>some (.lst ds) | _=>none)
 | _=>none
noncomputable def DA(S:a_):List V3->Option (List D)
 | []=>some []
 | v ::vs=>match X6 S v,DA S vs with | some d,some ds=>some (d ::ds) | _,_=>none
def Vp(S:a_):V3->Option D
 | .tup vs=>(match DA S vs with | some ds=>some (.tup ds) | none=>none)
 | v=>X6 S v
def xbR(g:D->D->R D)(fa fb:FX):FB:=λδ S=>(fa δ S).bind λa S1=>(fb δ S1).bind λb S2=>match Vp S2 a,Vp S2 b with
 | some x,some y=>(match g x y with | .ok (.bl k)=> .ok k S2 | _=> .no)
 | _,_=> .no
end
section
noncomputable def Sq:D->Bool
 | .cI=>true
 | .bl _=>true
 | .int _=>true
 | .str _=>true
 | _=>false
noncomputable def R5(S:a_):List V3->Option (List D)
 | []=>some []
 | v ::vs=>match Vp S v,R5 S vs with | some d,some ds=>some (d ::ds) | _,_=>none
noncomputable def P30:P3:=⟨[],[],[]⟩
def Wh(g:List V3->a_->R3 V3)(fs:FA):FX:=λδ S=>(fs δ S).bind λvs S1=>match R5 S1 vs with
 | some ds=>(match g (ds.map .d) [] with | .ok (.d d) _=>R3.aS (Sq d) (.ok (.d d) S1) | _=> .no)
 | none=> .no
end
end L3
end
section
namespace L2
open PySem PySem.Spec PyProof.Rows
noncomputable def Yu{α:Type} [DecidableEq α](σ:List α)(x:α):List α:=if x∈σ then σ else σ++[x]
structure SV (prog:Program) (w:World) (h:Heap) (a:Addr) (σ:List Str) (es:Array (Int × Value)) (ep:Nat) (t:SetTable):Prop where
 get:h.get? a=some {cls:= .type "set",dict:=none,data:= .set es ep t,slots:=#[]}
 ld:t.led=!Sw w
 pl:es.size=0\/t.plain=false
 fit:t.fits es.size=true
 el:ElemsOf (PySem.strKind prog w) es.toList
 mem:∀k,k∈σ↔∃e∈es.toList,(PySem.strKind prog w).is k e.2=true
 len:es.size=σ.length
def Got(prog:Program)(w:World)(A:Around)(s s':Qdj)(a I:Addr)(n:Nat)(P:Value->Prop):Prop:=
 ∃(St:Nat->Heap->Prop) (fp:List Addr),Walks prog w A I fp [I] n (λ_ v=>P v) St/\St 0 s'.heap/\(∀b∈fp,b=a\/s.heap.objs.size<=b)/\s.heap.objs.size<=I/\(∀b o,s.heap.get? b=some o->s'.heap.get? b=some o)/\∃g d,s'={s with heap:=g,drawn:=d}
structure Srv (prog:Program) (w:World) (a:Addr) (n:Nat) (P:Value->Prop) (OK:Heap->Prop):Prop where
 ty:∀s:Qdj,OK s.heap->s.TypeIs (.ref a) "set"
 keep:∀h h':Heap,OK h->(∀o,h.get? a=some o->h'.get? a=some o)->OK h'
 iter:∀(A:Around) (s:Qdj),A.handled=none->OK s.heap->∀(E:Aab) (Q:Aab),(∀I s',Got prog w A s s' a I n P->Q (.ref I) s')->wpAny (model prog w) A (pyIter (.ref a)) Q E s
def fv(w:World)(t:SetTable)(i:Nat):Nat:=if Sw w then 0 else YU t.place.toList i
section
variable {a I T:Addr}{ep:Nat}
structure SID (h:Heap) (I T a:Addr) (i n ep:Nat) (od:List Nat):Prop where
 it:h.get? I=some {cls:= .type "set_iterator",dict:=none,data:= .fields #[.ref T, .int i 0, .ref a, .int n 0, .int ep 0],slots:=#[]}
 tp:∃c,h.get? T=some {cls:= .type "tuple",dict:=none,data:= .seq (od.map fun j:Nat=>rawInt j).toArray c,slots:=#[]}
end
end L2
end
section
set_option maxHeartbeats 3200000
namespace L2
open PySem PySem.Spec PyProof.Rows
def WG{α:Type} [DecidableEq α](ks:List α):List α:=ks.foldl Yu []
structure UA (prog:Program) (w:World) (K:Type) [DecidableEq K] (XN:K->Value->Prop) (Iv:Heap->Addr->List K->Prop) (ok:List K->K->Prop):Prop where
 new:∀h a,h.get? a=some (V_ (!Sw w))->Iv h a []
 keep:∀h h' a σ,Iv h a σ->(∀o,h.get? a=some o->h'.get? a=some o)->Iv h' a σ
 add:∀(A:Around) (E:Aab) (s:Qdj) (a:Addr) (σ:List K) (k:K) (v:Value) (Q:Bool->Qdj->Prop),Iv s.heap a σ->XN k v->ok σ k->
  (∀b h',Heap.SameBut a s.heap h'->Iv h' a (Yu σ k)->Q b {s with heap:=h',toks:=s.toks+1})->wpAny (model prog w) A (setAdd a v) Q E s
end L2
end
section
set_option maxHeartbeats 1000000
namespace L2
open PySem PySem.Spec PyProof.Rows
section
def isS(k:Str)(v:Value):Prop:=∃t,v= .str k t
def isN(k:Nat)(v:Value):Prop:=∃t,v= .int (k:Int) t
end
noncomputable def strL?:List D->Option (List Str)
 | []=>some []
 | .str x ::ds=>(strL? ds).map (x ::·)
 | _ ::_=>none
def Z3(f:FD):FD:=λδ=>(f δ).bind λd=>match d with
 | .lst ds=>(match strL? ds with
   | some ss=>R.aS (decide$ ss.length<60)$ .ok$ .int ((WG ss).length:Nat)
   | none=>(match ints? ds with
     | some zs=>R.aS (decide (zs.length<60) && (zs.all (λz=>decide$ 0<=z/\z<32) && decide ((WG$ zs.map Int.toNat).length<=4)))$ .ok$ .int ((WG$ zs.map Int.toNat).length:Nat)
     | none=> .no))
 | _=> .no
end L2
end
section
set_option maxHeartbeats 4000000
namespace SG
open PySem PyProof.Rows PySem.W
section
variable {m:Type->Type}[Monad m]{κ:Type}
noncomputable def Ab(lt:κ->κ->m (Option Bool))(el:Array κ->Nat->m κ)(lf:Bool)(ky:κ)(ar:Array κ)(bs cn hn:Nat):m (Option Nat):=do
 let bey (z:Nat):m (Option Bool):=do
  let v <-el ar (bs+z)
  if lf then lt v ky else return (<-lt ky v).map (!·)
 let mut la:=0
 let mut of:=1
 let mut lo:=0
 let mut hi:=0
 let some rg <-bey hn | return none
 if rg then
  let mx:=cn - hn
  for _ in [0:cn] do
   if of>=mx then break
   let some mo <-bey (hn+of) | return none
   if !mo then break
   la:=of
   of:=2*of+1
  lo:=hn+la+1
  hi:=hn+min of mx
 else
  let mx:=hn+1
  for _ in [0:cn] do
   if of>=mx then break
   let some fo <-bey (hn - of) | return none
   if fo then break
   la:=of
   of:=2*of+1
  lo:=hn+1 - min of mx
  hi:=hn - la
 for _ in [0:cn] do
  if lo>=hi then break
  let md:=lo+(hi - lo) / 2
  let some mo <-bey md | return none
  if mo then lo:=md+1 else hi:=md
 return some hi
def IM{σ:Type}(lt:κ->κ->m (Option Bool))(el:Array κ->Nat->m κ)(r1 r2:m Unit)(gt:m σ)(mgf:σ->Nat)(smg:Nat->m Unit)(uns:m (Array κ))(a b:Array κ):m (Array κ):=do
 r1
 let tot:=a.size+b.size
 let dn (o:Array κ) (u v:Nat):=a.extract 0 u++b.extract 0 v++o.reverse
 let fb (o:Array κ) (u v:Nat):=b.extract 0 v++a.extract 0 u++o.reverse
 let mut u:=a.size - 1
 let mut v:=b.size
 let mut o:Array κ:=#[<-el a u]
 if u==0 then return dn o u v
 if v==1 then return fb o u v
 let mut mg:=mgf (<-gt)
 for _ in [0:tot] do
  let mut ac:=0
  let mut bc:=0
  for _ in [0:tot] do
   let some aw <-lt (<-el b (v - 1)) (<-el a (u - 1)) | return dn o u v
   if aw then
    u:=u - 1;o:=o.push (<-el a u);ac:=ac+1;bc:=0
    if u==0 then return dn o u v
    if ac>=mg then break
   else
    v:=v - 1;o:=o.push (<-el b v);bc:=bc+1;ac:=0
    if v==1 then return fb o u v
    if bc>=mg then break
  r2
  mg:=mg+1
  for _ in [0:tot] do
   if mg > 1 then mg:=mg - 1
   smg mg
   let some t <-Ab lt el false (<-el b (v - 1)) a 0 u (u - 1) | return dn o u v
   let k:=u - t
   ac:=k
   if k > 0 then
    o:=o++(a.extract t u).reverse;u:=t
    if u==0 then return dn o u v
   v:=v - 1;o:=o.push (<-el b v)
   if v==1 then return fb o u v
   let some t <-Ab lt el true (<-el a (u - 1)) b 0 v (v - 1) | return dn o u v
   let k:=v - t
   bc:=k
   if k > 0 then
    o:=o++(b.extract t v).reverse;v:=t
    if v==1 then return fb o u v
    if v==0 then return dn o u v
   u:=u - 1;o:=o.push (<-el a u)
   if u==0 then return dn o u v
   if ac<7 && bc<7 then break
  mg:=mg+1
  smg mg
 uns
noncomputable def zy(la:Nat->Nat->m (Option Bool))(rv:Nat->Nat->m Unit)(lo nr n0:Nat):m (Option Nat):=do
 rv lo (lo+n0)
 let mut n:=n0
 for _ in [n0:nr] do
  let some sm <-la (lo+n) (lo+n - 1) | return none
  if sm then break
  n:=n+1
 return some n
def Ac(la:Nat->Nat->m (Option Bool))(rv:Nat->Nat->m Unit)(r1:m Unit)(lo nr n0:Nat):m (Option Nat):=do
 r1
 let mut n:=n0+1
 let mut ne:=0
 for _ in [n0+1:nr] do
  let some sm <-la (lo+n) (lo+n - 1) | return none
  if sm then
   if ne > 0 then rv (lo+n - (ne+1)) (lo+n)
   ne:=0
  else
   let some lg <-la (lo+n - 1) (lo+n) | return none
   if lg then break
   ne:=ne+1
  n:=n+1
 if ne > 0 then
  rv (lo+n - (ne+1)) (lo+n)
  zy la rv lo nr n
 else zy la rv lo nr n
def Tn(la:Nat->Nat->m (Option Bool))(rv:Nat->Nat->m Unit)(r1:m Unit)(lo nr:Nat):m (Option Nat):=do
 let mut n:=1
 for _ in [1:nr] do
  let some sm <-la (lo+n) (lo+n - 1) | return none
  if sm then break
  n:=n+1
 if n==nr then return some n
 if n > 1 then
  let some ro <-la lo (lo+n - 1) | return none
  if ro then return some n
  rv lo (lo+n)
  Ac la rv r1 lo nr n
 else Ac la rv r1 lo nr n
noncomputable def RB(la:Nat->Nat->m (Option Bool))(mv:Nat->Nat->m Unit)(lo n ok:Nat):m Bool:=do
 for k in [max ok 1:n] do
  let mut l:=0
  let mut r:=k
  for _ in [0:k] do
   if l>=r then break
   let c:=(l+r) / 2
   let some le <-la (lo+k) (lo+c) | return false
   if le then r:=c else l:=c+1
  mv (lo+k) (lo+l)
 return true
end
noncomputable def yh:Bool->Keyed->Array Keyed->Nat->Nat->Nat->StateT SortSt Sem (Option Nat):=sortPriv% PySem.Builtin.gallop
noncomputable def vc:Array Keyed->Array Keyed->StateT SortSt Sem (Array Keyed):=sortPriv% PySem.Builtin.mergeHi
noncomputable def G7:Array Keyed->Array Keyed->StateT SortSt Sem (Array Keyed):=sortPriv% PySem.Builtin.mergeLo
noncomputable def IQ:Nat->StateT SortSt Sem Unit:=sortPriv% PySem.Builtin.setMinGallop
def P9:vc=IM (m:=StateT SortSt Sem) lt' elem' (liftM$ rule "list.sort.merge-hi") (liftM$ rule "list.sort.gallop") get gallopOf IQ (liftM (m:=Sem)$ unsupported "internal:list.sort.merge-bound"):=rfl
end SG
end
section
set_option maxHeartbeats 1000000
namespace SG
open PySem PyProof.Rows PySem.W
structure PS where
 p:Array Nat
 pe:Array (Nat × Nat × Nat)
 mg:Nat
abbrev PM:=StateT PS Option
noncomputable def t5(n:Nat)(lt:Nat->Nat->Bool)(i j:Nat):PM (Option Bool):=λst=>if i<n/\j<n then some (some$ lt i j,st) else none
noncomputable def AV(ar:Array Nat)(i:Nat):PM Nat:=λst=>match ar[i]? with | some k=>some (k,st) | none=>none
noncomputable def UN{α:Type}:PM α:=λ_=>none
noncomputable def yx(κ:SortKind)(it:Array Keyed)(ps:PS):SortSt:=SortSt.mk' κ (ps.p.map$ kas_item it) ps.pe ps.mg none
section
variable (prog:Program)(w:World)(A:Around)(E:Aab)(κ:SortKind)(it:Array Keyed)(s:Qdj)
def rC{α β:Type}(R:α->β->Prop)(m:StateT SortSt Sem α)(m':PM β):Prop:=
 ∀(ps:PS) (b:β) (Eg:PS),m' ps=some (b,Eg)->∀Q:α->SortSt->Qdj->Prop,(∀a,R a b->Q a (yx κ it Eg) s)->kasC (model prog w) A E m Q (yx κ it ps) s
end
section
variable {prog:Program}{w:World}{A:Around}{E:Aab}{κ:SortKind}{it:Array Keyed}{s:Qdj}
variable {α β γ δ:Type}
def aA{R:α->β->Prop}{a:α}{b:β}(h:R a b):rC prog w A E κ it s R (pure a) (pure b):=λps b' Eg e Q q=>by
 cases e;exact kasC_pure$ q a h
def OM{R:α->β->Prop}{m:StateT SortSt Sem α}:rC prog w A E κ it s R m UN:=λps b' Eg e Q q=>by cases e
def aO{R:α->β->Prop}{R':γ->δ->Prop}{m:StateT SortSt Sem α}{m':PM β}{f:α->StateT SortSt Sem γ}{f':β->PM δ}(h:rC prog w A E κ it s R m m')(h2:∀a b,R a b->rC prog w A E κ it s R' (f a) (f' b)):rC prog w A E κ it s R' (m >>=f) (m' >>=f'):=λps b' Eg e Q q=>by
 have e:(m' ps).bind (λr=>f' r.1 r.2)=some (b',Eg):=e
 cases hm:m' ps with
 | none=>rw [hm] at e;cases e
 | some r=>
   obtain⟨b,Ze⟩:=r;rw[hm] at e;exact kasC_bind$ h ps b Ze hm _ λa ha=>h2 a b ha Ze b' Eg e Q q
def bV{R:α->β->Prop}{c:Prop} [Decidable c]{m1 m2:StateT SortSt Sem α}{n1 n2:PM β}(h1:rC prog w A E κ it s R m1 n1)(h2:rC prog w A E κ it s R m2 n2):rC prog w A E κ it s R (if c then m1 else m2) (if c then n1 else n2):=by
 split
 .exact h1
 .exact h2
def Jf{σ τ:Type}(R:σ->τ->Prop):ForInStep σ->ForInStep τ->Prop
 | .done a, .done b=>R a b
 | .yield a, .yield b=>R a b
 | _,_=>False
def zX{σ τ:Type}{R:σ->τ->Prop}{f:Nat->σ->StateT SortSt Sem (ForInStep σ)}{f':Nat->τ->PM (ForInStep τ)}(hf:∀x c d,R c d->rC prog w A E κ it s (Jf R) (f x c) (f' x d)) :
 ∀(l:List Nat) (c:σ) (d:τ),R c d->rC prog w A E κ it s R (forIn l c f) (forIn l d f')
 | [],c,d,h=>by
   rw[Qcl,Qcl];exact aA h
 | x ::l,c,d,h=>by
   rw[Qcf,Qcf];refine aO (hf x c d h) λa b Bc=>?_
   cases a with
   | done a=>cases b with
     | done b=>exact aA Bc
     | yield b=>exact Bc.elim
   | yield a=>cases b with
     | done b=>exact Bc.elim
     | yield b=>exact zX hf l a b Bc
def fX{σ τ:Type}{R:σ->τ->Prop}{a b:Nat}{c:σ}{d:τ}{f:Nat->σ->StateT SortSt Sem (ForInStep σ)}{f':Nat->τ->PM (ForInStep τ)}(h:R c d)(hf:∀x c d,R c d->rC prog w A E κ it s (Jf R) (f x c) (f' x d)) :
 rC prog w A E κ it s R (forIn [a:b] c f) (forIn [a:b] d f'):=by
 rw[Qb9,Qb9];exact zX hf _ _ _ h
def vI{x:String}:rC prog w A E κ it s Eq (liftM$ rule x) (pure ()):=λps b' Eg e Q q=>by
 cases e;exact kasC_lift$ QcJ$ q () rfl
def C_:rC prog w A E κ it s (λa b=>a=yx κ it b) get get:=λps b' Eg e Q q=>by
 cases e;exact kasC_get$ q _ rfl
def yP{f:SortSt->SortSt}{g:PS->PS}(h:∀ps,f (yx κ it ps)=yx κ it (g ps)):rC prog w A E κ it s Eq (modify f) (modify g):=λps b' Eg e Q q=>by
 cases e;refine kasC_modify ?_;rw[h];exact q () rfl
def jv{ar:Array Nat}{i:Nat}:rC prog w A E κ it s (λa k=>a=kas_item it k) (elem' (ar.map$ kas_item it) i) (AV ar i):=λps b' Eg e Q q=>by
 unfold AV at e;rw[elem'_eq];split at e
 .rename_i k hk;cases e;rw[Array.getElem?_map,hk];exact kasC_pure$ q _ rfl
 .cases e
variable {n:Nat}{lt:Nat->Nat->Bool}(hc:∀(i j:Nat) (C:Bool->Qdj->Prop),i<n->j<n->C (lt i j) s->kas_cmp prog w A κ it i j C s)
include hc
def yb{i j:Nat}:rC prog w A E κ it s Eq (lt' (kas_item it i)$ kas_item it j) (t5 n lt i j):=λps b' Eg e Q q=>by
 unfold t5 at e;split at e
 .rename_i hij;cases e;refine kasC_bind$ kasC_get ?_;refine kasC_bind (kasC_lift$ Qb8$ QbM (hc i j (λc s'=>c=lt i j/\s'=s) hij.1 hij.2 ⟨rfl,rfl⟩) (λc s' h=>?_) λ_ _ hF=>hF.elim)
  obtain⟨rfl,rfl⟩:=h;exact kasC_pure$ q _ rfl
 .cases e
def yS{lf:Bool}{k:Nat}{ar:Array Nat}{bs cn hn:Nat}:rC prog w A E κ it s Eq (yh lf (kas_item it k) (ar.map$ kas_item it) bs cn hn) (Ab (t5 n lt) AV lf k ar bs cn hn):=by
 have hb:∀z,rC prog w A E κ it s Eq (do let v <-elem' (ar.map$ kas_item it) (bs+z);if lf=true then lt' v (kas_item it k) else do let r <-lt' (kas_item it k) v;pure (Option.map (λx=>!x) r)) (do let v <-AV ar (bs+z);if lf=true then t5 n lt v k else do let r <-t5 n lt k v;pure (Option.map (λx=>!x) r)):=λz=>by
  refine aO jv λa b Bc=>?_
  subst Bc;refine bV (yb hc)$ aO (yb hc) λa b Bc=>?_
  subst Bc;exact aA rfl
 unfold Ab;refine aO (hb hn) λa b Bc=>?_
 subst Bc;cases a with
 | none=>exact aA rfl
 | some rg=>
   refine bV ?_ ?_
   .refine aO (fX rfl λx c d e=>?_) λc d e=>?_
    .subst e;refine bV (aA rfl) (aO (hb _) λa b e=>?_)
     subst e;cases a with
     | none=>exact aA rfl
     | some mo=>exact bV (aA rfl)$ aA rfl
    .subst e;obtain⟨r,x,y⟩:=c;cases r with
     | some r=>exact aA rfl
     | none=>
       refine aO (fX rfl λx c d e=>?_) λc d e=>?_
       .subst e;refine bV (aA rfl) (aO (hb _) λa b e=>?_)
        subst e;cases a with
        | none=>exact aA rfl
        | some mo=>exact bV (aA rfl)$ aA rfl
       .subst e;obtain⟨r,x,y⟩:=c;cases r <;> exact aA rfl
   .refine aO (fX rfl λx c d e=>?_) λc d e=>?_
    .subst e;refine bV (aA rfl) (aO (hb _) λa b e=>?_)
     subst e;cases a with
     | none=>exact aA rfl
     | some mo=>exact bV (aA rfl)$ aA rfl
    .subst e;obtain⟨r,x,y⟩:=c;cases r with
     | some r=>exact aA rfl
     | none=>
       refine aO (fX rfl λx c d e=>?_) λc d e=>?_
       .subst e;refine bV (aA rfl) (aO (hb _) λa b e=>?_)
        subst e;cases a with
        | none=>exact aA rfl
        | some mo=>exact bV (aA rfl)$ aA rfl
       .subst e;obtain⟨r,x,y⟩:=c;cases r <;> exact aA rfl
def Af(n:Nat)(lt:Nat->Nat->Bool)(i j:Nat):PM (Option Bool):=do
 let st <-get
 let x <-AV st.p i
 let y <-AV st.p j
 t5 n lt x y
def lG{i j:Nat}:rC prog w A E κ it s Eq (ltAt' i j) (Af n lt i j):=by
 refine aO C_ λa b e=>?_
 subst e;refine aO jv λa c e=>?_
 subst e;refine aO jv λa d e=>?_
 subst e;exact yb hc
omit hc in
def ui{i j:Nat}:rC prog w A E κ it s Eq (reverseSlice' i j) (modify λst=>{st with p:=kas_rev st.p i j}):=by
 refine yP λps=>?_
 show SortSt.mk' κ (mirror (ps.p.map$ kas_item it) i j$ (j - i) / 2) ps.pe ps.mg none=SortSt.mk' κ ((mirror ps.p i j$ (j - i) / 2).map$ kas_item it) ps.pe ps.mg none;have e1:mirror (ps.p.map$ kas_item it) i j ((j - i) / 2)=(mirror ps.p i j$ (j - i) / 2).map (kas_item it):=kas_swaps_map (kas_item it) (λk=>i+k) (λk=>j - 1 - k) _ ps.p
 rw[e1]
omit hc in
def NM{k l:Nat}:rC prog w A E κ it s Eq (moveDown' k l) (modify λst=>{st with p:=bubble st.p k$ k - l}):=by
 refine yP λps=>?_
 show SortSt.mk' κ (bubble (ps.p.map$ kas_item it) k$ k - l) ps.pe ps.mg none=SortSt.mk' κ ((bubble ps.p k$ k - l).map$ kas_item it) ps.pe ps.mg none;have e1:bubble (ps.p.map$ kas_item it) k (k - l)=(bubble ps.p k$ k - l).map (kas_item it):=kas_swaps_map (kas_item it) (λi=>k - i) (λi=>k - i - 1) _ ps.p
 rw[e1]
def E6(n:Nat)(lt:Nat->Nat->Bool)(lo nr:Nat):PM (Option Nat):=Tn (Af n lt) (λi j=>modify λst=>{st with p:=kas_rev st.p i j}) (pure ()) lo nr
def Es(n:Nat)(lt:Nat->Nat->Bool)(lo m ok:Nat):PM Bool:=RB (Af n lt) (λk l=>modify λst=>{st with p:=bubble st.p k$ k - l}) lo m ok
def Dt{lo m ok:Nat}:rC prog w A E κ it s Eq (binarySort' lo m ok) (Es n lt lo m ok):=by
 unfold Es RB;refine aO (fX rfl λx c d e=>?_) λc d e=>?_
 .subst e;refine aO (fX rfl λx c d e=>?_) λc d e=>?_
  .subst e;refine bV (aA rfl) (aO (lG hc) λa b e=>?_)
   subst e;cases a with
   | none=>exact aA rfl
   | some mo=>exact bV (aA rfl)$ aA rfl
  .subst e;obtain⟨r,x,y⟩:=c;cases r with
   | some r=>exact aA rfl
   | none=>exact aO NM λ_ _ _=>aA rfl
 .subst e;obtain⟨r,x⟩:=c;cases r <;> exact aA rfl
def z9{lo nr n0:Nat}:rC prog w A E κ it s Eq (zy (m:=StateT SortSt Sem) ltAt' reverseSlice' lo nr n0) (zy (Af n lt) (λi j=>modify λst=>{st with p:=kas_rev st.p i j}) lo nr n0):=by
 unfold zy;refine aO ui λ_ _ _=>?_
 refine aO (fX rfl λx c d e=>?_) λc d e=>?_
 .subst e;refine aO (lG hc) λa b e=>?_
  subst e;cases a with
  | none=>exact aA rfl
  | some mo=>exact bV (aA rfl)$ aA rfl
 subst e;obtain⟨r,x⟩:=c;cases r <;> exact aA rfl
def zN{lo nr n0:Nat}:rC prog w A E κ it s Eq (Ac (m:=StateT SortSt Sem) ltAt' reverseSlice' (liftM$ rule "list.sort.descending-run") lo nr n0) (Ac (Af n lt) (λi j=>modify λst=>{st with p:=kas_rev st.p i j}) (pure ()) lo nr n0):=by
 unfold Ac;refine aO vI λ_ _ _=>?_
 refine aO (fX rfl λx c d e=>?_) λc d e=>?_
 .subst e;refine aO (lG hc) λa b e=>?_
  subst e;cases a with
  | none=>exact aA rfl
  | some sm=>
    refine bV (bV (aO ui λ_ _ _=>aA rfl) (aA rfl)) ?_
    refine aO (lG hc) λa b e=>?_
    subst e;cases a with
    | none=>exact aA rfl
    | some lg=>exact bV (aA rfl)$ aA rfl
 subst e;obtain⟨r,x,y⟩:=c;cases r with
 | some r=>exact aA rfl
 | none=>exact bV (aO ui λ_ _ _=>z9 hc) (z9 hc)
def Du{lo nr:Nat}:rC prog w A E κ it s Eq (countRun' lo nr) (E6 n lt lo nr):=by
 unfold E6 Tn;refine aO (fX rfl λx c d e=>?_) λc d e=>?_
 .subst e;refine aO (lG hc) λa b e=>?_
  subst e;cases a with
  | none=>exact aA rfl
  | some mo=>exact bV (aA rfl)$ aA rfl
 subst e;obtain⟨r,x⟩:=c;cases r with
 | some r=>exact aA rfl
 | none=>
   refine bV (aA rfl)$ bV ?_$ zN hc;refine aO (lG hc) λa b e=>?_
   subst e;cases a with
   | none=>exact aA rfl
   | some ro=>exact bV (aA rfl)$ aO ui λ_ _ _=>zN hc
omit hc in
def Ef{a:Array Nat}:(a.map$ kas_item it).size=a.size:=Array.size_map ..
omit hc in
def wY{a b o:Array Nat}{i u j v:Nat}:(a.map$ kas_item it).extract i u++(b.map$ kas_item it).extract j v++(o.map$ kas_item it).reverse=(a.extract i u++b.extract j v++o.reverse).map (kas_item it):=by
 rw[Array.map_append,Array.map_append,Qb2,Qb2,Array.map_reverse]
omit hc in
def zd{o:Array Nat}{k:Nat}:(o.map$ kas_item it).push (kas_item it k)=(o.push k).map (kas_item it):=by rw[Array.map_push]
omit hc in
def Qr{o a:Array Nat}{t u:Nat}:o.map (kas_item it)++((a.map$ kas_item it).extract t u).reverse=(o++(a.extract t u).reverse).map (kas_item it):=by rw[Array.map_append,Array.map_reverse,Qb2]
noncomputable def s5(it:Array Keyed)(d:Option (Array Nat) × Nat × Nat × Array Nat × Nat):Option (Array Keyed) × Nat × Nat × Array Keyed × Nat:=(d.1.map λx=>x.map$ kas_item it,d.2.1,d.2.2.1,d.2.2.2.1.map$ kas_item it,d.2.2.2.2)
noncomputable def s6(it:Array Keyed)(d:Option (Array Nat) × Nat × Nat × Array Nat × Nat × Nat):Option (Array Keyed) × Nat × Nat × Array Keyed × Nat × Nat:=(d.1.map λx=>x.map$ kas_item it,d.2.1,d.2.2.1,d.2.2.2.1.map$ kas_item it,d.2.2.2.2)
noncomputable def s7(it:Array Keyed)(d:Option (Array Nat) × Nat × Nat × Array Nat × Nat × Nat × Nat):Option (Array Keyed) × Nat × Nat × Array Keyed × Nat × Nat × Nat:=(d.1.map λx=>x.map$ kas_item it,d.2.1,d.2.2.1,d.2.2.2.1.map$ kas_item it,d.2.2.2.2)
omit hc in
def Dl{g:Nat}:rC prog w A E κ it s Eq (IQ g) (modify λst=>{st with mg:=g}):=yP λps=>rfl
def Mm{a b:Array Nat}:rC prog w A E κ it s (λx y=>x=y.map (kas_item it)) (vc (a.map$ kas_item it)$ b.map$ kas_item it) (IM (t5 n lt) AV (pure ()) (pure ()) get PS.mg (λg=>modify λst=>{st with mg:=g}) UN a b):=by
 rw[P9];unfold IM;refine aO vI λ_ _ _=>?_
 rw[Ef,Ef];refine aO jv λx0 k0 e=>?_
 subst e;rw[show #[kas_item it k0]=#[k0].map (kas_item it) by simp]
 refine bV (aA wY)$ bV (aA wY) ?_;refine aO C_ λst ps e=>?_
 subst e;refine aO (fX (R:=λc d=>c=s5 it d) rfl λx c d e=>?_) λc d e=>?_
 .subst e;obtain⟨r0,u0,v0,o0,g0⟩:=d;refine aO (fX (R:=λc d=>c=s6 it d) rfl λx c d e=>?_) λc d e=>?_
  .subst e;obtain⟨r0,u0,v0,o0,ac,bc⟩:=d;unfold s6;dsimp only;refine aO jv λx1 k1 e=>?_
   subst e;refine aO jv λx2 k2 e=>?_
   subst e;refine aO (yb hc) λa b e=>?_
   subst e;cases a with
   | none=>exact aA (by show _=_;rw [wY];rfl)
   | some aw=>
     refine bV ?_ ?_
     .refine aO jv λx3 k3 e=>?_
      subst e;rw[zd];refine bV (aA$ by show _=_;rw [wY];rfl) (bV (aA rfl)$ aA rfl)
     .refine aO jv λx3 k3 e=>?_
      subst e;rw[zd];refine bV (aA$ by show _=_;rw [wY];rfl) (bV (aA rfl)$ aA rfl)
  .subst e;obtain⟨r1,u1,v1,o1,ac1,bc1⟩:=d;cases r1 with
   | some r=>exact aA rfl
   | none=>
     refine aO vI λ_ _ _=>?_
     refine aO (fX (R:=λc d=>c=s7 it d) rfl λx c d e=>?_) λc d e=>?_
     .subst e;obtain⟨r2,u2,v2,o2,g2,ac2,bc2⟩:=d;unfold s7
      repeat' (first
       | (with_reducible refine bV ?_ ?_)
       | (with_reducible refine aO Dl λ_ _ _=>?_)
       | (with_reducible refine aO jv λx k e=>?_;subst e)
       | (with_reducible refine aO (yS hc) λa b e=>?_;subst e;cases a;all_goals dsimp only)
       | (with_reducible refine aA ?_;simp only[Jf,Qr,zd,wY,Option.map];done))
     .subst e;obtain⟨r2,u2,v2,o2,g2,ac2,bc2⟩:=d;cases r2 with
      | some r=>exact aA rfl
      | none=>exact aO Dl λ_ _ _=>aA rfl
 .subst e;obtain⟨r0,u0,v0,o0,g0⟩:=d;cases r0 with
  | some r=>exact aA rfl
  | none=>exact OM
end
def OX(i:Nat):mergeAt' i=(do
 let z <-get
 let(some (s0,n0,pw),some (s1,n1,_)):=((pendingOf z)[i]?,(pendingOf z)[i+1]?) | liftM (m:=Sem) (unsupported "internal:list.sort.pending")
 set (setPending z$ ((pendingOf z).setIfInBounds i (s0,n0+n1,pw)).eraseIdxIfInBounds$ i+1)
 let some k <-yh false (<-elem' (arrOf z) s1) (arrOf z) s0 n0 0 | return false
 let(s0,n0):=(s0+k,n0 - k)
 if n0==0 then return true
 let some n1 <-yh true (<-elem' (arrOf z) (s0+n0 - 1)) (arrOf z) s1 n1 (n1 - 1) | return false
 if n1==0 then return true
 let x:=(arrOf z).extract s0 s1
 let y:=(arrOf z).extract s1$ s1+n1
 let r <-if n0<=n1 then G7 x y else vc x y
 modify λq=>setArr q$ r.toList.zipIdx.foldl (λa (p,j)=>a.setIfInBounds (s0+j) p)$ arrOf q
 return (failedOf (<-get)).isNone):=rfl
noncomputable def putBack(out:Array Nat)(at':Nat)(p:Array Nat):Array Nat:=out.toList.zipIdx.foldl (λa x=>a.setIfInBounds (at'+x.2) x.1) p
structure Way (lt:Nat->Nat->Bool) (pF:Array Nat) where
 n1:Nat
 n2:Nat
 p1:Array Nat
 p2:Array Nat
 p3:Array Nat
 p4:Array Nat
 k1:Nat
 k2:Nat
 b0:Nat
 a9:Nat
 out:Array Nat
 g:Nat
 h1:n1<32
 h2:n2<32
 e1:E6 64 lt 0 64 ⟨(List.range 64).toArray,#[],7⟩=some (some n1,⟨p1,#[],7⟩)
 e2:Es 64 lt 0 32 n1 ⟨p1,#[],7⟩=some (true,⟨p2,#[],7⟩)
 e3:E6 64 lt 32 32 ⟨p2,#[(0,32,0)],7⟩=some (some n2,⟨p3,#[(0,32,0)],7⟩)
 e4:Es 64 lt 32 32 n2 ⟨p3,#[(0,32,0)],7⟩=some (true,⟨p4,#[(0,32,0)],7⟩)
 e5:p4[32]? =some b0
 e6:Ab (t5 64 lt) AV false b0 p4 0 32 0 ⟨p4,#[(0,64,power' 64 32 96 64)],7⟩=some (some k1,⟨p4,#[(0,64,power' 64 32 96 64)],7⟩)
 h3:k1<32
 e7:p4[31]? =some a9
 e8:Ab (t5 64 lt) AV true a9 p4 32 32 31 ⟨p4,#[(0,64,power' 64 32 96 64)],7⟩=some (some k2,⟨p4,#[(0,64,power' 64 32 96 64)],7⟩)
 h4:0<k2
 h5:k2<32 - k1
 e9:IM (t5 64 lt) AV (pure ()) (pure ()) get PS.mg (fun g=>modify fun st=>{st with mg:=g}) UN (p4.extract k1 32) (p4.extract 32 (32+k2)) ⟨p4,#[(0,64,power' 64 32 96 64)],7⟩=some (out,⟨p4,#[(0,64,power' 64 32 96 64)],g⟩)
 e10:putBack out k1 p4=pF
section
variable {prog:Program}{w:World}{A:Around}{E:Aab}{κ:SortKind}{it:Array Keyed}{s:Qdj}
def Ln(out:Array Nat)(at':Nat)(p:Array Nat):(out.map$ kas_item it).toList.zipIdx.foldl (λa x=>a.setIfInBounds (at'+x.2) x.1) (p.map$ kas_item it)=(putBack out at' p).map (kas_item it):=by
 unfold putBack;rw[Array.toList_map];generalize out.toList=l;have go:∀(l:List Nat) (i:Nat) (p:Array Nat),(((l.map$ kas_item it).zipIdx i).foldl (λa x=>a.setIfInBounds (at'+x.2) x.1)$ p.map$ kas_item it)=((l.zipIdx i).foldl (λa x=>a.setIfInBounds (at'+x.2) x.1) p).map (kas_item it):=by
  intro l
  induction l with
  | nil=>intro i p;rfl
  | cons x l ih=>
    intro i p;rw[QaO,Qcy,Qcy,Qce,Qce,<-ih,Array.map_setIfInBounds]
 exact go l 0 p
variable {lt:Nat->Nat->Bool}(hc:∀(i j:Nat) (C:Bool->Qdj->Prop),i<64->j<64->C (lt i j) s->kas_cmp prog w A κ it i j C s)
include hc
def N7{pF:Array Nat}(W:Way lt pF){Q:Unit->SortSt->Qdj->Prop}(hQ:∀ua,arrOf ua=pF.map (kas_item it)->failedOf ua=none->Q () ua s):kasC (model prog w) A E sortRuns' Q (kas_st κ it$ List.toArray$ List.range 64) s:=by
 obtain⟨n1,n2,p1,p2,p3,p4,k1,k2,b0,a9,out,g,h1,h2,e1,e2,e3,e4,e5,e6,h3,e7,e8,h4,h5,e9,e10⟩:=W;show kasC _ _ _ _ _ (yx κ it ⟨(List.range 64).toArray,#[],7⟩) _;rw[sortRuns'_eq];refine kasC_bind$ kasC_get ?_;have hsz:(arrOf$ yx κ it ⟨(List.range 64).toArray,#[],7⟩).size=64:=by
  show((List.range 64).toArray.map$ kas_item it).size=64;rw[Array.size_map];simp
 have hmr:minRun' 64 64 0=32:=rfl;simp only[hsz,hmr];refine kasC_bind$ kasC_range ?_;refine kasC_cons ?_;refine kasC_bind$ Du hc _ _ _ e1 _ λa ha=>?_
 subst ha;dsimp only;rw[QaG h1];refine kasC_bind$ kasC_lift$ QcJ ?_;refine kasC_bind$ Dt hc _ _ _ e2 _ λa ha=>?_
 subst ha;refine kasC_bind$ kasC_get ?_;rw[show(pendingOf$ yx κ it ⟨p2,#[],7⟩).back? =none from rfl]
 refine kasC_bind$ kasC_modify$ kasC_pure ?_;refine kasC_cons ?_;rw[show 0+min (64 - 0) 32=32 from rfl,show min (64 - 32) 32=32 from rfl]
 refine kasC_bind$ Du hc _ _ _ e3 _ λa ha=>?_
 subst ha;dsimp only;rw[QaG h2];refine kasC_bind$ kasC_lift$ QcJ ?_;refine kasC_bind$ Dt hc _ _ _ e4 _ λa ha=>?_
 subst ha;refine kasC_bind$ kasC_get ?_;rw[show(pendingOf$ yx κ it ⟨p4,#[(0,32,0)],7⟩).back? =some (0,32,0) from rfl]
 refine kasC_bind$ kasC_range ?_;refine kasC_cons ?_;refine kasC_bind$ kasC_get ?_;rw[QaA$ show ¬(pendingOf$ yx κ it ⟨p4,#[(0,32,0)],7⟩).size > 1 from(by show ¬1 > 1;omega)]
 refine kasC_pure ?_;refine kasC_bind$ kasC_modify ?_;refine kasC_bind$ kasC_modify$ kasC_pure ?_;show kasC _ _ _ (forIn (2 ::List.range' 3 61) _ _) _ (yx κ it ⟨p4,#[(0,32,power' 64 32 96 64),(32,32,0)],7⟩) _;refine kasC_cons ?_;refine kasC_pure ?_;refine kasC_bind$ kasC_range ?_;refine kasC_cons ?_;refine kasC_bind$ kasC_get ?_;refine kasC_bind ?_;show kasC _ _ _ (mergeAt' 0) _ (yx κ it ⟨p4,#[(0,32,power' 64 32 96 64),(32,32,0)],7⟩) _;rw[OX];refine kasC_bind$ kasC_get ?_;have hset:∀(z:SortSt) (Q:PUnit->SortSt->Qdj->Prop) (st:SortSt),Q ⟨⟩ z s->kasC (model prog w) A E (set z:StateT SortSt Sem PUnit) Q st s:=λz Q st h=>by
  unfold kasC;rw [StateT.run_set];exact Qaj h
 refine kasC_bind$ hset _ _ _ ?_;have hpe:setPending (yx κ it ⟨p4,#[(0,32,power' 64 32 96 64),(32,32,0)],7⟩) (((pendingOf$ yx κ it ⟨p4,#[(0,32,power' 64 32 96 64),(32,32,0)],7⟩).setIfInBounds 0 (0,32+32,power' 64 32 96 64)).eraseIdxIfInBounds$ 0+1)=yx κ it ⟨p4,#[(0,64,power' 64 32 96 64)],7⟩:=by
  show SortSt.mk' κ (p4.map$ kas_item it) (((#[(0,32,power' 64 32 96 64),(32,32,0)]:Array (Nat × Nat × Nat)).setIfInBounds 0 (0,32+32,power' 64 32 96 64)).eraseIdxIfInBounds$ 0+1) 7 none=SortSt.mk' κ (p4.map$ kas_item it) #[(0,64,power' 64 32 96 64)] 7 none;congr 1;generalize power' 64 32 96 64=pw;simp [Array.eraseIdxIfInBounds]
 rw[hpe];rw[show arrOf (yx κ it ⟨p4,#[(0,32,power' 64 32 96 64),(32,32,0)],7⟩)=p4.map (kas_item it) from rfl]
 have hel1:AV p4 32 ⟨p4,#[(0,64,power' 64 32 96 64)],7⟩=some (b0,⟨p4,#[(0,64,power' 64 32 96 64)],7⟩):=by unfold AV;rw [e5]
 have hel2:AV p4 31 ⟨p4,#[(0,64,power' 64 32 96 64)],7⟩=some (a9,⟨p4,#[(0,64,power' 64 32 96 64)],7⟩):=by unfold AV;rw [e7]
 refine kasC_bind$ jv _ _ _ hel1 _ λa ha=>?_
 subst ha;refine kasC_bind$ yS hc _ _ _ e6 _ λa ha=>?_
 subst ha;dsimp only;rw[QaA (show ¬(32 - k1==0)=true by simp;omega),show 0+k1+(32 - k1) - 1=31 by omega]
 refine kasC_bind$ jv _ _ _ hel2 _ λa ha=>?_
 subst ha;refine kasC_bind$ yS hc _ _ _ e8 _ λa ha=>?_
 subst ha;dsimp only;rw[QaA (show ¬(k2==0)=true by simp;omega),QaA (show ¬32 - k1<=k2 by omega),QcH]
 rw[show(p4.map$ kas_item it).extract k1 32=(p4.extract k1 32).map (kas_item it) by rw[Qb2],show(p4.map$ kas_item it).extract 32 (32+k2)=(p4.extract 32$ 32+k2).map (kas_item it) by rw[Qb2]]
 refine kasC_bind$ Mm hc _ _ _ e9 _ λa ha=>?_
 subst ha;refine kasC_bind$ kasC_modify ?_;have hfin:setArr (yx κ it ⟨p4,#[(0,64,power' 64 32 96 64)],g⟩) ((out.map$ kas_item it).toList.zipIdx.foldl (λa x=>a.setIfInBounds (k1+x.2) x.1)$ arrOf$ yx κ it ⟨p4,#[(0,64,power' 64 32 96 64)],g⟩)=yx κ it ⟨pF,#[(0,64,power' 64 32 96 64)],g⟩:=by
  show SortSt.mk' κ ((out.map$ kas_item it).toList.zipIdx.foldl (λa x=>a.setIfInBounds (k1+x.2) x.1)$ p4.map$ kas_item it) _ g none=SortSt.mk' κ (pF.map$ kas_item it) _ g none
  rw[Ln,e10];rfl
 rw[hfin];refine kasC_bind$ kasC_get$ kasC_pure ?_;show kasC _ _ _ (if(!true)=true then pure (ForInStep.done (some (),())) else pure (ForInStep.yield (none,()))) _ _ _
 refine kasC_pure ?_;refine kasC_cons ?_;refine kasC_bind$ kasC_get ?_;refine kasC_pure ?_;exact kasC_pure$ hQ _ rfl rfl
end
noncomputable def wh{α:Type}(c:Prop) [Decidable c](x:Option α):Option α:=if c then x else none
def l_{α:Type}{c:Prop} [Decidable c]{x:Option α}{y:α}(h:wh c x=some y):c/\x=some y:=by
 unfold wh at h;split at h
 .rename_i hc;exact⟨hc,h⟩
 .cases h
noncomputable abbrev Rk:Nat:=power' 64 32 96 64
def way?(lt:Nat->Nat->Bool):Option (Array Nat):=
 (E6 64 lt 0 64 ⟨(List.range 64).toArray,#[],7⟩).bind λr1=>r1.1.bind λn1=>wh (n1<32/\r1.2.pe=#[]/\r1.2.mg=7)<|
 (Es 64 lt 0 32 n1 ⟨r1.2.p,#[],7⟩).bind λr2=>wh (r2.1=true/\r2.2.pe=#[]/\r2.2.mg=7)<|
 (E6 64 lt 32 32 ⟨r2.2.p,#[(0,32,0)],7⟩).bind λr3=>r3.1.bind λn2=>wh (n2<32/\r3.2.pe=#[(0,32,0)]/\r3.2.mg=7)<|
 (Es 64 lt 32 32 n2 ⟨r3.2.p,#[(0,32,0)],7⟩).bind λr4=>wh (r4.1=true/\r4.2.pe=#[(0,32,0)]/\r4.2.mg=7)<|
 (r4.2.p[32]?).bind λb0=>(Ab (t5 64 lt) AV false b0 r4.2.p 0 32 0 ⟨r4.2.p,#[(0,64,Rk)],7⟩).bind λr5=>r5.1.bind λk1=>wh (k1<32/\r5.2.p=r4.2.p/\r5.2.pe=#[(0,64,Rk)]/\r5.2.mg=7)<|
 (r4.2.p[31]?).bind λa9=>(Ab (t5 64 lt) AV true a9 r4.2.p 32 32 31 ⟨r4.2.p,#[(0,64,Rk)],7⟩).bind λr6=>r6.1.bind λk2=>wh (0<k2/\k2<32 - k1/\r6.2.p=r4.2.p/\r6.2.pe=#[(0,64,Rk)]/\r6.2.mg=7)<|
 (IM (t5 64 lt) AV (pure ()) (pure ()) get PS.mg (λg=>modify λst=>{st with mg:=g}) UN (r4.2.p.extract k1 32) (r4.2.p.extract 32$ 32+k2) ⟨r4.2.p,#[(0,64,Rk)],7⟩).bind λr7=>wh (r7.2.p=r4.2.p/\r7.2.pe=#[(0,64,Rk)])<|
 some (putBack r7.1 k1 r4.2.p)
def O4{lt:Nat->Nat->Bool}{pF:Array Nat}(h:way? lt=some pF):Nonempty (Way lt pF):=by
 obtain⟨⟨c1,p1,pe1,m1⟩,e1,h⟩:=L3.cx h;obtain⟨n1,rfl,h⟩:=L3.cx h;obtain⟨⟨h1,rfl,rfl⟩,h⟩:=l_ h;obtain⟨⟨c2,p2,pe2,m2⟩,e2,h⟩:=L3.cx h;obtain⟨⟨rfl,rfl,rfl⟩,h⟩:=l_ h;obtain⟨⟨c3,p3,pe3,m3⟩,e3,h⟩:=L3.cx h;obtain⟨n2,rfl,h⟩:=L3.cx h;obtain⟨⟨h2,rfl,rfl⟩,h⟩:=l_ h;obtain⟨⟨c4,p4,pe4,m4⟩,e4,h⟩:=L3.cx h;obtain⟨⟨rfl,rfl,rfl⟩,h⟩:=l_ h;obtain⟨b0,e5,h⟩:=L3.cx h;obtain⟨⟨c5,p5,pe5,m5⟩,e6,h⟩:=L3.cx h;obtain⟨k1,rfl,h⟩:=L3.cx h;obtain⟨⟨h3,rfl,rfl,rfl⟩,h⟩:=l_ h;obtain⟨a9,e7,h⟩:=L3.cx h;obtain⟨⟨c6,p6,pe6,m6⟩,e8,h⟩:=L3.cx h;obtain⟨k2,rfl,h⟩:=L3.cx h;obtain⟨⟨h4,h5,rfl,rfl,rfl⟩,h⟩:=l_ h;obtain⟨⟨out,p7,pe7,g⟩,e9,h⟩:=L3.cx h;obtain⟨⟨rfl,rfl⟩,h⟩:=l_ h;exact⟨⟨n1,n2,p1,p2,p3,_,k1,k2,b0,a9,out,g,h1,h2,e1,e2,e3,e4,e5,e6,h3,e7,e8,h4,h5,e9,QaS h⟩⟩
section
variable {prog:Program}{w:World}{A:Around}{E:Aab}{s:Qdj}{a:Addr}{vs:List Value}{κ:SortKind}
def AK{n:Nat}{P:PySem.Fin->Qdj->Prop}{lt:Nat->Nat->Bool}{p:Array Nat}(ho:s.heap.get? a=some (seqObj "list" vs.toArray n))(Em:vs.length=64)(QW:way? lt=some p)(CL:p.size=64)
 (hk:∀Q:SortKind->Qdj->Prop,Q κ {s with heap:=i5 s.heap a vs}->wpAny (model prog w) A (keyKind' vs.toArray) Q (λ_ _=>False) {s with heap:=i5 s.heap a vs})
 (hc:∀i j C,i<vs.length->j<vs.length->C (lt i j) {s with heap:=i5 s.heap a vs}->kas_ask prog w A κ vs i j C {s with heap:=i5 s.heap a vs})
 (h:∀c2,((i5 s.heap a vs).update a$ Obj.mapSeq λ_=>List.toArray$ p.toList.map λi=>vs.getD i Value.none).get? a=some (seqObj "list" (List.toArray$ p.toList.map λi=>vs.getD i Value.none) c2)->P (.done$ .ret .none) {s with heap:=(i5 s.heap a vs).update a$ Obj.mapSeq λ_=>List.toArray$ p.toList.map λi=>vs.getD i Value.none}) :
 wpAny (model prog w) A (Builtin.«list.sort» ⟨[.ref a],[]⟩) P E s:=by
 obtain⟨e1,MK⟩:∃e1,(s.heap.update a$ Obj.mapSeq λ_=>(#[]:Array Value)).get? a=some (seqObj "list" #[] e1):=⟨_,QcM ho λ_=>#[]⟩
 have na:(i5 s.heap a vs).get? a=some (seqObj "list" #[] e1):=Qac _$ Qac _ MK;obtain⟨W⟩:=O4 QW;rw[list_sort_plain];refine Qab$ listItems_at ho rfl ?_;refine Qab (listUpdate_at ho rfl ?_ (by rw[Qao,Qam];omega)$ Qbf _)
 refine Qab$ seqEpoch_at MK rfl ?_;refine Qab (wpAny_newTuple ?_$ by show vs.length<=_;rw [Qam];omega)
 refine Qab$ wpAny_newList ?_$ Qbf _;refine Qbk ?_;have Kr:¬vs.toArray.size<2:=by rw[Qao];omega
 rw[QaA Kr,QaA Kr];refine Qab$ QbM (hk (λMS s0=>MS=κ/\s0={s with heap:=i5 s.heap a vs}) ⟨rfl,rfl⟩) (λMS s0 hk'=>?_) λ_ _ x=>x.elim
 obtain⟨rfl,rfl⟩:=hk';have ub:SortSt.mk' MS (vs.toArray.zip vs.toArray) #[] 7 none=kas_st MS (pairsOf vs) (List.toArray$ List.range 64):=by
  unfold kas_st;have e:=kas_range$ pairsOf vs;rw[pairsOf_size,Em] at e;rw[e];rfl
 have hcc:∀(i j:Nat) (C:Bool->Qdj->Prop),i<64->j<64->C (lt i j) {s with heap:=i5 s.heap a vs}->kas_cmp prog w A MS (pairsOf vs) i j C {s with heap:=i5 s.heap a vs}:=λi j C hi hj q=>by
  rw[<-kas_ask_eq];exact hc i j C (by omega) (by omega) q
 have hrun:=N7 (E:=E) hcc W (Q:=λ_ ua s'=>arrOf ua=p.map (kas_item$ pairsOf vs)/\failedOf ua=none/\s'={s with heap:=i5 s.heap a vs}) λua a1 a2=>⟨a1,a2,rfl⟩
 show wpAny _ _ ((StateT.run sortRuns'$ SortSt.mk' MS (vs.toArray.zip vs.toArray) #[] 7 none) >>=_) _ _ _;rw[ub];refine Qab$ QbM hrun ?_ λ_ _ e=>e
 rintro⟨⟨⟩,ua⟩ s' ⟨har,hf,rfl⟩;dsimp only;have hout:=kat_snds rfl har;have hsz:(List.toArray$ p.toList.map λi=>vs.getD i Value.none).size=vs.length:=by rw[Qao,Qaa,Qbv,CL,Em]
 rw[hout];obtain⟨c2,Bf⟩:∃c2,((i5 s.heap a vs).update a$ Obj.mapSeq λ_=>List.toArray$ p.toList.map λi=>vs.getD i Value.none).get? a=some (seqObj "list" (List.toArray$ p.toList.map λi=>vs.getD i Value.none) c2):=⟨_,QcM na λ_=>List.toArray$ p.toList.map λi=>vs.getD i Value.none⟩
 refine Qab$ seqEpoch_at na rfl ?_;refine Qab (listUpdate_at na rfl ?_ (Qbf _)$ QaP (Nat.le_of_eq hsz)$ by rw[Qam];omega)
 rw[hf];simp;exact Qaj$ h c2 Bf
end
end SG
end
section
set_option maxHeartbeats 4000000
namespace SG
open PySem PySem.Calls PyProof.Rows PySem.W
section
variable {prog:Program}{w:World}{A:Around}{E:Aab}{s:Qdj}{vs:List Value}{κ:SortKind}
def wD{l:Addr}{Q:Aab}{lt:Nat->Nat->Bool}{p:Array Nat}(hl:s.heap.IsList l vs.toArray)(Em:vs.length=64)(QW:way? lt=some p)(CL:p.size=64)
 (hk:∀s0:Qdj,(∀b o,s.heap.get? b=some o->s0.heap.get? b=some o)->∀Q:SortKind->Qdj->Prop,Q κ s0->wpAny (model prog w) A.in1.in1 (keyKind' vs.toArray) Q (λ_ _=>False) s0)
 (hc:∀s0:Qdj,(∀b o,s.heap.get? b=some o->s0.heap.get? b=some o)->∀i j C,i<vs.length->j<vs.length->C (lt i j) s0->kas_ask prog w A.in1.in1 κ vs i j C s0)
 (h:∀h' c,(∀b o,s.heap.get? b=some o->h'.get? b=some o)->h'.get? (s.heap.objs.size+1)=some (seqObj "list" (List.toArray$ p.toList.map λi=>vs.getD i Value.none) c)->Q (.ref$ s.heap.objs.size+1) {s with heap:=h'}) :
 wpAny (model prog w) A (call (.builtin "sorted") [.ref l]) Q E s:=by
 refine Calls.call_function_entry kind_sorted plain_sorted entry_sorted (args_sorted1 _) ?_;refine Qab$ Qaj ?_;refine Qab (collect_list hl ?_$ by rw[Qam];omega)
 refine Qab (wpAny_newList ?_$ by rw[Qam];omega)
 have hsz:((s.heap.push$ seqObj "list" #[] 0).update s.heap.objs.size$ Obj.mapSeq (·++vs.toArray)).objs.size=s.heap.objs.size+1:=by
  rw[Heap.size_update,size_push']
 have hoL:(((s.heap.push$ seqObj "list" #[] 0).update s.heap.objs.size$ Obj.mapSeq (·++vs.toArray)).push$ seqObj "list" vs.toArray 0).get? (s.heap.objs.size+1)=some (seqObj "list" vs.toArray 0):=by
  rw[<-hsz];exact QaF _ rfl
 have keep:∀b o,s.heap.get? b=some o->(((s.heap.push$ seqObj "list" #[] 0).update s.heap.objs.size$ Obj.mapSeq (·++vs.toArray)).push$ seqObj "list" vs.toArray 0).get? b=some o:=λb o q=>by
  have hlt:b<s.heap.objs.size:=Qar q;rw[Qcs _ _ _ (by rw[hsz];exact QaE$ QbS hlt),QbI _ _ _ _$ QaE hlt,Qcs _ _ _$ QaE hlt]
  exact q
 rw[hsz];have keep2:∀(h0:Heap),(∀b o,s.heap.get? b=some o->h0.get? b=some o)->∀b o,s.heap.get? b=some o->(i5 h0 (s.heap.objs.size+1) vs).get? b=some o:=λh0 hk b o q=>by
  have hlt:b<s.heap.objs.size:=Qar q;refine Qac _$ Qac _ ?_;rw[QbI _ _ _ _$ QaE$ QbS hlt];exact hk b o q
 refine Qab$ Qbk$ Qbr slot_list_sort ⟨_,hoL,rfl⟩ entry_list_sort ?body$ args_list_sort _
 case body=>
  refine AK (κ:=κ) hoL Em QW CL (hk _$ keep2 _ keep) (hc _$ keep2 _ keep) λc2 Bf=>?_
  refine⟨_,rfl,Qaj ⟨_,rfl,h _ c2 (λb o q=>?_) Bf⟩⟩
  have hlt:b<s.heap.objs.size:=Qar q;rw[QbI _ _ _ _$ QaE$ QbS hlt];exact keep2 _ keep b o q
end
end SG
namespace L2
open PySem PySem.Spec PyProof.Rows
def y6:List D->R D
 | [.lst ds]=>(match zf ds with
   | some ps=>R.aS (decide$ ps.length=64)$ match SG.way? (λi j=>t5 (ps.getD i (0,[]))$ ps.getD j (0,[])) with | some p=>R.aS (p.toList.all (λi=>decide$ i<ps.length) && decide (p.toList.length=64)) (.ok$ .lst$ p.toList.map λi=>ds.getD i .cI) | none=> .no
   | none=> .no)
 | _=> .no
def pS(ds:List D):R D:=match vx ds with | .no=>y6 ds | r=>r
section
variable {X:Cx}
def Kw(hu:X.A.units+64<cLine):cT X (.builtin "sorted") y6:=by
 intro pins s σ H B ds d xs us I hb rx rs hg;unfold y6 at hg;split at hg
 .split at hg
  .rename_i es ps e;obtain⟨Em,h2⟩:=R.bh hg;have Em:=Qah Em;split at h2
   .rename_i p hp;obtain⟨hal,h3⟩:=R.bh h2;cases h3;obtain⟨hpi,xN⟩:=Qa0.mp hal;have hpi:∀i∈p.toList,i<ps.length:=λi hi=>Qah (Qa6.mp hpi i hi)
    have xN:=Qah xN;obtain⟨x,rfl,r⟩:=rs.one;obtain⟨a,ys,rfl,l,r⟩:=Rep.lst.mp r;obtain⟨u,rfl,ru⟩:=vals1 rx;cases ru;obtain⟨its,n,rv,e1,hz⟩:=I.DA l;obtain⟨q1,q2⟩:=Hg I e r rv;have hl:s.heap.IsList a its.toArray:=⟨_,e1,rfl,n,rfl⟩;have hJ:=vq e;refine SG.wD (κ:=tuples' true) hl (by omega) hp (by rw[<-Qbv];exact xN) (λs0 k Q q=>?_) (λs0 k i j C hi hj q=>?_) λh' c k QH=>?_
    .have kt:∀(vs:List Value) (ps:List (Int × List Int)),vs.length=ps.length->(∀i,i<ps.length->yn s.heap (vs.getD i Value.none) (ps.getD i (0,[])))->∃fs:List Value,fs.length=ps.length/\PySem.W.KatTups s0.heap vs fs/\∀f∈fs,∃z t,f=Value.int z t:=by
      intro vs
      induction vs with
      | nil=>intro ps hl _;cases ps with
        | nil=>exact⟨[],rfl,PySem.W.KatTups.nil,λf hf=>by cases hf⟩
        | cons _ _=>simp at hl
      | cons v vs ih=>intro ps hl CL;cases ps with
        | nil=>simp at hl
        | cons p0 ps=>
          obtain⟨fs,f1,f2,f3⟩:=ih ps (by simpa using hl) λi hi=>by have:=CL (i+1) (by simpa using hi);simpa using this
          obtain⟨x,b,t,n,o,its,ev,h1,h2,h3,tb,ib⟩:=(CL 0$ by simp).keeps k
          subst ev;refine⟨.int p0.1 t ::fs,by simp [f1],PySem.W.KatTups.cons h1 h2 h3 rfl f2,λf hf=>?_⟩
          rcases Qaw.mp hf with rfl | hf
          .exact⟨_,_,rfl⟩
          .exact f3 f hf
     obtain⟨fs,f1,f2,f3⟩:=kt its ps q1 q2;exact PySem.W.kat_kind (T:= .type "int") f2 (by omega) (λv hv=>by obtain⟨z,t,rfl⟩:=f3 v hv;exact PySem.W.Looks.of_pure rfl) rfl q
    .show wpAny _ _ (keyLt' _ (its.getD i Value.none)$ its.getD j Value.none) C _ s0;exact DL (show X.A.units+1+1<cLine by omega) ((q2 i$ by omega).keeps k) ((q2 j$ by omega).keeps k) q
    .have hle:(p.toList.map λi=>ys.getD i .cI).length<=sizeLine:=by
      have hzz:sizeLine=16777216:=Qam;rw[Qaa];omega
     have hrl:=r.length;have MR:∀l:List Nat,(∀i∈l,i<ps.length)->Vals (l.map λi=>ys.getD i .cI) (l.map λi=>its.getD i Value.none):=by
      intro l
      induction l with
      | nil=>intro _;exact .nil
      | cons i l ih=>intro hi;exact .cons (rQ rv i (by have:=hi i Qat;omega))$ ih λj hj=>hi j$ Qag _ hj
     have hn:H (s.heap.objs.size+1)=none:=I.hok.fresh$ QbT _;have I2:=I.laid (t':=s.toks) k (QbT _)$ show dk X.prog X.w _ _ _ (.lst _) from⟨hle,_,c,MR _ hpi,QH⟩
     refine⟨.ref$ s.heap.objs.size+1,_,I2,rfl,aN hn,Rep.lst.mpr ⟨_,_,rfl, .rZ aU λha=>?_,(rK r p.toList λi hi=>by rw[hJ];exact hpi i hi).same (aN hn)⟩⟩
     obtain⟨o,ho⟩:=hb _ ha;rw[hn] at ho;cases ho
   .cases h2
  .cases hg
 .cases hg
def LA(hu:X.A.units+64<cLine):cT X (.builtin "sorted") pS:=by
 intro pins s σ H B ds d xs us I hb rx rs hg;unfold pS at hg;split at hg
 .exact Kw hu pins s σ H B ds d xs us I hb rx rs hg
 .exact LF hu pins s σ H B ds d xs us I hb rx rs hg
end
end L2
end
section
namespace NT
noncomputable def mx(f:Nat->Nat)(w:List Nat):Nat:=(w.map f).foldl max 0
structure BA (f:Nat->Nat) (M:Nat) (bs:List Int):Prop where
 a:∀(z:Nat) (v:Int),bs[z]? =some v->v= -1\/(0<=v/\v+f z<=M)
def BB(f:Nat->Nat)(M:Nat)(bs:List Int)(n:Nat):Prop:=∃(z:Nat) (v:Int),z<n/\bs[z]? =some v/\0<=v/\(M:Int)<=v+f z
def Up(bs Zi:List Int):Prop:=Zi.length=bs.length/\∀(z:Nat) (v:Int),bs[z]? =some v->∃v',Zi[z]? =some v'/\v<=v'
end NT
namespace NT
open PySem PySem.Spec PyProof.Rows L2 L3
structure Gt where
 k:Str
 w:List Nat
 s:Bool
noncomputable def nN(z:Nat):D:= .int z
def wN(w:List Nat):D:= .tup$ w.map nN
def gN(g:Gt):D:= .tup [.str g.k,wN g.w, .bl g.s]
noncomputable def iN(x:Str × Nat):D:= .tup [.str x.1, .int x.2]
def oN(x:Str × List Nat):D:= .tup [.str x.1,wN x.2]
structure Net where
 i:Aac
 g:List Gt
 o:Aad
def Net.d(n:Net):D:= .tup [.lst$ n.i.map iN, .lst$ n.g.map gN, .lst$ n.o.map oN]
noncomputable def Net.first(n:Net):Nat:=(n.i.map (·.2)).sum
structure X7 (n:Nat) (w:List Nat):Prop where
 ne:w≠[]
 le:w.length<=3
 lt:∀z∈w,z<n
structure Net.Ok (n:Net):Prop where
 i1:1<=n.i.length
 i6:n.i.length<=6
 iw:∀x∈n.i,1<=x.2/\x.2<=3
 is:∀x∈n.i,fF 0 (.str x.1)
 g60:n.g.length<=60
 gw:∀(p:Nat) (g:Gt),n.g[p]? =some g->X7 (n.first+p) g.w
 gs:∀g∈n.g,fF 0 (.str g.k)
 o1:1<=n.o.length
 o6:n.o.length<=6
 ow:∀x∈n.o,X7 (n.first+n.g.length) x.2
 os:∀x∈n.o,fF 0 (.str x.1)
inductive Sm:Nat->D->Prop where
 | int (n:Nat) (i:Int):Sm n (.int i)
 | bl (n:Nat) (b:Bool):Sm n (.bl b)
 | str (n:Nat) (s:Str):Sm n (.str s)
 | lst {n:Nat} {ds:List D} (h:∀d∈ds,Sm n d) (hl:ds.length<=1000000):Sm (n+1) (.lst ds)
 | tup {n:Nat} {ds:List D} (h:∀d∈ds,Sm n d) (hl:ds.length<=1000000):Sm (n+1) (.tup ds)
def jl{F G:FS}{δ:av}{d:D}(h:F δ= .ok (.rt d)):dw F G δ= .ok (.rt d):=by unfold dw;rw [h];rfl
def OC{m i:Nat}{v:V3}(h:((jj 0 m).map V3.d)[i]? =some v):i<m/\v= .d (.int i):=by
 rw[Qaf,jj,Qaf] at h;cases q:(List.range m)[i]? with
 | none=>rw [q] at h;cases h
 | some j=>
   rw[q] at h;cases h;obtain⟨q1,q2⟩:=Qae.mp q;rw[Qap] at q1;subst q2;exact⟨q1,by simp⟩
def aR(S:a_)(x:SO):(S++[x])[S.length]? =some x:=by rw[Qal$ Qai _,Qbl];rfl
def ia{α:Type}{l:List α}{f:α->D}{i:Nat}{v:V3}(h:((l.map f).map V3.d)[i]? =some v):∃x,l[i]? =some x/\v= .d (f x):=by
 rw[Qaf,Qaf] at h;cases q:l[i]? with
 | none=>rw [q] at h;cases h
 | some x=>rw [q] at h;cases h;exact⟨x,rfl,rfl⟩
def qF{α:Type}{l:List α}{f:α->D}{i:Nat}{v:D}(h:(l.map f)[i]? =some v):∃x,l[i]? =some x/\v=f x:=by
 rw[Qaf] at h;cases q:l[i]? with
 | none=>rw [q] at h;cases h
 | some x=>rw [q] at h;cases h;exact⟨x,rfl,rfl⟩
theorem bE{α:Type}{t:FT}{c:av->R Bool}{f:FD}{δ:av}(a b:α->D):∀{xs:List α},(∀x∈xs,∃c_,t (a x) δ= .ok c_/\c c_= .ok true/\f c_= .ok (b x))->pd t c f δ (xs.map a)= .ok (xs.map b)
 | [],_=>rfl
 | x ::xs,h=>by
   obtain⟨c_,h1,h2,h3⟩:=h x Qat;have ih:=bE (δ:=δ) a b λy hy=>h y$ Qag _ hy
   rw[QaO];unfold pd;rw[h1,R.aX,h2,R.aX,QaG rfl,h3,R.aX,ih];rfl
theorem jE{α:Type}{t:FT}{c:av->R Bool}{f:FD}{δ:av}(p:α->Bool)(a b:α->D):∀{xs:List α},(∀x∈xs,∃c_,t (a x) δ= .ok c_/\c c_= .ok (p x)/\(p x=true->f c_= .ok (b x)))->pd t c f δ (xs.map a)= .ok ((xs.filter p).map b)
 | [],_=>rfl
 | x ::xs,h=>by
   obtain⟨c_,h1,h2,h3⟩:=h x Qat;have ih:=jE (δ:=δ) p a b λy hy=>h y$ Qag _ hy
   rw[QaO];unfold pd;rw[h1,R.aX,h2,R.aX];cases e:p x with
   | true=>rw [QaG rfl,h3 e,R.aX,ih,List.filter_cons,QaG e];rfl
   | false=>rw [QaA (by decide),ih,List.filter_cons,QaA$ by rw[e];decide]
def DM{n z:Nat}(h:z<n):Dh n (z:Int)=some z:=by
 unfold Dh;rw[QaG (by omega),QaG$ by omega]
 simp
def Ao{α:Type}{xs:List α}{z:Nat}{x:α}(h:xs[z]? =some x):vz xs (z:Int)=some x:=by
 have hl:=(Qae.mp h).1;unfold vz;rw[DM hl];exact h
def gA{ds:List D}{z:Nat}{x:D}(h:ds[z]? =some x):cb (.lst ds) (.int z)= .ok x:=rH$ Ao h
def yq{ds:List D}{z:Nat}{x:D}(h:ds[z]? =some x):cb (.tup ds) (.int z)= .ok x:=uw$ Ao h
end NT
end
section
namespace MT
open PySem PySem.Spec PyProof.Rows L2 L3
abbrev M:=Nat->Bool
def U9{N:List Str}{F:FZ}{vs:List V3}{δ:DE}{S:a_}{QV:V3->a_->Prop}(e:df N vs=δ)(h:W3 (F δ S) λo S1=>∃d5,o= .nx d5/\QV (.d .cI) S1):W3 (qj N F vs S) QV:=by
 subst e;exact W3.bind (h.mono λ_ _ ⟨_,e,q⟩=>by subst e;exact W3.ok q)
noncomputable def jQ:Nat->M->Nat
 | 0,_=>0
 | N+1,f=>(if f 0 then 1 else 0)+2*jQ N (λi=>f$ i+1)
theorem iF:∀(N:Nat) (f:M) (i:Nat),(jQ N f).testBit i=(decide (i<N) && f i)
 | 0,f,i=>by unfold jQ;simp
 | N+1,f,0=>by
   unfold jQ;cases f 0 <;> simp <;> omega
 | N+1,f,i+1=>by
   unfold jQ;rw[Nat.testBit_succ];have:((if f 0=true then 1 else 0)+2*jQ N λi=>f$ i+1) / 2=jQ N λi=>f (i+1):=by split <;> omega
   rw[this,iF N _ i];simp
theorem oE:∀{N:Nat} {f g:M},(∀i,i<N->f i=g i)->jQ N f=jQ N g
 | 0,_,_,_=>rfl
 | N+1,f,g,h=>by
   unfold jQ;rw[h 0 (by omega),oE λi hi=>h (i+1)$ by omega]
def Dk(N:Nat)(f g:M):jQ N f &&& jQ N g=jQ N λi=>f i && g i:=by
 refine QcN λi=>?_
 rw[Nat.testBit_and,iF,iF,iF];cases decide (i<N) <;> simp
def IT(N:Nat)(f g:M):jQ N f ||| jQ N g=jQ N λi=>f i || g i:=by
 refine QcN λi=>?_
 rw[Nat.testBit_or,iF,iF,iF];cases decide (i<N) <;> simp
theorem DS:∀(N:Nat) (f g:M),((jQ N λi=>f i || g i:Nat):Int) - (jQ N λi=>f i && g i:Nat)=(jQ N λi=>f i !=g i:Nat)
 | 0,f,g=>rfl
 | N+1,f,g=>by
   have ih:=DS N (λi=>f$ i+1)$ λi=>g$ i+1
   have e:∀h:M,jQ (N+1) h=(if h 0 then 1 else 0)+2*jQ N (λi=>h$ i+1):=λ_=>rfl
   rw[e,e,e];generalize jQ N (λi=>f (i+1) || g (i+1))=a at ih ⊢
   generalize jQ N (λi=>f (i+1) && g (i+1))=b at ih ⊢
   generalize jQ N (λi=>f (i+1) !=g (i+1))=c at ih ⊢
   cases f 0 <;> cases g 0 <;> simp <;> omega
def qX(x y:Nat):Builtin.bitAnd (x:Int) (y:Int)=((x &&& y:Nat):Int):=by
 unfold Builtin.bitAnd;simp
def D8(x y:Nat):Builtin.bitOr (x:Int) (y:Int)=((x ||| y:Nat):Int):=by
 unfold Builtin.bitOr Builtin.bitAnd Builtin.bitNot;rw[Qax (by omega:¬(0:Int)<= -(x:Int) - 1),Qax (by omega:¬(0:Int)<= -(y:Int) - 1)]
 show -(-(((-(-(x:Int) - 1) - 1).toNat ||| (-(-(y:Int) - 1) - 1).toNat:Nat):Int) - 1) - 1=_
 rw[show(-(-(x:Int) - 1) - 1).toNat=x by omega,show(-(-(y:Int) - 1) - 1).toNat=y by omega]
 omega
def mI(N:Nat)(f:M):D:= .int (jQ N f:Nat)
def qy{N:Nat}{f g:M}(h:∀i,i<N->f i=g i):mI N f=mI N g:=by unfold mI;rw [oE h]
def vC(N:Nat)(f g:M):IV (mI N f) (mI N g)= .ok (mI N λi=>f i && g i):=by
 show R.ok (D.int$ Builtin.bitAnd (jQ N f:Int) (jQ N g:Int))=_;rw[qX,Dk];rfl
def A7(N:Nat)(f g:M):Ni (mI N f) (mI N g)= .ok (mI N λi=>f i || g i):=by
 show R.ok (D.int$ Builtin.bitOr (jQ N f:Int) (jQ N g:Int))=_;rw[D8,IT];rfl
def vG(N:Nat)(f g:M):Ff (mI N f) (mI N g)= .ok (mI N λi=>f i !=g i):=by
 show R.ok (D.int$ Builtin.bitOr (jQ N f:Int) (jQ N g:Int) - Builtin.bitAnd (jQ N f:Int) (jQ N g:Int))=_;rw[D8,qX,IT,Dk,DS];rfl
noncomputable def one:M:=λ_=>true
def Nn(N:Nat)(f:M):Ff (mI N one) (mI N f)= .ok (mI N λi=>!f i):=by
 rw[vG];have:(λi=>one i !=f i)=λi=>!f i:=by funext i;unfold one;simp
 rw[this]
def Jn(N:Nat)(f:M)(c:Bool):(if c then Ff (mI N one) (mI N f) else .ok (mI N f))= .ok (mI N λi=>f i !=c):=by
 cases c with
 | true=>
   rw[QaG rfl,Nn];have:(λi=>!f i)=λi=>f i !=true:=by funext i;cases f i <;> rfl
   rw[this]
 | false=>
   rw[QaA$ by decide]
   have:f=λi=>f i !=false:=by funext i;cases f i <;> rfl
   rw[<-this]
def z0{N:Nat}{f:M}:jQ N f=0↔∀i,i<N->f i=false:=by
 constructor
 .intro h i hi;have:=iF N f i;rw[h,Nat.zero_testBit,Qan hi,Bool.true_and] at this;exact this.symm
 .intro h;refine QcN λi=>?_
  rw[iF,Nat.zero_testBit];by_cases q:i<N
  .rw [h i q];simp
  .rw [Qax q];rfl
def R8(N:Nat)(f:M)(n:Nat):(AJ (mI N f)$ .int n).bind (λd=>IV d$ .int 1)= .ok (.int$ if decide (n<N) && f n then 1 else 0):=by
 have h1:AJ (mI N f) (.int n)= .ok (.int ((jQ N f / 2 ^ n:Nat):Int)):=by
  show R.aS (decide$ (0:Int)<=n) (.ok$ D.int$ (jQ N f:Int) / 2 ^ ((n:Int)).toNat)=_;congr 2
 show R.ok (D.int$ Builtin.bitAnd ((jQ N f / 2 ^ n:Nat):Int) ((1:Nat):Int))=_;rw[qX,Nat.and_one_is_mod,<-iF];congr 2;unfold Nat.testBit;rw[Nat.shiftRight_eq_div_pow,Nat.one_and_eq_mod_two];have:jQ N f / 2 ^ n % 2=0\/jQ N f / 2 ^ n % 2=1:=by omega
 rcases this with q | q <;> rw[q] <;> rfl
noncomputable def bI(b:Bool):D:= .int$ if b then 1 else 0
noncomputable def Kf:List Bool->Nat
 | []=>0
 | b ::bs=>(if b then 1 else 0)+2*Kf bs
theorem GL:∀bs:List Bool,Kf bs=jQ bs.length λi=>bs.getD i false
 | []=>rfl
 | b ::bs=>by
   unfold Kf;rw[GL bs];rfl
noncomputable def nI(n:Nat):D:= .int (n:Int)
noncomputable def kS:Nat->Str | 0=>"not" | 1=>"and" | 2=>"or" | 3=>"xor" | _=>"vote"
noncomputable def ar:Nat->Nat | 0=>1 | 4=>3 | _=>2
def G4(k:Nat):ar k<=3:=by unfold ar;split <;> omega
noncomputable def gv:Nat->List Bool->Bool
 | 0,[a]=>!a
 | 1,[a,b]=>a && b
 | 2,[a,b]=>a || b
 | 3,[a,b]=>a !=b
 | 4,[a,b,c]=>(a && b) || (a && c) || (b && c)
 | _,_=>false
noncomputable def jR(ws:List M)(n:Nat):M:=ws.getD n λ_=>false
abbrev Gt:=Nat × List Nat × Bool
def fK(g:Gt):D:= .tup [.str$ kS g.1, .tup$ g.2.1.map nI, .bl g.2.2]
def oK(n:Nat)(g:Gt):Prop:=g.1<=4/\g.2.1.length=ar g.1/\∀w∈g.2.1,w<n
def inD(x:Str × Nat):D:= .tup [.str x.1,nI x.2]
def qi(x:Str × List Nat):D:= .tup [.str x.1, .tup$ x.2.map nI]
def cJ(ins:Aac)(gs:List Gt)(os:Aad):D:= .tup [.lst$ ins.map inD, .lst$ gs.map fK, .lst$ os.map qi]
noncomputable def zr(ins:Aac):Nat:=(ins.map (·.2)).sum
def gF(g:Gt)(ws:List M):M:=λp=>gv g.1$ g.2.1.map λn=>jR ws n p
noncomputable def oX(bad:List Int)(b:M):Nat->List M->List M
 | 0,ws=>ws
 | n+1,ws=>oX bad b n ws++[λp=>b p !=bad.contains ((oX bad b n ws).length:Int)]
theorem lN(bad:List Int)(b:M):∀n ws,(oX bad b n ws).length=ws.length+n
 | 0,ws=>rfl
 | n+1,ws=>by unfold oX;rw [Qau,lN bad b n ws];rfl
noncomputable def kz(ins:Aac)(bits:List M)(bad:List Int):Nat->List M
 | 0=>[]
 | i+1=>match ins[i]?,bits[i]? with | some x,some b=>oX bad b x.2 (kz ins bits bad i) | _,_=>kz ins bits bad i
theorem qD{ins:Aac}{bits:List M}{bad:List Int}(hb:bits.length=ins.length):∀i,i<=ins.length->(kz ins bits bad i).length=zr (ins.take i)
 | 0,_=>rfl
 | i+1,hi=>by
   have h1:ins[i]? =some ins[i]:=Qad (by omega)
   have h2:bits[i]? =some bits[i]:=Qad (by omega)
   unfold kz;rw[h1,h2];rw[lN,qD hb i (by omega),QaN,h1]
   unfold zr;simp only[Option.toList_some,QaH,List.sum_append,QaO,QcE,Qcw,List.sum_nil];omega
noncomputable def BL(gs:List Gt)(turned:List Int)(w0:List M):Nat->List M
 | 0=>w0
 | i+1=>match gs[i]? with | some g=>BL gs turned w0 i++[λp=>gF g (BL gs turned w0 i) p !=turned.contains (i:Int)] | none=>BL gs turned w0 i
theorem za{gs:List Gt}{turned:List Int}{w0:List M}:∀i,i<=gs.length->(BL gs turned w0 i).length=w0.length+i
 | 0,_=>rfl
 | i+1,hi=>by
   have h1:gs[i]? =some gs[i]:=Qad (by omega)
   unfold BL;rw[h1];rw[Qau,za i$ by omega]
   rfl
structure qI (ins:Aac) (gs:List Gt) (os:Aad):Prop where
 hi:ins.length<100
 hw:∀x∈ins,x.2<100
 hg:gs.length<1000
 g:∀(i:Nat) (x:Gt),gs[i]? =some x->oK (zr ins+i) x
 ho:os.length<1000
 o:∀x∈os,x.2.length<1000/\∀w∈x.2,w<zr ins+gs.length
def Fh(ins:Aac)(gs:List Gt)(bits:List M)(turned bad:List Int):List M:=BL gs turned (kz ins bits bad ins.length) gs.length
theorem xV:∀{l:Aac},(∀x∈l,x.2<100)->zr l<=100*l.length
 | [],_=>by simp [zr]
 | x ::l,h=>by
   have ih:=xV λy hy=>h y$ Qag _ hy
   have:=h x Qat;unfold zr at ih ⊢;rw[QaO,Qcw,QaB];omega
def Jj{ins:Aac}{gs:List Gt}{bits:List M}{turned bad:List Int}(hb:bits.length=ins.length):(Fh ins gs bits turned bad).length=zr ins+gs.length:=by unfold Fh;rw [za _$ Qai _,qD hb _$ Qai _,QaX]
def tell(ws:List M)(x:Str × List Nat):List M:=x.2.map$ jR ws
noncomputable def rd2:List Bool->Bool × Bool
 | [a]=>(!a,a)
 | [a,b]=>(!(a || b),a && b)
 | [a,b,c]=>let v:=(a && b) || (a && c) || (b && c);(!v,v)
 | _=>(false,false)
noncomputable def brk(safe:Bool)(x y:Bool × Bool):Bool:=if safe then(x.1 && y.2) || (x.2 && y.1) else(x.1 !=y.1) || (x.2 !=y.2)
def yy(i:Int)(ps:List Int):MZ (.int i) (.tup$ ps.map .int)= .ok (.bl$ ps.contains i):=by
 show((match ints? (ps.map D.int) with | some ss=>R.ok (ss.contains i) | none=> .no)).bind (λb=>R.ok$ D.bl b)=_
 rw[L2.ints_map];rfl
def D2{ds:List D}{i:Nat}{v:V3}(h:((eR ds).map V3.d)[i]? =some v):∃d,ds[i]? =some d/\v= .d (.tup [.int i,d]):=by
 rw[Qaf,eR,Qaf,QbC] at h;cases q:ds[i]? with
 | none=>rw [q] at h;cases h
 | some d=>
   rw[q] at h;simp at h;exact⟨d,rfl,h.symm⟩
def Ib{c:av->R Bool}{δ:av}{b:Bool}{r:R D}(h:c δ= .ok b)(h2:(if b then f δ else g δ)=r):Rb c f g δ=r:=by unfold Rb;rw [h,R.aX];exact h2
def cZ(S:a_)(x y:SO):(S++[x]).set S.length y=S++[y]:=by
 rw[QcC _ _$ Qai _,Qbl];rfl
def aR(S:a_)(x:SO):(S++[x])[S.length]? =some x:=by rw[Qal$ Qai _,Qbl];rfl
def Oy{N:Nat}{ws:List M}{n:Nat}(h:n<ws.length):cb (.lst$ ws.map$ mI N) (nI n)= .ok (mI N$ jR ws n):=by
 refine NT.gA ?_;rw[Qaf,Qad h];unfold jR;rw[Qak,Qad h];rfl
def jA{α:Type}{t:FG}{body:FZ}{S:a_}(g:α->V3)(f:α->Option V3)(E:DE->Prop):∀{xs:List α} {δ:DE},E δ->
 (∀x∈xs,∀δ,E δ->∃c_,t (g x) δ=some c_/\W3 (body c_ S) λo S1=>S1=S/\(match f x with | some v=>o= .rt v | none=>∃du,o= .nx du/\E du))->
 W3 (nG t body (xs.map g) δ S) λo S1=>S1=S/\(match xs.findSome? f with | some v=>o= .rt v | none=>∃du,o= .nx du/\E du)
 | [],δ,h0,_=>W3.ok ⟨rfl,δ,rfl,h0⟩
 | x ::xs,δ,h0,hs=>by
   obtain⟨c_,e1,o,S1,e2,rfl,h2⟩:=hs x Qat δ h0;rw[QaO];unfold nG;rw[e1];refine W3.bind ⟨_,_,e2,?_⟩;rw[QbU];cases hf:f x with
   | some v=>rw [hf] at h2;subst h2;exact W3.ok ⟨rfl,rfl⟩
   | none=>
     rw[hf] at h2;obtain⟨du,rfl,h2⟩:=h2;exact jA g f E h2 λy hy=>hs y$ Qag _ hy
def vn{α:Type}{t:FT}{body:FS}(g:α->D)(f:α->Option D)(E:av->Prop):∀{xs:List α} {δ:av},E δ->
 (∀x∈xs,∀δ,E δ->∃o,((t (g x) δ).bind body)= .ok o/\(match f x with | some v=>o= .rt v | none=>∃du,o= .nx du/\E du))->
 ∃o,o8 t body (xs.map g) δ= .ok o/\(match xs.findSome? f with | some v=>o= .rt v | none=>∃du,o= .nx du/\E du)
 | [],δ,h0,_=>⟨_,rfl,δ,rfl,h0⟩
 | x ::xs,δ,h0,hs=>by
   obtain⟨o,e2,h2⟩:=hs x Qat δ h0;rw[QaO];unfold o8;cases e3:t (g x) δ with
   | no=>rw [e3] at e2;cases e2
   | ex _=>rw [e3] at e2;cases e2
   | ok c_=>
     rw[e3,R.aX] at e2;rw[R.aX,e2,R.aX,QbU];cases hf:f x with
     | some v=>rw [hf] at h2;subst h2;exact⟨_,rfl,rfl⟩
     | none=>
       rw[hf] at h2;obtain⟨du,rfl,h2⟩:=h2;exact vn g f E h2 λy hy=>hs y$ Qag _ hy
noncomputable def chs:List Nat->Nat->Aae
 | _,0=>[[]]
 | ps,s+1=>(List.range ps.length).flatMap λa=>(chs (ps.drop$ a+1) s).map (ps.getD a 0 ::·)
theorem uJ:∀{l:List Nat} {m:Nat},(∀x∈l,x<=m)->l.sum<=l.length*m
 | [],_,_=>by simp
 | x ::l,m,h=>by
   have:=uJ λy hy=>h y$ Qag _ hy
   have h0:=h x Qat;rw[Qcw,QaB,Nat.add_mul];omega
def Bk{F G:FZ}{δ:DE}{S:a_}{QO:Ou->a_->Prop}(h:W3 (F δ S) λo S1=>match o with | .nx c_=>W3 (G c_ S1) QO | .rt v=>QO (.rt v) S1):W3 (bN F G δ S) QO:=
 W3.bind (h.mono λo S1 q=>by cases o with | nx c_=>exact q | rt v=>exact W3.ok q)
end MT
end
section
set_option maxHeartbeats 1000000
namespace JT
open PySem PySem.Spec PyProof.Rows L2 L3 MT
def gB(g:Gt)(ws:List Bool):Bool:=gv g.1$ g.2.1.map λn=>ws.getD n false
noncomputable def i8:List Gt->(Nat->Bool)->List Bool->List Bool
 | [],_,ws=>ws
 | g ::gs,T,ws=>i8 gs (λi=>T$ i+1)$ ws++[gB g ws !=T 0]
def xm(g:Gt)(gs:List Gt)(T:Nat->Bool)(ws:List Bool):i8 (g ::gs) T ws=i8 gs (λi=>T$ i+1) (ws++[gB g ws !=T 0]):=rfl
theorem uM:∀(gs:List Gt) (T:Nat->Bool) (ws:List Bool),(i8 gs T ws).length=ws.length+gs.length
 | [],_,_=>rfl
 | g ::gs,T,ws=>by
   unfold i8;rw[uM gs,Qau];simp;omega
theorem uz:∀(a b:List Gt) (T:Nat->Bool) (ws:List Bool),i8 (a++b) T ws=i8 b (λi=>T$ a.length+i) (i8 a T ws)
 | [],b,T,ws=>by simp [i8]
 | g ::a,b,T,ws=>by
   rw[QaM,xm,xm,uz a b];have:(λi=>T$ a.length+i+1)=λi=>T ((g ::a).length+i):=by
    funext i;rw[QaB];congr 1;omega
   rw[this]
noncomputable def SR(f:Nat->Nat)(g:Gt):Gt:=(g.1,g.2.1.map f,g.2.2)
noncomputable def ZV(f:Nat->Nat)(x:Str × List Nat):Str × List Nat:=(x.1,x.2.map f)
def Sh(f:Nat->Nat)(v ws:List Bool):Prop:=∀w,w<v.length->f w<ws.length/\ws.getD (f w) false=v.getD w false
noncomputable def jV(p:Nat)(ws:List M):List Bool:=ws.map (· p)
def uk{p:Nat}{ws:List M}{n:Nat}:(jV p ws).getD n false=jR ws n p:=by
 unfold jV jR;rw[Qak,Qaf,Qak];cases ws[n]? <;> rfl
def RW{p:Nat}{g:Gt}{ws:List M}:gF g ws p=gB g (jV p ws):=by
 unfold gF gB;congr 1;exact Qca λn _=>uk.symm
theorem Hq{p:Nat}{gs:List Gt}{turned:List Int}{w0:List M}:∀i,i<=gs.length->jV p (BL gs turned w0 i)=i8 (gs.take i) (λj=>turned.contains (j:Int)) (jV p w0)
 | 0,_=>by simp [BL,i8]
 | i+1,h=>by
   have h1:gs[i]? =some gs[i]:=Qad (by omega)
   unfold BL;rw[h1];rw[QaN,h1,uz,<-Hq i (by omega),QaK,QbD$ by omega]
   unfold jV;rw[QaH];show _++[gF gs[i] (BL gs turned w0 i) p !=turned.contains (i:Int)]=_;rw[RW];rfl
noncomputable def oZ:List (Str × Nat)->List Bool->List Bool
 | x ::ins,b ::bits=>List.replicate x.2 b++oZ ins bits
 | _,_=>[]
def vD(i:Str × Nat)(b:Bool)(a:Aac)(x:List Bool):oZ (i ::a) (b ::x)=List.replicate i.2 b++oZ a x:=rfl
noncomputable def dA(k:Nat)(bad:Nat->Bool):List Bool->List Bool
 | []=>[]
 | b ::bs=>(b !=bad k) ::dA (k+1) bad bs
def uE(bad:Nat->Bool)(k:Nat)(b:Bool)(bs:List Bool):dA k bad (b ::bs)=(b !=bad k) ::dA (k+1) bad bs:=rfl
theorem rW(bad:Nat->Bool):∀(k:Nat) (bs:List Bool),(dA k bad bs).length=bs.length
 | _,[]=>rfl
 | k,b ::bs=>by unfold dA;rw [QaB,rW bad (k+1) bs,QaB]
theorem lu(bad:Nat->Bool):∀(k:Nat) (a b:List Bool),dA k bad (a++b)=dA k bad a++dA (k+a.length) bad b
 | k,[],b=>by simp [dA]
 | k,x ::a,b=>by
   rw[QaM,uE,uE,lu bad (k+1) a b,QaB,QaM,show k+1+a.length=k+(a.length+1) by omega]
theorem Ap{bad:Nat->Bool}:∀(k:Nat) (bs:List Bool),(∀n,n<bs.length->bad (k+n)=false)->dA k bad bs=bs
 | _,[],_=>rfl
 | k,b ::bs,h=>by
   unfold dA;rw[Ap (k+1) bs λn hn=>by have:=h (n+1) (by simpa using hn);rw [show k+1+n=k+(n+1) by omega];exact this]
   have:=h 0 (by simp)
   rw[Nat.add_zero] at this;rw[this];cases b <;> rfl
theorem yV:∀{a:Aac} {x:List Bool} (b:Aac) (y:List Bool),a.length=x.length->oZ (a++b) (x++y)=oZ a x++oZ b y
 | [],[],b,y,_=>rfl
 | [],_ ::_,_,_,h=>by simp at h
 | _ ::_,[],_,_,h=>by simp at h
 | i ::a,b0 ::x,b,y,h=>by
   rw[QaM,QaM,vD,vD,yV b y (by simpa using h),QaR]
theorem um:∀{a:Aac} {x:List Bool},a.length=x.length->(oZ a x).length=zr a
 | [],[],_=>rfl
 | [],_ ::_,h=>by simp at h
 | _ ::_,[],h=>by simp at h
 | i ::a,b ::x,h=>by
   unfold oZ;rw[Qau,QaJ,um$ by simpa using h]
   unfold zr;rw[QaO,Qcw]
theorem zM{p:Nat}{bad:List Int}{b:M}:∀(n:Nat) (ws:List M),jV p (oX bad b n ws)=jV p ws++dA ws.length (λk=>bad.contains (k:Int)) (List.replicate n$ b p)
 | 0,ws=>by simp [oX,dA]
 | n+1,ws=>by
   unfold oX jV;rw[QaH];have ih:=zM (p:=p) (bad:=bad) (b:=b) n ws;unfold jV at ih;rw[ih,QaR,List.replicate_succ',lu,QaJ,lN];rfl
theorem Df{p:Nat}{ins:Aac}{bits:List M}{bad:List Int}(hb:bits.length=ins.length):∀i,i<=ins.length->jV p (kz ins bits bad i)=dA 0 (λk=>bad.contains (k:Int)) (oZ (ins.take i)$ (jV p bits).take i)
 | 0,_=>by simp [kz,oZ,dA,jV]
 | i+1,h=>by
   have h1:ins[i]? =some ins[i]:=Qad (by omega)
   have h2:bits[i]? =some bits[i]:=Qad (by omega)
   unfold kz;rw[h1,h2];have h3:(jV p bits)[i]? =some (bits[i] p):=by unfold jV;rw [Qaf,h2];rfl
   have hl:(ins.take i).length=((jV p bits).take i).length:=by unfold jV;rw [QaK,QaK,Qaa,hb]
   rw[zM,Df hb i (by omega),QaN,QaN,h1,h3,qD hb i$ by omega]
   rw[yV _ _ hl,lu,um hl,QcH];congr 2;simp [oZ]
def nJ(ins:Aac)(gs:List Gt)(bits:List Bool)(T bad:Nat->Bool):List Bool:=i8 gs T$ dA 0 bad$ oZ ins bits
def Lo{p:Nat}{ins:Aac}{gs:List Gt}{bits:List M}{turned bad:List Int}(hb:bits.length=ins.length):jV p (Fh ins gs bits turned bad)=nJ ins gs (jV p bits) (λi=>turned.contains (i:Int)) (λi=>bad.contains (i:Int)):=by
 unfold Fh nJ;rw[Hq _$ Qai _,QaX,Df hb _$ Qai _,QaX];congr 3;unfold jV;rw[QaU$ by rw[Qaa];omega]
noncomputable def cE(ws:List Bool)(ns:List Nat):List Bool:=ns.map λn=>ws.getD n false
noncomputable def GC(f:Nat->List Bool):List (Option Nat × Nat)->List Bool->List Bool
 | [],_=>[]
 | (some o,_) ::r,l=>f o++GC f r l
 | (none,w) ::r,l=>l.take w++GC f r (l.drop w)
noncomputable def Lg(f1:Nat->Nat)(os:Nat->List Nat):List (Option Nat × Nat)->Nat->List Nat
 | [],_=>[]
 | (some o,_) ::r,free=>(os o).map f1++Lg f1 os r free
 | (none,w) ::r,free=>List.range' free w++Lg f1 os r (free+w)
noncomputable def uV:List (Option Nat × Nat)->Nat
 | []=>0
 | (some _,_) ::r=>uV r
 | (none,w) ::r=>w+uV r
noncomputable def Vc(n1 l w:Nat):Nat:=if w<n1 then w else w+l
noncomputable def Yr(L:List Nat)(top w:Nat):Nat:=if w<L.length then L.getD w 0 else top+(w - L.length)
section
variable {gs1 Rq:List Gt}{φ:List (Option Nat × Nat)}{os:Nat->List Nat}{n1:Nat}
def gJ(gs1 Rq:List Gt)(φ:List (Option Nat × Nat))(os:Nat->List Nat)(n1:Nat):List Gt:=
 gs1.map (SR$ Vc n1$ uV φ)++Rq.map (SR$ Yr (Lg (Vc n1$ uV φ) os φ n1)$ n1+uV φ+gs1.length)
end
noncomputable def Oq(bits:List Bool):List Bool:=bits.flatMap$ List.replicate 3
noncomputable def X3:List Bool->Bool
 | [a,b,c]=>(a && b) || (a && c) || (b && c)
 | _=>false
noncomputable def z_:List Bool->Bool
 | [a,b,c]=>(a !=b) || (a !=c)
 | _=>false
noncomputable def dif(xs ys:List Bool):List Bool:=List.zipWith (· !=·) xs ys
def lst(xs ys:List Bool):Bool:=X3$ dif xs ys
def Td:List Bool->List Bool->Prop
 | [],r=>r=[]
 | b ::bs,r=>∃x y z r',r=x ::y ::z ::r'/\X3 [b !=x,b !=y,b !=z]=false/\Td bs r'
noncomputable def no:Nat->Bool:=λ_=>false
structure ZX (c:Nat) (gs:List Gt) (os:Aad):Prop where
 a:∀bits:List Bool,bits.length=c->∀x∈os,z_ (cE (i8 gs no (Oq bits)) x.2)=false
 b:∀bits:List Bool,bits.length=c->∀i g,gs[i]? =some g->g.2.2=false->∀x∈os,lst (cE (i8 gs no (Oq bits)) x.2) (cE (i8 gs (fun j=>j==i) (Oq bits)) x.2)=false
 c:∀bits row:List Bool,bits.length=c->Td bits row->∀x∈os,lst (cE (i8 gs no (Oq bits)) x.2) (cE (i8 gs no row) x.2)=false
def IJ{xs:List Bool}(hl:xs.length=3):lst xs xs=false:=by
 match xs,hl with
 | [a,b,c],_=>cases a <;> cases b <;> cases c <;> rfl
noncomputable def DG(v:Nat->Bool):List (Option Nat × Nat)->List Bool->List Bool
 | [],_=>[]
 | (some o,_) ::r,l=>v o ::DG v r l
 | (none,_) ::r,l=>l.headD false ::DG v r l.tail
noncomputable def many:List (Option Nat × Nat)->Nat
 | []=>0
 | (some _,_) ::r=>many r
 | (none,_) ::r=>many r+1
structure Jnd (c1:Nat) (gs1 Rq:List Gt) (Bd UX:Aad) (φ:List (Option Nat × Nat)) (os:Nat->List Nat):Prop where
 h3:∀x∈φ,x.2=3
 g1:∀i g,gs1[i]? =some g->∀w∈g.2.1,w<3*c1+i
 g2:∀i g,Rq[i]? =some g->∀w∈g.2.1,w<3*φ.length+i
 o1:∀x∈Bd,x.2.length=3/\∀n∈x.2,n<3*c1+gs1.length
 o2:∀x∈UX,x.2.length=3/\∀n∈x.2,n<3*φ.length+Rq.length
 ho:∀o w,(some o,w)∈φ->∃x∈Bd,x.2=os o
section
variable {c1:Nat}{gs1:List Gt}{Bd UX Zd:Aad}{φ:List (Option Nat × Nat)}{os:Nat->List Nat}
abbrev Yx(c1:Nat)(φ:List (Option Nat × Nat)):Nat->Nat:=Vc (3*c1)$ uV φ
abbrev Jf2(c1:Nat)(gs1:List Gt)(φ:List (Option Nat × Nat))(os:Nat->List Nat):Nat->Nat:=Yr (Lg (Yx c1 φ) os φ$ 3*c1)$ 3*c1+uV φ+gs1.length
def YW(c1:Nat)(gs1:List Gt)(Bd UX Zd:Aad)(φ:List (Option Nat × Nat))(os:Nat->List Nat):Prop:=
 ∀x∈Zd,(∃y∈Bd,x.2=y.2.map (Yx c1 φ))\/∃y∈UX,x.2=y.2.map (Jf2 c1 gs1 φ os)
def Jb(ws:List Bool)(ns:List Nat):(cE ws ns).length=ns.length:=by unfold cE;rw [Qaa]
end
noncomputable def dg:Nat->List (List Bool)
 | 0=>[[]]
 | c+1=>(dg c).flatMap λb=>[b++[false],b++[true]]
theorem cO:∀c,(dg c).length=2 ^ c
 | 0=>rfl
 | c+1=>by
   unfold dg;rw[QbJ];have:(dg c).map (λb=>[b++[false],b++[true]].length)=(dg c).map λ_=>2:=rfl
   rw[this,List.map_const',List.sum_replicate_nat,cO c];omega
theorem ik:∀c,∀b∈dg c,b.length=c
 | 0,b,h=>by unfold dg at h;rw [Qa1.mp h];rfl
 | c+1,b,h=>by
   obtain⟨a,ha,hb⟩:=List.mem_flatMap.mp h;have:=ik c a ha;simp at hb;rcases hb with rfl | rfl <;> simp [this]
def Rp(c j:Nat):M:=λp=>((dg c).getD p []).getD j false
def rP(c:Nat):List M:=(List.range c).map$ Rp c
def ng{c:Nat}:(rP c).length=c:=by unfold rP;simp
def jc(c p:Nat):List Bool:=(dg c).getD p []
def ie{c p:Nat}(h:p<2 ^ c):(jc c p).length=c:=by
 unfold jc;rw[Qak,Qad$ by rw[cO];exact h]
 exact ik c _$ Qbe _
def HK{c p:Nat}(h:p<2 ^ c):jV p (rP c)=jc c p:=by
 unfold jV rP;rw[QaL];refine List.ext_getElem (by rw[Qaa,Qap,ie h]) λj h1 h2=>?_
 rw[List.getElem_map,Qbd];show(jc c p).getD j false=_;rw[Qak,Qad h2];rfl
noncomputable def rB(f e:Nat):Nat->Aae
 | 0=>[[]]
 | m+1=>(List.range' f$ e - f).flatMap λw=>(rB ((w / 3+1)*3) e m).map (w ::·)
def YH(f e:Nat):List Nat->Prop
 | []=>True
 | w ::B=>f<=w/\w<e/\YH ((w / 3+1)*3) e B
theorem yA{e:Nat}:∀{m f:Nat} {B:List Nat},B∈rB f e m↔B.length=m/\YH f e B
 | 0,f,B=>by
   unfold rB;rw[Qa1];constructor
   .rintro rfl;exact⟨rfl,trivial⟩
   .rintro⟨h,_⟩;exact List.length_eq_zero_iff.mp h
 | m+1,f,B=>by
   unfold rB;rw[List.mem_flatMap];constructor
   .rintro⟨w,hw,h⟩;obtain⟨B',hB,rfl⟩:=QaZ.mp h;obtain⟨h1,h2⟩:=yA.mp hB;obtain⟨i,hi,rfl⟩:=QbY.mp hw;exact⟨by rw[QaB,h1],by omega,by omega,h2⟩
   .rintro⟨h,hk⟩;cases B with
    | nil=>simp at h
    | cons w B=>
      obtain⟨h1,h2,h3⟩:=hk;exact⟨w,QbY.mpr ⟨w - f,by omega,by omega⟩,QaZ.mpr ⟨B,yA.mpr ⟨by simpa using h,h3⟩,rfl⟩⟩
def Cn(c:Nat)(gs:List Gt):List (List Nat × List Nat):=
 (gs.zipIdx.filter$ λx=>!x.1.2.2).map (λx=>(([]:List Nat),[x.2]))++(List.range' 1 c).flatMap λm=>(rB 0 (3*c) m).map λB=>(B,([]:List Nat))
def rT(c:Nat)(gs:List Gt)(p:Nat):List Bool:=i8 gs no$ Oq$ jc c p
def nL(c:Nat)(gs:List Gt)(f:List Nat × List Nat)(p:Nat):List Bool:=i8 gs (λi=>f.2.contains i)$ dA 0 (λn=>f.1.contains n)$ Oq$ jc c p
def wy(c:Nat)(gs:List Gt)(os:Aad)(p:Nat):Bool:=os.any λx=>z_$ cE (rT c gs p) x.2
def mE(c:Nat)(gs:List Gt)(os:Aad)(f:List Nat × List Nat)(p:Nat):Bool:=os.any λx=>lst (cE (rT c gs p) x.2)$ cE (nL c gs f p) x.2
def eY(c:Nat)(gs:List Gt)(os:Aad):Option (List Nat × List Nat × Nat):=
 match (List.range$ 2 ^ c).find? (wy c gs os) with
 | some p=>some ([],[],p)
 | none=>(Cn c gs).findSome? λf=>((List.range$ 2 ^ c).find?$ mE c gs os f).map λp=>(f.1,f.2,p)
def find_none{c:Nat}{f:Nat->Bool}:(List.range$ 2 ^ c).find? f=none↔∀p,p<2 ^ c->f p=false:=by
 rw[List.find?_eq_none];constructor
 .intro h p hp;exact Qc8.mpr$ h p$ QaI.mpr hp
 .intro h p hp;rw[h p$ QaI.mp hp];exact Qay
def Qn{α:Type}{l:List α}{f:α->Bool}:l.any f=false↔∀x∈l,f x=false:=by
 rw[List.any_eq_false];exact⟨λh x hx=>Qc8.mpr$ h x hx,λh x hx=>by rw[h x hx];exact Qay⟩
def gd{a b:Nat}(h:0<b):fI (nI a) (nI b)= .ok (nI$ a % b):=by
 show fI (.int a) (.int b)=_;rw[vN$ by omega];rfl
def CZ{a b:Nat}(h:0<b)(h2:b<1073741824):lR (nI a) (nI b)= .ok (nI$ a / b):=by
 show lR (.int a) (.int b)=_;rw[xS (by omega)$ by omega];rfl
def fE(a b:Nat):cW (nI a) (nI b)= .ok (nI$ a+b):=rfl
def A4{a b:Nat}(h:b<=a):qA (nI a) (nI b)= .ok (nI$ a - b):=by
 show R.ok (D.int$ (a:Int) - b)=R.ok (D.int ((a - b:Nat):Int));rw[Int.ofNat_sub h]
def MY{a b:Nat}(h:b<1000000\/a<1000000):eU (nI a) (nI b)= .ok (nI$ a*b):=by
 show R.aS (decide _) (R.ok$ D.int$ (a:Int)*b)=_;have hc:(-(2 ^ 64)<(a:Int)/\(a:Int)<2 ^ 64)\/(-(2 ^ 64)<(b:Int)/\(b:Int)<2 ^ 64):=by
  rcases h with h | h
  .exact .inr ⟨by omega,by omega⟩
  .exact .inl ⟨by omega,by omega⟩
 rw[cC _ hc];rfl
def FY(a b:Nat):qv (nI a) (nI b)= .ok (.bl$ decide$ a=b):=by
 show R.ok (D.bl$ (a:Int)==(b:Int))=_;congr 2;by_cases h:a=b
 .rw [Qan h];exact Qbj.mpr (by omega)
 .rw [Qax h];exact Qa9.mpr (by omega)
def V0(a b:Nat):A1 (nI a) (nI b)= .ok (.bl$ !decide (a=b)):=by
 show R.ok (D.bl$ !((a:Int)==(b:Int)))=_;congr 3;by_cases h:a=b
 .rw [Qan h];exact Qbj.mpr (by omega)
 .rw [Qax h];exact Qa9.mpr (by omega)
def SN(a b:Nat):OP (nI a) (nI b)= .ok (.bl$ decide$ b<a):=by
 show R.ok (D.bl$ decide$ (a:Int) > (b:Int))=_;congr 2;by_cases h:b<a
 .rw [Qan h,Qan$ by omega]
 .rw [Qax h,Qax$ by omega]
def TM(a b:Nat):Wt (nI a) (nI b)= .ok (.bl$ decide$ a<b):=by
 show R.ok (D.bl$ decide$ (a:Int)<(b:Int))=_;congr 2;by_cases h:a<b
 .rw [Qan h,Qan$ by omega]
 .rw [Qax h,Qax$ by omega]
def Tq{a b:Nat}:z6 [nI a,nI b]= .ok (nI$ min a b):=by
 show KI [.int a, .int b]=_;show R.ok (D.int$ if(b:Int)<a then b else a)=_
 congr 2;split <;> omega
def kr{ds:List D}:fP [.lst ds]= .ok (nI ds.length):=rfl
def OQ{ds:List D}:fP [.tup ds]= .ok (nI ds.length):=rfl
def gC{f:FD}{δ:av}{n:Nat}(h:f δ= .ok (nI n))(hn:n<1000000):cy f δ= .ok ((List.range n).map nI):=by
 rw[uh h hn];congr 1;refine Qca λi _=>?_
 show D.int (0+(i:Int))=D.int (i:Int);rw[Int.zero_add]
def gm(T:List Nat):D:= .tup$ T.map nI
def M5{f:FD}{own:List Str}{kp:List Nat}{δ:av}{a:Nat}(h:∀j,j<3->∃c_,aK 0 (nI j) (qb own kp δ)= .ok c_/\f c_= .ok (nI$ a+j)) :
 aJ h_ (af (eNew$ b8 (cy$ eC$ .int 3) (aK 0) f9 f own kp) ax) δ= .ok (gm [a,a+1,a+2]):=by
 have hz:=Qam;refine ay (ao (bX$ bM (gC (n:=3) rfl$ by omega) (by simp;omega) ?_) rfl) rfl
 exact NT.bE nI _ λj hj=>by
  obtain⟨c_,h1,h2⟩:=h j$ QaI.mp hj;exact⟨c_,h1,rfl,h2⟩
noncomputable def kdN(r:Nat):Nat:=[1,2,3,4,0].getD (r % 5) 0
def N3(r:Nat):kdN r<=4:=by
 have:r % 5<5:=QbZ _ (by omega)
 unfold kdN;generalize r % 5=m at this
 match m,this with
 | 0,_=>decide
 | 1,_=>decide
 | 2,_=>decide
 | 3,_=>decide
 | 4,_=>decide
def Tu{f:FD}{δ:av}{r:Nat}(h:f δ= .ok (nI r)):e2 cb (eNew$ dy$ af (eC$ .str "and")$ af (eC$ .str "or")$ af (eC$ .str "xor")$ af (eC$ .str "vote")$ af (eC$ .str "not") ax) (e2 fI f$ eC$ .int 5) δ= .ok (.str$ kS$ kdN r):=by
 have h5:r % 5<5:=QbZ _ (by omega)
 refine ak rfl (ak (b:=nI 5) h rfl$ gd$ by omega)$ NT.gA ?_
 unfold kdN;generalize r % 5=m at h5
 match m,h5 with
 | 0,_=>rfl
 | 1,_=>rfl
 | 2,_=>rfl
 | 3,_=>rfl
 | 4,_=>rfl
def Sz{f:FD}{δ:av}{k:Nat}(hk:k<=4)(h:f δ= .ok (.str$ kS k)):HN [((Sum.inr "not":Key),V.int 1),((Sum.inr "vote":Key),V.int 3)] f (eC$ .int 2) δ= .ok (nI$ ar k):=by
 unfold HN;rw[h,R.aX]
 match k,hk with
 | 0,_=>rfl
 | 1,_=>rfl
 | 2,_=>rfl
 | 3,_=>rfl
 | 4,_=>rfl
def FE:∀c∈List.range 5,∀p∈List.range (2 ^ c),∀k∈List.range c,(jc c p).getD k false=decide (p / 2 ^ (c - 1 - k) % 2=1):=by decide+kernel
def IW{c p k:Nat}(hc:c<=4)(hp:p<2 ^ c)(hk:k<c):(jc c p).getD k false=decide (p / 2 ^ (c - 1 - k) % 2=1):=FE c (QaI.mpr$ by omega) p (QaI.mpr hp) k$ QaI.mpr hk
def SU(p s:Nat):AJ (nI p) (nI s)= .ok (nI$ p / 2 ^ s):=by
 show R.aS (decide$ (0:Int)<=s) (.ok$ D.int$ (p:Int) / 2 ^ ((s:Int)).toNat)=_;rfl
def NU(x:Nat):IV (nI x) (nI 1)= .ok (bI$ decide$ x % 2=1):=by
 show R.ok (D.int$ Builtin.bitAnd (x:Int) ((1:Nat):Int))=_;rw[qX,Nat.and_one_is_mod];have:x % 2=0\/x % 2=1:=by omega
 rcases this with q | q <;> rw[q] <;> rfl
def EW{c p:Nat}(hc:c<=4)(hp:p<2 ^ c):(jc c p).map bI=(List.range c).map λk=>bI (decide$ p / 2 ^ (c - 1 - k) % 2=1):=by
 refine List.ext_getElem (by rw[Qaa,Qaa,Qap,ie hp]) λk h1 h2=>?_
 rw[Qaa,Qap] at h2;rw[List.getElem_map,List.getElem_map,Qbd,<-IW hc hp h2,Qak,Qad$ by rw[ie hp];exact h2]
 rfl
def Tc{n:Nat}(h:n<=10):OE (.int 1) (nI n)= .ok (nI$ 2 ^ n):=by
 show R.aS (decide$ (0:Int)<=n/\(n:Int)<1000/\ -1000<(1:Int)/\(1:Int)<1000) (.ok$ D.int$ 1*2 ^ ((n:Int)).toNat)=_;rw[cC _ ⟨by omega,by omega,by omega,by omega⟩,Qbu,Int.one_mul]
 congr 2
end JT
end
section
set_option maxHeartbeats 4000000
namespace K32
open PySem PySem.Spec PyProof.Rows L2 L3
variable {P:Program}{w:World}{K:Qdi}{mg:Aaf}{base:Heap}{cl:Aag}
noncomputable def top(i:Nat):Stmt:=PySem.Challenge.pw_bearfaults_k32_keeps_or_loses.main.body.getD i$ .Pass ⟨0,0,0,0⟩
structure Tp (K:Qdi) (mg:Aaf) (cl:Aag):Prop where
 z_all:mg "all"=none
 z_len:mg "len"=none
 z_enumerate:mg "enumerate"=none
 z_range:mg "range"=none
 z_tuple:mg "tuple"=none
 z_reversed:mg "reversed"=none
 z_zip:mg "zip"=none
 z_min:mg "min"=none
 z_max:mg "max"=none
 z_sum:mg "sum"=none
 z_int:mg "int"=none
 z_sorted:mg "sorted"=none
 z_isinstance:mg "isinstance"=none
 z_bool:mg "bool"=none
 z_str:mg "str"=none
 z_ValueError:mg "ValueError"=none
 z_list:mg "list"=none
 C_Bench:zY K (cl 0)
 N_Bench_net:eP K (cl 0) "net"
 N_Bench_many_inputs:eP K (cl 0) "many_inputs"
 N_Bench_full:eP K (cl 0) "full"
 N_Bench_in_masks:eP K (cl 0) "in_masks"
 M_Bench:mg "Bench"=some (.ref (cl 0))
 M_FaultError:mg "FaultError"=some (.ref (cl 1))
 M_TooLong:mg "TooLong"=some (.ref (cl 2))
 M_NoForm:mg "NoForm"=some (.ref (cl 3))
 M_NoPlace:mg "NoPlace"=some (.ref (cl 4))
 M_Twice:mg "Twice"=some (.ref (cl 5))
 M_Full:mg "Full"=some (.ref (cl 6))
 M_NoWire:mg "NoWire"=some (.ref (cl 7))
 M_Open:mg "Open"=some (.ref (cl 8))
 M_NotPlain:mg "NotPlain"=some (.ref (cl 9))
 M_NotThree:mg "NotThree"=some (.ref (cl 10))
 M_NotSound:mg "NotSound"=some (.ref (cl 11))
 M_NoFit:mg "NoFit"=some (.ref (cl 12))
 M_NoShape:mg "NoShape"=some (.ref (cl 13))
 M_NoneYet:mg "NoneYet"=some (.ref (cl 14))
 X_NotThree:XC K (cl 10)
 E_NotThree_FaultError:PySem.W.exmOne K (.ref (cl 10)) (.ref (cl 1))=some true
 J_NotThree_TooLong_NoForm_NoPlace_Twice_Full_NoWire_Open_NotPlain_NotSound_NoFit_NoShape:PySem.W.kitAny K (.ref (cl 10)) [(.ref (cl 2)),(.ref (cl 3)),(.ref (cl 4)),(.ref (cl 5)),(.ref (cl 6)),(.ref (cl 7)),(.ref (cl 8)),(.ref (cl 9)),(.ref (cl 11)),(.ref (cl 12)),(.ref (cl 13))]=some false
 I_NotThree_NotThree:PySem.W.kitOne K (.ref (cl 10)) (.ref (cl 10))=some true
 O_NotThree:PySem.W.kitOne K (.type "NoneType") (.ref (cl 10))=some false
 I_NotThree_ValueError:PySem.W.kitOne K (.ref (cl 10)) (.type "ValueError")=some true
 O_ValueError:PySem.W.kitOne K (.type "NoneType") (.type "ValueError")=some false
 I_NotThree_NoneYet:PySem.W.kitOne K (.ref (cl 10)) (.ref (cl 14))=some false
 O_NoneYet:PySem.W.kitOne K (.type "NoneType") (.ref (cl 14))=some false
abbrev gL:Stmt:=top 17
noncomputable abbrev l6:List Str:=["net","width","ins_fit"]
abbrev Qdg(s:Stmt):={b:List Stmt//aP s=b}
abbrev Qdh(s:Stmt):={b:Scope//aD s=b}
noncomputable def wJ:Qdg gL:=⟨_,by conv=>lhs;whnf⟩
noncomputable def ph:Qdh gL:=⟨_,by conv=>lhs;whnf⟩
def yO:bj l6 ["net","width"] ph.1:={}
def yp:FS:=(dw (g6 2$ aJ IE$ af (eNew$ b8 (di$ e2 cb (ai 0)$ eC$ .int 0) (aK 0) f9 (e2 qv (e2 cb (ai 0)$ eC$ .int 1)$ ai 1) ["told"] [1]) ax)$ eE$ ES (ai 2)$ aJ IE$ af (eNew$ b8 (di$ e2 cb (ai 0)$ eC$ .int 2) (mM 2$ dv (aK 0)$ dv (aK 1) mQ) f9 (e2 qv (aJ fP$ af (ai 1) ax)$ ai 2) ["name","wires"] [1]) ax)
def fA:List D->R D:=qP l6 yp
def ze(T:Tp K mg cl)(h:Def K mg "has_widths" gL):Callee P w K mg base 1 "has_widths" 2 fA:=
 zt h wJ.2 ph.2 yO λ_ _ _ _ _ _ _ hr nd=>(aQ (cH$ bp (Nb rfl) rfl T.z_all PyProof.Rows.boot_all$ aa (bq$ bW (bU$ aF (ae 0) ag) (λ_ _ _=>aL) (λ_ _ _=>bK)$ λ_ _ _=>(iL (lx hr.units) (aF (ae 0) ag)$ ae 1)) ah)$ aV$ bB$ xQ (ae 2)$ Di$ bp (Nb rfl) rfl T.z_all PyProof.Rows.boot_all$ aa (bq$ bW (bU$ aF (ae 0) ag) (λ_ _ _=>(lO$ de aL$ de aL jq)) (λ_ _ _=>bK)$ λ_ _ _=>(iL (lx hr.units) (bp eX rfl T.z_len QaQ$ aa (ae 1) ah)$ ae 2)) ah)
abbrev lM:Stmt:=top 19
noncomputable abbrev xn:List Str:=["masks"]
noncomputable def BE:Qdg lM:=⟨_,by conv=>lhs;whnf⟩
noncomputable def vV:Qdh lM:=⟨_,by conv=>lhs;whnf⟩
def FL:bj xn ["masks"] vV.1:={}
def Fo:FS:=(eE$ e2 Ni (e2 Ni (e2 IV (e2 cb (ai 0)$ eC$ .int 0)$ e2 cb (ai 0)$ eC$ .int 1)$ e2 IV (e2 cb (ai 0)$ eC$ .int 0)$ e2 cb (ai 0)$ eC$ .int 2)$ e2 IV (e2 cb (ai 0)$ eC$ .int 1)$ e2 cb (ai 0)$ eC$ .int 2)
def il:List D->R D:=qP xn Fo
def EC(T:Tp K mg cl)(h:Def K mg "vote_of" lM):Callee P w K mg base 1 "vote_of" 1 il:=
 zt h BE.2 vV.2 FL λ_ _ _ _ _ _ _ hr nd=>(aV$ bB$ aq E_ (aq E_ (aq ER (aF (ae 0) ag)$ aF (ae 0) ag)$ aq ER (aF (ae 0) ag)$ aF (ae 0) ag)$ aq ER (aF (ae 0) ag)$ aF (ae 0) ag)
abbrev iT:Stmt:=top 20
noncomputable abbrev mZ:List Str:=["kind","masks","full"]
noncomputable def yI:Qdg iT:=⟨_,by conv=>lhs;whnf⟩
noncomputable def q9:Qdh iT:=⟨_,by conv=>lhs;whnf⟩
def zW:bj mZ ["kind","masks","full"] q9.1:={}
def AQ:FS:=(dw (x5 (b2 qv (ai 0)$ eC$ .str "not") (eE$ e2 Ff (ai 2)$ e2 cb (ai 1)$ eC$ .int 0) pQ)$ dw (x5 (b2 qv (ai 0)$ eC$ .str "and") (eE$ e2 IV (e2 cb (ai 1)$ eC$ .int 0)$ e2 cb (ai 1)$ eC$ .int 1) pQ)$ dw (x5 (b2 qv (ai 0)$ eC$ .str "or") (eE$ e2 Ni (e2 cb (ai 1)$ eC$ .int 0)$ e2 cb (ai 1)$ eC$ .int 1) pQ)$ dw (x5 (b2 qv (ai 0)$ eC$ .str "xor") (eE$ e2 Ff (e2 cb (ai 1)$ eC$ .int 0)$ e2 cb (ai 1)$ eC$ .int 1) pQ)$ eE$ aJ il$ af (ai 1) ax)
def j8:List D->R D:=qP mZ AQ
def A6(T:Tp K mg cl)(h:Def K mg "gate_mask" iT)(jt:Callee P w K mg base 1 "vote_of" 1 il):Callee P w K mg base 2 "gate_mask" 3 j8:=
 zt h yI.2 q9.2 zW λ_ _ _ _ _ _ _ hr nd=>(aQ (fq (cg (lx hr.units) (ae 0) bG) (aV$ bB$ aq BO (ae 2)$ aF (ae 1) ag) dX)$ aQ (fq (cg (lx hr.units) (ae 0) bG) (aV$ bB$ aq ER (aF (ae 1) ag)$ aF (ae 1) ag) dX)$ aQ (fq (cg (lx hr.units) (ae 0) bG) (aV$ bB$ aq E_ (aF (ae 1) ag)$ aF (ae 1) ag) dX)$ aQ (fq (cg (lx hr.units) (ae 0) bG) (aV$ bB$ aq BO (aF (ae 1) ag)$ aF (ae 1) ag) dX)$ aV$ bB$ aT jt$ aa (ae 1) ah)
abbrev er:Stmt:=top 21
noncomputable abbrev fY:List Str:=["ins","in_masks","full","bad","wires","place","mask","figure"]
noncomputable def rL:Qdg er:=⟨_,by conv=>lhs;whnf⟩
noncomputable def lA:Qdh er:=⟨_,by conv=>lhs;whnf⟩
def tT:bj fY ["ins","in_masks","full","bad"] lA.1:={}
def jY:FZ:=(mS 4$ xT$ Rb (b2 MZ (aJ fP$ af (ai 4) ax)$ ai 3) (e2 Ff (ai 2)$ ai 6)$ ai 6)
def ql:FZ:=(lU (iP$ cy$ e2 cb (e2 cb (ai 0)$ ai 5)$ eC$ .int 1) (mT 7) jY)
def mO:FZ:=(bN (cU 4$ pB$ dy ax)$ bN (lU (iP$ D4$ ai 1) (Gs 2$ v8 (mT 5)$ v8 (mT 6) GZ) ql)$ i7$ fw 4)
def fk:List V3->a_->R3 V3:=qj fY mO
def FP:List V3->a_->R3 V3:=u9 fY mO
def tZ(T:Tp K mg cl)(h:Def K mg "in_wire_masks" er):cX P w K mg base cl 1 "in_wire_masks" 4 fk:=
 Km h rL.2 lA.2 tT λ_ _ _ _ _ _ _ hr nd=>(az (bH$ l0$ bQ ah)$ az (eD (cu$ Ca (ae 1) rfl T.z_enumerate) (iM$ bR br$ bR br fN)$ bb$ eD (cu$ bo (aF (aF (ae 0)$ ae 5) ag) rfl T.z_range) br$ bb$ kL$ j_$ GJ (cg Mf (bp eX rfl T.z_len QaQ$ aa (ae 4) ah)$ ae 3) (aq BO (ae 2)$ ae 6)$ ae 6)$ bb$ dz$ cN 4)
abbrev jz:Stmt:=top 22
noncomputable abbrev vL:List Str:=["wires","numbers"]
noncomputable def Aa:Qdg jz:=⟨_,by conv=>lhs;whnf⟩
noncomputable def sR:Qdh jz:=⟨_,by conv=>lhs;whnf⟩
def B8:bj vL ["wires","numbers"] sR.1:={}
def Cz:FS:=(eE$ aJ h_$ af (eNew$ b8 (di$ ai 1) (aK 0) f9 (e2 cb (ai 1)$ ai 0) ["number"] [0]) ax)
def hV:List D->R D:=qP vL Cz
def Bh(T:Tp K mg cl)(h:Def K mg "masks_at" jz):Callee P w K mg base 1 "masks_at" 2 hV:=
 zt h Aa.2 sR.2 B8 λ_ _ _ _ _ _ _ hr nd=>(aV$ bB$ cw j9 rfl T.z_tuple Qa3$ aa (bq$ bW (bU$ ae 1) (λ_ _ _=>aL) (λ_ _ _=>bK)$ λ_ _ _=>(aF (ae 1)$ ae 0)) ah)
abbrev gq:Stmt:=top 23
noncomputable abbrev jg:List Str:=["net","in_masks","full","turned","bad","wires","place","gate","mask"]
noncomputable def wx:Qdg gq:=⟨_,by conv=>lhs;whnf⟩
noncomputable def pf:Qdh gq:=⟨_,by conv=>lhs;whnf⟩
def yH:bj jg ["net","in_masks","full","turned","bad"] pf.1:={}
def nM:FZ:=(bN (cU 8$ xT$ aJ j8$ af (e2 cb (ai 7)$ eC$ .int 0)$ af (aJ hV$ af (ai 5)$ af (e2 cb (ai 7)$ eC$ .int 1) ax)$ af (ai 2) ax)$ mS 5$ xP$ Rb (b2 MZ (ai 6)$ ai 3) (e2 Ff (ai 2)$ ai 8)$ ai 8)
def qZ:FZ:=(bN (cU 5$ fU fk$ bx (xP$ e2 cb (ai 0)$ eC$ .int 0)$ bx (xP$ ai 1)$ bx (xP$ ai 2)$ bx (xP$ ai 4) eO)$ bN (lU (iP$ jG$ e2 cb (ai 0)$ eC$ .int 1) (Gs 2$ v8 (mT 6)$ v8 (mT 7) GZ) nM)$ i7$ fw 5)
def wI:List V3->a_->R3 V3:=qj jg qZ
def kI:List V3->a_->R3 V3:=u9 jg qZ
def x_(T:Tp K mg cl)(h:Def K mg "wire_masks" gq)(iA:Callee P w K mg base 1 "masks_at" 2 hV)(oh:Callee P w K mg base 2 "gate_mask" 3 j8)(fB:cX P w K mg base cl 1 "in_wire_masks" 4 fk):cX P w K mg base cl 3 "wire_masks" 5 wI:=
 Km h wx.2 pf.2 yH λ_ _ _ _ _ _ _ hr nd=>(az (bH$ eK fB$ aC (au$ aF (ae 0) ag)$ aC (au$ ae 1)$ aC (au$ ae 2)$ aC (au$ ae 4) bO)$ az (eD (cu$ oq (aF (ae 0) ag) rfl T.z_enumerate) (iM$ bR br$ bR br fN)$ az (bH$ j_$ aT oh$ aa (aF (ae 7) ag)$ aa (aT iA$ aa (ae 5)$ aa (aF (ae 7) ag) ah)$ aa (ae 2) ah)$ bb$ kL$ au$ GJ (cg Mf (ae 6)$ ae 3) (aq BO (ae 2)$ ae 8)$ ae 8)$ bb$ dz$ cN 5)
abbrev iW:Stmt:=top 24
noncomputable abbrev nu:List Str:=["net","wires"]
noncomputable def y0:Qdg iW:=⟨_,by conv=>lhs;whnf⟩
noncomputable def qt:Qdh iW:=⟨_,by conv=>lhs;whnf⟩
def zB:bj nu ["net","wires"] qt.1:={}
def sO:FZ:=(i7$ pB$ b8 (di$ e2 cb (ai 0)$ eC$ .int 2) (mM 2$ dv (aK 0)$ dv (aK 1) mQ) f9 (aJ hV$ af (ai 2)$ af (ai 1) ax) ["name","numbers"] [1])
def y9:List V3->a_->R3 V3:=qj nu sO
def l7:List V3->a_->R3 V3:=u9 nu sO
def AI(T:Tp K mg cl)(h:Def K mg "out_masks" iW)(iA:Callee P w K mg base 1 "masks_at" 2 hV):cX P w K mg base cl 2 "out_masks" 2 y9:=
 Km h y0.2 qt.2 zB λ_ _ _ _ _ _ _ hr nd=>(bb$ dz$ l0$ bW (bU$ aF (ae 0) ag) (λ_ _ _=>(lO$ de aL$ de aL jq)) (λ_ _ _=>bK)$ λ_ _ _=>(aT iA$ aa (ae 2)$ aa (ae 1) ah))
abbrev mY:Stmt:=top 25
noncomputable abbrev zH:List Str:=["mask","number"]
noncomputable def Fx:Qdg mY:=⟨_,by conv=>lhs;whnf⟩
noncomputable def xt:Qdh mY:=⟨_,by conv=>lhs;whnf⟩
def IU:bj zH ["mask","number"] xt.1:={}
def AL:FS:=(eE$ e2 IV (e2 AJ (ai 0)$ ai 1)$ eC$ .int 1)
def m8:List D->R D:=qP zH AL
def Io(T:Tp K mg cl)(h:Def K mg "bit_at" mY):Callee P w K mg base 1 "bit_at" 2 m8:=
 zt h Fx.2 xt.2 IU λ_ _ _ _ _ _ _ hr nd=>(aV$ bB$ aq ER (aq Ir (ae 0)$ ae 1) ag)
abbrev gI:Stmt:=top 26
noncomputable abbrev jo:List Str:=["count","inputs","place","longer","bits"]
noncomputable def we:Qdg gI:=⟨_,by conv=>lhs;whnf⟩
noncomputable def o5:Qdh gI:=⟨_,by conv=>lhs;whnf⟩
def yo:bj jo ["count"] o5.1:={}
def nh:FZ:=(bN (mS 3$ xP$ e2 lY (ai 4)$ bz$ af (eC$ .int 0) ax)$ mS 3$ xP$ e2 lY (ai 4)$ bz$ af (eC$ .int 1) ax)
def nV:FZ:=(AA 1$ bN (cU 3$ pB$ dy ax)$ bN (lU (iP$ di$ ai 1) (mT 4) nh)$ cU 1$ fw 3)
def mh:FZ:=(bN (cU 1$ pB$ dy$ af (bz ax) ax)$ bN (lU (iP$ cy$ ai 0) (mT 2) nV)$ i7$ fw 1)
def wz:List V3->a_->R3 V3:=qj jo mh
def iJ:List V3->a_->R3 V3:=u9 jo mh
def y3(T:Tp K mg cl)(h:Def K mg "all_inputs" gI):cX P w K mg base cl 1 "all_inputs" 1 wz:=
 Km h we.2 o5.2 yo λ_ _ _ _ _ _ _ hr nd=>(az (bH$ l0$ bQ$ aa (aH ah) ah)$ az (eD (cu$ bo (ae 0) rfl T.z_range) br$ yi 1$ az (bH$ l0$ bQ ah)$ az (eD (cu$ bU$ ae 1) br$ az (kL$ au$ aq m7 (ae 4)$ aH$ aa ag ah)$ bb$ kL$ au$ aq m7 (ae 4)$ aH$ aa ag ah)$ bb$ bH$ cN 3)$ bb$ dz$ cN 1)
abbrev lL:Stmt:=top 27
noncomputable abbrev rR:List Str:=["bits","mask","bit"]
noncomputable def CC:Qdg lL:=⟨_,by conv=>lhs;whnf⟩
noncomputable def vy:Qdh lL:=⟨_,by conv=>lhs;whnf⟩
def E4:bj rR ["bits"] vy.1:={}
def nQ:FS:=(g6 1$ e2 cW (e2 eU (ai 1)$ eC$ .int 2)$ ai 2)
def wR:FS:=(dw (g6 1$ eC$ .int 0)$ dw (rO (Nt$ ai 0) (aK 2) nQ)$ eE$ ai 1)
def ij:List D->R D:=qP rR wR
def Fb(T:Tp K mg cl)(h:Def K mg "mask_of" lL):Callee P w K mg base 1 "mask_of" 1 ij:=
 zt h CC.2 vy.2 E4 λ_ _ _ _ _ _ _ hr nd=>(aQ (cH ag)$ aQ (gO (Hx (ae 0) rfl T.z_reversed) aL$ aV$ cH$ aq cR (aq fG (ae 1) ag)$ ae 2)$ aV$ bB$ ae 1)
abbrev lB:Stmt:=top 28
noncomputable abbrev xp:List Str:=["inputs","place"]
noncomputable def Br:Qdg lB:=⟨_,by conv=>lhs;whnf⟩
noncomputable def uH:Qdh lB:=⟨_,by conv=>lhs;whnf⟩
def ED:bj xp ["inputs","place"] uH.1:={}
def xv:FS:=(eE$ aJ ij$ af (eNew$ b8 (di$ ai 0) (aK 0) f9 (e2 cb (ai 0)$ ai 1) ["bits"] [1]) ax)
def lT:List D->R D:=qP xp xv
def FI(T:Tp K mg cl)(h:Def K mg "in_mask" lB)(ju:Callee P w K mg base 1 "mask_of" 1 ij):Callee P w K mg base 2 "in_mask" 2 lT:=
 zt h Br.2 uH.2 ED λ_ _ _ _ _ _ _ hr nd=>(aV$ bB$ aT ju$ aa (bq$ bW (bU$ ae 0) (λ_ _ _=>aL) (λ_ _ _=>bK)$ λ_ _ _=>(aF (ae 0)$ ae 1)) ah)
abbrev i0:Stmt:=top 31
noncomputable abbrev nS:List Str:=["outs","mask","masks"]
noncomputable def xX:Qdg i0:=⟨_,by conv=>lhs;whnf⟩
noncomputable def qO:Qdh i0:=⟨_,by conv=>lhs;whnf⟩
def zI:bj nS ["outs"] qO.1:={}
def oR:FS:=(g6 1$ e2 Ni (e2 Ni (ai 1)$ e2 Ff (e2 cb (ai 2)$ eC$ .int 0)$ e2 cb (ai 2)$ eC$ .int 1)$ e2 Ff (e2 cb (ai 2)$ eC$ .int 0)$ e2 cb (ai 2)$ eC$ .int 2)
def AF:FS:=(dw (g6 1$ eC$ .int 0)$ dw (rO (di$ ai 0) (aK 2) oR)$ eE$ ai 1)
def j5:List D->R D:=qP nS AF
def zF(T:Tp K mg cl)(h:Def K mg "unlike_at" i0):Callee P w K mg base 1 "unlike_at" 1 j5:=
 zt h xX.2 qO.2 zI λ_ _ _ _ _ _ _ hr nd=>(aQ (cH ag)$ aQ (gO (bU$ ae 0) aL$ aV$ cH$ aq E_ (aq E_ (ae 1)$ aq BO (aF (ae 2) ag)$ aF (ae 2) ag)$ aq BO (aF (ae 2) ag)$ aF (ae 2) ag)$ aV$ bB$ ae 1)
abbrev lQ:Stmt:=top 32
noncomputable abbrev rJ:List Str:=["before","after","mask","masks","others"]
noncomputable def Cc:Qdg lQ:=⟨_,by conv=>lhs;whnf⟩
noncomputable def uX:Qdh lQ:=⟨_,by conv=>lhs;whnf⟩
def Fd:bj rJ ["before","after"] uX.1:={}
def tI:FS:=(g6 2$ e2 Ni (ai 2)$ aJ il$ af (eNew$ b8 (cy$ eC$ .int 3) (aK 0) f9 (e2 Ff (e2 cb (ai 1)$ ai 0)$ e2 cb (ai 2)$ ai 0) ["place"] [3,4]) ax)
def EJ:FS:=(dw (g6 2$ eC$ .int 0)$ dw (rO (Dr (ai 0)$ ai 1) (mM 2$ dv (aK 3)$ dv (aK 4) mQ) tI)$ eE$ ai 2)
def ot:List D->R D:=qP rJ EJ
def EV(T:Tp K mg cl)(h:Def K mg "lost_at" lQ)(jt:Callee P w K mg base 1 "vote_of" 1 il):Callee P w K mg base 2 "lost_at" 2 ot:=
 zt h Cc.2 uX.2 Fd λ_ _ _ _ _ _ _ hr nd=>(aQ (cH ag)$ aQ (gO (uD (ae 0) (ae 1) rfl T.z_zip) (lO$ de aL$ de aL jq)$ aV$ cH$ aq E_ (ae 2)$ aT jt$ aa (bq$ bW (bo ag rfl T.z_range) (λ_ _ _=>aL) (λ_ _ _=>bK)$ λ_ _ _=>(aq BO (aF (ae 1)$ ae 0)$ aF (ae 2)$ ae 0)) ah)$ aV$ bB$ ae 2)
abbrev jL:Stmt:=top 33
noncomputable abbrev jC:List Str:=["first","end","many","found","wire","next_three","rest"]
noncomputable def zV:Qdg jL:=⟨_,by conv=>lhs;whnf⟩
noncomputable def tj:Qdh jL:=⟨_,by conv=>lhs;whnf⟩
def vd:bj jC ["first","end","many"] tj.1:={}
def ma(self:List D->R D):FS:=(GP 3$ e2 lY (bz$ af (ai 4) ax)$ ai 6)
def qr(self:List D->R D):FS:=(dw (g6 5$ e2 eU (e2 lY (e2 lR (ai 4)$ eC$ .int 3)$ eC$ .int 1)$ eC$ .int 3)$ rO (di$ aJ self$ af (ai 5)$ af (ai 1)$ af (e2 qA (ai 2)$ eC$ .int 1) ax) (aK 6)$ ma self)
def qa(self:List D->R D):FS:=(dw (x5 (b2 qv (ai 2)$ eC$ .int 0) (eE$ eNew$ dy$ af (bz ax) ax) pQ)$ dw (ya 3$ dy ax)$ dw (rO (rF (ai 0)$ ai 1) (aK 4)$ qr self)$ G9 3$ eE$ ai 3)
def dM:Nat->List D->R D
 | 0=>λ_=> .no
 | n+1=>qP jC$ qa$ dM n
theorem vh(T:Tp K mg cl)(h:Def K mg "bad_sets" jL):∀n,Callee P w K mg base (1+n) "bad_sets" 3 (dM n)
 | 0=>by
   obtain⟨f,fd,F,hm⟩:=h;exact⟨f,fd,["first","end","many"],Nl,hm,F.kp,F.binds λ_ _ _ _ _ _ us hl=>match us,hl with | [_,_,_],_=>rfl⟩
 | n+1=>by
   have CQ:=vh T h n;obtain⟨f,fd,F,hm⟩:=h;exact⟨f,fd,_,sg (k:=1+n) zV.2 tj.2 F vd (λ_ _ _ _ _ _ hr=>(have nd:=vd.nd;(aQ (fq (cg (lx hr.units) (ae 2) ag) (aV$ bB$ bq$ bQ$ aa (aH ah) ah) dX)$ aQ (Jk$ bQ ah)$ aQ (gO (tL (ae 0) (ae 1) rfl T.z_range) aL$ aQ (cH$ aq fG (aq m7 (aq rM (ae 4) ag) ag) ag)$ aV$ gO (bU$ aT CQ (aa (ae 5)$ aa (ae 1)$ aa (aq pq (ae 2) ag) ah) (hkj:=(by omega))) aL$ aV$ Jm$ aq m7 (aH$ aa (ae 4) ah)$ ae 6)$ zD 3$ aV$ bB$ ae 3))),hm,F.kp,F.binds λ_ _ _ _ _ _ us hl=>match us,hl with | [_,_,_],_=>rfl⟩
abbrev dW:Stmt:=top 34
noncomputable abbrev fu:List Str:=["net","faults","many_ins","many"]
noncomputable def rf:Qdg dW:=⟨_,by conv=>lhs;whnf⟩
noncomputable def j0:Qdh dW:=⟨_,by conv=>lhs;whnf⟩
def rN:bj fu ["net"] j0.1:={}
def gb:FS:=(KW 1$ b8 (di$ aJ (dM 7)$ af (eC$ .int 0)$ af (e2 eU (ai 2)$ eC$ .int 3)$ af (ai 3) ax) (aK 0) f9 (bz$ af (ai 0)$ af (bz ax) ax) ["bad"] [])
def rY:FS:=(dw (ya 1$ b8 (jG$ e2 cb (ai 0)$ eC$ .int 1) (mM 2$ dv (aK 0)$ dv (aK 1) mQ) (qu$ pG$ e2 cb (ai 1)$ eC$ .int 2) (bz$ af (bz ax)$ af (bz$ af (ai 0) ax) ax) ["place","gate"] [])$ dw (g6 2$ aJ fP$ af (e2 cb (ai 0)$ eC$ .int 0) ax)$ dw (rO (rF (eC$ .int 1)$ e2 cW (ai 2)$ eC$ .int 1) (aK 3) gb)$ G9 1$ eE$ ai 1)
def e_:List D->R D:=qP fu rY
def rS(T:Tp K mg cl)(h:Def K mg "keeping_faults" dW)(qc:Callee P w K mg base 8 "bad_sets" 3 (dM 7)):Callee P w K mg base 9 "keeping_faults" 1 e_:=
 zt h rf.2 j0.2 rN λ_ _ _ _ _ _ _ hr nd=>(aQ (yM (oq (aF (ae 0) ag) rfl T.z_enumerate) (λ_ _ _=>(lO$ de aL$ de aL jq)) (λ_ _ _=>(qw$ rn$ oF$ aF (ae 1) ag))$ λ_ _ _=>(aH$ aa (aH ah)$ aa (aH$ aa (ae 0) ah) ah))$ aQ (cH$ bp eX rfl T.z_len QaQ$ aa (aF (ae 0) ag) ah)$ aQ (gO (tL ag (aq cR (ae 2) ag) rfl T.z_range) aL$ aV$ Iy$ bW (bU$ aT qc$ aa ag$ aa (aq fG (ae 2) ag)$ aa (ae 3) ah) (λ_ _ _=>aL) (λ_ _ _=>bK)$ λ_ _ _=>(aH$ aa (ae 0)$ aa (aH ah) ah))$ zD 1$ aV$ bB$ ae 1)
abbrev ck:Stmt:=inClass (top 29) 0
noncomputable abbrev fm:List Str:=["self","net","inputs"]
noncomputable def rq:Qdg ck:=⟨_,by conv=>lhs;whnf⟩
noncomputable def j4:Qdh ck:=⟨_,by conv=>lhs;whnf⟩
def lz:bj fm ["self","net"] j4.1:={}
def ig:FZ:=(bN (cU 2$ fU iJ$ bx (xP$ aJ fP$ af (e2 cb (ai 1)$ eC$ .int 0) ax) eO)$ bN (Fw 0 "net" (fw 0)$ xP$ ai 1)$ bN (Fw 0 "many_inputs" (fw 0)$ xP$ aJ fP$ af (ai 2) ax)$ bN (Fw 0 "full" (fw 0)$ xP$ aJ ij$ af (eNew$ b8 (di$ ai 2) (aK 0) f9 (eC$ .int 1) ["bits"] []) ax)$ Fw 0 "in_masks" (fw 0)$ xP$ eNew$ b8 (cy$ aJ fP$ af (e2 cb (ai 1)$ eC$ .int 0) ax) (aK 0) f9 (aJ lT$ af (ai 1)$ af (ai 0) ax) ["place"] [2])
def dG:List V3->a_->R3 V3:=qj fm ig
def Dn:List V3->a_->R3 V3:=u9 fm ig
def dQ(T:Tp K mg cl)(h:OA K (cl 0) "__init__" "Bench.__init__" ck)(ju:Callee P w K mg base 1 "mask_of" 1 ij)(sF:Callee P w K mg base 2 "in_mask" 2 lT)(lj:cX P w K mg base cl 1 "all_inputs" 1 iJ):IG P w K mg base cl 3 0 "Bench" 1 dG:=by
 obtain⟨f,fd,F,hm⟩:=h;exact⟨f,fd,_,hm,nU (k:=2) rq.2 j4.2 F lz (λ_ _ _ _ _ _ hr=>(have nd:=lz.nd;(az (bH$ eK lj$ aC (au$ bp eX rfl T.z_len QaQ$ aa (aF (ae 1) ag) ah) bO)$ az (yF T.C_Bench T.N_Bench_net (cN 0)$ au$ ae 1)$ az (yF T.C_Bench T.N_Bench_many_inputs (cN 0)$ au$ bp eX rfl T.z_len QaQ$ aa (ae 2) ah)$ az (yF T.C_Bench T.N_Bench_full (cN 0)$ au$ aT ju$ aa (bq$ bW (bU$ ae 2) (λ_ _ _=>aL) (λ_ _ _=>bK)$ λ_ _ _=>ag) ah)$ bb$ yF T.C_Bench T.N_Bench_in_masks (cN 0)$ au$ bq$ bW (bo (bp eX rfl T.z_len QaQ$ aa (aF (ae 1) ag) ah) rfl T.z_range) (λ_ _ _=>aL) (λ_ _ _=>bK)$ λ_ _ _=>(aT sF$ aa (ae 1)$ aa (ae 0) ah)))),T.M_Bench,F.binds λ_ _ _ _ _ _ us hl=>match us,hl with | [_,_],_=>rfl⟩
abbrev cY:Stmt:=inClass (top 29) 1
noncomputable abbrev iE:List Str:=["self","turned","bad"]
noncomputable def uW:Qdg cY:=⟨_,by conv=>lhs;whnf⟩
noncomputable def nj:Qdh cY:=⟨_,by conv=>lhs;whnf⟩
def oQ:bj iE ["self","turned","bad"] nj.1:={}
def kJ:FZ:=(i7$ fU l7$ bx (Bt 0 "net"$ fw 0)$ bx (fU kI$ bx (Bt 0 "net"$ fw 0)$ bx (Bt 0 "in_masks"$ fw 0)$ bx (Bt 0 "full"$ fw 0)$ bx (xP$ ai 1)$ bx (xP$ ai 2) eO) eO)
def ve:List V3->a_->R3 V3:=qj iE kJ
def eW:List V3->a_->R3 V3:=u9 iE kJ
def fV(T:Tp K mg cl)(h:EH K (cl 0) "tells" "Bench.tells" cY)(kU:cX P w K mg base cl 3 "wire_masks" 5 kI)(mr:cX P w K mg base cl 2 "out_masks" 2 l7):tE P w K mg base cl 4 0 "tells" 2 ve:=by
 obtain⟨f,fd,F,hm⟩:=h;exact⟨f,fd,_,T.C_Bench,hm,nU (k:=3) uW.2 nj.2 F oQ (λ_ _ _ _ _ _ hr=>(have nd:=oQ.nd;(bb$ dz$ eK mr$ aC (vA T.C_Bench T.N_Bench_net$ cN 0)$ aC (eK kU$ aC (vA T.C_Bench T.N_Bench_net$ cN 0)$ aC (vA T.C_Bench T.N_Bench_in_masks$ cN 0)$ aC (vA T.C_Bench T.N_Bench_full$ cN 0)$ aC (au$ ae 1)$ aC (au$ ae 2) bO) bO))),F.binds λ_ _ _ _ _ _ us hl=>match us,hl with | [_,_,_],_=>rfl⟩
abbrev bS:Stmt:=inClass (top 29) 4
noncomputable abbrev eJ:List Str:=["self","mask"]
noncomputable def pP:Qdg bS:=⟨_,by conv=>lhs;whnf⟩
noncomputable def jx:Qdh bS:=⟨_,by conv=>lhs;whnf⟩
def j7:bj eJ ["self","mask"] jx.1:={}
def gM:FZ:=(i7$ ni (Ak$ Bt 0 "many_inputs"$ fw 0) (mT 0) (bP$ b2 qv (aJ m8$ af (ai 1)$ af (ai 0) ax)$ eC$ .int 1) (xP$ ai 0) ["number"] [1])
def pM:List V3->a_->R3 V3:=qj eJ gM
def cQ:List V3->a_->R3 V3:=u9 eJ gM
def dF(T:Tp K mg cl)(h:EH K (cl 0) "inputs_in" "Bench.inputs_in" bS)(vZ:Callee P w K mg base 1 "bit_at" 2 m8):tE P w K mg base cl 2 0 "inputs_in" 1 pM:=by
 obtain⟨f,fd,F,hm⟩:=h;exact⟨f,fd,_,T.C_Bench,hm,nU (k:=1) pP.2 jx.2 F j7 (λ_ _ _ _ _ _ hr=>(have nd:=j7.nd;(bb$ dz$ yL (B0 (vA T.C_Bench T.N_Bench_many_inputs$ cN 0) rfl T.z_range) (λ_ _ _=>br) (λ_ _ _=>(zA$ dS$ cg (lx hr.units) (aT vZ$ aa (ae 1)$ aa (ae 0) ah) ag))$ λ_ _ _=>(au$ ae 0)))),F.binds λ_ _ _ _ _ _ us hl=>match us,hl with | [_,_],_=>rfl⟩
abbrev qB:Stmt:=top 35
noncomputable abbrev q_:List Str:=["net","bench","plain","mask","bad","turned"]
noncomputable def JM:Qdg qB:=⟨_,by conv=>lhs;whnf⟩
noncomputable def A8:Qdh qB:=⟨_,by conv=>lhs;whnf⟩
def DB:bj q_ ["net"] A8.1:={}
def xA:FZ:=(bN (cU 3$ sj ot$ bx (xP$ ai 2)$ bx (u6 0 "tells" eW (fw 1)$ bx (xP$ ai 5)$ bx (xP$ ai 4) eO) eO)$ yu (bP$ b2 A1 (ai 3)$ eC$ .int 0) (i7$ HZ$ bx (xP$ eC$ .str "loses")$ bx (xP$ ai 4)$ bx (xP$ ai 5)$ bx (SD (u6 0 "inputs_in" cQ (fw 1)$ bx (xP$ ai 3) eO)$ xP$ eC$ .int 0) eO) mV)
def D6:FZ:=(bN (yu (Vs$ bP$ qu$ pG$ aJ fA$ af (ai 0)$ af (eC$ .int 3) ax) (BN 10$ BK$ bx (xP$ eC$ .str "a net with an in or an out of other than three wires") eO) mV) (V5$ bN (cU 1$ Jp 0 dG$ bx (xP$ ai 0) eO)$ bN (cU 2$ u6 0 "tells" eW (fw 1)$ bx (xP$ bz ax)$ bx (xP$ bz ax) eO)$ bN (cU 3$ xP$ aJ j5$ af (ai 2) ax)$ bN (yu (bP$ b2 A1 (ai 3)$ eC$ .int 0) (i7$ HZ$ bx (xP$ eC$ .str "loses")$ bx (xP$ bz ax)$ bx (xP$ bz ax)$ bx (SD (u6 0 "inputs_in" cQ (fw 1)$ bx (xP$ ai 3) eO)$ xP$ eC$ .int 0) eO) mV)$ bN (lU (iP$ di$ aJ e_$ af (ai 0) ax) (Gs 2$ v8 (mT 4)$ v8 (mT 5) GZ) xA)$ i7$ xP$ bz$ af (eC$ .str "keeps") ax))
def iS:List V3->a_->R3 V3:=qj q_ D6
def SA:List V3->a_->R3 V3:=u9 q_ D6
def Lh(T:Tp K mg cl)(h:Def K mg "keeps" qB)(mz:Callee P w K mg base 1 "has_widths" 2 fA)(n9:Callee P w K mg base 1 "unlike_at" 1 j5)(iz:Callee P w K mg base 9 "keeping_faults" 1 e_)(sH:Callee P w K mg base 2 "lost_at" 2 ot)(gQ:IG P w K mg base cl 3 0 "Bench" 1 dG)(gR:tE P w K mg base cl 4 0 "tells" 2 eW)(d8:tE P w K mg base cl 2 0 "inputs_in" 1 cQ):iI P w K mg base cl 10 "keeps" 1 iS:=by
 obtain⟨f,fd,F,hm⟩:=h;exact⟨f,fd,_,Hk (k:=9) JM.2 A8.2 F DB (λ_ _ _ _ _ _ hr=>(have nd:=DB.nd;(Eu (Pb (dS$ rn$ oF$ aT mz$ aa (ae 0)$ aa ag ah) (zG$ Fy EM rfl T.X_NotThree rfl T.M_NotThree$ ur$ aC (au bG) bO) I_)$ Md$ az (bH$ KJ gQ hr (by decide) rfl (aC (au$ ae 0) bO)$ cj dR)$ az (bH$ uo gR hr (by decide) (cN 1) (aC (au$ aH ah)$ aC (au$ aH ah) bO)$ cj$ cj dR)$ az (bH$ au$ aT n9$ aa (ae 2) ah)$ az (lS (dS$ cg (BX hr.units) (ae 3) ag) (bb$ dz$ CH$ aC (au bG)$ aC (au$ aH ah)$ aC (au$ aH ah)$ aC (Nw (uo d8 hr (by decide) (cN 1) (aC (au$ ae 3) bO)$ cj dR) (au ag)$ λ_ _=>rfl) bO) fg)$ az (eD (cu$ bU$ aT iz$ aa (ae 0) ah) (iM$ bR br$ bR br fN) (az (bH$ qL sH hr (by decide) rfl (aC (au$ ae 2)$ aC (uo gR hr (by decide) (cN 1) (aC (au$ ae 5)$ aC (au$ ae 4) bO)$ cj$ cj dR) bO)$ cj$ cj dR)$ bb$ lS (dS$ cg (BX hr.units) (ae 3) ag) (bb$ dz$ CH$ aC (au bG)$ aC (au$ ae 4)$ aC (au$ ae 5)$ aC (Nw (uo d8 hr (by decide) (cN 1) (aC (au$ ae 3) bO)$ cj dR) (au ag)$ λ_ _=>rfl) bO) fg) (hp:=Qv))$ bb$ dz$ au$ aH$ aa bG ah))),hm,F.kp,F.binds λ_ _ _ _ _ _ us hl=>match us,hl with | [_],_=>rfl⟩
abbrev fS:Stmt:=top 37
noncomputable abbrev px:List Str:=["script","k"]
noncomputable def uO:Qdg fS:=⟨_,by conv=>lhs;whnf⟩
noncomputable def nF:Qdh fS:=⟨_,by conv=>lhs;whnf⟩
def wG:bj px ["script","k"] nF.1:={}
def o7:FS:=(dw (x5 (b2 Wt (ai 1)$ aJ fP$ af (ai 0) ax) (eE$ e2 cb (ai 0)$ ai 1) pQ)$ eE$ eC$ .int 0)
def eA:List D->R D:=qP px o7
def wb(T:Tp K mg cl)(h:Def K mg "_law_cell_at" fS):Callee P w K mg base 1 "_law_cell_at" 2 eA:=
 zt h uO.2 nF.2 wG λ_ _ _ _ _ _ _ hr nd=>(aQ (fq (cg WJ (ae 1)$ bp eX rfl T.z_len QaQ$ aa (ae 0) ah) (aV$ bB$ aF (ae 0)$ ae 1) dX)$ aV$ bB ag)
abbrev jF:Stmt:=top 38
noncomputable abbrev l4:List Str:=["cell","k","number"]
noncomputable def AH:Qdg jF:=⟨_,by conv=>lhs;whnf⟩
noncomputable def tw:Qdh jF:=⟨_,by conv=>lhs;whnf⟩
def Cq:bj l4 ["cell","k"] tw.1:={}
def vO:FS:=(dw (x5 (b2 WL (ai 0)$ e2 Fi (eC$ .int 10)$ eC$ .int 18) (eE$ e2 fI (e2 AJ (e2 qA (ai 0)$ e2 Fi (eC$ .int 10)$ eC$ .int 18)$ e2 eU (eC$ .int 28)$ ai 1)$ e2 Fi (eC$ .int 2)$ eC$ .int 28) pQ)$ dw (g6 2$ e2 fI (e2 eU (e2 cW (e2 cW (ai 0)$ e2 eU (eC$ .int 1013)$ ai 1)$ eC$ .int 1)$ eC$ .int 16807)$ eC$ .int 2147483647)$ dw (g6 2$ e2 fI (e2 eU (ai 2)$ ai 2)$ eC$ .int 2147483629)$ eE$ e2 lR (e2 fI (e2 eU (ai 2)$ eC$ .int 39373)$ eC$ .int 2147483587)$ eC$ .int 8)
def bC:List D->R D:=qP l4 vO
def CI(T:Tp K mg cl)(h:Def K mg "_law_stir" jF):Callee P w K mg base 1 "_law_stir" 2 bC:=
 zt h AH.2 tw.2 Cq λ_ _ _ _ _ _ _ hr nd=>(aQ (fq (cg VD (ae 0)$ aq G5 ag ag) (aV$ bB$ aq ef (aq Ir (aq pq (ae 0)$ aq G5 ag ag)$ aq fG ag$ ae 1)$ aq G5 ag ag) dX)$ aQ (cH$ aq ef (aq fG (aq cR (aq cR (ae 0)$ aq fG ag$ ae 1) ag) ag) ag)$ aQ (cH$ aq ef (aq fG (ae 2)$ ae 2) ag)$ aV$ bB$ aq rM (aq ef (aq fG (ae 2) ag) ag) ag)
abbrev lK:Stmt:=top 39
noncomputable abbrev xG:List Str:=["kind","some"]
noncomputable def BY:Qdg lK:=⟨_,by conv=>lhs;whnf⟩
noncomputable def vj:Qdh lK:=⟨_,by conv=>lhs;whnf⟩
def EN:bj xG ["kind","some"] vj.1:={}
def FK:FS:=(dw (x5 (b2 qv (ai 0)$ eC$ .str "not") (eE$ e2 qA (eC$ .int 1)$ e2 cb (ai 1)$ eC$ .int 0) pQ)$ dw (x5 (b2 qv (ai 0)$ eC$ .str "and") (eE$ aJ z6$ af (ai 1) ax) pQ)$ dw (x5 (b2 qv (ai 0)$ eC$ .str "or") (eE$ aJ Iq$ af (ai 1) ax) pQ)$ eE$ e2 cb (eNew$ dy$ af (aJ rj$ af (e2 OP (aJ D3$ af (ai 1) ax)$ eC$ .int 1) ax)$ af (e2 fI (aJ D3$ af (ai 1) ax)$ eC$ .int 2) ax)$ aJ rj$ af (e2 qv (ai 0)$ eC$ .str "xor") ax)
def oz:List D->R D:=qP xG FK
def Fg(T:Tp K mg cl)(h:Def K mg "_law_bit" lK):Callee P w K mg base 1 "_law_bit" 2 oz:=
 zt h BY.2 vj.2 EN λ_ _ _ _ _ _ _ hr nd=>(aQ (fq (cg (lx hr.units) (ae 0) bG) (aV$ bB$ aq pq ag$ aF (ae 1) ag) dX)$ aQ (fq (cg (lx hr.units) (ae 0) bG) (aV$ bB$ bp (Il rfl) rfl T.z_min PyProof.Rows.boot_min$ aa (ae 1) ah) dX)$ aQ (fq (cg (lx hr.units) (ae 0) bG) (aV$ bB$ bp (NY rfl) rfl T.z_max PyProof.Rows.boot_max$ aa (ae 1) ah) dX)$ aV$ bB$ aF (bq$ bQ$ aa (cw uF rfl T.z_int Qby$ aa (iL ME (bp (Hv rfl) rfl T.z_sum PyProof.Rows.boot_sum$ aa (ae 1) ah) ag) ah)$ aa (aq ef (bp (Hv rfl) rfl T.z_sum PyProof.Rows.boot_sum$ aa (ae 1) ah) ag) ah)$ cw uF rfl T.z_int Qby$ aa (iL (lx hr.units) (ae 0) bG) ah)
abbrev lW:Stmt:=top 40
noncomputable abbrev oI:List Str:=["net","bits","turned","bad","wires","name","width","bit","k","place","kind","own","sure"]
noncomputable def Ct:Qdg lW:=⟨_,by conv=>lhs;whnf⟩
noncomputable def vB:Qdh lW:=⟨_,by conv=>lhs;whnf⟩
def EL:bj oI ["net","bits","turned","bad"] vB.1:={}
def tK:FZ:=(mS 4$ xT$ e2 cb (eNew$ dy$ af (ai 7)$ af (e2 qA (eC$ .int 1)$ ai 7) ax)$ aJ rj$ af (e2 MZ (aJ fP$ af (ai 4) ax)$ ai 3) ax)
def A2:FZ:=(lU (iP$ cy$ ai 6) (mT 8) tK)
def tF:FZ:=(bN (cU 7$ xT$ aJ oz$ af (ai 10)$ af (eNew$ b8 (di$ ai 11) (aK 0) f9 (e2 cb (ai 1)$ ai 0) ["one"] [4]) ax)$ mS 4$ xP$ e2 cb (eNew$ dy$ af (ai 7)$ af (e2 qA (eC$ .int 1)$ ai 7) ax)$ aJ rj$ af (e2 MZ (ai 9)$ ai 2) ax)
def xB:FZ:=(bN (cU 4$ pB$ dy ax)$ bN (lU (iP$ Dr (e2 cb (ai 0)$ eC$ .int 0)$ ai 1) (Gs 2$ v8 (Gs 2$ v8 (mT 5)$ v8 (mT 6) GZ)$ v8 (mT 7) GZ) A2)$ bN (lU (iP$ jG$ e2 cb (ai 0)$ eC$ .int 1) (Gs 2$ v8 (mT 9)$ v8 (Gs 3$ v8 (mT 10)$ v8 (mT 11)$ v8 (mT 12) GZ) GZ) tF)$ i7$ ni (iP$ di$ e2 cb (ai 0)$ eC$ .int 2) (Gs 2$ v8 (mT 0)$ v8 (mT 1) GZ) F6 (xT$ aJ h_$ af (eNew$ b8 (di$ ai 1) (aK 0) f9 (e2 cb (ai 1)$ ai 0) ["one"] [2]) ax) ["name","own"] [4])
def Bu:List V3->a_->R3 V3:=qj oI xB
def mj:List V3->a_->R3 V3:=u9 oI xB
def EI(T:Tp K mg cl)(h:Def K mg "_law_run" lW)(su:Callee P w K mg base 1 "_law_bit" 2 oz):cX P w K mg base cl 2 "_law_run" 4 Bu:=
 Km h Ct.2 vB.2 EL λ_ _ _ _ _ _ _ hr nd=>(az (bH$ l0$ bQ ah)$ az (eD (cu$ uD (aF (ae 0) ag) (ae 1) rfl T.z_zip) (iM$ bR (iM$ bR br$ bR br fN)$ bR br fN)$ bb$ eD (cu$ bo (ae 6) rfl T.z_range) br$ bb$ kL$ j_$ aF (bq$ bQ$ aa (ae 7)$ aa (aq pq ag$ ae 7) ah)$ cw uF rfl T.z_int Qby$ aa (iL Mf (bp eX rfl T.z_len QaQ$ aa (ae 4) ah)$ ae 3) ah)$ az (eD (cu$ oq (aF (ae 0) ag) rfl T.z_enumerate) (iM$ bR br$ bR (iM$ bR br$ bR br$ bR br fN) fN)$ az (bH$ j_$ aT su$ aa (ae 10)$ aa (bq$ bW (bU$ ae 11) (λ_ _ _=>aL) (λ_ _ _=>bK)$ λ_ _ _=>(aF (ae 1)$ ae 0)) ah)$ bb$ kL$ au$ aF (bq$ bQ$ aa (ae 7)$ aa (aq pq ag$ ae 7) ah)$ cw uF rfl T.z_int Qby$ aa (iL Mf (ae 9)$ ae 2) ah)$ bb$ dz$ yL (cu$ bU$ aF (ae 0) ag) (λ_ _ _=>(iM$ bR br$ bR br fN)) (λ_ _ _=>oG)$ λ_ _ _=>(j_$ cw j9 rfl T.z_tuple Qa3$ aa (bq$ bW (bU$ ae 1) (λ_ _ _=>aL) (λ_ _ _=>bK)$ λ_ _ _=>(aF (ae 1)$ ae 0)) ah))
abbrev gE:Stmt:=top 41
noncomputable abbrev qN:List Str:=["many"]
noncomputable def wo:Qdg gE:=⟨_,by conv=>lhs;whnf⟩
noncomputable def oW:Qdh gE:=⟨_,by conv=>lhs;whnf⟩
def yN:bj qN ["many"] oW.1:={}
def y8:FS:=(eE$ eNew$ b8 (cy$ e2 OE (eC$ .int 1)$ ai 0) (aK 0) f9 (eNew$ b8 (cy$ ai 1) (aK 0) f9 (e2 IV (e2 AJ (ai 1)$ e2 qA (e2 qA (ai 2)$ eC$ .int 1)$ ai 0)$ eC$ .int 1) ["k"] [0,1]) ["number"] [0])
def jh:List D->R D:=qP qN y8
def xZ(T:Tp K mg cl)(h:Def K mg "_law_inputs" gE):Callee P w K mg base 1 "_law_inputs" 1 jh:=
 zt h wo.2 oW.2 yN λ_ _ _ _ _ _ _ hr nd=>(aV$ bB$ bq$ bW (bo (aq RN ag$ ae 0) rfl T.z_range) (λ_ _ _=>aL) (λ_ _ _=>bK)$ λ_ _ _=>(bq$ bW (bo (ae 1) rfl T.z_range) (λ_ _ _=>aL) (λ_ _ _=>bK)$ λ_ _ _=>(aq ER (aq Ir (ae 1)$ aq pq (aq pq (ae 2) ag)$ ae 0) ag)))
abbrev iY:Stmt:=top 42
noncomputable abbrev nq:List Str:=["wires"]
noncomputable def yG:Qdg iY:=⟨_,by conv=>lhs;whnf⟩
noncomputable def qH:Qdh iY:=⟨_,by conv=>lhs;whnf⟩
def zT:bj nq ["wires"] qH.1:={}
def Ay:FS:=(eE$ eNew$ Qf (dy$ af (bz$ af (eC$ .str "vote")$ af (aJ h_$ af (ai 0) ax)$ af (eC$ .bl false) ax) ax)$ eC$ .int 3)
def iR:List D->R D:=qP nq Ay
def zQ(T:Tp K mg cl)(h:Def K mg "_law_votes" iY):Callee P w K mg base 1 "_law_votes" 1 iR:=
 zt h yG.2 qH.2 zT λ_ _ _ _ _ _ _ hr nd=>(aV$ bB$ bq$ MF (bQ$ aa (aH$ aa bG$ aa (cw j9 rfl T.z_tuple Qa3$ aa (ae 0) ah)$ aa f7 ah) ah) ag)
abbrev gH:Stmt:=top 43
noncomputable abbrev jk:List Str:=["cell","threes","number","kind","some","found"]
noncomputable def wc:Qdg gH:=⟨_,by conv=>lhs;whnf⟩
noncomputable def oT:Qdh gH:=⟨_,by conv=>lhs;whnf⟩
def zg:bj jk ["cell","threes"] oT.1:={}
def q8:FZ:=(bN (cU 2$ xP$ aJ bC$ af (ai 0)$ af (eC$ .int 0) ax)$ bN (cU 3$ xP$ e2 cb (eNew$ dy$ af (eC$ .str "and")$ af (eC$ .str "or")$ af (eC$ .str "xor")$ af (eC$ .str "vote")$ af (eC$ .str "not") ax)$ e2 fI (ai 2)$ eC$ .int 5)$ bN (cU 4$ ni (iP$ cy$ HN [((Sum.inr "not":Key),V.int 1),((Sum.inr "vote":Key),V.int 3)] (ai 3)$ eC$ .int 2) (mT 0) F6 (xT$ e2 cb (ai 2)$ e2 fI (aJ bC$ af (ai 1)$ af (e2 cW (eC$ .int 1)$ ai 0) ax)$ aJ fP$ af (ai 2) ax) ["k"] [0,1])$ bN (cU 5$ pB$ b8 (cy$ eC$ .int 3) (aK 0) f9 (bz$ af (ai 2)$ af (aJ h_$ af (eNew$ b8 (di$ ai 3) (aK 0) f9 (e2 cb (ai 0)$ ai 1) ["own"] [0]) ax)$ af (e2 qv (e2 fI (e2 lR (ai 1)$ eC$ .int 5)$ eC$ .int 7)$ eC$ .int 0) ax) ["k"] [2,3,4])$ bN (yu (bP$ b2 qv (e2 fI (e2 lR (ai 2)$ eC$ .int 35)$ eC$ .int 12)$ eC$ .int 0) (KR (fw 5) (xP$ eC$ .int 2)$ xT$ bz$ af (ai 3)$ af (aJ h_$ af (eNew$ b8 (di$ ai 4) (aK 0) f9 (e2 cb (ai 0)$ eC$ .int 0) ["own"] []) ax)$ af (e2 cb (e2 cb (ai 5)$ eC$ .int 2)$ eC$ .int 2) ax) mV)$ AA 5$ i7$ xP$ ai 5)
def wL:List V3->a_->R3 V3:=qj jk q8
def kj:List V3->a_->R3 V3:=u9 jk q8
def yW(T:Tp K mg cl)(h:Def K mg "_law_copies" gH)(bF:Callee P w K mg base 1 "_law_stir" 2 bC):cX P w K mg base cl 2 "_law_copies" 2 wL:=
 Km h wc.2 oT.2 zg λ_ _ _ _ _ _ _ hr nd=>(az (bH$ au$ aT bF$ aa (ae 0)$ aa ag ah)$ az (bH$ au$ aF (bq$ bQ$ aa bG$ aa bG$ aa bG$ aa bG$ aa bG ah)$ aq ef (ae 2) ag)$ az (bH$ yL (cu$ bo (K3 (R9 hr) (qz uU uS$ qz uU uS DZ) rfl rfl (by simp) (λ_ _ _ h=>h) (by decide) (ae 3) ag ⟨rfl,rfl,rfl,rfl⟩$ L_ (qz uU uS$ qz uU uS DZ) rfl rfl (by simp)$ by decide) rfl T.z_range) (λ_ _ _=>br) (λ_ _ _=>oG)$ λ_ _ _=>(j_$ aF (ae 2)$ aq ef (aT bF$ aa (ae 1)$ aa (aq cR ag$ ae 0) ah)$ bp eX rfl T.z_len QaQ$ aa (ae 2) ah))$ az (sZ (bo ag rfl T.z_range) (λ_ _ _=>aL) (λ_ _ _=>bK)$ λ_ _ _=>(aH$ aa (ae 2)$ aa (cw j9 rfl T.z_tuple Qa3$ aa (bq$ bW (bU$ ae 3) (λ_ _ _=>aL) (λ_ _ _=>bK)$ λ_ _ _=>(aF (ae 0)$ ae 1)) ah)$ aa (iL (lx hr.units) (aq ef (aq rM (ae 1) ag) ag) ag) ah))$ az (lS (dS$ cg (lx hr.units) (aq ef (aq rM (ae 2) ag) ag) ag) (bb$ Jh (j_$ aH$ aa (ae 3)$ aa (cw j9 rfl T.z_tuple Qa3$ aa (bq$ bW (bU$ ae 4) (λ_ _ _=>aL) (λ_ _ _=>bK)$ λ_ _ _=>(aF (ae 0) ag)) ah)$ aa (aF (aF (ae 5) ag) ag) ah)$ GO (PX.go$ cN 5) (PX.go$ au ag) set_list) fg)$ yi 5$ bb$ dz$ au$ ae 5)
abbrev lH:Stmt:=top 44
noncomputable abbrev om:List Str:=["script","most","head","many","ins","threes","gates","k","cell","last","outs","number","some"]
noncomputable def B5:Qdg lH:=⟨_,by conv=>lhs;whnf⟩
noncomputable def vQ:Qdh lH:=⟨_,by conv=>lhs;whnf⟩
def Ex:bj om ["script","most"] vQ.1:={}
def tf:FZ:=(yu (bP$ b2 OP (e2 fI (aJ bC$ af (ai 2)$ af (e2 cW (eC$ .int 1)$ ai 7) ax)$ eC$ .int 4)$ eC$ .int 0) (bN (KR (fw 5) (xP$ ai 7)$ xP$ aJ h_$ af (eNew$ b8 (cy$ eC$ .int 3) (aK 0) f9 (e2 cW (e2 cW (e2 eU (eC$ .int 3)$ ai 1)$ aJ fP$ af (ai 2) ax)$ ai 0) ["j"] [3,6]) ax)$ cU 6$ xP$ e2 cW (ai 6)$ aJ iR$ af (bz$ af (e2 eU (eC$ .int 3)$ ai 7)$ af (e2 cW (e2 eU (eC$ .int 3)$ ai 7)$ eC$ .int 1)$ af (e2 cW (e2 eU (eC$ .int 3)$ ai 7)$ eC$ .int 2) ax) ax) mV)
def tq:FZ:=(bN (cU 6$ x2 cW (xP$ ai 6)$ fU kj$ bx (xP$ ai 8)$ bx (fw 5) eO)$ bN (cU 9$ xP$ aJ h_$ af (eNew$ b8 (cy$ eC$ .int 3) (aK 0) f9 (e2 cW (e2 qA (e2 cW (e2 eU (eC$ .int 3)$ ai 1)$ aJ fP$ af (ai 2) ax)$ eC$ .int 3)$ ai 0) ["j"] [3,6]) ax)$ bN (yu (bP$ b2 OP (e2 fI (aJ bC$ af (ai 8)$ af (eC$ .int 9) ax)$ eC$ .int 3)$ eC$ .int 0) (bN (cU 6$ xP$ e2 cW (ai 6)$ aJ iR$ af (ai 9) ax)$ cU 9$ xP$ aJ h_$ af (eNew$ b8 (di$ ai 9) (aK 0) f9 (e2 cW (ai 0)$ eC$ .int 3) ["one"] []) ax) mV)$ mS 5$ xP$ ai 9)
def tu:FZ:=(bN (cU 11$ xP$ aJ bC$ af (ai 2)$ af (e2 cW (eC$ .int 21)$ ai 7) ax)$ bN (cU 12$ xT$ e2 cb (ai 5)$ e2 qA (e2 qA (aJ fP$ af (ai 5) ax)$ eC$ .int 1)$ e2 fI (ai 11)$ aJ z6$ af (aJ fP$ af (ai 5) ax)$ af (eC$ .int 3) ax)$ bN (yu (bP$ b2 qv (e2 fI (e2 lR (ai 11)$ eC$ .int 8)$ eC$ .int 6)$ eC$ .int 0) (cU 12$ xP$ NB$ ai 12) mV)$ bN (yu (bP$ b2 qv (e2 fI (e2 lR (ai 11)$ eC$ .int 48)$ eC$ .int 9)$ eC$ .int 0) (cU 12$ xP$ bz$ af (e2 cb (ai 12)$ eC$ .int 0)$ af (e2 cb (ai 12)$ eC$ .int 0)$ af (e2 cb (ai 12)$ eC$ .int 1) ax) mV)$ mS 10$ xP$ bz$ af (e2 cW (e2 cb (eC$ .str "uvw")$ ai 7)$ eC$ .str "out")$ af (ai 12) ax)
def xC:FZ:=(bN (cU 2$ xP$ aJ eA$ af (ai 0)$ af (eC$ .int 0) ax)$ bN (cU 3$ xP$ e2 cW (eC$ .int 1)$ e2 fI (aJ bC$ af (ai 2)$ af (eC$ .int 0) ax)$ ai 1)$ bN (cU 4$ ni (iP$ cy$ ai 3) (mT 0) F6 (xP$ bz$ af (e2 cW (e2 cb (eC$ .str "abcdef")$ ai 0)$ eC$ .str "in")$ af (eC$ .int 3) ax) ["k"] [])$ bN (cU 5$ pB$ b8 (cy$ ai 3) (aK 0) f9 (bz$ af (e2 eU (eC$ .int 3)$ ai 0)$ af (e2 cW (e2 eU (eC$ .int 3)$ ai 0)$ eC$ .int 1)$ af (e2 cW (e2 eU (eC$ .int 3)$ ai 0)$ eC$ .int 2) ax) ["k"] [])$ bN (cU 6$ xP$ eNew$ dy ax)$ bN (lU (iP$ cy$ ai 3) (mT 7) tf)$ bN (lU (iP$ di$ Qz (ai 0) (oS$ eC$ .int 1)$ oS$ eC$ .int 5) (mT 8) tq)$ bN (cU 10$ pB$ dy ax)$ bN (lU (iP$ cy$ e2 cW (eC$ .int 1)$ e2 fI (aJ bC$ af (ai 2)$ af (eC$ .int 20) ax)$ eC$ .int 3) (mT 7) tu)$ AA 10$ i7$ xP$ bz$ af (ai 4)$ af (ai 6)$ af (ai 10) ax)
def Cu:List V3->a_->R3 V3:=qj om xC
def pX:List V3->a_->R3 V3:=u9 om xC
def FW(T:Tp K mg cl)(h:Def K mg "_law_net" lH)(iQ:Callee P w K mg base 1 "_law_cell_at" 2 eA)(bF:Callee P w K mg base 1 "_law_stir" 2 bC)(kg:Callee P w K mg base 1 "_law_votes" 1 iR)(lq:cX P w K mg base cl 2 "_law_copies" 2 kj):cX P w K mg base cl 3 "_law_net" 2 Cu:=
 Km h B5.2 vQ.2 Ex λ_ _ _ _ _ _ _ hr nd=>(az (bH$ au$ aT iQ$ aa (ae 0)$ aa ag ah)$ az (bH$ au$ aq cR ag$ aq ef (aT bF$ aa (ae 2)$ aa ag ah)$ ae 1)$ az (pL (cu$ bo (ae 3) rfl T.z_range) (λ_ _ _=>br) (λ_ _ _=>oG)$ λ_ _ _=>(au$ aH$ aa (aq cR (aF bG$ ae 0) bG)$ aa ag ah))$ az (sZ (bo (ae 3) rfl T.z_range) (λ_ _ _=>aL) (λ_ _ _=>bK)$ λ_ _ _=>(aH$ aa (aq fG ag$ ae 0)$ aa (aq cR (aq fG ag$ ae 0) ag)$ aa (aq cR (aq fG ag$ ae 0) ag) ah))$ az (bH$ au$ bq$ bQ ah)$ az (eD (cu$ bo (ae 3) rfl T.z_range) br$ bb$ lS (dS$ cg ME (aq ef (aT bF$ aa (ae 2)$ aa (aq cR ag$ ae 7) ah) ag) ag) (az (Jh (au$ cw j9 rfl T.z_tuple Qa3$ aa (bq$ bW (bo ag rfl T.z_range) (λ_ _ _=>aL) (λ_ _ _=>bK)$ λ_ _ _=>(aq cR (aq cR (aq fG ag$ ae 1)$ bp eX rfl T.z_len QaQ$ aa (ae 2) ah)$ ae 0)) ah)$ GO (PX.go$ cN 5) (PX.go$ au$ ae 7) set_list)$ bb$ bH$ au$ aq cR (ae 6)$ aT kg$ aa (aH$ aa (aq fG ag$ ae 7)$ aa (aq cR (aq fG ag$ ae 7) ag)$ aa (aq cR (aq fG ag$ ae 7) ag) ah) ah) fg)$ az (eD (cu$ bU$ BG (ae 0) (lC ag)$ lC ag) br$ az (bH$ RJ cR (au$ ae 6)$ eK lq$ aC (au$ ae 8)$ aC (cN 5) bO)$ az (bH$ au$ cw j9 rfl T.z_tuple Qa3$ aa (bq$ bW (bo ag rfl T.z_range) (λ_ _ _=>aL) (λ_ _ _=>bK)$ λ_ _ _=>(aq cR (aq pq (aq cR (aq fG ag$ ae 1)$ bp eX rfl T.z_len QaQ$ aa (ae 2) ah) ag)$ ae 0)) ah)$ az (lS (dS$ cg ME (aq ef (aT bF$ aa (ae 8)$ aa ag ah) ag) ag) (az (bH$ au$ aq cR (ae 6)$ aT kg$ aa (ae 9) ah)$ bb$ bH$ au$ cw j9 rfl T.z_tuple Qa3$ aa (bq$ bW (bU$ ae 9) (λ_ _ _=>aL) (λ_ _ _=>bK)$ λ_ _ _=>(aq cR (ae 0) ag)) ah) fg)$ bb$ kL$ au$ ae 9)$ az (bH$ l0$ bQ ah)$ az (eD (cu$ bo (aq cR ag$ aq ef (aT bF$ aa (ae 2)$ aa ag ah) ag) rfl T.z_range) br$ az (bH$ au$ aT bF$ aa (ae 2)$ aa (aq cR ag$ ae 7) ah)$ az (bH$ j_$ aF (ae 5)$ aq pq (aq pq (bp eX rfl T.z_len QaQ$ aa (ae 5) ah) ag)$ aq ef (ae 11)$ bp (Il rfl) rfl T.z_min PyProof.Rows.boot_min$ aa (bp eX rfl T.z_len QaQ$ aa (ae 5) ah)$ aa ag ah)$ az (lS (dS$ cg (lx hr.units) (aq ef (aq rM (ae 11) ag) ag) ag) (bb$ bH$ au$ HB (ae 12)$ lC$ Kx ag) fg)$ az (lS (dS$ cg (lx hr.units) (aq ef (aq rM (ae 11) ag) ag) ag) (bb$ bH$ au$ aH$ aa (aF (ae 12) ag)$ aa (aF (ae 12) ag)$ aa (aF (ae 12) ag) ah) fg)$ bb$ kL$ au$ aH$ aa (aq cR (aF bG$ ae 7) bG)$ aa (ae 12) ah)$ yi 10$ bb$ dz$ au$ aH$ aa (ae 4)$ aa (ae 6)$ aa (ae 10) ah)
abbrev dI:Stmt:=top 45
noncomputable abbrev jZ:List Str:=["due","found","right","own"]
noncomputable def pE:Qdg dI:=⟨_,by conv=>lhs;whnf⟩
noncomputable def jK:Qdh dI:=⟨_,by conv=>lhs;whnf⟩
def qQ:bj jZ ["due","found"] jK.1:={}
def ja:FS:=(x5 (b2 OP (aJ fP$ af (eNew$ b8 (cy$ eC$ .int 3) (aK 0) (b2 A1 (e2 cb (ai 1)$ ai 0)$ e2 cb (ai 2)$ ai 0) (ai 0) ["k"] [2,3]) ax)$ eC$ .int 1) (eE$ eC$ .bl true) pQ)
def rp:FS:=(dw (rO (Dr (ai 0)$ ai 1) (mM 2$ dv (aK 2)$ dv (aK 3) mQ) ja)$ eE$ eC$ .bl false)
def eH:List D->R D:=qP jZ rp
def qW(T:Tp K mg cl)(h:Def K mg "_law_twice_wrong" dI):Callee P w K mg base 1 "_law_twice_wrong" 2 eH:=
 zt h pE.2 jK.2 qQ λ_ _ _ _ _ _ _ hr nd=>(aQ (gO (uD (ae 0) (ae 1) rfl T.z_zip) (lO$ de aL$ de aL jq)$ aV$ fq (cg ME (bp eX rfl T.z_len QaQ$ aa (bq$ bW (bo ag rfl T.z_range) (λ_ _ _=>aL) (λ_ _ _=>(qw$ cg (BX hr.units) (aF (ae 1)$ ae 0)$ aF (ae 2)$ ae 0))$ λ_ _ _=>(ae 0)) ah) ag) (aV$ bB f7) dX)$ aV$ bB f7)
abbrev eQ:Stmt:=top 46
noncomputable abbrev jw:List Str:=["many","found","place","longer","bad"]
noncomputable def tV:Qdg eQ:=⟨_,by conv=>lhs;whnf⟩
noncomputable def mH:Qdh eQ:=⟨_,by conv=>lhs;whnf⟩
def uA:bj jw ["many"] mH.1:={}
def lF:FS:=(g6 3$ e2 lY (e2 lY (ai 3)$ eNew$ dy$ af (ai 4) ax)$ eNew$ b8 (cy$ eC$ .int 3) (aK 0) f9 (e2 lY (ai 2)$ bz$ af (e2 lY (e2 eU (eC$ .int 3)$ ai 1)$ ai 0) ax) ["wire"] [2,4])
def lI:FS:=(dw (g6 3$ eNew$ dy ax)$ dw (rO (di$ ai 1) (aK 4) lF)$ g6 1$ ai 3)
def vw:FS:=(dw (g6 1$ eNew$ dy$ af (bz ax) ax)$ dw (rO (cy$ ai 0) (aK 2) lI)$ eE$ aJ pS$ af (eNew$ b8 (di$ ai 1) (aK 0) f9 (bz$ af (aJ fP$ af (ai 0) ax)$ af (ai 0) ax) ["bad"] []) ax)
def gu:List D->R D:=qP jw vw
def vF(T:Tp K mg cl)(h:Def K mg "_law_bad_sets" eQ):Callee P w K mg base 1 "_law_bad_sets" 1 gu:=
 zt h tV.2 mH.2 uA λ_ _ _ _ _ _ _ hr nd=>(aQ (cH$ bq$ bQ$ aa (aH ah) ah)$ aQ (gO (bo (ae 0) rfl T.z_range) aL$ aQ (cH$ bq$ bQ ah)$ aQ (gO (bU$ ae 1) aL$ aV$ cH$ aq m7 (aq m7 (ae 3)$ bq$ bQ$ aa (ae 4) ah)$ bq$ bW (bo ag rfl T.z_range) (λ_ _ _=>aL) (λ_ _ _=>bK)$ λ_ _ _=>(aq m7 (ae 2)$ aH$ aa (aq m7 (aq fG ag$ ae 1)$ ae 0) ah))$ aV$ cH$ ae 3)$ aV$ bB$ bp (LA hr.units) rfl T.z_sorted PyProof.Rows.boot_sorted$ aa (bq$ bW (bU$ ae 1) (λ_ _ _=>aL) (λ_ _ _=>bK)$ λ_ _ _=>(aH$ aa (bp eX rfl T.z_len QaQ$ aa (ae 0) ah)$ aa (ae 0) ah)) ah)
abbrev lD:Stmt:=top 47
noncomputable abbrev oB:List Str:=["net","inputs","right","number","sets","bad","turned","bits"]
noncomputable def BV:Qdg lD:=⟨_,by conv=>lhs;whnf⟩
noncomputable def vK:Qdh lD:=⟨_,by conv=>lhs;whnf⟩
def Fq:bj oB ["net"] vK.1:={}
def sU:FZ:=(yu (bP$ b2 A1 (eNew$ b8 (di$ e2 cb (ai 2)$ ai 3) (aK 0) (b2 HV (ai 0)$ eNew$ dy$ af (bz$ af (eC$ .int 0)$ af (eC$ .int 0)$ af (eC$ .int 0) ax)$ af (bz$ af (eC$ .int 1)$ af (eC$ .int 1)$ af (eC$ .int 1) ax) ax) (ai 0) ["own"] [])$ eNew$ dy ax) (i7$ xP$ bz$ af (eC$ .str "loses")$ af (bz ax)$ af (bz ax)$ af (ai 3) ax) mV)
def tJ:FZ:=(yu (BH$ sj eH$ bx (xP$ e2 cb (ai 2)$ ai 3)$ bx (fU mj$ bx (xP$ ai 0)$ bx (xP$ ai 7)$ bx (xP$ ai 6)$ bx (xP$ ai 5) eO) eO) (i7$ xP$ bz$ af (eC$ .str "loses")$ af (ai 5)$ af (ai 6)$ af (ai 3) ax) mV)
def s_:FZ:=(lU (iP$ jG$ ai 1) (Gs 2$ v8 (mT 3)$ v8 (mT 7) GZ) tJ)
def w_:FZ:=(bN (cU 1$ xP$ aJ jh$ af (aJ fP$ af (e2 cb (ai 0)$ eC$ .int 0) ax) ax)$ bN (cU 2$ ni (iP$ di$ ai 1) (mT 0) F6 (fU mj$ bx (xP$ ai 1)$ bx (xP$ ai 0)$ bx (xP$ bz ax)$ bx (xP$ bz ax) eO) ["bits"] [0])$ bN (lU (iP$ cy$ aJ fP$ af (ai 1) ax) (mT 3) sU)$ bN (cU 4$ ni (iP$ cy$ aJ fP$ af (e2 cb (ai 0)$ eC$ .int 1) ax) (mT 0) (bP$ qu$ pG$ e2 cb (e2 cb (e2 cb (ai 1)$ eC$ .int 1)$ ai 0)$ eC$ .int 2) (xP$ bz$ af (bz ax)$ af (bz$ af (ai 0) ax) ax) ["place"] [0])$ bN (cU 4$ xP$ e2 cW (ai 4)$ eNew$ b8 (di$ aJ gu$ af (aJ fP$ af (e2 cb (ai 0)$ eC$ .int 0) ax) ax) (mM 2$ dv (aK 0)$ dv (aK 1) mQ) f9 (bz$ af (ai 1)$ af (bz ax) ax) ["many","bad"] [])$ bN (lU (iP$ di$ ai 4) (Gs 2$ v8 (mT 5)$ v8 (mT 6) GZ) s_)$ i7$ xP$ bz$ af (eC$ .str "keeps") ax)
def Bz:List V3->a_->R3 V3:=qj oB w_
def pT:List V3->a_->R3 V3:=u9 oB w_
def Fp(T:Tp K mg cl)(h:Def K mg "_law_due" lD)(mq:Callee P w K mg base 1 "_law_inputs" 1 jh)(jN:Callee P w K mg base 1 "_law_bad_sets" 1 gu)(gT:Callee P w K mg base 1 "_law_twice_wrong" 2 eH)(ml:cX P w K mg base cl 2 "_law_run" 4 mj):cX P w K mg base cl 3 "_law_due" 1 Bz:=
 Km h BV.2 vK.2 Fq λ_ _ _ _ _ _ _ hr nd=>(az (bH$ au$ aT mq$ aa (bp eX rfl T.z_len QaQ$ aa (aF (ae 0) ag) ah) ah)$ az (pL (cu$ bU$ ae 1) (λ_ _ _=>br) (λ_ _ _=>oG)$ λ_ _ _=>(eK ml$ aC (au$ ae 1)$ aC (au$ ae 0)$ aC (au$ aH ah)$ aC (au$ aH ah) bO))$ az (eD (cu$ bo (bp eX rfl T.z_len QaQ$ aa (ae 1) ah) rfl T.z_range) br$ bb$ lS (dS$ cg (BX hr.units) (bq$ bW (bU$ aF (ae 2)$ ae 3) (λ_ _ _=>aL) (λ_ _ _=>(qw$ cg (Sr hr.units) (ae 0)$ bq$ bQ$ aa (aH$ aa ag$ aa ag$ aa ag ah)$ aa (aH$ aa ag$ aa ag$ aa ag ah) ah))$ λ_ _ _=>(ae 0))$ bq$ bQ ah) (bb$ dz$ au$ aH$ aa bG$ aa (aH ah)$ aa (aH ah)$ aa (ae 3) ah) fg)$ az (pL (cu$ bo (bp eX rfl T.z_len QaQ$ aa (aF (ae 0) ag) ah) rfl T.z_range) (λ_ _ _=>br) (λ_ _ _=>(zA$ dS$ rn$ oF$ aF (aF (aF (ae 1) ag)$ ae 0) ag))$ λ_ _ _=>(au$ aH$ aa (aH ah)$ aa (aH$ aa (ae 0) ah) ah))$ az (bH$ au$ aq cR (ae 4)$ bq$ bW (bU$ aT jN$ aa (bp eX rfl T.z_len QaQ$ aa (aF (ae 0) ag) ah) ah) (λ_ _ _=>(lO$ de aL$ de aL jq)) (λ_ _ _=>bK)$ λ_ _ _=>(aH$ aa (ae 1)$ aa (aH ah) ah))$ az (eD (cu$ bU$ ae 4) (iM$ bR br$ bR br fN)$ bb$ eD (cu$ oq (ae 1) rfl T.z_enumerate) (iM$ bR br$ bR br fN)$ bb$ lS (qE$ qL gT hr (by decide) rfl (aC (au$ aF (ae 2)$ ae 3)$ aC (eK ml$ aC (au$ ae 0)$ aC (au$ ae 7)$ aC (au$ ae 6)$ aC (au$ ae 5) bO) bO)$ cj$ cj dR) (bb$ dz$ au$ aH$ aa bG$ aa (ae 5)$ aa (ae 6)$ aa (ae 3) ah) fg)$ bb$ dz$ au$ aH$ aa bG ah)
abbrev iX:Stmt:=top 48
noncomputable abbrev jW:List Str:=["found","due"]
noncomputable def zc:Qdg iX:=⟨_,by conv=>lhs;whnf⟩
noncomputable def qp:Qdh iX:=⟨_,by conv=>lhs;whnf⟩
def sT:bj jW ["found","due"] qp.1:={}
def sS(self:List D->R D):FS:=(dw (x5 (pG$ Hs "tuple"$ ai 1) (dw (x5 (Ur (qu$ pG$ Hs "tuple"$ ai 0)$ b2 A1 (aJ fP$ af (ai 0) ax)$ aJ fP$ af (ai 1) ax) (eE$ eC$ .bl false) pQ)$ eE$ e2 qv (eNew$ b8 (cy$ aJ fP$ af (ai 1) ax) (aK 0) (qu$ pG$ aJ self$ af (e2 cb (ai 1)$ ai 0)$ af (e2 cb (ai 2)$ ai 0) ax) (ai 0) ["k"] [0,1])$ eNew$ dy ax) pQ)$ eE$ ES (O6$ Hs "bool"$ ai 0)$ ES (Nf "str" "int"$ ai 0)$ e2 qv (ai 0)$ ai 1)
def cL:Nat->List D->R D
 | 0=>λ_=> .no
 | n+1=>qP jW$ sS$ cL n
theorem tm(T:Tp K mg cl)(h:Def K mg "_law_alike" iX):∀n,Callee P w K mg base (1+n) "_law_alike" 2 (cL n)
 | 0=>by
   obtain⟨f,fd,F,hm⟩:=h;exact⟨f,fd,["found","due"],Nl,hm,F.kp,F.binds λ_ _ _ _ _ _ us hl=>match us,hl with | [_,_],_=>rfl⟩
 | n+1=>by
   have CQ:=tm T h n;obtain⟨f,fd,F,hm⟩:=h;exact⟨f,fd,_,sg (k:=1+n) zc.2 qp.2 F sT (λ_ _ _ _ _ _ hr=>(have nd:=sT.nd;(aQ (fq (oF$ x8 (ae 1) (by decide) rfl T.z_isinstance rfl T.z_tuple Qa3) (aQ (fq (KA$ LW (rn$ oF$ x8 (ae 0) (by decide) rfl T.z_isinstance rfl T.z_tuple Qa3)$ GI$ cg (BX hr.units) (bp eX rfl T.z_len QaQ$ aa (ae 0) ah)$ bp eX rfl T.z_len QaQ$ aa (ae 1) ah) (aV$ bB f7) dX)$ aV$ bB$ iL (lx hr.units) (bq$ bW (bo (bp eX rfl T.z_len QaQ$ aa (ae 1) ah) rfl T.z_range) (λ_ _ _=>aL) (λ_ _ _=>(qw$ rn$ oF$ aT CQ (aa (aF (ae 1)$ ae 0)$ aa (aF (ae 2)$ ae 0) ah) (hkj:=(by omega))))$ λ_ _ _=>(ae 0))$ bq$ bQ ah) dX)$ aV$ bB$ xQ (LN$ x8 (ae 0) (by decide) rfl T.z_isinstance rfl T.z_bool PyProof.Rows.boot_bool)$ xQ (Jv (ae 0) (by decide) (by decide) rfl T.z_isinstance rfl T.z_str PyProof.Rows.boot_str rfl T.z_int Qby)$ Di$ iL (lx hr.units) (ae 0)$ ae 1))),hm,F.kp,F.binds λ_ _ _ _ _ _ us hl=>match us,hl with | [_,_],_=>rfl⟩
abbrev fQ:Stmt:=top 49
noncomputable abbrev fR:List Str:=["net","caught","e"]
noncomputable def uK:Qdg fQ:=⟨_,by conv=>lhs;whnf⟩
noncomputable def nO:Qdh fQ:=⟨_,by conv=>lhs;whnf⟩
def oY:bj fR ["net"] nO.1:={}
def oV:FZ:=(bN (cU 1$ xP$ eC .cI)$ bN (BR (Ht$ fU iS$ BK$ bx (xP$ ai 0) eO) (λc=>[10].contains c) 2$ cU 1$ fw 2)$ bN (yu (BH$ Pr (fw 1)$ Nu [(10,false)]) (i7$ xP$ eC$ .bl false) mV)$ i7$ LC (Er (fw 1)$ Nu [(10,true)])$ LC (Er (fw 1)$ Nu [(10,true)])$ Qq$ Er (fw 1)$ Nu [(10,false)])
def vt:List V3->a_->R3 V3:=qj fR oV
def nC:List V3->a_->R3 V3:=u9 fR oV
def wC(T:Tp K mg cl)(h:Def K mg "_law_refused" fQ)(oa:iI P w K mg base cl 10 "keeps" 1 iS):cX P w K mg base cl 11 "_law_refused" 1 vt:=
 Km h uK.2 nO.2 oY λ_ _ _ _ _ _ _ hr nd=>(az (bH (au Mc)) (az (PQ rfl rfl rfl (R_ (K6 T.E_NotThree_FaultError Pw)) rfl T.M_FaultError oY.nd rfl rfl (λpn xe E hp=>(zG (JC (uB hp oa hr (by decide) rfl (ur (aC (au (ae 0)) bO)) (yD (cj dR)))))) (λa pn=>(bb (bH (cN 2))))) (az (lS (qE (Pj (cN 1) (dq (fj (v:= .ref (cl 2)) rfl T.M_TooLong rfl) (dq (fj (v:= .ref (cl 3)) rfl T.M_NoForm rfl) (dq (fj (v:= .ref (cl 4)) rfl T.M_NoPlace rfl) (dq (fj (v:= .ref (cl 5)) rfl T.M_Twice rfl) (dq (fj (v:= .ref (cl 6)) rfl T.M_Full rfl) (dq (fj (v:= .ref (cl 7)) rfl T.M_NoWire rfl) (dq (fj (v:= .ref (cl 8)) rfl T.M_Open rfl) (dq (fj (v:= .ref (cl 9)) rfl T.M_NotPlain rfl) (dq (fj (v:= .ref (cl 11)) rfl T.M_NotSound rfl) (dq (fj (v:= .ref (cl 12)) rfl T.M_NoFit rfl) (dq (fj (v:= .ref (cl 13)) rfl T.M_NoShape rfl) FC))))))))))) rfl (by show 11<=sizeLine;decide) rfl T.z_isinstance (zJ (uj ⟨T.X_NotThree,T.J_NotThree_TooLong_NoForm_NoPlace_Twice_Full_NoWire_Open_NotPlain_NotSound_NoFit_NoShape⟩ yE)))) (bb (dz (au f7))) fg) (bb (dz (Hb (B4 (cN 1) (fj (v:= .ref (cl 10)) rfl T.M_NotThree rfl) rfl rfl T.z_isinstance (zJ (uj ⟨T.X_NotThree,T.I_NotThree_NotThree⟩ yE)) T.O_NotThree) (Hb (B4 (cN 1) (uc (v:= .ty "ValueError") rfl T.z_ValueError PyProof.Rows.Boot.«ValueError» rfl) rfl rfl T.z_isinstance (zJ (uj ⟨T.X_NotThree,T.I_NotThree_ValueError⟩ yE)) T.O_ValueError) (Od (OO (B4 (cN 1) (fj (v:= .ref (cl 14)) rfl T.M_NoneYet rfl) rfl rfl T.z_isinstance (zJ (uj ⟨T.X_NotThree,T.I_NotThree_NoneYet⟩ yE)) T.O_NoneYet))))))))))
abbrev dm:Stmt:=top 50
noncomputable abbrev b_:List Str:=["cell","net","width","at","outs","many","place","ins"]
noncomputable def oM:Qdg dm:=⟨_,by conv=>lhs;whnf⟩
noncomputable def jd:Qdh dm:=⟨_,by conv=>lhs;whnf⟩
def pU:bj b_ ["cell","net"] jd.1:={}
def jD:FS:=(dw (g6 2$ e2 cW (eC$ .int 1)$ e2 fI (aJ bC$ af (ai 0)$ af (eC$ .int 400) ax)$ eC$ .int 2)$ dw (g6 3$ e2 fI (aJ bC$ af (ai 0)$ af (eC$ .int 401) ax)$ aJ fP$ af (e2 cb (ai 1)$ eC$ .int 2) ax)$ dw (g6 4$ e2 cW (e2 cW (Qz (e2 cb (ai 1)$ eC$ .int 2) AX$ oS$ ai 3)$ eNew$ dy$ af (bz$ af (e2 cb (e2 cb (e2 cb (ai 1)$ eC$ .int 2)$ ai 3)$ eC$ .int 0)$ af (Ld (e2 cb (e2 cb (e2 cb (ai 1)$ eC$ .int 2)$ ai 3)$ eC$ .int 1) AX$ oS$ ai 2) ax) ax)$ Qz (e2 cb (ai 1)$ eC$ .int 2) (oS$ e2 cW (ai 3)$ eC$ .int 1) AX)$ dw (g6 5$ e2 cW (eC$ .int 1)$ e2 fI (aJ bC$ af (ai 0)$ af (eC$ .int 402) ax)$ eC$ .int 6)$ dw (g6 6$ e2 fI (aJ bC$ af (ai 0)$ af (eC$ .int 403) ax)$ ai 5)$ dw (g6 7$ eNew$ b8 (cy$ ai 5) (aK 0) f9 (bz$ af (e2 cb (eC$ .str "abcdef")$ ai 0)$ af (e2 cb (eNew$ dy$ af (eC$ .int 3)$ af (ai 1) ax)$ aJ rj$ af (e2 qv (ai 0)$ ai 2) ax) ax) ["k"] [2,6])$ eE$ eNew$ dy$ af (bz$ af (e2 cb (ai 1)$ eC$ .int 0)$ af (e2 cb (ai 1)$ eC$ .int 1)$ af (ai 4) ax)$ af (bz$ af (ai 7)$ af (eNew$ dy ax)$ af (eNew$ dy$ af (bz$ af (eC$ .str "o")$ af (bz$ af (eC$ .int 0)$ af (eC$ .int 0)$ af (eC$ .int 0) ax) ax) ax) ax) ax)
def d7:List D->R D:=qP b_ jD
def p_(T:Tp K mg cl)(h:Def K mg "_law_other_widths" dm)(bF:Callee P w K mg base 1 "_law_stir" 2 bC):Callee P w K mg base 2 "_law_other_widths" 2 d7:=
 zt h oM.2 jd.2 pU λ_ _ _ _ _ _ _ hr nd=>(aQ (cH$ aq cR ag$ aq ef (aT bF$ aa (ae 0)$ aa ag ah) ag)$ aQ (cH$ aq ef (aT bF$ aa (ae 0)$ aa ag ah)$ bp eX rfl T.z_len QaQ$ aa (aF (ae 1) ag) ah)$ aQ (cH$ aq cR (aq cR (BG (aF (ae 1) ag) vU$ lC$ ae 3)$ bq$ bQ$ aa (aH$ aa (aF (aF (aF (ae 1) ag)$ ae 3) ag)$ aa (KZ (aF (aF (aF (ae 1) ag)$ ae 3) ag) vU$ lC$ ae 2) ah) ah)$ BG (aF (ae 1) ag) (lC$ aq cR (ae 3) ag) vU)$ aQ (cH$ aq cR ag$ aq ef (aT bF$ aa (ae 0)$ aa ag ah) ag)$ aQ (cH$ aq ef (aT bF$ aa (ae 0)$ aa ag ah)$ ae 5)$ aQ (yX (bo (ae 5) rfl T.z_range) (λ_ _ _=>aL) (λ_ _ _=>bK)$ λ_ _ _=>(aH$ aa (aF bG$ ae 0)$ aa (aF (bq$ bQ$ aa ag$ aa (ae 1) ah)$ cw uF rfl T.z_int Qby$ aa (iL (lx hr.units) (ae 0)$ ae 2) ah) ah))$ aV$ bB$ bq$ bQ$ aa (aH$ aa (aF (ae 1) ag)$ aa (aF (ae 1) ag)$ aa (ae 4) ah)$ aa (aH$ aa (ae 7)$ aa (bq$ bQ ah)$ aa (bq$ bQ$ aa (aH$ aa bG$ aa (aH$ aa ag$ aa ag$ aa ag ah) ah) ah) ah) ah)
abbrev fT:Stmt:=top 51
noncomputable abbrev iH:List Str:=["cell","gates","k","first","own","some"]
noncomputable def vf:Qdg fT:=⟨_,by conv=>lhs;whnf⟩
noncomputable def nv:Qdh fT:=⟨_,by conv=>lhs;whnf⟩
def wj:bj iH ["cell"] nv.1:={}
def mK:FZ:=(bN (cU 3$ xP$ e2 fI (aJ bC$ af (ai 0)$ af (e2 cW (eC$ .int 410)$ ai 2) ax)$ eC$ .int 3)$ mS 1$ xP$ bz$ af (eC$ .str "xor")$ af (bz$ af (e2 cW (e2 eU (eC$ .int 3)$ ai 2)$ ai 3)$ af (e2 cW (e2 eU (eC$ .int 3)$ ai 2)$ e2 fI (e2 cW (ai 3)$ eC$ .int 1)$ eC$ .int 3) ax)$ af (eC$ .bl true) ax)
def o4:FZ:=(bN (cU 1$ pB$ dy ax)$ bN (lU (iP$ cy$ eC$ .int 3) (mT 2) mK)$ bN (cU 4$ xP$ e2 fI (aJ bC$ af (ai 0)$ af (eC$ .int 413) ax)$ eC$ .int 3)$ bN (cU 1$ MI (fw 1)$ xP$ eNew$ dy$ af (bz$ af (eC$ .str "and")$ af (bz$ af (eC$ .int 9)$ af (eC$ .int 10) ax)$ af (eC$ .bl true) ax)$ af (bz$ af (eC$ .str "and")$ af (bz$ af (eC$ .int 11)$ af (eC$ .int 12) ax)$ af (eC$ .bl true) ax) ax)$ bN (mS 1$ xP$ bz$ af (eC$ .str "vote")$ af (bz$ af (e2 eU (eC$ .int 3)$ ai 4)$ af (e2 cW (e2 eU (eC$ .int 3)$ ai 4)$ eC$ .int 1)$ af (e2 cW (e2 eU (eC$ .int 3)$ ai 4)$ eC$ .int 2) ax)$ af (eC$ .bl true) ax)$ bN (cU 1$ MI (fw 1)$ xP$ eNew$ dy$ af (bz$ af (eC$ .str "xor")$ af (bz$ af (eC$ .int 14)$ af (eC$ .int 13) ax)$ af (eC$ .bl true) ax)$ af (bz$ af (eC$ .str "xor")$ af (bz$ af (eC$ .int 13)$ af (eC$ .int 14) ax)$ af (eC$ .bl true) ax) ax)$ bN (cU 5$ xP$ e2 cb (eNew$ dy$ af (bz$ af (eC$ .int 15)$ af (eC$ .int 16)$ af (eC$ .int 14) ax)$ af (bz$ af (eC$ .int 14)$ af (eC$ .int 15)$ af (eC$ .int 16) ax)$ af (bz$ af (eC$ .int 16)$ af (eC$ .int 14)$ af (eC$ .int 15) ax) ax)$ e2 fI (aJ bC$ af (ai 0)$ af (eC$ .int 414) ax)$ eC$ .int 3)$ i7$ HZ$ bx (pB$ dy$ af (bz$ af (eC$ .str "a")$ af (eC$ .int 3) ax)$ af (bz$ af (eC$ .str "b")$ af (eC$ .int 3) ax)$ af (bz$ af (eC$ .str "c")$ af (eC$ .int 3) ax) ax)$ bx (fw 1)$ bx (pB$ dy$ af (bz$ af (eC$ .str "o")$ af (ai 5) ax) ax) eO)
def uP:List V3->a_->R3 V3:=qj iH o4
def jJ:List V3->a_->R3 V3:=u9 iH o4
def wA(T:Tp K mg cl)(h:Def K mg "_law_planted" fT)(bF:Callee P w K mg base 1 "_law_stir" 2 bC):cX P w K mg base cl 2 "_law_planted" 1 uP:=
 Km h vf.2 nv.2 wj λ_ _ _ _ _ _ _ hr nd=>(az (bH$ l0$ bQ ah)$ az (eD (cu$ bo ag rfl T.z_range) br$ az (bH$ au$ aq ef (aT bF$ aa (ae 0)$ aa (aq cR ag$ ae 2) ah) ag)$ bb$ kL$ au$ aH$ aa bG$ aa (aH$ aa (aq cR (aq fG ag$ ae 2)$ ae 3)$ aa (aq cR (aq fG ag$ ae 2)$ aq ef (aq cR (ae 3) ag) ag) ah)$ aa f7 ah)$ az (bH$ au$ aq ef (aT bF$ aa (ae 0)$ aa ag ah) ag)$ az (bH$ HW (cN 1)$ au$ bq$ bQ$ aa (aH$ aa bG$ aa (aH$ aa ag$ aa ag ah)$ aa f7 ah)$ aa (aH$ aa bG$ aa (aH$ aa ag$ aa ag ah)$ aa f7 ah) ah)$ az (kL$ au$ aH$ aa bG$ aa (aH$ aa (aq fG ag$ ae 4)$ aa (aq cR (aq fG ag$ ae 4) ag)$ aa (aq cR (aq fG ag$ ae 4) ag) ah)$ aa f7 ah)$ az (bH$ HW (cN 1)$ au$ bq$ bQ$ aa (aH$ aa bG$ aa (aH$ aa ag$ aa ag ah)$ aa f7 ah)$ aa (aH$ aa bG$ aa (aH$ aa ag$ aa ag ah)$ aa f7 ah) ah)$ az (bH$ au$ aF (bq$ bQ$ aa (aH$ aa ag$ aa ag$ aa ag ah)$ aa (aH$ aa ag$ aa ag$ aa ag ah)$ aa (aH$ aa ag$ aa ag$ aa ag ah) ah)$ aq ef (aT bF$ aa (ae 0)$ aa ag ah) ag)$ bb$ dz$ CH$ aC (l0$ bQ$ aa (aH$ aa bG$ aa ag ah)$ aa (aH$ aa bG$ aa ag ah)$ aa (aH$ aa bG$ aa ag ah) ah)$ aC (cN 1)$ aC (l0$ bQ$ aa (aH$ aa bG$ aa (ae 5) ah) ah) bO)
abbrev Dm:Stmt:=top 52
noncomputable abbrev sW:List Str:=["script","cell","other","net","due","handed","turn"]
noncomputable def OW:Qdg Dm:=⟨_,by conv=>lhs;whnf⟩
noncomputable def IB:Qdh Dm:=⟨_,by conv=>lhs;whnf⟩
def Nr:bj sW ["script"] IB.1:={}
def Dw:FZ:=(yu (L4$ BH$ fU nC$ bx (xP$ ai 2) eO) (i7$ xP$ eC$ .bl false) mV)
def Dx:FZ:=(yu (Yq (L4$ BH$ sj (cL 4)$ bx (fU (Mq iS)$ BK$ bx (xP$ ai 5) eO)$ bx (xP$ ai 4) eO)$ bP$ b2 A1 (ai 5)$ ai 3) (i7$ xP$ eC$ .bl false) mV)
def xk:FZ:=(bN (cU 1$ xP$ aJ eA$ af (ai 0)$ af (eC$ .int 5) ax)$ bN (lU (O2$ sj d7$ bx (xP$ ai 1)$ bx (fU pX$ bx (xP$ ai 0)$ bx (xP$ eC$ .int 2) eO) eO) (mT 2) Dw)$ bN (yu (SY (bP$ b2 qv (e2 fI (aJ bC$ af (ai 1)$ af (eC$ .int 415) ax)$ eC$ .int 4)$ eC$ .int 1)$ Vh A1 (fU (Mq iS)$ BK$ bx (fU jJ$ bx (xP$ ai 1) eO) eO)$ fU pT$ bx (fU jJ$ bx (xP$ ai 1) eO) eO) (i7$ xP$ eC$ .bl false) mV)$ bN (cU 3$ fU pX$ bx (xP$ ai 0)$ bx (xP$ eC$ .int 2) eO)$ bN (cU 4$ fU pT$ bx (xP$ ai 3) eO)$ bN (cU 5$ xP$ bz$ af (aJ zE$ af (e2 cb (ai 3)$ eC$ .int 0) ax)$ af (aJ zE$ af (e2 cb (ai 3)$ eC$ .int 1) ax)$ af (aJ zE$ af (e2 cb (ai 3)$ eC$ .int 2) ax) ax)$ bN (lU (iP$ cy$ eC$ .int 2) (mT 6) Dx)$ i7$ xP$ eC$ .bl true)
def Wz:List V3->a_->R3 V3:=qj sW xk
def Wo:List V3->a_->R3 V3:=u9 sW xk
def IC:List D->R D:=U_ sW xk
structure Cf (K:Qdi) (mg:Aaf) (cl:Aag):Prop where
 C_Bench:zY K (cl 0)
 N_Bench_net:eP K (cl 0) "net"
 N_Bench_many_inputs:eP K (cl 0) "many_inputs"
 N_Bench_full:eP K (cl 0) "full"
 N_Bench_in_masks:eP K (cl 0) "in_masks"
 M_Bench:mg "Bench"=some (.ref (cl 0))
 M_FaultError:mg "FaultError"=some (.ref (cl 1))
 M_TooLong:mg "TooLong"=some (.ref (cl 2))
 M_NoForm:mg "NoForm"=some (.ref (cl 3))
 M_NoPlace:mg "NoPlace"=some (.ref (cl 4))
 M_Twice:mg "Twice"=some (.ref (cl 5))
 M_Full:mg "Full"=some (.ref (cl 6))
 M_NoWire:mg "NoWire"=some (.ref (cl 7))
 M_Open:mg "Open"=some (.ref (cl 8))
 M_NotPlain:mg "NotPlain"=some (.ref (cl 9))
 M_NotThree:mg "NotThree"=some (.ref (cl 10))
 M_NotSound:mg "NotSound"=some (.ref (cl 11))
 M_NoFit:mg "NoFit"=some (.ref (cl 12))
 M_NoShape:mg "NoShape"=some (.ref (cl 13))
 M_NoneYet:mg "NoneYet"=some (.ref (cl 14))
 X_NotThree:XC K (cl 10)
 E_NotThree_FaultError:PySem.W.exmOne K (.ref (cl 10)) (.ref (cl 1))=some true
 J_NotThree_TooLong_NoForm_NoPlace_Twice_Full_NoWire_Open_NotPlain_NotSound_NoFit_NoShape:PySem.W.kitAny K (.ref (cl 10)) [(.ref (cl 2)),(.ref (cl 3)),(.ref (cl 4)),(.ref (cl 5)),(.ref (cl 6)),(.ref (cl 7)),(.ref (cl 8)),(.ref (cl 9)),(.ref (cl 11)),(.ref (cl 12)),(.ref (cl 13))]=some false
 I_NotThree_NotThree:PySem.W.kitOne K (.ref (cl 10)) (.ref (cl 10))=some true
 O_NotThree:PySem.W.kitOne K (.type "NoneType") (.ref (cl 10))=some false
 I_NotThree_ValueError:PySem.W.kitOne K (.ref (cl 10)) (.type "ValueError")=some true
 O_ValueError:PySem.W.kitOne K (.type "NoneType") (.type "ValueError")=some false
 I_NotThree_NoneYet:PySem.W.kitOne K (.ref (cl 10)) (.ref (cl 14))=some false
 O_NoneYet:PySem.W.kitOne K (.type "NoneType") (.ref (cl 14))=some false
 dY:OA K (cl 0) "__init__" "Bench.__init__" ck
 fW:EH K (cl 0) "tells" "Bench.tells" cY
 dJ:EH K (cl 0) "inputs_in" "Bench.inputs_in" bS
def S6{K:Qdi}{h:Heap}{mg:Aaf}(X:K.In h)(G:h.Ns mainGlobals mg){C0:Addr}{C1:Addr}{C2:Addr}{C3:Addr}{C4:Addr}{C5:Addr}{C6:Addr}{C7:Addr}{C8:Addr}{C9:Addr}{Bg:Addr}{WT:Addr}{XO:Addr}{Xv:Addr}{US:Addr}{f0:Addr}{od0 an0:Option Addr}{sl0:Array (Option Value)}{oc0 kV0 dc0 pm0 Zn ct0:Value}{f1:Addr}{od1 an1:Option Addr}{sl1:Array (Option Value)}{oc1 kV1 dc1 pm1 Zo ct1:Value}{f2:Addr}{od2 an2:Option Addr}{Gw:Array (Option Value)}{oc2 kV2 dc2 pm2 Zm ct2:Value}(Xi:PySem.W.nsIn K mainGlobals "Bench"=some (some$ .ref C0))(XG:PySem.W.plainGet K C0 Str.empty=true)(W2:PySem.W.hasDictIn K C0=true)(W6:PySem.W.plainOver K C0=true)(Xs:PySem.W.findIn K (.ref C0) "__setattr__"=some (some$ .builtin "object.__setattr__"))(Xm:PySem.W.makesIn K C0=true)(W0:PySem.W.keepIn K (.ref C0)=true)(CO:PySem.W.findIn K (.ref C0) "net"=some none)(jP:PySem.W.findIn K (.ref C0) "many_inputs"=some none)(zq:PySem.W.findIn K (.ref C0) "full"=some none)(oj:PySem.W.findIn K (.ref C0) "in_masks"=some none)(WR:PySem.W.nsIn K mainGlobals "FaultError"=some (some$ .ref C1))(WX:PySem.W.nsIn K mainGlobals "TooLong"=some (some$ .ref C2))(Xh:PySem.W.nsIn K mainGlobals "NoForm"=some (some$ .ref C3))(XM:PySem.W.nsIn K mainGlobals "NoPlace"=some (some$ .ref C4))(XS:PySem.W.nsIn K mainGlobals "Twice"=some (some$ .ref C5))(Xr:PySem.W.nsIn K mainGlobals "Full"=some (some$ .ref C6))(Xp:PySem.W.nsIn K mainGlobals "NoWire"=some (some$ .ref C7))(XA:PySem.W.nsIn K mainGlobals "Open"=some (some$ .ref C8))(W4:PySem.W.nsIn K mainGlobals "NotPlain"=some (some$ .ref C9))(QR:PySem.W.nsIn K mainGlobals "NotThree"=some (some$ .ref Bg))(QS:PySem.W.nsIn K mainGlobals "NotSound"=some (some$ .ref WT))(Q9:PySem.W.nsIn K mainGlobals "NoFit"=some (some$ .ref XO))(Q3:PySem.W.nsIn K mainGlobals "NoShape"=some (some$ .ref Xv))(QI:PySem.W.nsIn K mainGlobals "NoneYet"=some (some$ .ref US))(QT:PySem.W.excIn K Bg RT "ValueError.__new__"=true)(Q6:PySem.W.findIn K (.ref Bg) "__getattribute__"=some (some$ .builtin "BaseException.__getattribute__"))(Q2:PySem.W.findIn K (.ref Bg) "__getattr__"=some none)(QQ:PySem.W.findIn K (.ref Bg) "__class__"=some (some$ .builtin "object.__class__"))(QY:PySem.W.mroIn K Bg (.type "object")=some true)(Q7:PySem.W.mroIn K Bg (.type "BaseException")=some true)(QZ:(PySem.W.clsIn K Bg).isSome=true)(WZ:PySem.W.specialIn K (.builtin "object.__class__") "__get__"=some (some$ .builtin "getset_descriptor.__get__"))(W8:PySem.W.takesIn K (.builtin "object.__class__")=some true)(d_:PySem.W.exmOne K (.ref Bg) (.ref C1)=some true)(aG:PySem.W.kitAny K (.ref Bg) [(.ref C2),(.ref C3),(.ref C4),(.ref C5),(.ref C6),(.ref C7),(.ref C8),(.ref C9),(.ref WT),(.ref XO),(.ref Xv)]=some false)(eZ:PySem.W.kitOne K (.ref Bg) (.ref Bg)=some true)(n6:PySem.W.kitOne K (.type "NoneType") (.ref Bg)=some false)(d9:PySem.W.kitOne K (.ref Bg) (.type "ValueError")=some true)(kW:PySem.W.kitOne K (.type "NoneType") (.type "ValueError")=some false)(fM:PySem.W.kitOne K (.ref Bg) (.ref US)=some false)(qf:PySem.W.kitOne K (.type "NoneType") (.ref US)=some false)(iB:PySem.W.findIn K (.ref C0) "__init__"=some (some$ .ref f0))(iq:PySem.W.isFn K (.ref f0)=true)(iC:K.lookup f0=some ⟨oc0,od0, .func$ PySem.W.fnOf "__init__" "Bench.__init__" (iK ck) (aP ck) (aD ck) .none kV0 dc0 pm0 an0 Zn ct0,sl0⟩)(dQ:PySem.W.codeIn K Zn "Bench.__init__"=true)(iu:PySem.W.keepIn K (.ref f0)=true)(kY:PySem.W.findIn K (.ref C0) "tells"=some (some$ .ref f1))(lp:PySem.W.isFn K (.ref f1)=true)(kZ:K.lookup f1=some ⟨oc1,od1, .func$ PySem.W.fnOf "tells" "Bench.tells" (iK cY) (aP cY) (aD cY) .none kV1 dc1 pm1 an1 Zo ct1,sl1⟩)(fV:PySem.W.codeIn K Zo "Bench.tells"=true)(iO:PySem.W.keepIn K (.ref f1)=true)(gZ:PySem.W.findIn K (.ref C0) "inputs_in"=some (some$ .ref f2))(gP:PySem.W.isFn K (.ref f2)=true)(gW:K.lookup f2=some ⟨oc2,od2, .func$ PySem.W.fnOf "inputs_in" "Bench.inputs_in" (iK bS) (aP bS) (aD bS) .none kV2 dc2 pm2 an2 Zm ct2,Gw⟩)(dF:PySem.W.codeIn K Zm "Bench.inputs_in"=true)(eM:PySem.W.keepIn K (.ref f2)=true):∃cl,Cf K mg cl:=by
 exact⟨λn=>if n=0 then C0 else if n=1 then C1 else if n=2 then C2 else if n=3 then C3 else if n=4 then C4 else if n=5 then C5 else if n=6 then C6 else if n=7 then C7 else if n=8 then C8 else if n=9 then C9 else if n=10 then Bg else if n=11 then WT else if n=12 then XO else if n=13 then Xv else US,⟨XG,W2,W6,Xs⟩,CO,jP,zq,oj,Qa7 X G Xi,Qa7 X G WR,Qa7 X G WX,Qa7 X G Xh,Qa7 X G XM,Qa7 X G XS,Qa7 X G Xr,Qa7 X G Xp,Qa7 X G XA,Qa7 X G W4,Qa7 X G QR,Qa7 X G QS,Qa7 X G Q9,Qa7 X G Q3,Qa7 X G QI,⟨QT,Q6,Q2,QQ,WZ,W8,QY,Q7,QZ⟩,d_,aG,eZ,n6,d9,kW,fM,qf,⟨_,_,yf (st:=ck) iC dQ iu,⟨Xm,iB,iq,W0⟩⟩,⟨_,_,yf (st:=cY) kZ fV iO,⟨kY,lp,iO⟩⟩,⟨_,_,yf (st:=bS) gW dF eM,⟨gZ,gP,eM⟩⟩⟩
def P8{K:Qdi}{mg:Aaf}{f:Addr}{fd:FuncData}{cl:Aag}(T:Tp K mg cl)(mw:Def K mg "has_widths" gL)(sI:Def K mg "vote_of" lM)(nW:Def K mg "gate_mask" iT)(i9:Def K mg "in_wire_masks" er)(qd:Def K mg "masks_at" jz)(my:Def K mg "wire_masks" gq)(n_:Def K mg "out_masks" iW)(vY:Def K mg "bit_at" mY)(mC:Def K mg "all_inputs" gI)(sJ:Def K mg "mask_of" lL)(sM:Def K mg "in_mask" lB)(n5:Def K mg "unlike_at" i0)(sC:Def K mg "lost_at" lQ)(qh:Def K mg "bad_sets" jL)(iy:Def K mg "keeping_faults" dW)(dY:OA K (cl 0) "__init__" "Bench.__init__" ck)(fW:EH K (cl 0) "tells" "Bench.tells" cY)(dJ:EH K (cl 0) "inputs_in" "Bench.inputs_in" bS)(zj:Def K mg "keeps" qB)(kO:Def K mg "_law_cell_at" fS)(qe:Def K mg "_law_stir" jF)(sv:Def K mg "_law_bit" lK)(sG:Def K mg "_law_run" lW)(mB:Def K mg "_law_inputs" gE)(og:Def K mg "_law_votes" iY)(mm:Def K mg "_law_copies" gH)(sx:Def K mg "_law_net" lH)(gS:Def K mg "_law_twice_wrong" dI)(jO:Def K mg "_law_bad_sets" eQ)(sE:Def K mg "_law_due" lD)(nX:Def K mg "_law_alike" iX)(lh:Def K mg "_law_refused" fQ)(gc:Def K mg "_law_other_widths" dm)(ll:Def K mg "_law_planted" fT)(F:BQ K "law" "law" Dm f fd):ip P w K mg base u7 12 f fd ["script"] (HA K 1 IC):=by
 have mz:=ze (P:=P) (w:=w) (base:=base) T mw;have jt:=EC (P:=P) (w:=w) (base:=base) T sI;have oh:=A6 (P:=P) (w:=w) (base:=base) T nW jt;have fB:=tZ (P:=P) (w:=w) (base:=base) T i9;have XP_in_wire_masks:=fB.p;have iA:=Bh (P:=P) (w:=w) (base:=base) T qd;have XK_wire_masks:=x_ (P:=P) (w:=w) (base:=base) T my iA oh fB;have kU:=XK_wire_masks.p;have XK_out_masks:=AI (P:=P) (w:=w) (base:=base) T n_ iA;have mr:=XK_out_masks.p;have vZ:=Io (P:=P) (w:=w) (base:=base) T vY;have XK_all_inputs:=y3 (P:=P) (w:=w) (base:=base) T mC;have lj:=XK_all_inputs.p;have ju:=Fb (P:=P) (w:=w) (base:=base) T sJ;have sF:=FI (P:=P) (w:=w) (base:=base) T sM ju;have n9:=zF (P:=P) (w:=w) (base:=base) T n5;have sH:=EV (P:=P) (w:=w) (base:=base) T sC jt;have qc:=vh (P:=P) (w:=w) (base:=base) T qh 7;have iz:=rS (P:=P) (w:=w) (base:=base) T iy qc;have gQ:=dQ (P:=P) (w:=w) (base:=base) T dY ju sF lj;have XK_Bench_tells:=fV (P:=P) (w:=w) (base:=base) T fW kU mr;have gR:=XK_Bench_tells.p;have XK_Bench_inputs_in:=dF (P:=P) (w:=w) (base:=base) T dJ vZ;have d8:=XK_Bench_inputs_in.p;have oa:iI P w K mg base cl 10 "keeps" 1 iS:=Lh T zj mz n9 iz sH gQ gR d8;have iQ:=wb (P:=P) (w:=w) (base:=base) T kO;have bF:=CI (P:=P) (w:=w) (base:=base) T qe;have su:=Fg (P:=P) (w:=w) (base:=base) T sv;have XK_law_run:=EI (P:=P) (w:=w) (base:=base) T sG su;have ml:=XK_law_run.p;have mq:=xZ (P:=P) (w:=w) (base:=base) T mB;have kg:=zQ (P:=P) (w:=w) (base:=base) T og;have XK_law_copies:=yW (P:=P) (w:=w) (base:=base) T mm bF;have lq:=XK_law_copies.p;have XK_law_net:=FW (P:=P) (w:=w) (base:=base) T sx iQ bF kg lq;have XP_law_net:=XK_law_net.p;have gT:=qW (P:=P) (w:=w) (base:=base) T gS;have jN:=vF (P:=P) (w:=w) (base:=base) T jO;have XK_law_due:=Fp (P:=P) (w:=w) (base:=base) T sE mq jN gT ml;have XP_law_due:=XK_law_due.p;have C_law_alike:=tm (P:=P) (w:=w) (base:=base) T nX 4;have XK_law_refused:=wC (P:=P) (w:=w) (base:=base) T lh oa;have XP_law_refused:=XK_law_refused.p;have C_law_other_widths:=p_ (P:=P) (w:=w) (base:=base) T gc bF;have XK_law_planted:=wA (P:=P) (w:=w) (base:=base) T ll bF;have XP_law_planted:=XK_law_planted.p;exact(nU (cl:=cl) (N:=sW) (F:=xk) (k:=11) OW.2 IB.2 F Nr$ λ_ _ _ _ _ _ hr=>(have nd:=Nr.nd;(az (bH$ au$ aT iQ$ aa (ae 0)$ aa ag ah)$ az (eD (K8$ qL C_law_other_widths hr (by decide) rfl (aC (au$ ae 1)$ aC (eK XP_law_net$ aC (au$ ae 0)$ aC (au ag) bO) bO)$ cj$ cj dR) br$ bb$ lS (DN$ qE$ eK XP_law_refused$ aC (au$ ae 2) bO) (bb$ dz$ au f7) fg)$ az (lS (Kn.pb$ Le (dS$ cg (lx hr.units) (aq ef (aT bF$ aa (ae 1)$ aa ag ah) ag) ag)$ Im$ LU (BX hr.units) (II$ uB Ji (iI.q oa) hr (by decide) rfl (ur$ aC (eK XP_law_planted$ aC (au$ ae 1) bO) bO)$ yD$ cj dR) (eK XP_law_due$ aC (eK XP_law_planted$ aC (au$ ae 1) bO) bO)$ Ci _) (bb$ dz$ au f7) fg)$ az (bH$ eK XP_law_net$ aC (au$ ae 0)$ aC (au ag) bO)$ az (bH$ eK XP_law_due$ aC (au$ ae 3) bO)$ az (bH$ au$ aH$ aa (cw Bx rfl T.z_list Qcu$ aa (aF (ae 3) ag) ah)$ aa (cw Bx rfl T.z_list Qcu$ aa (aF (ae 3) ag) ah)$ aa (cw Bx rfl T.z_list Qcu$ aa (aF (ae 3) ag) ah) ah)$ az (eD (cu$ bo ag rfl T.z_range) br$ bb$ lS (Kn.pb$ P1 (DN$ qE$ qL C_law_alike hr (by decide) rfl (aC (II$ uB Ji (iI.q oa) hr (by decide) rfl (ur$ aC (au$ ae 5) bO)$ yD$ cj dR)$ aC (au$ ae 4) bO)$ cj$ cj dR)$ KU$ dS$ cg (BX hr.units) (ae 5)$ ae 3) (bb$ dz$ au f7) fg)$ bb$ dz$ au f7))).imp λ_ _ _ _ h=>Oe h
end K32
end
section
namespace K32
open PySem PySem.Spec PyProof.Rows L2 L3 MT
def Kl{a:D}{r:List D}:cb (.tup (a ::r)) (.int 0)= .ok a:=uw (by rw[l9 (by omega)$ by simp];rfl)
def M3{a b:D}{r:List D}:cb (.tup (a ::b ::r)) (.int 1)= .ok b:=uw (by rw[l9 (by omega)$ by simp];rfl)
def TF{a b c:D}{r:List D}:cb (.tup (a ::b ::c ::r)) (.int 2)= .ok c:=uw (by rw[l9 (by omega)$ by simp];rfl)
def LL{N:Nat}{a b c:M}:il [.tup [mI N a,mI N b,mI N c]]= .ok (mI N λp=>(a p && b p) || (a p && c p) || (b p && c p)):=by
 refine cM$ bZ ?_;exact ak (ak (ak (ak rfl rfl Kl) (ak rfl rfl M3)$ vC N a b) (ak (ak rfl rfl Kl) (ak rfl rfl TF)$ vC N a c)$ A7 N _ _) (ak (ak rfl rfl M3) (ak rfl rfl TF)$ vC N b c)$ A7 N _ _
def R1(k j:Nat)(hk:k<=4)(hj:j<=4):qv (.str$ kS k) (.str$ kS j)= .ok (.bl$ decide$ k=j):=by
 show R.ok (D.bl$ kS k==kS j)=_;congr 2
 revert hk hj
 have:∀a∈List.range 5,∀b∈List.range 5,(kS a==kS b)=decide (a=b):=by decide+kernel
 intro hk hj;exact this k (by rw[QaI];omega) j (by rw[QaI];omega)
def LY{N kd:Nat}{xs:List M}(hk:kd<=4)(hx:xs.length=ar kd):j8 [.str$ kS kd, .tup$ xs.map$ mI N,mI N one]= .ok (mI N λp=>gv kd$ xs.map (· p)):=by
 have q:∀j,j<=4->b2 qv (ai 0) (eC$ .str$ kS j) (cP mZ [.str$ kS kd, .tup$ xs.map$ mI N,mI N one])= .ok (decide$ kd=j):=λj hj=>eg rfl rfl$ R1 kd j hk hj
 have q0:=q 0 (by omega)
 have q1:=q 1 (by omega)
 have q2:=q 2 (by omega)
 have q3:=q 3 (by omega)
 match kd,hk,xs,hx with
 | 0,_,[a],_=>
   refine cM$ NT.jl$ qC q0$ bZ$ ak rfl (ak rfl rfl Kl)$ Nn N a
 | 1,_,[a,b],_=>
   refine cM$ bA (jI q0 rfl)$ NT.jl$ qC q1$ bZ$ ak (ak rfl rfl Kl) (ak rfl rfl M3)$ vC N a b
 | 2,_,[a,b],_=>
   refine cM$ bA (jI q0 rfl)$ bA (jI q1 rfl)$ NT.jl$ qC q2$ bZ$ ak (ak rfl rfl Kl) (ak rfl rfl M3)$ A7 N a b
 | 3,_,[a,b],_=>
   refine cM$ bA (jI q0 rfl)$ bA (jI q1 rfl)$ bA (jI q2 rfl)$ NT.jl$ qC q3$ bZ$ ak (ak rfl rfl Kl) (ak rfl rfl M3)$ vG N a b
 | 4,_,[a,b,c],_=>
   refine cM$ bA (jI q0 rfl)$ bA (jI q1 rfl)$ bA (jI q2 rfl)$ bA (jI q3 rfl)$ bZ$ ay rfl LL
def Na{N:Nat}{ws:List M}{ns:List Nat}(hn:∀n∈ns,n<ws.length)(hl:ns.length<1000):hV [.lst$ ws.map$ mI N, .tup$ ns.map nI]= .ok (.tup$ (ns.map$ jR ws).map$ mI N):=by
 have hz:=Qam;refine cM (bZ$ ay (ao (bX$ bM (yt rfl) (by rw[Qaa];omega) ?_) rfl) rfl)
 rw[QaL];exact NT.bE nI _ λn T6=>⟨[.val$ nI n, .val$ .lst$ ws.map$ mI N],rfl,rfl,ak rfl rfl$ Oy$ hn n T6⟩
def E9(N:Nat)(S:a_)(JZ eN WV:D)(a5 a6 a7:Option V3):DE:=[some$ .d JZ,some$ .d eN,some$ .d$ mI N one,some$ .d WV,some$ .loc S.length,a5,a6,a7]
def Jw{N:Nat}{S:a_}{JZ eN:D}{bad:List Int}{a5 a7:Option V3}{b:M}{ws:List M}(hl:ws.length<10000) :
 W3 (jY (E9 N S JZ eN (.tup$ bad.map .int) a5 (some$ .d$ mI N b) a7)$ S++[.lst$ ws.map$ mI N]) λo S1=>o= .nx (E9 N S JZ eN (.tup$ bad.map .int) a5 (some$ .d$ mI N b) a7)/\S1=S++[SO.lst$ (ws++[λp=>b p !=bad.contains (ws.length:Int)]).map$ mI N]:=by
 have hz:=Qam;refine o_ rfl ⟨_,aR _ _⟩ (MX (d:=mI N λp=>b p !=bad.contains (ws.length:Int)) ?_ rfl ⟨_,_,rfl,aR _ _,by rw[Qaa];omega,rfl,?_⟩)
 .have h4:(eG (S++[.lst$ ws.map$ mI N])$ E9 N S JZ eN (.tup$ bad.map .int) a5 (some$ .d$ mI N b) a7)[4]? =some (.val$ .lst$ ws.map$ mI N):=by
   show some (match res (S++[.lst$ ws.map$ mI N]) (.loc S.length) with | some d=>Sl.val d | none=> .un)=_
   unfold res;rw[aR]
  refine Ib (eg (ay (ao (by unfold ai;rw [h4]) rfl) (by rw[BJ,Qaa])) rfl (yy _ _)) ?_
  rw[<-Jn];rfl
 .rw [cZ,QaH];rfl
def AR{N:Nat}{S:a_}{ins:Aac}{bits:List M}{bad:List Int}(hb:bits.length=ins.length)(hi:ins.length<100)(hw:∀x∈ins,x.2<100){Q:V3->a_->Prop}
 (h:Q (.loc S.length) (S++[.lst$ (kz ins bits bad ins.length).map$ mI N])) :
 W3 (fk [.d$ .lst$ ins.map inD, .d$ .lst$ bits.map$ mI N, .d$ mI N one, .d$ .tup$ bad.map .int] S) Q:=by
 refine DX rfl ?_;simp only[df,fY,List.map,List.length,List.replicate,QaM,QaY,Nat.reduceAdd,Nat.reduceSub];refine bt (bY (by simp)$ nc rfl ⟨_,rfl,?_⟩)
 refine bt$ g_$ jT rfl ?_;have big:∀i,i<=ins.length->(kz ins bits bad i).length<=100*i:=by
  intro i Zg
  induction i with
  | zero=>simp [kz]
  | succ i ih=>
    have h1:ins[i]? =some ins[i]:=Qad (by omega)
    have h2:bits[i]? =some bits[i]:=Qad (by omega)
    unfold kz;rw[h1,h2];rw[lN];have:=hw ins[i]$ Qbe _;omega
 refine(dc (λi δ S2=>(∃a b c,δ=E9 N S (.lst$ ins.map inD) (.lst$ bits.map$ mI N) (.tup$ bad.map .int) a b c)/\S2=S++[SO.lst$ (kz ins bits bad i).map$ mI N])
  ⟨⟨_,_,_,rfl⟩,rfl⟩ ?_).mono λo S2 ⟨du,je,⟨a,b,c,vW⟩,hS⟩=>⟨du,je,?_⟩
 .rintro i v δ S2 hv ⟨⟨a,b,c,rfl⟩,rfl⟩;obtain⟨d,hd,rfl⟩:=D2 hv;rw[Qaf] at hd;have hib:i<bits.length:=by
   have:=(Qae.mp hv).1;simpa [eR] using this
  have h1:ins[i]? =some ins[i]:=Qad (by omega)
  have h2:bits[i]? =some bits[i]:=Qad hib;rw[h2] at hd;cases hd;refine⟨E9 N S (.lst$ ins.map inD) (.lst$ bits.map$ mI N) (.tup$ bad.map .int) (some$ .d$ .int i) (some$ .d$ mI N bits[i]) c,rfl,?_⟩;have hwi:=hw ins[i]$ Qbe _;refine g_ (jT (uh (n:=ins[i].2) ?_$ by omega) ?_)
  .refine ak (a:=inD ins[i]) (ak rfl rfl$ rH ?_) rfl rfl;rw[l9 (by omega)$ by rw[Qaa,Qbu];omega]
   simp
  refine(dc (λj δ S3=>(∃c,δ=E9 N S (.lst$ ins.map inD) (.lst$ bits.map$ mI N) (.tup$ bad.map .int) (some$ .d$ .int i) (some$ .d$ mI N bits[i]) c)/\S3=S++[SO.lst$ (oX bad bits[i] j$ kz ins bits bad i).map$ mI N])
   ⟨⟨_,rfl⟩,rfl⟩ ?_).mono λo S3 ⟨T9,e3,⟨c3,J4⟩,hS3⟩=>⟨T9,e3,⟨_,_,c3,J4⟩,?_⟩
  .rintro j v δ S3 hv ⟨⟨c3,rfl⟩,rfl⟩;refine⟨_,rfl,?_⟩;have hj:j<ins[i].2:=by
    have:=(Qae.mp hv).1
    rwa [Qaa,jj,Qaa,Qap] at this
   refine(Jw ?_).mono λo S4 ⟨e4,e5⟩=>⟨_,e4,⟨_,rfl⟩,e5⟩
   rw[lN];have:=big i (by omega)
   omega
  .rw [hS3,Qaa,jj,Qaa,Qap];show _=S++[SO.lst$ (match ins[i]?,bits[i]? with | some x,some b=>oX bad b x.2 (kz ins bits bad i) | _,_=>kz ins bits bad i).map (mI N)]
   rw[h1,h2]
 have hlen:((eR$ bits.map$ mI N).map V3.d).length=ins.length:=by simp [eR,hb]
 rw[hlen] at hS;subst vW hS;exact g9$ w_var rfl ⟨_,rfl,h⟩
section
variable {N:Nat}{ins:Aac}{gs:List Gt}{os:Aad}{bits:List M}{turned bad:List Int}
def BU(N:Nat)(S:a_)(nt eN tD bD:D)(a6 a7 a8:Option V3):DE:=[some$ .d nt,some$ .d eN,some$ .d$ mI N one,some$ .d tD,some$ .d bD,some$ .loc S.length,a6,a7,a8]
def F3{S:a_}{nt eN bD:D}{a8:Option V3}{g:Gt}{i:Nat}{ws:List M}(hg:oK ws.length g)(hl:ws.length<20000) :
 W3 (nM (BU N S nt eN (.tup$ turned.map .int) bD (some$ .d$ .int i) (some$ .d$ fK g) a8)$ S++[.lst$ ws.map$ mI N]) λo S1=>(∃c,o= .nx (BU N S nt eN (.tup$ turned.map .int) bD (some$ .d$ .int i) (some$ .d$ fK g) c))/\S1=S++[SO.lst$ (ws++[λp=>gF g ws p !=turned.contains (i:Int)]).map$ mI N]:=by
 have hz:=Qam;have ha:=G4 g.1;refine bt (bY (by unfold BU;simp only[QaB,QbW];omega) (MX (d:=mI N$ gF g ws) ?_ rfl ⟨_,rfl,?_⟩))
 .have h5:(eG (S++[.lst$ ws.map$ mI N])$ BU N S nt eN (.tup$ turned.map .int) bD (some$ .d$ .int i) (some$ .d$ fK g) a8)[5]? =some (.val$ .lst$ ws.map$ mI N):=by
   show some (match res (S++[.lst$ ws.map$ mI N]) (.loc S.length) with | some d=>Sl.val d | none=> .un)=_
   unfold res;rw[aR]
  refine(ay (ds:=[.str$ kS g.1, .tup$ (g.2.1.map$ jR ws).map$ mI N,mI N one]) (ao (ak rfl rfl rfl)$ ao ?_$ ao rfl rfl)$ LY hg.1$ by rw[Qaa];exact hg.2.1).trans ?_
  .exact ay (ao (by unfold ai;rw [h5]) (ao (ak rfl rfl rfl) rfl)) (Na hg.2.2$ by rw[hg.2.1];omega)
  .have:(λp=>gv g.1$ (g.2.1.map$ jR ws).map (· p))=gF g ws:=by funext p;unfold gF;rw [QaL];rfl
   rw[this]
 .show W3 (mS 5 _ (BU N S nt eN (.tup$ turned.map .int) bD (some$ .d$ .int i) (some$ .d$ fK g)$ some$ .d$ mI N$ gF g ws) _) _;refine o_ rfl ⟨_,aR _ _⟩ (dt (d:=mI N λp=>gF g ws p !=turned.contains (i:Int)) ?_ ⟨_,_,rfl,aR _ _,by rw[Qaa];omega,⟨_,rfl⟩,?_⟩)
  .refine Ib (eg rfl rfl$ yy _ _) ?_;rw[<-Jn];rfl
  .rw [cZ,QaH];rfl
def HD{S:a_}(NO:qI ins gs os)(hb:bits.length=ins.length)(hS:D1 S){Q:V3->a_->Prop}(h:Q (.d$ .lst$ (Fh ins gs bits turned bad).map$ mI N) S) :
 W3 (kI [.d$ cJ ins gs os, .d$ .lst$ bits.map$ mI N, .d$ mI N one, .d$ .tup$ turned.map .int, .d$ .tup$ bad.map .int] S) Q:=by
 refine mD hS$ DX rfl ?_;simp only[df,jg,List.map,List.length,List.replicate,QaM,QaY,Nat.reduceAdd,Nat.reduceSub];refine bt<|bY (by simp)<|fJ<|aZ<|dt rfl<|aZ<|dt rfl<|aZ<|dt rfl<|aZ<|dt rfl<|dH<|AR hb NO.hi NO.hw ⟨_,rfl,?_⟩
 have hwd:=xV NO.hw;have hN:=NO.hi;have hG:=NO.hg;refine bt$ g_$ jT rfl ?_;refine(dc (λi δ S2=>(∃a b c,δ=BU N S (cJ ins gs os) (.lst$ bits.map$ mI N) (.tup$ turned.map .int) (.tup$ bad.map .int) a b c)/\S2=S++[SO.lst$ (BL gs turned (kz ins bits bad ins.length) i).map$ mI N])
  ⟨⟨_,_,_,rfl⟩,rfl⟩ ?_).mono λo S2 ⟨du,je,⟨a,b,c,vW⟩,v7⟩=>⟨du,je,?_⟩
 .rintro i v δ S2 hv ⟨⟨a,b,c,rfl⟩,rfl⟩;obtain⟨d,hd,rfl⟩:=D2 hv;rw[Qaf] at hd;cases q:gs[i]? with
  | none=>rw [q] at hd;cases hd
  | some g=>
    rw[q] at hd;cases hd;have hi:i<gs.length:=(Qae.mp q).1;have hl:(BL gs turned (kz ins bits bad ins.length) i).length=zr ins+i:=by rw[za _ (by omega),qD hb _$ Qai _,QaX]
    refine⟨BU N S (cJ ins gs os) (.lst$ bits.map$ mI N) (.tup$ turned.map .int) (.tup$ bad.map .int) (some$ .d$ .int i) (some$ .d$ fK g) c,rfl,?_⟩;refine(F3 (by rw[hl];exact NO.g i g q)$ by rw[hl];omega).mono λo S4 ⟨⟨c4,e4⟩,e5⟩=>⟨_,e4,⟨_,_,_,rfl⟩,?_⟩
    rw[e5];show _=S++[SO.lst$ (match gs[i]? with | some g=>BL gs turned (kz ins bits bad ins.length) i++[λp=>gF g (BL gs turned (kz ins bits bad ins.length) i) p !=turned.contains (i:Int)] | none=>BL gs turned (kz ins bits bad ins.length) i).map (mI N)]
    rw[q]
 have hlen:((eR$ gs.map fK).map V3.d).length=gs.length:=by simp [eR]
 rw[hlen] at v7;subst vW v7;exact g9 (w_var rfl ⟨_,rfl,by unfold jf;exact Qan$ Qai _,⟨_,rfl⟩,_,by unfold res;rw [aR];rfl,h⟩)
def cA(N:Nat)(os:Aad)(ws:List M):List D:=os.map λx=> .tup$ (tell ws x).map$ mI N
def Mw{S:a_}{ws:List M}(hO:os.length<1000)(ho:∀x∈os,x.2.length<1000/\∀w∈x.2,w<ws.length)(hS:D1 S){Q:V3->a_->Prop}(h:Q (.d$ .lst$ cA N os ws) S) :
 W3 (l7 [.d$ cJ ins gs os, .d$ .lst$ ws.map$ mI N] S) Q:=by
 have hz:=Qam;refine mD hS$ DX rfl ?_;refine g9 (nc ?_ ⟨_,rfl,by unfold jf;exact Qan$ Qai _,⟨_,rfl⟩,_,by unfold res;rw [aR],h⟩)
 refine bM (gG$ ak rfl rfl rfl) (by rw[Qaa];omega) ?_
 refine NT.bE qi _ λ(x:Str × List Nat) hx=>⟨[.val$ .str x.1, .val$ .tup$ x.2.map nI, .val$ .lst$ ws.map$ mI N],rfl,rfl,?_⟩
 exact ay rfl$ Na (ho x hx).2 (ho x hx).1
end
end K32
end
section
namespace K32
open PySem PySem.Spec PyProof.Rows L2 L3 MT
open JT (dg cO ik Rp rP ng)
def NN{N n:Nat}{f:M}:m8 [mI N f, .int n]= .ok (.int$ if decide (n<N) && f n then 1 else 0):=by
 unfold m8 AL;refine cM$ bZ ?_;have h:=R8 N f n;show(R.bind (R.bind (R.ok$ mI N f) λd=>R.bind (R.ok$ D.int n) λe=>AJ d e) λd=>R.bind (R.ok$ D.int 1) λe=>IV d e)=_
 exact h
def vH{bs:List Bool}(hl:bs.length<100000):ij [.lst$ bs.map bI]= .ok (.int$ Kf bs):=by
 unfold ij wR;refine cM (bA (cV (d:= .int 0) rfl$ by simp [cP,rR]) ?_)
 obtain⟨c_,e1,a2,mW⟩:=gf (t:=aK 2) (body:=nQ) (ds:=(bs.map bI).reverse)
  (λi δ=>∃a2,δ=[.val$ .lst$ bs.map bI, .val$ .int$ Kf$ bs.drop$ bs.length - i,a2]) (δ:=[.val$ .lst$ bs.map bI, .val$ .int 0, .un]) ⟨.un,by simp [Kf]⟩ (by
    rintro i d δ hd ⟨a2,rfl⟩;have hi:i<bs.length:=by
     have:=(Qae.mp hd).1
     rwa [Qbx,Qaa] at this
    rw[List.getElem?_reverse (by rw[Qaa];exact hi),Qaa,Qaf,Qad (by omega:bs.length - 1 - i<bs.length)] at hd
    cases hd;have hdr:bs.drop (bs.length - (i+1))=bs[bs.length - 1 - i] ::bs.drop (bs.length - i):=by
     rw[show bs.length - (i+1)=bs.length - 1 - i by omega,QbA (by omega:bs.length - 1 - i<bs.length),show bs.length - 1 - i+1=bs.length - i by omega]
    refine⟨_,?_,⟨.val$ bI bs[bs.length - 1 - i],rfl⟩⟩;have hm:(Kf (bs.drop$ bs.length - (i+1)):Int)=(Kf (bs.drop$ bs.length - i):Int)*2+(if bs[bs.length - 1 - i] then 1 else 0):=by
     rw[hdr];show(((if bs[bs.length - 1 - i] then 1 else 0)+2*Kf (bs.drop$ bs.length - i):Nat):Int)=_
     cases bs[bs.length - 1 - i] <;> simp <;> omega
    rw[hm];generalize (Kf (bs.drop$ bs.length - i):Int)=m;generalize bs[bs.length - 1 - i]=x;generalize D.lst (bs.map bI)=y;rw[show aK 2 (bI x) [.val y, .val$ .int m,a2]= .ok [.val y, .val$ .int m, .val$ bI x] from rfl,R.aX]
    unfold nQ;exact cV (ak (a:= .int$ m*2) (b:=bI x) (ak (a:= .int m) (b:= .int 2) rfl rfl$ cC _$ .inr ⟨by omega,by omega⟩) rfl rfl)$ by simp)
 refine bA (iG (ds:=(bs.map bI).reverse) rfl e1) ?_;rw[Qbx,Qaa,Qbl,List.drop_zero] at mW;subst mW;exact bZ rfl
def g7(b:List Bool):D:= .tup$ b.map bI
def aE(c:Nat)(inp:Option V3)(a2 a3 a4:Option V3):DE:=[some$ .d$ nI c,inp,a2,a3,a4]
def wk{c:Nat}{S:a_}(hc:c<=10)(hS:D1 S){Q:V3->a_->Prop}(h:Q (.d$ .lst$ (dg c).map g7) S):W3 (iJ [.d$ nI c] S) Q:=by
 have hz:=Qam;unfold iJ;refine mD hS$ DX rfl ?_;simp only[df,jo,List.map,List.length,List.replicate,QaM,QaY,Nat.reduceAdd,Nat.reduceSub];unfold mh;refine bt<|bY (by simp)<|nc (ds:=(dg 0).map g7) rfl ⟨_,rfl,?_⟩
 simp only[List.set];refine bt<|g_<|jT (uh (n:=c) rfl$ by omega) ?_
 refine(dc (λi δ S2=>∃(T:a_) (a2 a3 a4:Option V3),S2=S++T++[.lst$ (dg i).map g7]/\δ=aE c (some$ .loc (S++T).length) a2 a3 a4)
  ⟨[],none,none,none,by simp,by simp [aE]⟩ ?_).mono λo S2 ⟨du,je,T,a2,a3,a4,v7,vW⟩=>⟨du,je,?_⟩
 .rintro i v δ S2 hv ⟨T,a2,a3,a4,rfl,rfl⟩;have hi:i<c:=by
   have:=(Qae.mp hv).1
   rwa [Qaa,jj,Qaa,Qap] at this
  have hpow:(dg i).length<=1024:=by
   rw[cO];exact Qbt (by omega) (by omega:i<=10)
  refine⟨aE c (some$ .loc (S++T).length) (some v) a3 a4,rfl,?_⟩;unfold nV aE;refine HQ (i:=1) rfl (aR _ _) ?_;rw[cZ];simp only[List.set];refine bt<|bY (by simp)<|nc (ds:=[]) rfl ⟨_,rfl,?_⟩
  simp only[List.set];generalize hU:S++T++[SO.jU]=U;refine bt<|g_<|jT (ds:=(dg i).map g7) rfl ?_
  refine(dc (λj δ S3=>(∃b4,δ=[some$ .d$ nI c,some$ .d$ .lst$ (dg i).map g7,some v,some$ .loc U.length,b4])/\S3=U++[.lst$ (((dg i).take j).flatMap λb=>[b++[false],b++[true]]).map g7])
   ⟨⟨_,rfl⟩,by simp⟩ ?_).mono λo S3 ⟨T9,e3,⟨b4,J4⟩,hS3⟩=>⟨T9,e3,?_⟩
  .rintro j v3 δ S3 hv3 ⟨⟨b4,rfl⟩,rfl⟩;obtain⟨b,hb,rfl⟩:=NT.ia hv3;have hj:=(Qae.mp hb).1;have hbl:=ik i b$ QaD hb;refine⟨[some$ .d$ nI c,some$ .d$ .lst$ (dg i).map g7,some v,some$ .loc U.length,some$ .d$ g7 b],rfl,?_⟩;unfold nh;generalize hL:((((dg i).take j).flatMap λb=>[b++[false],b++[true]]).map g7)=L
   have hLl:L.length<=2048:=by
    rw[<-hL,Qaa,QbJ];have:((dg i).take j).map (λb=>[b++[false],b++[true]].length)=((dg i).take j).map λ_=>2:=rfl
    rw[this,List.map_const',List.sum_replicate_nat,QaK];omega
   have add:∀(x:Bool) (δ:av),ai 4 δ= .ok (g7 b)->e2 lY (ai 4) (bz$ af (eC$ bI x) ax) δ= .ok (g7$ b++[x]):=λx δ h4=>by
    refine ak (a:=g7 b) (b:= .tup [bI x]) h4 (bL rfl$ by simp;omega) ?_
    show R.aS (decide$ (b.map bI).length+[bI x].length<=sizeLine) _=_;rw[cC _$ by rw[Qaa];simp;omega]
    unfold g7;rw[QaH];rfl
   refine bt<|o_ (k:=U.length) rfl ⟨_,aR _ _⟩<|dt (d:=g7$ b++[false]) (add false _ rfl) ⟨_,_,rfl,aR _ _,by omega,_,rfl,?_⟩
   rw[cZ];refine o_ (k:=U.length) rfl ⟨_,aR _ _⟩<|dt (d:=g7$ b++[true]) (add true _ rfl) ⟨_,_,rfl,aR _ _,by rw[Qau];simp;omega,_,rfl,⟨_,rfl⟩,?_⟩
   rw[cZ,QaN,hb,Qcb,QaH,hL];simp
  rw[Qaa,Qaa,QaX] at hS3;subst J4 hS3;refine bY (by simp)<|w_var (v:= .loc U.length) rfl ⟨_,rfl,T++[SO.jU],some v,some$ .loc U.length,b4,?_,?_⟩
  .rw [<-hU,QaR S];rfl
  .rw [<-hU,QaR S];rfl
 have hlen:((jj 0 c).map V3.d).length=c:=by simp [jj]
 rw[hlen] at v7;subst vW v7;unfold aE;refine g9 (w_var rfl ⟨_,rfl,by unfold jf;exact Qan (by rw[Qau];omega),⟨T++[.lst$ (dg c).map g7],by rw[QaR]⟩,_,by unfold res;rw [aR],h⟩)
end K32
end
section
namespace K32
open PySem PySem.Spec PyProof.Rows L2 L3 MT
open JT (dg cO ik Rp rP ng)
def Qp{b:List Bool}{j:Nat}(h:j<b.length):cb (g7 b) (.int j)= .ok (bI$ b.getD j false):=by
 refine uw ?_;rw[l9 (by omega)$ by rw[Qaa,Qbu];exact h]
 rw[Qak,Qad h];simp
def Cy{c j:Nat}(hc:c<=10)(hj:j<c):lT [.lst$ (dg c).map g7, .int j]= .ok (mI (2 ^ c)$ Rp c j):=by
 have hz:=Qam;have hp:2 ^ c<=1024:=Qbt (by omega) hc
 unfold lT xv;refine cM (bZ$ ay (ds:=[.lst$ ((dg c).map λb=>b.getD j false).map bI]) (ao (bX$ bM (ds:=(dg c).map g7) rfl (by rw[Qaa,cO];omega) ?_) rfl) ?_)
 .rw [QaL];exact NT.bE g7 _ λb hb=>⟨[.val$ g7 b, .val$ .int j],rfl,rfl,ak (a:=g7 b) (b:= .int j) rfl rfl$ Qp$ by rw[ik c b hb];exact hj⟩
 .rw [vH (by rw[Qaa,cO];omega),GL,Qaa,cO]
  unfold mI;congr 3;refine oE λp TZ=>?_
  unfold Rp;rw[Qak,Qaf,Qak (l:=dg c),Qad$ by rw[cO];exact TZ]
  rfl
section
variable {c:Nat}{ins:Aac}{gs:List Gt}{os:Aad}
noncomputable abbrev Fm:=Str.ofString "net"
noncomputable abbrev xo:=Str.ofString "many_inputs"
noncomputable abbrev xH:=Str.ofString "full"
noncomputable abbrev se:=Str.ofString "in_masks"
def fZ(c:Nat)(nt:D):List (Str × V3):=[(Fm, .d nt),(xo, .d$ nI$ 2 ^ c),(xH, .d$ mI (2 ^ c) one),(se, .d$ .lst$ (rP c).map$ mI$ 2 ^ c)]
def Lj{S:a_}(hc:ins.length=c)(J0:c<=10)(hS:D1 (S++[.ins 0 []])){Q:V3->a_->Prop}(h:Q (.d .cI) (S++[.ins 0$ fZ c$ cJ ins gs os])) :
 W3 (dG [.loc S.length, .d$ cJ ins gs os]$ S++[.ins 0 []]) Q:=by
 have hz:=Qam;have hp:2 ^ c<=1024:=Qbt (by omega) J0
 unfold dG;refine U9 rfl ?_;simp only[df,fm,List.map,List.length,List.replicate,QaM,QaY,Nat.reduceAdd,Nat.reduceSub];unfold ig;refine bt<|bY (by simp)<|fJ<|aZ<|dt (d:=nI c) (ay (ds:=[.lst$ ins.map inD]) rfl$ by rw[BJ,Qaa,hc];rfl)<|dH<|wk J0 hS ⟨_,rfl,?_⟩
 simp only[List.set];refine bt<|qR (k:=S.length)<|dt (d:=cJ ins gs os) rfl<|w_var (v:= .loc S.length) rfl ⟨_,rfl,aR _ _,by simp,_,rfl,?_⟩
 rw[cZ];refine bt<|qR (k:=S.length)<|dt (d:=nI$ 2 ^ c) (ay (ds:=[.lst$ (dg c).map g7]) rfl$ by rw[BJ,Qaa,cO];rfl)<|w_var (v:= .loc S.length) rfl ⟨_,rfl,aR _ _,by unfold Av;simp,_,rfl,?_⟩
 rw[cZ];refine bt<|qR (k:=S.length)<|dt (d:=mI (2 ^ c) one) (ay (ds:=[.lst$ ((dg c).map λ_=>true).map bI]) (ao (bX$ bM (ds:=(dg c).map g7) rfl (by rw[Qaa,cO];omega) ?_) rfl) ?_)<|w_var (v:= .loc S.length) rfl ⟨_,rfl,aR _ _,?_,_,rfl,?_⟩
 .rw [QaL];exact NT.bE g7 _ λb hb=>⟨[.val$ g7 b],rfl,rfl,rfl⟩
 .rw [vH (by rw[Qaa,cO];omega),GL,Qaa,cO]
  unfold mI;congr 3;refine oE λp TZ=>?_
  rw[Qak,Qaf,Qad$ by rw[cO];exact TZ]
  rfl
 .exact(by decide:2<1000)
 rw[cZ];refine qR (k:=S.length)<|dt (d:= .lst$ (rP c).map$ mI$ 2 ^ c) (bX$ bM (ds:=jj 0 c) (uh (n:=c) (ay (ds:=[.lst$ ins.map inD]) rfl$ by rw[BJ,Qaa,hc])$ by omega) (by simp [jj];omega) ?_)<|w_var (v:= .loc S.length) rfl ⟨_,rfl,aR _ _,?_,_,rfl,?_⟩
 .unfold rP;rw[QaL];unfold jj;refine NT.bE (λi:Nat=>D.int$ 0+(i:Int)) _ λj hj=>⟨[.val$ .int$ 0+(j:Int), .val$ .lst$ (dg c).map g7],rfl,rfl,ay (ds:=[.lst$ (dg c).map g7, .int j]) ?_$ Cy J0$ QaI.mp hj⟩
  rw[Int.zero_add];rfl
 .exact(by decide:3<1000)
 rw[cZ];exact h
end
end K32
end
section
namespace K32
open PySem PySem.Spec PyProof.Rows L2 L3 MT
open JT (dg cO ik Rp rP ng)
section
variable {c:Nat}{ins:Aac}{gs:List Gt}{os:Aad}{S:a_}{k:Nat}{turned bad:List Int}
def nd1:(xo==Fm)=false:=by decide+kernel
def nd2:(xH==Fm)=false:=by decide+kernel
def nd3:(xH==xo)=false:=by decide+kernel
def ZS:(se==Fm)=false:=by decide+kernel
def nd5:(se==xo)=false:=by decide+kernel
def nd6:(se==xH)=false:=by decide+kernel
def I0{nt:D}:(fZ c nt).lookup Fm=some (.d nt):=by unfold fZ;rw [Qav,QbK]
def L6{nt:D}:(fZ c nt).lookup xo=some (.d$ nI$ 2 ^ c):=by unfold fZ;rw [Qav,nd1,Qav,QbK]
def Mv{nt:D}:(fZ c nt).lookup xH=some (.d$ mI (2 ^ c) one):=by unfold fZ;rw [Qav,nd2,Qav,nd3,Qav,QbK]
def GK{nt:D}:(fZ c nt).lookup se=some (.d$ .lst$ (rP c).map$ mI$ 2 ^ c):=by unfold fZ;rw [Qav,ZS,Qav,nd5,Qav,nd6,Qav,QbK]
abbrev Wd(c:Nat)(ins:Aac)(gs:List Gt)(turned bad:List Int):List M:=Fh ins gs (rP c) turned bad
def Qe(m:Str)(nt:D)(h1:(m==Fm)=false)(h2:(m==xo)=false)(h3:(m==xH)=false)(h4:(m==se)=false):(fZ c nt).lookup m=none:=by unfold fZ;rw [Qav,h1,Qav,h2,Qav,h3,Qav,h4];rfl
def z8(NO:qI ins gs os)(hc:ins.length=c)(hS:D1 S)(hb:S[k]? =some (.ins 0$ fZ c$ cJ ins gs os)){Q:V3->a_->Prop}(h:Q (.d$ .lst$ cA (2 ^ c) os$ Wd c ins gs turned bad) S) :
 W3 (eW [.loc k, .d$ .tup$ turned.map .int, .d$ .tup$ bad.map .int] S) Q:=by
 have hz:=Qam;unfold eW;refine mD hS$ DX rfl ?_;simp only[df,iE,List.map,List.length,List.replicate,QaM,QaY,Nat.reduceAdd,Nat.reduceSub];unfold kJ;have hl:(rP c).length=ins.length:=by rw[ng,hc]
 refine g9<|fJ<|aZ<|w_fld (k:=k)<|w_var (v:= .loc k) rfl ⟨_,_,rfl,hb,I0,?_⟩
 refine aZ<|fJ<|aZ<|w_fld (k:=k)<|w_var (v:= .loc k) rfl ⟨_,_,rfl,hb,I0,?_⟩
 refine aZ<|w_fld (k:=k)<|w_var (v:= .loc k) rfl ⟨_,_,rfl,hb,GK,?_⟩
 refine aZ<|w_fld (k:=k)<|w_var (v:= .loc k) rfl ⟨_,_,rfl,hb,Mv,?_⟩
 refine aZ<|dt (d:= .tup$ turned.map .int) rfl<|aZ<|dt (d:= .tup$ bad.map .int) rfl<|dH ?_
 refine HD NO hl hS$ dH ?_;refine Mw NO.ho (λx hx=>⟨(NO.o x hx).1,λw hw=>by rw[Jj hl];exact(NO.o x hx).2 w hw⟩) hS ?_
 exact⟨_,rfl,by unfold jf;rfl,⟨[],by simp⟩,_,by unfold res;rfl,h⟩
def ye{nt:D}{f:M}(hc:c<=10)(hS:D1 S)(hb:S[k]? =some (.ins 0$ fZ c nt)){Q:V3->a_->Prop}(h:Q (.d$ .lst$ ((List.range$ 2 ^ c).filter f).map nI) S) :
 W3 (cQ [.loc k, .d$ mI (2 ^ c) f] S) Q:=by
 have hz:=Qam;have hp:2 ^ c<=1024:=Qbt (by omega) hc
 unfold cQ;refine mD hS$ DX rfl ?_;simp only[df,eJ,List.map,List.length,List.replicate,QaM,QaY,Nat.reduceAdd,Nat.reduceSub];unfold gM;refine g9<|oA (λj ds S2=>S2=S/\ds=((List.range j).filter f).map nI) ?_
 refine Oc<|w_fld (k:=k)<|w_var (v:= .loc k) rfl ⟨_,_,rfl,hb,L6,2 ^ c,rfl,by omega,?_⟩
 have hlen:((jj 0$ 2 ^ c).map V3.d).length=2 ^ c:=by simp [jj]
 rw[hlen];refine⟨by omega,⟨rfl,rfl⟩,?_,?_⟩
 .rintro j v ds S2 hv ⟨rfl,rfl⟩;obtain⟨hj,rfl⟩:=NT.OC hv;refine⟨[some$ .d$ .int j,some$ .d$ mI (2 ^ c) f],rfl,pO (b:=f j) ?_ ?_⟩
  .refine eg (a:= .int$ if decide (j<2 ^ c) && f j then 1 else 0) (b:= .int 1) (ay (ds:=[mI (2 ^ c) f, .int j]) rfl NN) rfl ?_
   rw[Qan hj,Bool.true_and];cases f j <;> rfl
  .rw [List.range_succ,List.filter_append,QaH];cases hf:f j with
   | true=>rw [QaG rfl];exact dt (d:=nI j) rfl ⟨_,rfl,rfl,by simp [hf]⟩
   | false=>rw [QaA$ by decide];exact⟨rfl,by simp [hf]⟩
 .rintro ds S2 ⟨rfl,rfl⟩;exact⟨_,rfl,by unfold jf;rfl,⟨[],by simp⟩,_,by unfold res;rfl,h⟩
end
end K32
end
section
set_option maxHeartbeats 1000000
namespace K32
open PySem PySem.Spec PyProof.Rows L2 L3 MT JT
def YF{a:D}{r:List D}:cb (.lst (a ::r)) (.int 0)= .ok a:=rH (by rw[l9 (by omega)$ by simp];rfl)
def YS{a b:D}{r:List D}:cb (.lst (a ::b ::r)) (.int 1)= .ok b:=rH (by rw[l9 (by omega)$ by simp];rfl)
def X0{a b c:D}{r:List D}:cb (.lst (a ::b ::c ::r)) (.int 2)= .ok c:=rH (by rw[l9 (by omega)$ by simp];rfl)
def IP{N:Nat}{a b c:M}:il [.lst [mI N a,mI N b,mI N c]]= .ok (mI N λp=>(a p && b p) || (a p && c p) || (b p && c p)):=by
 refine cM$ bZ ?_;exact ak (ak (ak (ak rfl rfl YF) (ak rfl rfl YS)$ vC N a b) (ak (ak rfl rfl YF) (ak rfl rfl X0)$ vC N a c)$ A7 N _ _) (ak (ak rfl rfl YS) (ak rfl rfl X0)$ vC N b c)$ A7 N _ _
def HC(bs:List Bool):IE [.lst$ bs.map D.bl]= .ok (.bl$ bs.all id):=by
 show(match bls? (bs.map D.bl) with | some bs=>R.ok (D.bl$ bs.all id) | none=> .no)=_
 rw[DO]
section
variable {ins:Aac}{gs:List Gt}{os:Aad}
def Ip(a b:Nat):qv (.int a) (.int b)= .ok (.bl$ decide$ a=b):=by
 show R.ok (D.bl$ (a:Int)==(b:Int))=_;congr 2;by_cases h:a=b
 .rw [Qan h];exact Qbj.mpr (by omega)
 .rw [Qax h];exact Qa9.mpr (by omega)
def xJ(w:Nat)(hi:ins.length<1000)(ho:os.length<1000):fA [cJ ins gs os, .int w]= .ok (.bl$ (ins.all λx=>decide$ x.2=w) && os.all λx=>decide$ x.2.length=w):=by
 have hz:=Qam;refine cM (bA (cV (d:= .bl$ ins.all λx=>decide$ x.2=w) (ay (ds:=[.lst$ (ins.map λx=>decide$ x.2=w).map D.bl]) (ao (bX$ bM (gG$ ak rfl rfl rfl) (by rw[Qaa];omega) ?_) rfl) ?_) (by simp [cP,l6])) (bZ ?_))
 .rw [QaL];exact NT.bE inD _ λx hx=>⟨[.val$ inD x, .val$ .int w],rfl,rfl,ak (ak rfl rfl rfl) rfl$ Ip _ _⟩
 .rw [HC,List.all_map];rfl
 .unfold ES;have e1:Nz (ai 2) [.val$ cJ ins gs os, .val$ .int w, .val$ .bl$ ins.all λx=>decide$ x.2=w]= .ok (ins.all λx=>decide$ x.2=w):=OU rfl
  show((Nz (ai 2) [.val$ cJ ins gs os, .val$ .int w, .val$ .bl$ ins.all λx=>decide$ x.2=w]).bind _)=_
  rw[e1,R.aX];cases hA:ins.all λx=>decide (x.2=w) with
  | false=>rw [QaA (by decide),Bool.false_and]
  | true=>
    refine ay (ds:=[.lst$ (os.map λx=>decide$ x.2.length=w).map D.bl]) (ao (bX$ bM (gG$ ak rfl rfl rfl) (by rw[Qaa];omega) ?_) rfl) ?_
    .rw [QaL];exact NT.bE qi _ λx hx=>⟨[.val$ .str x.1, .val$ .tup$ x.2.map nI, .val$ .int w],rfl,rfl,ak (ay rfl$ by show R.ok (D.int ((x.2.map nI).length:Nat))=_;rw [Qaa]) rfl (Ip _ _)⟩
    .rw [HC,List.all_map];rfl
def D0(N:Nat):D.int 0=mI N λ_=>false:=by
 unfold mI;rw[z0.mpr λ_ _=>rfl];rfl
def three{α:Type}{l:List α}(h:l.length=3):∃a b c,l=[a,b,c]:=match l,h with | [a,b,c],_=>⟨a,b,c,rfl⟩
def N2{ws:List M}{p a b c:Nat}:cE (jV p ws) [a,b,c]=[jR ws a p,jR ws b p,jR ws c p]:=by
 show [(jV p ws).getD a false,(jV p ws).getD b false,(jV p ws).getD c false]=_;rw[uk,uk,uk]
def FN{N:Nat}{ws:List M}(h3:∀x∈os,x.2.length=3):j5 [.lst$ cA N os ws]= .ok (mI N λp=>os.any λx=>z_$ cE (jV p ws) x.2):=by
 refine cM (bA (cV rfl$ by simp [cP,nS]) ?_)
 obtain⟨c_,e1,a2,mW⟩:=gf (body:=oR) (ds:=cA N os ws)
  (λi δ=>∃a2,δ=[.val$ .lst$ cA N os ws, .val (mI N λp=>(os.take i).any λx=>z_$ cE (jV p ws) x.2),a2]) (δ:=[.val$ .lst$ cA N os ws, .val$ .int 0, .un]) ⟨.un,by rw[D0 N];simp⟩ (by
    rintro i d δ hd ⟨a2,rfl⟩;unfold cA at hd;rw[Qaf] at hd;cases hx:os[i]? with
    | none=>rw [hx] at hd;cases hd
    | some x=>
      rw[hx] at hd;cases hd;obtain⟨n0,n1,n2,ex⟩:=three$ h3 x$ QaD hx;have et:tell ws x=[jR ws n0,jR ws n1,jR ws n2]:=by unfold tell;rw [ex];rfl
      obtain⟨acc,hacc⟩:∃acc:M,acc=λp=>(os.take i).any λx=>z_ (cE (jV p ws) x.2):=⟨_,rfl⟩
      have em:(mI N λp=>(os.take$ i+1).any λx=>z_$ cE (jV p ws) x.2)=mI N λp=>(acc p || (jR ws n0 p !=jR ws n1 p)) || (jR ws n0 p !=jR ws n2 p):=qy λp _=>by
       rw[QaN,hx,List.any_append,hacc];show(_ || (z_ (cE (jV p ws) x.2) || false))=_
       rw[ex,N2,Bool.or_false,Bool.or_assoc];rfl
      refine⟨_,?_,⟨.val$ .tup$ (tell ws x).map$ mI N,rfl⟩⟩;show(aK 2 (.tup$ (tell ws x).map$ mI N) _).bind _=_;rw[em,et,<-hacc];generalize D.lst (cA N os ws)=y;generalize jR ws n0=a;generalize jR ws n1=b;generalize jR ws n2=c;rw[show aK 2 (.tup$ [a,b,c].map$ mI N) [.val y, .val$ mI N acc,a2]= .ok [.val y, .val$ mI N acc, .val$ .tup [mI N a,mI N b,mI N c]] from rfl,R.aX]
      exact cV (ak (ak rfl (ak (ak rfl rfl Kl) (ak rfl rfl M3)$ vG N a b)$ A7 N _ _) (ak (ak rfl rfl Kl) (ak rfl rfl TF)$ vG N a c)$ A7 N _ _)$ by simp)
 refine bA (iG rfl e1) ?_;have hlen:(cA N os ws).length=os.length:=by unfold cA;rw [Qaa]
 rw[hlen,QaX] at mW;subst mW;exact bZ rfl
def xf{N:Nat}{ws vs:List M}:tU (cA N os ws) (cA N os vs)=os.map λx=>D.tup [.tup$ (tell ws x).map$ mI N, .tup$ (tell vs x).map$ mI N]:=by
 unfold tU cA;rw[List.zip_map',QaL];rfl
def Ma{N:Nat}{ws vs:List M}(h3:∀x∈os,x.2.length=3):ot [.lst$ cA N os ws, .lst$ cA N os vs]= .ok (mI N λp=>os.any λx=>lst (cE (jV p ws) x.2)$ cE (jV p vs) x.2):=by
 have hz:=Qam;refine cM (bA (cV rfl$ by simp [cP,rJ]) ?_)
 obtain⟨c_,e1,a3,a4,mW⟩:=gf (body:=tI) (ds:=tU (cA N os ws)$ cA N os vs)
  (λi δ=>∃a3 a4,δ=[.val$ .lst$ cA N os ws, .val$ .lst$ cA N os vs, .val (mI N λp=>(os.take i).any λx=>lst (cE (jV p ws) x.2)$ cE (jV p vs) x.2),a3,a4]) (δ:=[.val$ .lst$ cA N os ws, .val$ .lst$ cA N os vs, .val$ .int 0, .un, .un]) ⟨.un, .un,by rw[D0 N];simp⟩ (by
    rintro i d δ hd ⟨a3,a4,rfl⟩;rw[xf,Qaf] at hd;cases hx:os[i]? with
    | none=>rw [hx] at hd;cases hd
    | some x=>
      rw[hx] at hd;cases hd;obtain⟨n0,n1,n2,ex⟩:=three$ h3 x$ QaD hx;have et:tell ws x=[jR ws n0,jR ws n1,jR ws n2]:=by unfold tell;rw [ex];rfl
      have ev:tell vs x=[jR vs n0,jR vs n1,jR vs n2]:=by unfold tell;rw [ex];rfl
      obtain⟨acc,hacc⟩:∃acc:M,acc=λp=>(os.take i).any λx=>lst (cE (jV p ws) x.2) (cE (jV p vs) x.2):=⟨_,rfl⟩
      have em:(mI N λp=>(os.take$ i+1).any λx=>lst (cE (jV p ws) x.2)$ cE (jV p vs) x.2)=mI N λp=>acc p || (((jR ws n0 p !=jR vs n0 p) && (jR ws n1 p !=jR vs n1 p)) || ((jR ws n0 p !=jR vs n0 p) && (jR ws n2 p !=jR vs n2 p)) || ((jR ws n1 p !=jR vs n1 p) && (jR ws n2 p !=jR vs n2 p))):=qy λp _=>by
       rw[QaN,hx,List.any_append,hacc];show(_ || (lst (cE (jV p ws) x.2) (cE (jV p vs) x.2) || false))=_
       rw[ex,N2,N2,Bool.or_false];rfl
      refine⟨_,?_,⟨.val$ .tup$ (tell ws x).map$ mI N, .val$ .tup$ (tell vs x).map$ mI N,rfl⟩⟩;show(mM 2 (dv (aK 3)$ dv (aK 4) mQ) (.tup [.tup$ (tell ws x).map$ mI N, .tup$ (tell vs x).map$ mI N]) _).bind _=_;rw[em,et,ev,<-hacc];generalize D.lst (cA N os ws)=y;generalize D.lst (cA N os vs)=z;generalize jR ws n0=a;generalize jR ws n1=b;generalize jR ws n2=c;generalize jR vs n0=a';generalize jR vs n1=b';generalize jR vs n2=c';rw[show mM 2 (dv (aK 3)$ dv (aK 4) mQ) (.tup [.tup$ [a,b,c].map$ mI N, .tup$ [a',b',c'].map$ mI N]) [.val y, .val z, .val$ mI N acc,a3,a4]= .ok [.val y, .val z, .val$ mI N acc, .val$ .tup [mI N a,mI N b,mI N c], .val$ .tup [mI N a',mI N b',mI N c']] from rfl,R.aX]
      refine cV (ak rfl (ay (ao (bX$ bM (ds:=[.int 0, .int 1, .int 2]) rfl (by simp;omega) ?_) rfl) IP)$ A7 N _ _) (by simp)
      have go:∀(l:List (D × D)),(∀q∈l,e2 Ff (e2 cb (ai 1)$ ai 0) (e2 cb (ai 2)$ ai 0) [.val q.1, .val$ .tup [mI N a,mI N b,mI N c], .val$ .tup [mI N a',mI N b',mI N c']]= .ok q.2)->
       pd (aK 0) f9 (e2 Ff (e2 cb (ai 1)$ ai 0)$ e2 cb (ai 2)$ ai 0) [.un, .val$ .tup [mI N a,mI N b,mI N c], .val$ .tup [mI N a',mI N b',mI N c']] (l.map (·.1))= .ok (l.map (·.2)):=λl hl=>
       NT.bE (λq:D × D=>q.1) (λq:D × D=>q.2) λq hq=>⟨[.val q.1, .val$ .tup [mI N a,mI N b,mI N c], .val$ .tup [mI N a',mI N b',mI N c']],rfl,rfl,hl q hq⟩
      refine go [(.int 0,mI N λp=>a p !=a' p),(.int 1,mI N λp=>b p !=b' p),(.int 2,mI N λp=>c p !=c' p)] λq hq=>?_
      simp at hq;rcases hq with rfl | rfl | rfl
      .exact ak (ak rfl rfl Kl) (ak rfl rfl Kl) (vG N a a')
      .exact ak (ak rfl rfl M3) (ak rfl rfl M3) (vG N b b')
      .exact ak (ak rfl rfl TF) (ak rfl rfl TF) (vG N c c'))
 have hlen:(tU (cA N os ws)$ cA N os vs).length=os.length:=by rw[xf,Qaa]
 refine bA (iG rfl e1) ?_;rw[hlen,QaX] at mW;subst mW;exact bZ rfl
end
def cz(T:List Nat):D:= .tup$ T.map nI
def GQ{ds es:List D}(h:ds.length+es.length<=sizeLine):lY (.tup ds) (.tup es)= .ok (.tup$ ds++es):=cC _ h
def DY{f g:FD}{δ:av}{a b:Nat}(h:f δ= .ok (.int a))(h2:g δ= .ok (.int b))(ha:a<1000000)(hb:b<1000000):rF f g δ= .ok ((List.range' a$ b - a).map nI):=by
 unfold rF;rw[h,R.aX,h2,R.aX];show R.aS (decide (-(2 ^ 62)<=(a:Int)/\(a:Int)<2 ^ 62/\ -(2 ^ 62)<=(b:Int)/\(b:Int)<2 ^ 62)) _=_;rw[cC _ ⟨by omega,by omega,by omega,by omega⟩,show((b:Int) - a).toNat=b - a by omega,List.range'_eq_map_range,QaL]
 congr 1
theorem qY{e:Nat}:∀(m f:Nat),(rB f e m).length<=e ^ m
 | 0,f=>by unfold rB;simp
 | m+1,f=>by
   unfold rB;rw[QbJ,Nat.pow_succ];refine QaP (uJ (m:=e ^ m) λx hx=>?_) ?_
   .obtain⟨a,_,rfl⟩:=QaZ.mp hx;rw[Qaa];exact qY m _
   .rw [Qaa,Qbz,Nat.mul_comm];exact Nat.mul_le_mul_left _$ Nat.sub_le _ _
def Jo{e m f:Nat}{B:List Nat}(h:B∈rB f e m):B.length=m:=(yA.mp h).1
def Ds(e m:Nat)(he:e<=12)(hm:m<=4):e ^ m<=20736:=QaP (Nat.pow_le_pow_left he m) (Qbt (by omega) hm)
theorem sN{e:Nat}(he:e<=12):∀(n m f:Nat),m<=n->n<=6->m<=4->f<=100->dM (n+1) [.int f, .int e, .int m]= .ok (.lst$ (rB f e m).map cz)
 | n,0,f,_,_,_,_=>by
   show qP jC (qa$ dM n) _=_;exact cM$ NT.jl$ qC (eg rfl rfl rfl)$ bZ rfl
 | 0,m+1,f,h,_,_,_=>by omega
 | n+1,m+1,f,h,hn,hm4,hf=>by
   have hz:=Qam;show qP jC (qa$ dM$ n+1) _=_;refine cM$ bA (jI (eg rfl rfl ?_) rfl) ?_
   .show R.ok (D.bl$ ((m+1:Nat):Int)==0)=_;congr 2
   refine bA (DC rfl$ by simp [cP,jC]) ?_
   let F:Nat->Aae:=λi=>((List.range' f$ e - f).take i).flatMap λw=>(rB ((w / 3+1)*3) e m).map (w ::·)
   have hFl:∀i,(F i).length<=12*20736:=λi=>by
    rw[QbJ];refine QaP (uJ λx hx=>?_) (by rw[Qaa,QaK,Qbz];exact Nat.mul_le_mul_right _$ by omega)
    obtain⟨a,_,rfl⟩:=QaZ.mp hx;rw[Qaa];exact QaP (qY m _) (Ds e m he$ by omega)
   obtain⟨c_,e1,a4,a5,a6,mW⟩:=gf (t:=aK 4) (body:=qr$ dM$ n+1) (ds:=(List.range' f$ e - f).map nI)
    (λi δ=>∃a4 a5 a6,δ=[.val$ .int f, .val$ .int e, .val$ .int (m+1:Nat), .bld$ (F i).map cz,a4,a5,a6]) (δ:=[.val$ .int f, .val$ .int e, .val$ .int (m+1:Nat), .bld [], .un, .un, .un]) ⟨.un, .un, .un,by simp [F]⟩ (by
      rintro i d δ hd ⟨a4,a5,a6,rfl⟩;obtain⟨w,hw,rfl⟩:=NT.qF hd;have hwm:=QaD hw;obtain⟨j,hj,ej⟩:=QbY.mp hwm;rw[show aK 4 (nI w) [.val$ .int f, .val$ .int e, .val$ .int (m+1:Nat), .bld$ (F i).map cz,a4,a5,a6]= .ok [.val$ .int f, .val$ .int e, .val$ .int (m+1:Nat), .bld$ (F i).map cz, .val$ nI w,a5,a6] from rfl,R.aX]
      have ihc:=sN he n m ((w / 3+1)*3) (by omega) (by omega) (by omega) (by omega)
      have hFs:F (i+1)=F i++(rB ((w / 3+1)*3) e m).map (w ::·):=by
       show((List.range' f$ e - f).take$ i+1).flatMap _=_;rw[QaN,hw,Qcb];simp [F]
      have hFi:=hFl i;have hdl:(rB ((w / 3+1)*3) e m).length<=20736:=QaP (qY m _) (Ds e m he$ by omega)
      obtain⟨du,je,c6,Gk⟩:=gf (t:=aK 6) (body:=ma$ dM$ n+1) (ds:=(rB ((w / 3+1)*3) e m).map cz)
       (λj δ=>∃c6,δ=[.val$ .int f, .val$ .int e, .val$ .int (m+1:Nat), .bld$ (F i++((rB ((w / 3+1)*3) e m).take j).map (w ::·)).map cz, .val$ nI w, .val$ nI$ (w / 3+1)*3,c6]) (δ:=[.val$ .int f, .val$ .int e, .val$ .int (m+1:Nat), .bld$ (F i).map cz, .val$ nI w, .val$ nI$ (w / 3+1)*3,a6]) ⟨a6,by simp⟩ (by
         rintro j d δ hd ⟨c6,rfl⟩;obtain⟨T,hT,rfl⟩:=NT.qF hd;have hTl:=Jo$ QaD hT;refine⟨[.val$ .int f, .val$ .int e, .val$ .int (m+1:Nat), .bld$ (F i++((rB ((w / 3+1)*3) e m).take$ j+1).map (w ::·)).map cz, .val$ nI w, .val$ nI$ (w / 3+1)*3, .val$ cz T],?_,⟨_,rfl⟩⟩
         generalize hL:(F i++((rB ((w / 3+1)*3) e m).take j).map (w ::·)).map cz=L
         have hLl:L.length<sizeLine:=by
          rw[<-hL,Qaa,Qau,Qaa,QaK];omega
         rw[show aK 6 (cz T) [.val$ .int f, .val$ .int e, .val$ .int (m+1:Nat), .bld L, .val$ nI w, .val$ nI$ (w / 3+1)*3,c6]= .ok [.val$ .int f, .val$ .int e, .val$ .int (m+1:Nat), .bld L, .val$ nI w, .val$ nI$ (w / 3+1)*3, .val$ cz T] from rfl,R.aX]
         unfold ma;rw[K_ (ak (bL rfl$ by simp;omega) rfl$ GQ$ by rw[Qaa];simp;omega) rfl hLl,<-hL,QaN,hT]
         simp [cz])
      refine⟨_,bA (cV (d:=nI$ (w / 3+1)*3) (ak (ak (a:=nI$ w / 3) (ak rfl rfl ?_) rfl rfl) rfl ?_)$ by simp)$ iG (gG$ ay (ao rfl$ ao rfl$ ao (ak rfl rfl ?_) rfl) ihc) je,?_⟩
      .exact xS (by omega) (by omega)
      .show R.aS (decide _) (R.ok$ D.int$ ((w / 3+1:Nat):Int)*3)=_;rw[cC _$ .inr ⟨by omega,by omega⟩]
       congr 2
      .show R.ok (D.int$ ((m+1:Nat):Int) - 1)=_;congr 2;omega
      .rw [Qaa,QaX] at Gk;refine⟨.val$ nI w, .val$ nI$ (w / 3+1)*3,c6,?_⟩;rw[Gk,hFs])
   refine bA (iG (DY rfl rfl (by omega)$ by omega) e1) ?_
   rw[Qaa,Qbz] at mW;have hFe:F (e - f)=rB f e (m+1):=by
    show((List.range' f$ e - f).take$ e - f).flatMap _=_;rw[QaU$ by rw[Qbz];exact Qai _];rfl
   rw[hFe] at mW;subst mW;exact bZ rfl
def iZ(f:List Nat × List Nat):D:= .tup [cz f.1,cz f.2]
section
variable {c:Nat}{ins:Aac}{gs:List Gt}{os:Aad}
def F_(hg:gs.length<1000)(δ:av)(vW:δ[0]? =some (.val$ cJ ins gs os)):b8 (jG$ e2 cb (ai 0)$ eC$ .int 1) (mM 2$ dv (aK 0)$ dv (aK 1) mQ) (qu$ pG$ e2 cb (ai 1)$ eC$ .int 2) (bz$ af (bz ax)$ af (bz$ af (ai 0) ax) ax) [(Str.ofString "place"),(Str.ofString "gate")] [] δ=
 .ok (((gs.zipIdx.filter$ λx=>!x.1.2.2).map$ λx=>(([]:List Nat),[x.2])).map iZ):=by
 have hz:=Qam;have en:eR (gs.map fK)=gs.zipIdx.map λx=>D.tup [.int x.2,fK x.1]:=by
  unfold eR;rw[List.zipIdx_map,QaL];rfl
 refine bM (ds:=gs.zipIdx.map λx=>D.tup [.int x.2,fK x.1]) (by rw[<-en];exact Bm$ ak (by unfold ai;rw [vW]) rfl rfl) (by rw[Qaa,Qb0];omega) ?_
 rw[QaL];refine NT.jE (λx:Gt × Nat=>!x.1.2.2) (λx:Gt × Nat=>D.tup [.int x.2,fK x.1]) _ λx hx=>⟨[.val$ .int x.2, .val$ fK x.1],rfl,?_,λ_=>?_⟩
 .unfold qu pG;rfl
 .exact bL (ao rfl$ ao (bL rfl$ by simp;omega) rfl) (by simp;omega)
def Et(hc:ins.length=c)(QL:c<=4)(hg:gs.length<1000):e_ [cJ ins gs os]= .ok (.lst$ (Cn c gs).map iZ):=by
 have hz:=Qam
 let G:List (List Nat × List Nat):=(gs.zipIdx.filter$ λx=>!x.1.2.2).map$ λx=>(([]:List Nat),[x.2])
 have hGl:G.length<1000:=by
  rw[Qaa];have:=List.length_filter_le (λx:Gt × Nat=>!x.1.2.2) gs.zipIdx
  rw[Qb0] at this;omega
 let F:Nat->List (List Nat × List Nat):=λi=>G++((List.range' 1 c).take i).flatMap λm=>(rB 0 (3*c) m).map λB=>(B,([]:List Nat))
 refine cM (bA (DC (F_ hg _ rfl)$ by simp [cP,fu]) (bA (cV (d:=nI c) (ay rfl$ by rw[BJ,Qaa,hc];rfl)$ by simp [cP,fu]) ?_))
 have hFl:∀i,(F i).length<=1000+4*20736:=λi=>by
  rw[Qau,QbJ];have:(((List.range' 1 c).take i).map λm=>((rB 0 (3*c) m).map λB=>(B,([]:List Nat))).length).sum<=4*20736:=by
   refine QaP (uJ λx hx=>?_) (by rw[Qaa,QaK,Qbz];exact Nat.mul_le_mul_right _$ by omega)
   obtain⟨a,ha,rfl⟩:=QaZ.mp hx;obtain⟨j,hj,ej⟩:=QbY.mp$ Qbs ha;rw[Qaa];exact QaP (qY a _) (Ds _ a (by omega)$ by omega)
  omega
 obtain⟨c_,e1,a3,mW⟩:=gf (t:=aK 3) (body:=gb) (ds:=(List.range' 1$ c+1 - 1).map nI)
  (λi δ=>∃a3,δ=[.val$ cJ ins gs os, .bld$ (F i).map iZ, .val$ nI c,a3]) (δ:=[.val$ cJ ins gs os, .bld$ G.map iZ, .val$ nI c, .un]) ⟨.un,by simp [F]⟩ (by
    rintro i d δ hd ⟨a3,rfl⟩;obtain⟨m,hm,rfl⟩:=NT.qF hd;obtain⟨j,hj,ej⟩:=QbY.mp$ QaD hm;have hFs:F (i+1)=F i++(rB 0 (3*c) m).map λB=>(B,([]:List Nat)):=by
     show G++((List.range' 1 c).take$ i+1).flatMap _=_;rw[Nat.add_sub_cancel] at hm;rw[QaN,hm,Qcb,<-QaR];simp [F]
    have hb:(rB 0 (3*c) m).length<=20736:=QaP (qY m _) (Ds _ m (by omega)$ by omega)
    refine⟨[.val$ cJ ins gs os, .bld$ (F$ i+1).map iZ, .val$ nI c, .val$ nI m],?_,⟨_,rfl⟩⟩;rw[show aK 3 (nI m) [.val$ cJ ins gs os, .bld$ (F i).map iZ, .val$ nI c,a3]= .ok [.val$ cJ ins gs os, .bld$ (F i).map iZ, .val$ nI c, .val$ nI m] from rfl,R.aX]
    unfold gb;have hFi:=hFl i;have key:b8 (di$ aJ (dM 7)$ af (eC$ .int 0)$ af (e2 eU (ai 2)$ eC$ .int 3)$ af (ai 3) ax) (aK 0) f9 (bz$ af (ai 0)$ af (bz ax) ax) [(Str.ofString "bad")] [] [.val$ cJ ins gs os, .bld$ (F i).map iZ, .val$ nI c, .val$ nI m]= .ok (((rB 0 (3*c) m).map λB=>(B,([]:List Nat))).map iZ):=by
     refine bM (gG$ ay (ds:=[.int (0:Nat), .int (3*c:Nat), .int m]) (ao rfl$ ao (ak rfl rfl ?_) rfl)$ sN (by omega) 6 m 0 (by omega) (by omega) (by omega)$ by omega) (by rw[Qaa];omega) ?_
     .show R.aS (decide _) (R.ok$ D.int$ (c:Int)*3)=_;rw[cC _$ .inr ⟨by omega,by omega⟩]
      congr 2;omega
     .rw [QaL];exact NT.bE cz _ λB hB=>⟨[.val$ cz B],rfl,rfl,bL (ao rfl$ ao rfl rfl)$ by simp;omega⟩
    unfold KW;rw[key,R.aX];rw[show sP [.val$ cJ ins gs os, .bld$ (F i).map iZ, .val$ nI c, .val$ nI m] 1= .ok ((F i).map iZ) from rfl,R.aX,cC _ (by rw[Qaa,Qaa,Qaa];omega),hFs,show((F i++(rB 0 (3*c) m).map λB=>(B,([]:List Nat))).map iZ)=(F i).map iZ++((rB 0 (3*c) m).map λB=>(B,([]:List Nat))).map iZ from QaH]
    rfl)
 refine bA (iG (DY (a:=1) (b:=c+1) rfl (ak rfl rfl rfl) (by omega)$ by omega) e1) ?_
 have hFe:F (c+1 - 1)=Cn c gs:=by
  show G++((List.range' 1 c).take$ c+1 - 1).flatMap _=_;rw[QaU$ by rw[Qbz];omega];rfl
 rw[Qaa,Qbz,hFe] at mW;subst mW;exact bZ rfl
end
noncomputable def nZ(ps:List Nat):List Int:=ps.map λ(n:Nat)=>(n:Int)
def Sj(ps:List Nat):(nZ ps).map D.int=ps.map nI:=by unfold nZ;rw [QaL];rfl
def G8(ps:List Nat)(i:Nat):(nZ ps).contains (i:Int)=ps.contains i:=by
 rw[Qbq];unfold nZ;simp;exact⟨λ⟨a,ha,e⟩=>(by rw[<-Int.ofNat_inj.mp e];exact ha),λh=>⟨i,h,rfl⟩⟩
theorem yZ:∀{ins:Aac} {bits:List Bool},(∀x∈ins,x.2=3)->ins.length=bits.length->oZ ins bits=Oq bits
 | [],[],_,_=>rfl
 | [],_ ::_,_,h=>by simp at h
 | _ ::_,[],_,h=>by simp at h
 | x ::ins,b ::bits,h3,h=>by
   rw[vD,yZ (λy hy=>h3 y$ Qag _ hy) (by simpa using h),h3 x Qat]
   rfl
section
variable {c:Nat}{ins:Aac}{gs:List Gt}{os:Aad}{S:a_}
def uR(hc:ins.length=c)(h3:∀x∈ins,x.2=3){p:Nat}(hp:p<2 ^ c)(f:List Nat × List Nat):jV p (Wd c ins gs (nZ f.2)$ nZ f.1)=nL c gs f p:=by
 rw[Lo (by rw[ng,hc]),HK hp]
 unfold nJ nL;rw[yZ h3$ by rw[ie hp,hc]]
 have e1:(λi:Nat=>(nZ f.2).contains (i:Int))=λi=>f.2.contains i:=funext λi=>G8 _ _
 have e2:(λi:Nat=>(nZ f.1).contains (i:Int))=λi=>f.1.contains i:=funext λi=>G8 _ _
 rw[e1,e2]
def qT{p:Nat}:nL c gs ([],[]) p=rT c gs p:=by
 unfold nL rT;rw[Ap _ _ λ_ _=>rfl]
 rfl
def sk:Option (List Nat × List Nat × Nat)->D
 | none=> .tup [.str$ Str.ofString "keeps"]
 | some (B,T,p)=> .tup [.str$ Str.ofString "loses",cz B,cz T,nI p]
def DT(hS:Flat S){x:SO}(hx:yj (S.length+1) x=true):D1 (S++[x]):=λo ho=>by
 rw[show(S++[x]).length=S.length+1 by simp]
 rcases Qbp.mp ho with q | q
 .exact hS o q _
 .rw [Qa1.mp q];exact hx
def yJ{N:Nat}{f:M}:A1 (mI N f) (.int 0)= .ok (.bl$ !(decide$ jQ N f=0)):=by
 show R.ok (D.bl$ !((jQ N f:Int)==0))=_;congr 3;by_cases q:jQ N f=0
 .rw [q];rfl
 .rw [Qax q];exact Qa9.mpr (by omega)
def ox{f:M}{N:Nat}:jQ N f=0↔(List.range N).find? f=none:=by
 rw[z0,List.find?_eq_none];exact⟨λh i hi=>by rw[h i$ QaI.mp hi];decide,λh i hi=>by have:=h i$ QaI.mpr hi;cases hf:f i with | false=>rfl | true=>exact absurd hf this⟩
abbrev BS(S:a_)(c:Nat)(ins:Aac)(gs:List Gt)(os:Aad):a_:=S++[.ins 0$ fZ c$ cJ ins gs os]
def xx:(BS S c ins gs os)[S.length]? =some (.ins 0$ fZ c$ cJ ins gs os):=aR _ _
def zC{f:M}{p:Nat}{δ:DE}{g:FX}{i:Nat}(hS:Flat S)(J0:c<=10)(hv:δ[i]? =some (some$ .loc S.length))(hg:∀{Q:V3->a_->Prop},Q (.d$ mI (2 ^ c) f) (BS S c ins gs os)->W3 (g δ$ BS S c ins gs os) Q)(hp:(List.range$ 2 ^ c).find? f=some p){Q:V3->a_->Prop}(h:Q (.d$ nI p) (BS S c ins gs os)) :
 W3 (SD (u6 0 (Str.ofString "inputs_in") cQ (fw i)$ bx g eO) (xP$ eC$ .int 0) δ$ BS S c ins gs os) Q:=by
 refine Wk<|CG<|w_var hv ⟨_,rfl,xx,Qe _ _ (by decide+kernel) (by decide+kernel) (by decide+kernel) (by decide+kernel),?_⟩
 refine aZ<|hg<|dH<|ye J0 (DT hS rfl) xx<|dt rfl ⟨_,_,nI p,rfl,rfl,rH ?_,h⟩
 rw[<-List.head?_filter] at hp;obtain⟨r,hr⟩:∃r,(List.range$ 2 ^ c).filter f=p ::r:=by
  cases q:(List.range$ 2 ^ c).filter f with
  | nil=>rw [q] at hp;cases hp
  | cons a r=>rw [q] at hp;cases hp;exact⟨r,rfl⟩
 rw[hr,l9 (by omega)$ by simp]
 rfl
abbrev kE(S:a_)(ins:Aac)(gs:List Gt)(os:Aad)(plain:D)(a3 a4 a5:Option V3):DE:=[some$ .d$ cJ ins gs os,some$ .loc S.length,some$ .d plain,a3,a4,a5]
def mU(c:Nat)(gs:List Gt)(os:Aad)(f:List Nat × List Nat):Option (List Nat × List Nat × Nat):=((List.range$ 2 ^ c).find?$ mE c gs os f).map λp=>(f.1,f.2,p)
def Cr{a3:Option V3}{f:List Nat × List Nat}(NO:qI ins gs os)(hc:ins.length=c)(J0:c<=10)(h3:∀x∈ins,x.2=3)(ho:∀x∈os,x.2.length=3)(hS:Flat S) :
 W3 (xA (kE S ins gs os (.lst$ cA (2 ^ c) os$ Wd c ins gs (nZ [])$ nZ []) a3 (some$ .d$ cz f.1)$ some$ .d$ cz f.2)$ BS S c ins gs os) λo S1=>S1=BS S c ins gs os/\
  (match (mU c gs os f).map λr=>V3.d (sk$ some r) with | some v=>o= .rt v | none=>∃du,o= .nx du/\∃b3 b4 b5,du=kE S ins gs os (.lst$ cA (2 ^ c) os$ Wd c ins gs (nZ [])$ nZ []) b3 b4 b5):=by
 have hz:=Qam;have em:(mI (2 ^ c) λp=>os.any λx=>lst (cE (jV p$ Wd c ins gs (nZ [])$ nZ []) x.2)$ cE (jV p$ Wd c ins gs (nZ f.2)$ nZ f.1) x.2)=mI (2 ^ c) (mE c gs os f):=qy λp hp=>by
  unfold mE;rw[uR hc h3 hp f,uR hc h3 hp ([],[]),qT]
 refine bt<|bY (by simp)<|ug<|aZ<|dt rfl<|aZ<|CG<|w_var rfl ⟨_,rfl,xx,Qe _ _ (by decide+kernel) (by decide+kernel) (by decide+kernel) (by decide+kernel),?_⟩
 refine aZ<|dt (by rw[Sj];rfl)<|aZ<|dt (by rw[Sj];rfl)<|dH<|z8 NO hc (DT hS rfl) xx<|dH ⟨[.lst$ cA (2 ^ c) os$ Wd c ins gs (nZ [])$ nZ [], .lst$ cA (2 ^ c) os$ Wd c ins gs (nZ f.2)$ nZ f.1],_,rfl,Ma ho,_,rfl,?_⟩
 rw[em];generalize cA (2 ^ c) os (Wd c ins gs (nZ [])$ nZ [])=pl;refine p9<|pO (eg rfl rfl yJ) ?_
 unfold mU;cases hh:(List.range$ 2 ^ c).find? (mE c gs os f) with
 | none=>
   rw[Qan$ ox.mpr hh,QaA$ by decide]
   exact f_ ⟨rfl,_,rfl,_,_,_,rfl⟩
 | some p=>
   have wa:¬jQ (2 ^ c) (mE c gs os f)=0:=λq=>by rw[ox.mp q] at hh;cases hh
   rw[Qax wa,QaG$ by decide]
   refine g9<|JE<|aZ<|dt rfl<|aZ<|dt rfl<|aZ<|dt rfl<|aZ<|zC hS J0 rfl (λh=>dt rfl h) hh<|dH ⟨by simp;omega,rfl,rfl⟩
def Ae(NO:qI ins gs os)(hc:ins.length=c)(QL:c<=4)(h3:∀x∈ins,x.2=3)(ho:∀x∈os,x.2.length=3)(hS:Flat S){Q:V3->a_->Prop}(h:Q (.d$ sk$ eY c gs os) S) :
 W3 (Mq iS [.d$ cJ ins gs os] S) Q:=by
 have hz:=Qam;refine ZA hS.clo$ DX rfl ?_;simp only[df,q_,List.map,List.length,List.replicate,QaM,QaY,Nat.reduceAdd,Nat.reduceSub];have hw:((ins.all λx=>decide$ x.2=3) && os.all λx=>decide$ x.2.length=3)=true:=by
  rw[QaW,Qa6,Qa6];exact⟨λx hx=>Qan$ h3 x hx,λx hx=>Qan$ ho x hx⟩
 refine bt<|p9<|Nv<|pO (b:=false) ?_ ?_
 .unfold qu pG;rw[show aJ fA (af (ai 0)$ af (eC$ .int 3) ax) (down [some$ .d$ cJ ins gs os,none,none,none,none,none])= .ok (.bl true) from(ay rfl$ xJ 3 (by have:=NO.hi;omega) NO.ho).trans (by rw[hw])]
  rfl
 refine f_ ⟨_,rfl,?_⟩;refine Se ?_;refine bt<|bY (by simp)<|Ow<|aZ<|dt rfl<|dH<|Lj hc (by omega) (DT hS rfl) ⟨rfl,_,rfl,?_⟩
 refine bt<|bY (by simp)<|CG<|w_var rfl ⟨_,rfl,xx,Qe _ _ (by decide+kernel) (by decide+kernel) (by decide+kernel) (by decide+kernel),?_⟩
 refine aZ<|dt (d:= .tup$ (nZ []).map .int) rfl<|aZ<|dt (d:= .tup$ (nZ []).map .int) rfl<|dH<|z8 NO hc (DT hS rfl) xx ⟨_,rfl,?_⟩
 have em:(mI (2 ^ c) λp=>os.any λx=>z_$ cE (jV p$ Wd c ins gs (nZ [])$ nZ []) x.2)=mI (2 ^ c) (wy c gs os):=qy λp hp=>by
  unfold wy;rw[uR hc h3 hp ([],[]),qT]
 refine bt<|bY (by simp)<|dt ((ay rfl$ FN ho).trans$ by rw[em]) ⟨_,rfl,?_⟩
 cases hu:(List.range$ 2 ^ c).find? (wy c gs os) with
 | some p=>
   have wa:¬jQ (2 ^ c) (wy c gs os)=0:=λq=>by rw[ox.mp q] at hu;cases hu
   refine Qb<|p9<|pO (b:=true) ((eg rfl rfl yJ).trans$ by rw[Qax wa];rfl) ?_
   have hk:eY c gs os=some ([],[],p):=by unfold eY;rw [hu]
   rw[hk] at h;refine g9<|JE<|aZ<|dt rfl<|aZ<|dt rfl<|aZ<|dt rfl<|aZ<|zC hS (by omega) rfl (λh=>dt rfl h) hu<|dH ⟨by simp;omega,_,rfl,_,rfl,rfl,⟨_,rfl⟩,_,rfl,h⟩
 | none=>
   refine bt<|p9<|pO (b:=false) ((eg rfl rfl yJ).trans$ by rw[Qan$ ox.mpr hu];rfl) ?_
   refine f_ ⟨_,rfl,?_⟩;refine Bk<|g_<|jT (gG$ ay rfl$ Et hc QL NO.hg) ?_
   rw[QaL];refine(jA (V3.d ∘ iZ) (λf=>(mU c gs os f).map λr=>V3.d$ sk$ some r) (λδ=>∃a3 a4 a5,δ=kE S ins gs os (.lst$ cA (2 ^ c) os$ Wd c ins gs (nZ [])$ nZ []) a3 a4 a5)
    ⟨_,_,_,rfl⟩ ?_).mono λo S1 ⟨e1,h1⟩=>?_
   .rintro f hf δ ⟨a3,a4,a5,rfl⟩;refine⟨kE S ins gs os (.lst$ cA (2 ^ c) os$ Wd c ins gs (nZ [])$ nZ []) a3 (some$ .d$ cz f.1)$ some$ .d$ cz f.2,rfl,?_⟩;exact Cr NO hc (by omega) h3 ho hS
   .subst e1;have hk:eY c gs os=(Cn c gs).findSome? (mU c gs os):=by unfold eY;rw [hu];rfl
    rw[hk] at h;have hfs:(Cn c gs).findSome? (λf=>(mU c gs os f).map λr=>V3.d$ sk$ some r)=((Cn c gs).findSome?$ mU c gs os).map λr=>V3.d (sk$ some r):=by
     rw[List.map_findSome?];rfl
    rw[hfs] at h1;cases htt:(Cn c gs).findSome? (mU c gs os) with
    | none=>
      rw[htt] at h1 h;obtain⟨du,rfl,b3,b4,b5,rfl⟩:=h1;exact g9<|dt rfl ⟨_,rfl,by unfold jf;rfl,⟨_,rfl⟩,_,by unfold res;rfl,h⟩
    | some d=>
      rw[htt] at h1 h;subst h1;exact⟨_,rfl,by unfold jf;rfl,⟨_,rfl⟩,_,by unfold res;rfl,h⟩
def HU(hi:ins.length<1000)(ho:os.length<1000)(hw:((ins.all λx=>decide$ x.2=3) && os.all λx=>decide$ x.2.length=3)=false):iS [.d$ cJ ins gs os] S= .ex 10 S:=by
 have hz:=Qam;refine x_K rfl ?_;simp only[df,q_,List.map,List.length,List.replicate,QaM,QaY,Nat.reduceAdd,Nat.reduceSub];refine Pf<|Vo<|Nv<|pO (b:=true) ?_ ?_
 .unfold qu pG;rw[show aJ fA (af (ai 0)$ af (eC$ .int 3) ax) (down [some$ .d$ cJ ins gs os,none,none,none,none,none])= .ok (.bl false) from(ay rfl$ xJ 3 hi ho).trans (by rw[hw])]
  rfl
 exact x_raise<|yg<|aZ<|dt rfl<|dH ⟨by simp;omega,rfl⟩
def Cd(hi:ins.length<1000)(ho:os.length<1000)(hw:((ins.all λx=>decide$ x.2=3) && os.all λx=>decide$ x.2.length=3)=false)(hS:D1 S){Q:V3->a_->Prop}(h:Q (.d$ .bl true) S):W3 (nC [.d$ cJ ins gs os] S) Q:=by
 refine mD hS$ DX rfl ?_;simp only[df,fR,List.map,List.length,List.replicate,QaM,QaY,Nat.reduceAdd,Nat.reduceSub];have isE:∀{tb:List (Nat × Bool)} {b:Bool} {δ:DE} {Q:V3->a_->Prop},δ[1]? =some (some$ .loc S.length)->Nu tb 10=some b->Q (.d$ .bl b) (S++[.exc 10])->W3 (Er (fw 1) (Nu tb) δ$ S++[.exc 10]) Q:=λh1 h2 h3=>SQ<|w_var h1 ⟨S.length,10,_,rfl,NT.aR S _,h2,h3⟩
 refine bt<|bY (by simp)<|dt rfl ⟨_,rfl,?_⟩
 simp;refine bt<|Qa (Ob<|x_call<|yg<|aZ<|dt rfl<|dH$ HU hi ho hw) rfl ?_
 simp only[df,fR,List.map,List.length,List.replicate,QaM,QaY,Nat.reduceAdd,Nat.reduceSub];refine bY (by simp)<|w_var rfl ⟨_,rfl,_,rfl,?_⟩
 refine bt<|p9<|Dy<|Th<|w_var rfl ⟨S.length,10,false,rfl,NT.aR S _,rfl,_,false,rfl,rfl,?_⟩
 refine f_ ⟨_,rfl,?_⟩;exact g9<|w_and<|isE rfl rfl ⟨rfl,w_and<|isE rfl rfl ⟨rfl,P6<|isE rfl rfl ⟨_,rfl,_,rfl,rfl,⟨_,rfl⟩,_,rfl,h⟩⟩⟩
end
end K32
end
section
set_option maxHeartbeats 4000000
namespace K32
open PySem PySem.Spec PyProof.Rows L2 L3 MT JT
noncomputable def stir(cell k:Int):Int:=if 10 ^ 18<=cell then(cell - 10 ^ 18) / 2 ^ (28*k).toNat % 2 ^ 28
 else((cell+1013*k+1)*16807 % 2147483647)*((cell+1013*k+1)*16807 % 2147483647) % 2147483629*39373 % 2147483587 / 8
def Li(cell k:Int)(hk:0<=k):bC [.int cell, .int k]= .ok (.int$ stir cell k):=by
 have p1:∀δ,e2 Fi (eC$ .int 10) (eC$ .int 18) δ= .ok (.int$ 10 ^ 18):=λδ=>rfl
 have p2:∀δ,e2 Fi (eC$ .int 2) (eC$ .int 28) δ= .ok (.int$ 2 ^ 28):=λδ=>rfl
 have ge:∀a b:Int,WL (.int a) (.int b)= .ok (.bl$ decide$ a>=b):=λa b=>rfl
 have mulc:∀(a b:Int),(-(2 ^ 64)<b/\b<2 ^ 64)->eU (.int a) (.int b)= .ok (.int$ a*b):=λa b h=>by
  show R.aS (decide _) (R.ok$ D.int$ a*b)=_;exact cC _$ .inr h
 have mulc':∀(a b:Int),(-(2 ^ 64)<a/\a<2 ^ 64)->eU (.int a) (.int b)= .ok (.int$ a*b):=λa b h=>by
  show R.aS (decide _) (R.ok$ D.int$ a*b)=_;exact cC _$ .inl h
 unfold bC vO stir;by_cases h:(10:Int) ^ 18<=cell
 .rw [QaG h];refine cM (NT.jl$ qC (eg (a:= .int cell) (b:= .int$ 10 ^ 18) rfl (p1 _)$ (ge _ _).trans$ by rw[Qan h])$ bZ$ ak (a:= .int$ (cell - 10 ^ 18) / 2 ^ (28*k).toNat) (b:= .int$ 2 ^ 28) (ak (a:= .int$ cell - 10 ^ 18) (b:= .int$ 28*k) (ak (a:= .int cell) (b:= .int$ 10 ^ 18) rfl (p1 _) rfl) (ak (a:= .int 28) (b:= .int k) rfl rfl$ mulc' _ _ ⟨by omega,by omega⟩) ?_) (p2 _)$ vN$ by omega)
  show R.aS (decide$ (0:Int)<=28*k) (R.ok$ D.int$ (cell - 10 ^ 18) / 2 ^ (28*k).toNat)=_;exact cC _ (by omega)
 .rw [QaA h];refine cM (bA (jI (eg (a:= .int cell) (b:= .int$ 10 ^ 18) rfl (p1 _)$ (ge _ _).trans$ by rw[Qax h]) rfl)$ bA (cV (d:= .int$ (cell+1013*k+1)*16807 % 2147483647) (ak (a:= .int$ (cell+1013*k+1)*16807) (b:= .int 2147483647) (ak (a:= .int$ cell+1013*k+1) (b:= .int 16807) (ak (a:= .int$ cell+1013*k) (b:= .int 1) (ak (a:= .int cell) (b:= .int$ 1013*k) rfl (ak (a:= .int 1013) (b:= .int k) rfl rfl$ mulc' _ _ ⟨by omega,by omega⟩) rfl) rfl rfl) rfl$ mulc _ _ ⟨by omega,by omega⟩) rfl$ vN$ by omega)$ by simp [cP,l4]) ?_)
  have b1:0<=(cell+1013*k+1)*16807 % 2147483647:=Int.emod_nonneg _ (by omega)
  have UW:(cell+1013*k+1)*16807 % 2147483647<2147483647:=Int.emod_lt_of_pos _ (by omega)
  generalize (cell+1013*k+1)*16807 % 2147483647=x at b1 UW;refine bA (cV (d:= .int$ x*x % 2147483629) (ak (a:= .int$ x*x) (b:= .int 2147483629) (ak (a:= .int x) (b:= .int x) rfl rfl$ mulc _ _ ⟨by omega,by omega⟩) rfl$ vN$ by omega)$ by simp [cP,l4]) (bZ ?_)
  exact ak (a:= .int$ x*x % 2147483629*39373 % 2147483587) (b:= .int 8) (ak (a:= .int$ x*x % 2147483629*39373) (b:= .int 2147483587) (ak (a:= .int$ x*x % 2147483629) (b:= .int 39373) rfl rfl$ mulc _ _ ⟨by omega,by omega⟩) rfl$ vN$ by omega) rfl (xS (by omega)$ by omega)
def Ls(cell k:Int):0<=stir cell k:=by
 unfold stir;split <;> omega
def stN(cell:Int)(k:Nat):Nat:=(stir cell k).toNat
def jy(cell:Int)(k:Nat):bC [.int cell,nI k]= .ok (nI$ stN cell k):=by
 show bC [.int cell, .int k]=_;rw[Li cell k$ by omega]
 unfold nI stN;rw[Int.toNat_of_nonneg$ Ls _ _]
end K32
end
section
set_option maxHeartbeats 1000000
namespace K32
open PySem PySem.Spec PyProof.Rows L2 L3 MT JT
def Ea(ns:List Int)(k:Nat):eA [.lst$ ns.map .int,nI k]= .ok (.int$ ns.getD k 0):=by
 unfold eA o7;by_cases h:k<ns.length
 .refine cM (NT.jl$ qC (eg (a:=nI k) (b:=nI ns.length) rfl (ay (ds:=[.lst$ ns.map .int]) rfl$ by rw[BJ,Qaa];rfl)$ by rw[TM,Qan h])$ bZ$ ak (a:= .lst$ ns.map .int) (b:=nI k) rfl rfl$ NT.gA ?_)
  rw[Qaf,Qak,Qad h];rfl
 .refine cM (bA (jI (eg (a:=nI k) (b:=nI ns.length) rfl (ay (ds:=[.lst$ ns.map .int]) rfl$ by rw[BJ,Qaa];rfl)$ by rw[TM,Qax h]) rfl)$ bZ ?_)
  rw[Qak,QcB$ by omega]
  rfl
def zL(ws:List Nat):iR [gm ws]= .ok (.lst$ (List.replicate 3 ((4,ws,false):Gt)).map fK):=by
 have hz:=Qam;refine cM$ bZ$ bX ?_;unfold Qf;rw[show dy (af (bz$ af (eC$ .str$ Str.ofString "vote")$ af (aJ h_$ af (ai 0) ax)$ af (eC$ .bl false) ax) ax) (cP nq [gm ws])= .ok [fK (4,ws,false)] from jm (ao (bL (ao rfl$ ao (ay rfl rfl)$ ao rfl rfl)$ by simp;omega) rfl) (by simp;omega),R.aX]
 show R.aS (decide _) (R.ok _)=_;rfl
def UI(n:Nat)(th:Aae):Prop:=∀T∈th,T.length=3/\∀w∈T,w<n
def Ar{T:List Nat}{j:Nat}(h:j<T.length):cb (gm T) (nI j)= .ok (nI$ T.getD j 0):=by
 refine NT.yq ?_;rw[Qaf,Qad h];rw[Qak,Qad h];rfl
def getD_in{T:List Nat}{j:Nat}(h:j<T.length):T.getD j 0∈T:=by
 rw[Qak,Qad h];exact Qbe h
def zx{gU:Aae}{n:Nat}(hW:UI n gU)(hl:gU.length<=3){it:av->R (List D)}{f:FD}{kp:List Nat}{δ:av}{j:Nat}(hj:j<3)(hit:it δ= .ok (gU.map gm))
 (hf:∀T∈gU,∃c_,aK 0 (gm T) (qb [Str.ofString "own"] kp δ)= .ok c_/\f c_= .ok (nI$ T.getD j 0)) :
 aJ h_ (af (eNew$ b8 it (aK 0) f9 f [Str.ofString "own"] kp) ax) δ= .ok (gm$ gU.map λT=>T.getD j 0):=by
 have hz:=Qam;refine ay (ds:=[.lst$ gU.map λT=>nI$ T.getD j 0]) (ao (bX$ bM hit (by rw[Qaa];omega) ?_) rfl) ?_
 .exact NT.bE gm _ λT hT=>by
   obtain⟨c_,h1,h2⟩:=hf T hT;exact⟨c_,h1,rfl,h2⟩
 .show R.ok (D.tup _)=_;unfold gm;rw[QaL];rfl
def EK{S:a_}{k:Nat}{cell:Int}{th:Aae}{n:Nat}(hk:S[k]? =some (.lst$ th.map gm))(wa:0<th.length)(hW:UI n th)(hS:D1 S){Q:V3->a_->Prop}(h:∀G:List Gt,G.length=3->(∀g∈G,oK n g)->Q (.d$ .lst$ G.map fK) S) :
 W3 (kj [.d$ .int cell, .loc k] S) Q:=by
 have hz:=Qam;refine mD hS$ DX rfl ?_;simp only[df,jk,List.map,List.length,List.replicate,QaM,QaY,Nat.reduceAdd,Nat.reduceSub];obtain⟨r,hr⟩:∃r,stN cell 0=r:=⟨_,rfl⟩;refine bt<|bY (by simp)<|dt ((ay rfl$ jy cell 0).trans$ by rw[hr]) ⟨_,rfl,?_⟩
 have hkd:=N3 r;have hal:=G4$ kdN r;refine bt<|bY (by simp)<|dt (Tu rfl) ⟨_,rfl,?_⟩
 generalize kdN r=kd at hkd hal
 let pick:Nat->List Nat:=λj=>th.getD (stN cell (1+j) % th.length) []
 have hpick:∀j,pick j∈th:=λj=>by
  have hm:stN cell (1+j) % th.length<th.length:=QbZ _ wa;show th.getD _ []∈th;rw[Qak,Qad hm];exact Qbe hm
 let gU:Aae:=(List.range$ ar kd).map pick
 have hsl:gU.length=ar kd:=by show((List.range$ ar kd).map pick).length=_;rw [Qaa,Qap]
 have hsW:UI n gU:=λT hT=>by
  obtain⟨j,_,rfl⟩:=QaZ.mp hT;exact hW _$ hpick j
 refine bt<|bY (by simp)<|oA (λj ds S2=>S2=S/\ds=((List.range j).map pick).map gm)<|jT (gC (Sz hkd rfl)$ by omega) ⟨by rw[Qaa,Qaa,Qap];omega,⟨rfl,rfl⟩,?_,?_⟩
 .rintro j v ds S2 hv ⟨rfl,rfl⟩;obtain⟨j',Eh,rfl⟩:=NT.ia hv;obtain⟨hjl,ej⟩:=Qae.mp Eh;rw[Qbd] at ej;subst ej;refine⟨[some$ .d$ nI j,some$ .d$ .int cell,some$ .loc k],rfl,D_ ?_⟩;have h2:(eG S2 [some$ .d$ nI j,some$ .d$ .int cell,some$ .loc k])[2]? =some (.val$ .lst$ th.map gm):=by
   show some (match res S2 (.loc k) with | some d=>Sl.val d | none=> .un)=_
   unfold res;rw[hk]
  have hm:stN cell (1+j) % th.length<th.length:=QbZ _ wa;refine MX (d:=gm$ pick j) (ak (by unfold ai;rw [h2]) (ak (ay (ao rfl$ ao (ak rfl rfl$ fE 1 j) rfl)$ jy cell$ 1+j) (ay (ao (by unfold ai;rw [h2]) rfl) (by rw[kr,Qaa])) (gd wa)) (NT.gA ?_)) (by
   generalize pick j=l
   induction l with
   | nil=>rfl
   | cons a l ih=>exact ih) ⟨_,rfl,rfl,?_⟩
  .rw [Qaf,Qad hm];show _=some (gm$ th.getD (stN cell (1+j) % th.length) []);rw[Qak,Qad hm];rfl
  .rw [List.range_succ,QaH,QaH];rfl
 rintro ds S2 ⟨e1,rfl⟩;subst S2;rw[Qaa,Qaa,Qap];refine⟨_,rfl,?_⟩
 let sb:Bool:=decide$ r / 5 % 7=0
 let gt:Nat->Gt:=λj=>(kd,gU.map (λT=>T.getD j 0),sb)
 have hgt:∀j,j<3->oK n (gt j):=λj hj=>by
  refine⟨hkd,by show(gU.map _).length=_;rw [Qaa,hsl],λw hw=>?_⟩
  obtain⟨T,hT,rfl⟩:=QaZ.mp$ show w∈gU.map _ from hw
  obtain⟨t1,t2⟩:=hsW T hT;exact t2 _ (getD_in$ by omega)
 have esb:∀δ:av,ai 1 δ= .ok (nI r)->e2 qv (e2 fI (e2 lR (ai 1)$ eC$ .int 5)$ eC$ .int 7) (eC$ .int 0) δ= .ok (.bl sb):=λδ h1=>ak (ak (b:=nI 7) (ak (b:=nI 5) h1 rfl$ CZ (by omega)$ by omega) rfl$ gd$ by omega) rfl$ FY _ _
 refine bt<|bY (by simp)<|nc (ds:=((List.range 3).map gt).map fK) (bM (gC (n:=3) rfl$ by omega) (by simp;omega) ?_) ⟨_,rfl,?_⟩
 .rw [show((List.range 3).map gt).map fK=(List.range 3).map λj=>fK (gt j) from QaL]
  refine NT.bE nI _ λj hj=>⟨[.val$ nI j, .val$ nI r, .val$ .str$ kS kd, .val$ .lst$ gU.map gm],rfl,rfl,?_⟩
  have hj:=QaI.mp hj;refine bL (ao rfl$ ao (zx hsW (by omega) hj (gG rfl) λT hT=>⟨[.val$ gm T, .val$ nI j],rfl,ak rfl rfl$ Ar$ by rw[(hsW T hT).1];exact hj⟩) (ao (esb _ rfl) rfl)) (by simp;omega)
 simp only[List.set];generalize hG:(List.range 3).map gt=G0;have Xa:G0.length=3:=by rw[<-hG];simp
 have hGok:∀g∈G0,oK n g:=λg hg=>by
  rw[<-hG] at hg;obtain⟨j,hj,rfl⟩:=QaZ.mp hg;exact hgt j$ QaI.mp hj
 have XR:G0[2]? =some (gt 2):=by rw[<-hG];rfl
 have fin:∀G:List Gt,G.length=3->(∀g∈G,oK n g)->W3 (AA 5 (i7$ xP$ ai 5) [some$ .d$ .int cell,some$ .loc k,some$ .d$ nI r,some$ .d$ .str$ kS kd,some$ .d$ .lst$ gU.map gm,some$ .loc S.length]$ S++[.lst$ G.map fK]) λo S1=>∃v,o= .rt v/\jf S.length v=true/\(∃T,S1=S++T)/\∃d,res S1 v=some d/\Q (.d d) S:=λG g1 g2=>by
  refine HQ rfl (aR _ _) ?_;rw[cZ];exact g9<|dt rfl ⟨_,rfl,rfl,⟨_,rfl⟩,_,rfl,h G g1 g2⟩
 refine bt<|p9<|pO (eg (ak (b:=nI 12) (ak (b:=nI 35) rfl rfl$ CZ (by omega)$ by omega) rfl$ gd$ by omega) rfl$ FY _ _) ?_
 by_cases hc:r / 35 % 12=0
 .rw [Qan hc,QaG rfl];have h5:(eG (S++[.lst$ G0.map fK]) [some$ .d$ .int cell,some$ .loc k,some$ .d$ nI r,some$ .d$ .str$ kS kd,some$ .d$ .lst$ gU.map gm,some$ .loc S.length])[5]? =some (.val$ .lst$ G0.map fK):=by
   show some (match res (S++[.lst$ G0.map fK]) (.loc S.length) with | some d=>Sl.val d | none=> .un)=_
   unfold res;rw[aR]
  refine ND<|MX (d:=fK (kd,gU.map (λT=>T.getD 0 0),sb)) (bL (ao rfl$ ao (zx hsW (by omega) (by omega:0<3) (gG rfl) λT hT=>⟨[.val$ gm T],rfl,ak rfl rfl$ Ar$ by rw[(hsW T hT).1];omega⟩) (ao (ak (ak (by unfold ai;rw [h5]) rfl (NT.gA$ by rw[Qaf,XR];rfl)) rfl rfl) rfl)) (by simp;omega)) ?_<|w_var rfl<|dt rfl ⟨_,S.length,2,G0.map fK,2,rfl,rfl,rfl,aR _ _,by rw[Qaa,Xa];rfl,?_⟩
  .show(true && (tH ((gU.map λT=>T.getD 0 0).map nI) && (true && true)))=true
   generalize (gU.map λT=>T.getD 0 0)=l
   have:tH (l.map nI)=true:=by
    induction l with
    | nil=>rfl
    | cons a l ih=>exact ih
   rw[this];rfl
  .refine⟨_,rfl,?_⟩;rw[cZ,<-List.map_set];refine fin (G0.set 2 (kd,gU.map (λT=>T.getD 0 0),sb)) (by rw[QaT,Xa]) λg hg=>?_
   rcases Qdb hg with z | z
   .exact hGok g z
   .rw [z];exact hgt 0 (by omega)
 .rw [Qax hc,QaA$ by decide]
  exact f_ ⟨_,rfl,fin G0 Xa hGok⟩
end K32
end
section
set_option maxHeartbeats 2000000
namespace K32
open PySem PySem.Spec PyProof.Rows L2 L3 MT JT
noncomputable def Bl:Aac:=[(Str.ofString "ain",3),(Str.ofString "bin",3)]
def jn(m:Nat):Aac:=Bl.take m
noncomputable def qo:List Str:=[Str.ofString "uout",Str.ofString "vout",Str.ofString "wout"]
def lr{m:Nat}(h:m<=2):(jn m).length=m:=by unfold jn;rw [QaK];exact QbD h
def pR{m:Nat}:∀x∈jn m,x.2=3:=λx hx=>by
 have:=Qbs hx;unfold Bl at this;simp at this;rcases this with rfl | rfl <;> rfl
def OB{δ:av}{k:Nat}(hk:k<3)(h:ai 7 δ= .ok (nI k)):e2 cW (e2 cb (eC$ .str$ Str.ofString "uvw")$ ai 7) (eC$ .str$ Str.ofString "out") δ= .ok (.str$ qo.getD k Str.empty):=by
 have hz:=Qam
 match k,hk with
 | 0,_=>exact ak (ak rfl h$ jM (by rw[hz];decide) rfl) rfl (rm$ by rw[hz];decide)
 | 1,_=>exact ak (ak rfl h$ jM (by rw[hz];decide) rfl) rfl (rm$ by rw[hz];decide)
 | 2,_=>exact ak (ak rfl h$ jM (by rw[hz];decide) rfl) rfl (rm$ by rw[hz];decide)
def Tx{δ:av}{k:Nat}(hk:k<2)(h:ai 0 δ= .ok (nI k)):bz (af (e2 cW (e2 cb (eC$ .str$ Str.ofString "abcdef")$ ai 0)$ eC$ .str$ Str.ofString "in")$ af (eC$ .int 3) ax) δ= .ok (MT.inD$ Bl.getD k (Str.empty,0)):=by
 have hz:=Qam
 match k,hk with
 | 0,_=>exact bL (ao (ak (ak rfl h$ jM (by rw[hz];decide) rfl) rfl$ rm$ by rw[hz];decide)$ ao rfl rfl) (by rw[hz];decide)
 | 1,_=>exact bL (ao (ak (ak rfl h$ jM (by rw[hz];decide) rfl) rfl$ rm$ by rw[hz];decide)$ ao rfl rfl) (by rw[hz];decide)
structure TI (m:Nat) (th:Aae) (G:List Gt):Prop where
 w:UI (3*m+G.length) th
 g:∀i x,G[i]? =some x->oK (3*m+i) x
def oK.mono{n n':Nat}{g:Gt}(h:oK n g)(hn:n<=n'):oK n' g:=⟨h.1,h.2.1,λw hw=>QaC (h.2.2 w hw) hn⟩
def TI.app{m:Nat}{th:Aae}{G C:List Gt}(t:TI m th G)(h:∀g∈C,oK (3*m+G.length) g):TI m th (G++C):=by
 refine⟨λT hT=>⟨(t.w T hT).1,λw hw=>by have:=(t.w T hT).2 w hw;rw [Qau];omega⟩,λi x hx=>?_⟩
 by_cases hi:i<G.length
 .rw [Qaz hi] at hx;exact t.g i x hx
 .rw [Qal$ by omega] at hx
  exact oK.mono (h x$ QaD hx) (by omega)
def TI.three{m:Nat}{th:Aae}{G:List Gt}(t:TI m th G){T:List Nat}(h3:T.length=3)(hw:∀w∈T,w<3*m+G.length):TI m th (G++List.replicate 3 ((4,T,false):Gt)):=t.app λg hg=>by
 rw[(List.mem_replicate.mp hg).2];exact⟨Qai _,h3,hw⟩
def TI.put{m:Nat}{th:Aae}{G:List Gt}(t:TI m th G){T:List Nat}(k:Nat)(h3:T.length=3)(hw:∀w∈T,w<3*m+G.length):TI m (th.set k T) G:=⟨λU hU=>by
 rcases Qdb hU with z | z
 .exact t.w U z
 .rw [z];exact⟨h3,hw⟩,t.g⟩
def TI.push{m:Nat}{th:Aae}{G:List Gt}(t:TI m th G){T:List Nat}(h3:T.length=3)(hw:∀w∈T,w<3*m+G.length):TI m (th++[T]) G:=⟨λU hU=>by
 rcases Qbp.mp hU with z | z
 .exact t.w U z
 .rw [Qa1.mp z];exact⟨h3,hw⟩,t.g⟩
def sQ(k:Nat):eU (nI 3) (nI k)= .ok (nI$ 3*k):=MY (.inr$ by omega)
def Qt{G C:List Gt}(h:G.length+C.length<=1000):cW (.lst$ G.map fK) (.lst$ C.map fK)= .ok (.lst$ (G++C).map fK):=by
 have hz:=Qam;rw[qk (by rw[Qaa,Qaa];omega),QaH]
section
variable {S:a_}{ns:List Int}{hd:Int}{m:Nat}
abbrev nE(S:a_)(ns:List Int)(hd:Int)(m:Nat)(G:List Gt)(a7 a8 a9 JS Gf CM:Option V3):DE:=[some$ .d$ .lst$ ns.map .int,some$ .d$ .int 2,some$ .d$ .int hd,some$ .d$ nI m,some$ .d$ .lst$ (jn m).map MT.inD,some$ .loc S.length,some$ .d$ .lst$ G.map fK,a7,a8,a9,JS,Gf,CM]
def RY{G:List Gt}:fP [.lst$ G.map fK]= .ok (nI G.length):=by rw[kr,Qaa]
def RX(k:Nat)(δ:av){i:Nat}(h:ai i δ= .ok (nI k)):bz (af (e2 eU (eC$ .int 3)$ ai i)$ af (e2 cW (e2 eU (eC$ .int 3)$ ai i)$ eC$ .int 1)$ af (e2 cW (e2 eU (eC$ .int 3)$ ai i)$ eC$ .int 2) ax) δ= .ok (gm [3*k,3*k+1,3*k+2]):=by
 have hz:=Qam;have e:e2 eU (eC$ .int 3) (ai i) δ= .ok (nI$ 3*k):=ak rfl h$ sQ k;exact bL (ao e$ ao (ak e rfl$ fE _ _)$ ao (ak e rfl$ fE _ _) rfl) (by simp;omega)
def Si{G:List Gt}{th:Aae}{k:Nat}(hm:m<=2)(hk:k<m)(ht:th.length=m)(T:TI m th G)(hG:G.length<=3*k) :
 W3 (tf (nE S ns hd m G (some$ .d$ nI k) none none none none none)$ S++[.lst$ th.map gm]) λo S2=>∃G' CK,o= .nx (nE S ns hd m G' (some$ .d$ nI k) none none none none none)/\S2=S++[SO.lst$ CK.map gm]/\CK.length=m/\TI m CK G'/\G'.length<=3*(k+1):=by
 refine p9<|pO (eg (ak (b:=nI 4) (ay (ao rfl$ ao (ak rfl rfl$ fE _ _) rfl)$ jy hd$ 1+k) rfl$ gd$ by omega) rfl$ SN _ _) ?_
 by_cases hc:0<stN hd (1+k) % 4
 .rw [Qan hc,QaG rfl];have hx:=M5 (f:=e2 cW (e2 cW (e2 eU (eC$ .int 3)$ ai 1)$ aJ fP$ af (ai 2) ax)$ ai 0) (own:=[(Str.ofString "j")]) (kp:=[3,6]) (δ:=down$ nE S ns hd m G (some$ .d$ nI k) none none none none none) λj hj=>⟨[.val$ nI j, .val$ nI m, .val$ .lst$ G.map fK],rfl,ak (ak (ak rfl rfl$ sQ m) (ay rfl RY)$ fE _ _) rfl$ fE _ _⟩
  refine bt<|ND<|dt hx<|w_var rfl<|dt rfl ⟨_,S.length,(k:Int),th.map gm,k,rfl,rfl,rfl,aR _ _,NT.DM (by rw[Qaa];omega),_,rfl,?_⟩
  rw[cZ,<-List.map_set];refine bY (by simp)<|dt (ak rfl (ay (ao (RX k _ rfl) rfl)$ zL _)$ Qt$ by rw[QaJ];omega) ⟨_,_,rfl,rfl,?_,?_,?_⟩
  .rw [QaT];exact ht
  .refine(T.three rfl λw hw=>?_).put k rfl λw hw=>?_
   .simp at hw;omega
   .rw [Qau,QaJ];simp at hw;omega
  .rw [Qau,QaJ];omega
 .rw [Qax hc,QaA$ by decide]
  exact f_ ⟨G,th,rfl,rfl,ht,T,by omega⟩
def SJ{G:List Gt}{th:Aae}{c:Int}{a7 a9:Option V3}(hS:D1 (S++[.lst$ th.map gm]))(wa:0<th.length)(htl:th.length<=100)(hm:m<=2)(T:TI m th G)(hG:G.length<=100) :
 W3 (tq (nE S ns hd m G a7 (some$ .d$ .int c) a9 none none none)$ S++[.lst$ th.map gm]) λo S2=>∃G' CK b9,o= .nx (nE S ns hd m G' a7 (some$ .d$ .int c) b9 none none none)/\S2=S++[SO.lst$ CK.map gm]/\CK.length=th.length+1/\TI m CK G'/\G'.length<=G.length+6:=by
 have hz:=Qam;refine bt<|bY (by simp)<|X9<|dt rfl<|fJ<|aZ<|dt rfl<|aZ<|w_var rfl<|dH<|EK (aR _ _) wa T.w hS λC hC1 hC2=>⟨_,_,_,rfl,rfl,Qt (by omega),_,rfl,?_⟩
 have T1:=T.app hC2;have Gj:(G++C).length=G.length+3:=by rw[Qau,hC1]
 generalize G++C=G1 at T1 Gj;have ea:3*m+G1.length - 3=3*m+G.length:=by omega
 refine bt<|bY (by simp)<|dt (M5 λj hj=>⟨[.val$ nI j, .val$ nI m, .val$ .lst$ G1.map fK],rfl,ak (ak (b:=nI 3) (ak (ak rfl rfl$ sQ m) (ay rfl RY)$ fE _ _) rfl$ A4$ by omega) rfl$ by rw[fE,ea]⟩) ⟨_,rfl,?_⟩
 have fin:∀(G':List Gt) (U:List Nat),TI m th G'->U.length=3->(∀w∈U,w<3*m+G'.length)->G'.length<=G.length+6->W3 (mS 5 (xP$ ai 9) (nE S ns hd m G' a7 (some$ .d$ .int c) (some$ .d$ gm U) none none none)$ S++[.lst$ th.map gm]) λo S2=>∃G' CK b9,o= .nx (nE S ns hd m G' a7 (some$ .d$ .int c) b9 none none none)/\S2=S++[SO.lst$ CK.map gm]/\CK.length=th.length+1/\TI m CK G'/\G'.length<=G.length+6:=λG' U t u1 u2 gl=>by
  refine o_ rfl ⟨_,aR _ _⟩ (dt rfl ⟨_,_,rfl,aR _ _,by rw[Qaa];omega,G',th++[U],_,rfl,?_,by simp,t.push u1 u2,gl⟩)
  rw[cZ,QaH];rfl
 refine bt<|p9<|pO (eg (ak (b:=nI 3) (ay rfl$ jy c 9) rfl$ gd$ by omega) rfl$ SN _ _) ?_
 have hlw:∀w∈[3*m+G.length,3*m+G.length+1,3*m+G.length+2],w<3*m+G1.length:=λw hw=>by simp at hw;omega
 by_cases hc:0<stN c 9 % 3
 .rw [Qan hc,QaG rfl];refine bt<|bY (by simp)<|dt (ak rfl (ay rfl$ zL _)$ Qt$ by rw[QaJ];omega) ⟨_,rfl,?_⟩
  refine bY (by simp)<|dt (d:=gm [3*m+G.length+3,3*m+G.length+1+3,3*m+G.length+2+3]) (ay (ao (bX$ bM (yt rfl) (by simp;omega)$ NT.bE nI (λw=>nI$ w+3) λw hw=>⟨[.val$ nI w],rfl,rfl,ak rfl rfl$ fE _ _⟩) rfl) rfl) ⟨_,rfl,?_⟩
  refine fin _ _ (T1.three rfl hlw) rfl (λw hw=>?_) (by rw[Qau,QaJ];omega)
  rw[Qau,QaJ];simp at hw;omega
 .rw [Qax hc,QaA$ by decide]
  exact f_ ⟨_,rfl,fin _ _ T1 rfl hlw$ by omega⟩
def SS{G:List Gt}{th:Aae}{k:Nat}{os:Aad}{a8 a9 Gf CM:Option V3}(wa:0<th.length)(hk:k<3)(T:TI m th G)(zh:os.map (·.1)=qo.take k)(CS:∀x∈os,x.2.length=3/\∀w∈x.2,w<3*m+G.length) :
 W3 (tu (nE S ns hd m G (some$ .d$ nI k) a8 a9 (some$ .loc$ S.length+1) Gf CM)$ S++[.lst$ th.map gm, .lst$ os.map qi]) λo S2=>∃(CJ:Aad) (Gx Gy:Option V3),o= .nx (nE S ns hd m G (some$ .d$ nI k) a8 a9 (some$ .loc$ S.length+1) Gx Gy)/\S2=S++[SO.lst$ th.map gm,SO.lst$ CJ.map qi]/\CJ.map (·.1)=qo.take (k+1)/\∀x∈CJ,x.2.length=3/\∀w∈x.2,w<3*m+G.length:=by
 have hz:=Qam;have g0:∀x y:SO,(S++[x,y])[S.length]? =some x:=λx y=>by rw[Qal$ Qai _,Qbl];rfl
 have g1:∀x y:SO,(S++[x,y])[S.length+1]? =some y:=λx y=>by rw[Qal (by omega),show S.length+1 - S.length=1 by omega];rfl
 have p1:∀x y z:SO,(S++[x,y]).set (S.length+1) z=S++[x,z]:=λx y z=>by rw[QcC _ _ (by omega),show S.length+1 - S.length=1 by omega];rfl
 have hol:os.length=k:=by
  have:=Qbi List.length zh;rw[Qaa,QaK] at this;have:qo.length=3:=rfl;omega
 obtain⟨r,hr⟩:∃r,stN hd (21+k)=r:=⟨_,rfl⟩;refine bt<|bY (by simp)<|dt ((ay (ao rfl$ ao (ak rfl rfl$ fE _ _) rfl)$ jy hd$ 21+k).trans$ by rw[hr]) ⟨_,rfl,?_⟩
 simp only[List.set];have hmn:0<min th.length 3:=by omega
 have hlt:r % min th.length 3<min th.length 3:=QbZ _ hmn;have hix:th.length - 1 - r % min th.length 3<th.length:=by omega
 obtain⟨U,hU⟩:∃U,th[th.length - 1 - r % min th.length 3]? =some U:=⟨_,Qad hix⟩;have hUm:=T.w U$ QaD hU;have h5:(eG (S++[.lst$ th.map gm, .lst$ os.map qi])$ nE S ns hd m G (some$ .d$ nI k) a8 a9 (some$ .loc$ S.length+1) (some$ .d$ nI r) CM)[5]? =some (.val$ .lst$ th.map gm):=by
  show some (match res (S++[.lst$ th.map gm, .lst$ os.map qi]) (.loc S.length) with | some d=>Sl.val d | none=> .un)=_
  unfold res;rw[g0]
 have hlen5:aJ fP (af (ai 5) ax) (eG (S++[.lst$ th.map gm, .lst$ os.map qi])$ nE S ns hd m G (some$ .d$ nI k) a8 a9 (some$ .loc$ S.length+1) (some$ .d$ nI r) CM)= .ok (nI th.length):=ay (ao (by unfold ai;rw [h5]) rfl) (by rw[kr,Qaa])
 have tup:∀l:List Nat,tH (l.map nI)=true:=λl=>by
  induction l with
  | nil=>rfl
  | cons a l ih=>exact ih
 refine bt<|bY (by simp)<|MX (d:=gm U) (ak (by unfold ai;rw [h5]) (ak (ak (b:=nI 1) hlen5 rfl$ A4$ by omega) (ak rfl (ay (ds:=[nI th.length,nI 3]) (ao hlen5 rfl) Tq)$ gd hmn)$ A4$ by omega) (NT.gA$ by rw[Qaf,hU];rfl)) (tup U) ⟨_,rfl,?_⟩
 have fin:∀V:List Nat,V.length=3->(∀w∈V,w<3*m+G.length)->W3 (mS 10 (xP$ bz$ af (e2 cW (e2 cb (eC$ .str$ Str.ofString "uvw")$ ai 7)$ eC$ .str$ Str.ofString "out")$ af (ai 12) ax) (nE S ns hd m G (some$ .d$ nI k) a8 a9 (some$ .loc$ S.length+1) (some$ .d$ nI r)$ some$ .d$ gm V)$ S++[.lst$ th.map gm, .lst$ os.map qi]) λo S2=>∃(CJ:Aad) (Gx Gy:Option V3),o= .nx (nE S ns hd m G (some$ .d$ nI k) a8 a9 (some$ .loc$ S.length+1) Gx Gy)/\S2=S++[SO.lst$ th.map gm,SO.lst$ CJ.map qi]/\CJ.map (·.1)=qo.take (k+1)/\∀x∈CJ,x.2.length=3/\∀w∈x.2,w<3*m+G.length:=λV v1 v2=>by
  refine o_ rfl ⟨_,g1 _ _⟩ (dt (bL (ao (OB hk rfl) rfl)$ by simp;omega) ⟨_,_,rfl,g1 _ _,by rw[Qaa];omega,os++[(qo.getD k Str.empty,V)],_,_,rfl,?_,?_,λx hx=>?_⟩)
  .rw [p1,QaH];rfl
  .rw [QaH,zh,QaN];congr 1
   match k,hk with
   | 0,_=>rfl
   | 1,_=>rfl
   | 2,_=>rfl
  .rcases Qbp.mp hx with z | z
   .exact CS x z
   .rw [Qa1.mp z];exact⟨v1,v2⟩
 have sec:∀V:List Nat,V.length=3->(∀w∈V,w<3*m+G.length)->W3 (bN (yu (bP$ b2 qv (e2 fI (e2 lR (ai 11)$ eC$ .int 48)$ eC$ .int 9)$ eC$ .int 0) (cU 12$ xP$ bz$ af (e2 cb (ai 12)$ eC$ .int 0)$ af (e2 cb (ai 12)$ eC$ .int 0)$ af (e2 cb (ai 12)$ eC$ .int 1) ax) mV) (mS 10$ xP$ bz$ af (e2 cW (e2 cb (eC$ .str$ Str.ofString "uvw")$ ai 7)$ eC$ .str$ Str.ofString "out")$ af (ai 12) ax) (nE S ns hd m G (some$ .d$ nI k) a8 a9 (some$ .loc$ S.length+1) (some$ .d$ nI r)$ some$ .d$ gm V)$ S++[.lst$ th.map gm, .lst$ os.map qi]) λo S2=>∃(CJ:Aad) (Gx Gy:Option V3),o= .nx (nE S ns hd m G (some$ .d$ nI k) a8 a9 (some$ .loc$ S.length+1) Gx Gy)/\S2=S++[SO.lst$ th.map gm,SO.lst$ CJ.map qi]/\CJ.map (·.1)=qo.take (k+1)/\∀x∈CJ,x.2.length=3/\∀w∈x.2,w<3*m+G.length:=λV v1 v2=>by
  refine bt<|p9<|pO (eg (ak (b:=nI 9) (ak (b:=nI 48) rfl rfl$ CZ (by omega)$ by omega) rfl$ gd$ by omega) rfl$ FY _ _) ?_
  by_cases hc:r / 48 % 9=0
  .rw [Qan hc,QaG rfl];refine bY (by simp)<|dt (d:=gm [V.getD 0 0,V.getD 0 0,V.getD 1 0]) (bL (ao (ak (b:=nI 0) rfl rfl$ Ar$ by omega)$ ao (ak (b:=nI 0) rfl rfl$ Ar$ by omega)$ ao (ak (b:=nI 1) rfl rfl$ Ar$ by omega) rfl)$ by simp;omega) ⟨_,rfl,?_⟩
   refine fin _ rfl λw hw=>?_
   simp only[Qaw,Qb7,or_false] at hw;rcases hw with rfl | rfl | rfl
   .exact v2 _ (getD_in$ by omega)
   .exact v2 _ (getD_in$ by omega)
   .exact v2 _ (getD_in$ by omega)
  .rw [Qax hc,QaA$ by decide]
   exact f_ ⟨_,rfl,fin V v1 v2⟩
 refine bt<|p9<|pO (eg (ak (b:=nI 6) (ak (b:=nI 8) rfl rfl$ CZ (by omega)$ by omega) rfl$ gd$ by omega) rfl$ FY _ _) ?_
 by_cases hc:r / 8 % 6=0
 .rw [Qan hc,QaG rfl];refine bY (by simp)<|dt (d:=gm U.reverse) ?_ ⟨_,rfl,?_⟩
  .show R.ok (D.tup (U.map nI).reverse)=_;unfold gm;rw[List.map_reverse]
  .exact sec U.reverse (by rw[Qbx];exact hUm.1) λw hw=>hUm.2 w$ List.mem_reverse.mp hw
 .rw [Qax hc,QaA$ by decide]
  exact f_ ⟨_,rfl,sec U hUm.1 hUm.2⟩
end
structure Ol (ins:Aac) (gs:List Gt) (os:Aad):Prop where
 N:qI ins gs os
 i3:∀x∈ins,x.2=3
 o3:∀x∈os,x.2.length=3
theorem Ta:∀{ins:Aac},(∀x∈ins,x.2=3)->zr ins=3*ins.length
 | [],_=>rfl
 | x ::l,h=>by
   have:=Ta λy hy=>h y$ Qag _ hy
   unfold zr at this ⊢;rw[QaO,Qcw,this,h x Qat,QaB];omega
def Lm{S:a_}(hS:Flat S){l:List SO}(h:Flat l):D1 (S++l):=λo ho=>by
 rcases Qbp.mp ho with q | q
 .exact hS o q _
 .exact h o q _
def Qm(ds:List D):Flat [SO.lst ds]:=λo ho n=>by rw[Qa1.mp ho];rfl
def JL{S:a_}{ns:List Int}(hS:Flat S){Q:V3->a_->Prop}(h:∀(m:Nat) (gs:List Gt) (os:Aad),1<=m->m<=2->Ol (jn m) gs os->gs.length<=30->1<=os.length->os.length<=3->os.map (·.1)=qo.take os.length->Q (.d$ cJ (jn m) gs os) S) :
 W3 (pX [.d$ .lst$ ns.map .int, .d$ .int 2] S) Q:=by
 have hz:=Qam;refine mD hS.clo$ DX rfl ?_;simp only[df,om,List.map,List.length,List.replicate,QaM,QaY,Nat.reduceAdd,Nat.reduceSub];obtain⟨hd,hhd⟩:∃hd,ns.getD 0 0=hd:=⟨_,rfl⟩;refine bt<|bY (by simp)<|dt ((ay rfl$ Ea ns 0).trans$ by rw[hhd]) ⟨_,rfl,?_⟩
 obtain⟨m,hm⟩:∃m,1+stN hd 0 % 2=m:=⟨_,rfl⟩;have Q0:1<=m:=by omega
 have Gi:m<=2:=by omega
 refine bt<|bY (by simp)<|dt ((ak rfl (ak (b:=nI 2) (ay rfl$ jy hd 0) rfl$ gd$ by omega)$ fE _ _).trans$ by rw[hm]) ⟨_,rfl,?_⟩
 refine bt<|bY (by simp)<|oA (λj ds S2=>S2=S/\ds=((jn m).take j).map MT.inD)<|jT (gC rfl$ by omega) ⟨by rw[Qaa,Qaa,Qap];omega,⟨rfl,rfl⟩,?_,?_⟩
 .rintro j v ds S2 hv ⟨rfl,rfl⟩;obtain⟨j',Eh,rfl⟩:=NT.ia hv;obtain⟨hjl,ej⟩:=Qae.mp Eh;rw[Qbd] at ej;subst ej;rw[Qap] at hjl;refine⟨[some$ .d$ nI j],rfl,D_ ?_⟩;refine dt (Tx (by omega) rfl) ⟨_,rfl,rfl,?_⟩
  have hjA:j<Bl.length:=by show j<2;omega
  have e:(jn m)[j]? =some (Bl.getD j (Str.empty,0)):=by
   unfold jn;rw[Qbg,QaG hjl,Qak,Qad hjA];rfl
  rw[QaN,e,QaH];rfl
 rintro ds S2 ⟨e1,rfl⟩;subst S2;rw[Qaa,Qaa,Qap,QaU$ by rw[lr Gi];exact Qai _]
 refine⟨_,rfl,?_⟩
 let Ue:Aae:=(List.range m).map λk=>[3*k,3*k+1,3*k+2]
 have Xc:Ue.length=m:=by show((List.range m).map _).length=m;rw [Qaa,Qap]
 refine bt<|bY (by simp)<|nc (ds:=Ue.map gm) (bM (gC rfl$ by omega) (by rw[Qaa,Qap];omega) ?_) ⟨_,rfl,?_⟩
 .rw [show Ue.map gm=(List.range m).map λk=>gm [3*k,3*k+1,3*k+2] from QaL]
  exact NT.bE nI _ λk hk=>⟨[.val$ nI k],rfl,rfl,RX k _ rfl⟩
 refine bt<|bY (by simp)<|dt rfl ⟨_,rfl,?_⟩
 have T0:TI m Ue []:=⟨λT hT=>by
  obtain⟨k,hk,rfl⟩:=QaZ.mp hT;have:=QaI.mp hk;refine⟨rfl,λw hw=>?_⟩
  simp at hw;omega,λi x hx=>by cases hx⟩
 refine bt<|g_<|jT (gC rfl$ by omega) ?_
 refine(dc (λi δ S2=>∃G th a7,δ=nE S ns hd m G a7 none none none none none/\S2=S++[SO.lst$ th.map gm]/\th.length=m/\TI m th G/\G.length<=3*i)
  ⟨[],Ue,none,rfl,rfl,Xc,T0,by simp⟩ ?_).mono λo S2 ⟨du,je,G1,th1,a7,vW,v7,ht1,T1,hG1⟩=>⟨du,je,?_⟩
 .rintro i v δ S2 hv ⟨G,th,a7,rfl,rfl,ht,T,hG⟩;obtain⟨j',Eh,rfl⟩:=NT.ia hv;obtain⟨hjl,ej⟩:=Qae.mp Eh;rw[Qbd] at ej;subst ej;rw[Qap] at hjl;refine⟨nE S ns hd m G (some$ .d$ nI i) none none none none none,rfl,?_⟩;exact(Si Gi hjl ht T hG).mono λo S2 ⟨G',CK,e1,e2,e3,e4,e5⟩=>⟨_,e1,G',CK,_,rfl,e2,e3,e4,e5⟩
 subst vW v7;rw[Qaa,Qaa,Qap] at hG1
 let cs:List Int:=(ns.drop 1).take 4
 have hcs:N_ (.lst$ ns.map .int) (some 1) (some 5)= .ok (.lst$ cs.map .int):=by
  show R.ok (D.lst$ L2.cutD (ns.map .int) (some ((1:Nat):Int))$ some ((5:Nat):Int))=_;unfold L2.cutD;rw[Qaa,HT.uq,HT.uq];rw[List.map_take,List.map_drop];congr 2;by_cases hn:5<=ns.length
  .rw [QbD (by omega:1<=ns.length),QbD hn]
  .have e1:min 5 ns.length=ns.length:=by omega
   by_cases h1:1<=ns.length
   .rw [QbD h1,QaU (by rw[Qb5,Qaa];omega),QaU$ by rw[Qb5,Qaa];omega]
   .have:ns=[]:=List.length_eq_zero_iff.mp (by omega)
    subst this;rfl
 have hcl:cs.length<=4:=by show((ns.drop 1).take 4).length<=4;rw [QaK];omega
 refine bt<|g_<|jT (gG$ B9 rfl (nA rfl) (nA rfl) hcs) ?_
 refine(dc (λi δ S2=>∃G th a8 a9,δ=nE S ns hd m G a7 a8 a9 none none none/\S2=S++[SO.lst$ th.map gm]/\th.length=m+i/\TI m th G/\G.length<=6+6*i)
  ⟨G1,th1,none,none,rfl,rfl,ht1,T1,by omega⟩ ?_).mono λo S2 ⟨du,je,G2,QU,a8,a9,vW,v7,ht2,T2,XR⟩=>⟨du,je,?_⟩
 .rintro i v δ S2 hv ⟨G,th,a8,a9,rfl,rfl,ht,T,hG⟩;obtain⟨c,hc,rfl⟩:=NT.ia hv;have hi:=(Qae.mp hc).1;refine⟨nE S ns hd m G a7 (some$ .d$ .int c) a9 none none none,rfl,?_⟩;exact(SJ (Lm hS$ Qm _) (by omega) (by omega) Gi T$ by omega).mono λo S2 ⟨G',CK,b9,e1,e2,e3,e4,e5⟩=>⟨_,e1,G',CK,_,b9,rfl,e2,by omega,e4,by omega⟩
 subst vW v7;rw[Qaa,Qaa] at XR ht2;refine bt<|bY (by simp)<|nc (ds:=([]:Aad).map qi) rfl ⟨_,rfl,?_⟩
 obtain⟨q,hq⟩:∃q,1+stN hd 20 % 3=q:=⟨_,rfl⟩;have eS:(S++[SO.lst$ QU.map gm])++[SO.lst$ ([]:Aad).map qi]=S++[SO.lst$ QU.map gm,SO.lst$ ([]:Aad).map qi]:=by rw[QaR];rfl
 have eL:(S++[SO.lst$ QU.map gm]).length=S.length+1:=by simp
 rw[eS,eL];refine bt<|g_<|jT (gC ((ak rfl (ak (b:=nI 3) (ay rfl$ jy hd 20) rfl$ gd$ by omega)$ fE _ _).trans$ by rw[hq])$ by omega) ?_
 refine(dc (λi δ S2=>∃(os:Aad) (b7 Gx Gy:Option V3),δ=nE S ns hd m G2 b7 a8 a9 (some$ .loc$ S.length+1) Gx Gy/\S2=S++[SO.lst$ QU.map gm,SO.lst$ os.map qi]/\os.map (·.1)=qo.take i/\∀x∈os,x.2.length=3/\∀w∈x.2,w<3*m+G2.length)
  ⟨[],_,_,_,rfl,rfl,rfl,λx hx=>by cases hx⟩ ?_).mono λo S2 ⟨du,je,os,b7,Gx,Gy,vW,v7,zh,CS⟩=>⟨du,je,?_⟩
 .rintro i v δ S2 hv ⟨os,b7,Gx,Gy,rfl,rfl,zh,CS⟩;obtain⟨j',Eh,rfl⟩:=NT.ia hv;obtain⟨hjl,ej⟩:=Qae.mp Eh;rw[Qbd] at ej;subst ej;rw[Qap] at hjl;refine⟨nE S ns hd m G2 (some$ .d$ nI i) a8 a9 (some$ .loc$ S.length+1) Gx Gy,rfl,?_⟩;exact(SS (by omega) (by omega) T2 zh CS).mono λo S2 ⟨CJ,Gx,Gy,e1,e2,e3,e4⟩=>⟨_,e1,CJ,_,Gx,Gy,rfl,e2,e3,e4⟩
 subst vW v7;rw[Qaa,Qaa,Qap] at zh;have hol:os.length=q:=by
  have:=Qbi List.length zh;rw[Qaa,QaK] at this;have:qo.length=3:=rfl;omega
 have g1:(S++[SO.lst$ QU.map gm,SO.lst$ os.map qi])[S.length+1]? =some (.lst$ os.map qi):=by rw[Qal (by omega),show S.length+1 - S.length=1 by omega];rfl
 refine HQ rfl g1 ?_;have p1:(S++[SO.lst$ QU.map gm,SO.lst$ os.map qi]).set (S.length+1) .jU=S++[SO.lst$ QU.map gm, .jU]:=by rw[QcC _ _ (by omega),show S.length+1 - S.length=1 by omega];rfl
 rw[p1];have hw:zr (jn m)=3*m:=by rw[Ta pR,lr Gi]
 refine g9<|dt (bL rfl$ by simp;omega) ⟨_,rfl,rfl,⟨_,rfl⟩,_,rfl,h m G2 os Q0 Gi ⟨⟨by rw[lr Gi];omega,λx hx=>by rw[pR x hx];omega,by omega,λi x hx=>by rw[hw];exact T2.g i x hx,by omega,λx hx=>⟨by rw[(CS x hx).1];omega,λw hw'=>by rw[hw];exact(CS x hx).2 w hw'⟩⟩,pR,λx hx=>(CS x hx).1⟩ (by omega) (by omega) (by omega)$ by rw[hol];exact zh⟩
end K32
end
section
set_option maxHeartbeats 1000000
namespace K32
open PySem PySem.Spec PyProof.Rows L2 L3 MT JT
def F7{kd:Nat}{bs:List Bool}(hk:kd<=4)(hb:bs.length=ar kd):oz [.str$ kS kd, .lst$ bs.map bI]= .ok (bI$ gv kd bs):=by
 match kd,hk,bs,hb with
 | 0,_,[a],_=>cases a <;> rfl
 | 1,_,[a,b],_=>cases a <;> cases b <;> rfl
 | 2,_,[a,b],_=>cases a <;> cases b <;> rfl
 | 3,_,[a,b],_=>cases a <;> cases b <;> rfl
 | 4,_,[a,b,c],_=>cases a <;> cases b <;> cases c <;> rfl
def N5(b:Bool):qA (.int 1) (bI b)= .ok (bI$ !b):=by cases b <;> rfl
def Dq{f g:FD}{δ:av}{b c:Bool}(hf:f δ= .ok (bI b))(hg:g δ= .ok (.bl c)):e2 cb (eNew$ dy$ af f$ af (e2 qA (eC$ .int 1) f) ax) (aJ rj$ af g ax) δ= .ok (bI$ b !=c):=by
 have hz:=Qam;refine ak (b:= .int$ if c then 1 else 0) (bX$ jm (ao hf$ ao (ak rfl hf$ N5 b) rfl)$ by simp;omega) (ay (ao hg rfl)$ by cases c <;> rfl) ?_
 cases b <;> cases c <;> rfl
def Hl(i:Nat)(T:List Nat):MZ (nI i) (.tup$ T.map nI)= .ok (.bl$ T.contains i):=by
 have e:T.map nI=(T.map λ(n:Nat)=>(n:Int)).map D.int:=(QaL).symm
 rw[e];show MZ (.int (i:Int)) _=_;rw[yy];congr 2;rw[Qbq];simp;constructor
 .rintro⟨a,ha,e⟩;rw[<-Int.ofNat_inj.mp e];exact ha
 .exact λh=>⟨i,h,rfl⟩
section
variable {ins:Aac}{gs:List Gt}{os:Aad}{bits:List Bool}{T B:List Nat}{S:a_}
noncomputable abbrev rE(S:a_)(nt eN tD bD:D)(a5 a6 a7 a8 a9 JS Gf CM:Option V3):DE:=[some$ .d nt,some$ .d eN,some$ .d tD,some$ .d bD,some$ .loc S.length,a5,a6,a7,a8,a9,JS,Gf,CM]
def O1{nt eN tD:D}{a5 a6 a8 a9 JS Gf CM:Option V3}{b:Bool}{ws:List Bool}(hl:ws.length<10000) :
 W3 (tK (rE S nt eN tD (.tup$ B.map nI) a5 a6 (some$ .d$ bI b) a8 a9 JS Gf CM)$ S++[.lst$ ws.map bI]) λo S1=>o= .nx (rE S nt eN tD (.tup$ B.map nI) a5 a6 (some$ .d$ bI b) a8 a9 JS Gf CM)/\S1=S++[SO.lst$ (ws++[b !=B.contains ws.length]).map bI]:=by
 have hz:=Qam;have h4:(eG (S++[.lst$ ws.map bI])$ rE S nt eN tD (.tup$ B.map nI) a5 a6 (some$ .d$ bI b) a8 a9 JS Gf CM)[4]? =some (.val$ .lst$ ws.map bI):=by
  show some (match res (S++[.lst$ ws.map bI]) (.loc S.length) with | some d=>Sl.val d | none=> .un)=_
  unfold res;rw[aR]
 refine o_ rfl ⟨_,aR _ _⟩ (MX (Dq rfl$ ak (ay (ao (by unfold ai;rw [h4]) rfl) (by rw[kr,Qaa])) rfl (Hl _ _)) rfl ⟨_,_,rfl,aR _ _,by rw[Qaa];omega,rfl,?_⟩)
 rw[cZ,QaH];rfl
def Fz{bad:Nat->Bool}{k n:Nat}{b:Bool}:dA k bad (List.replicate (n+1) b)=dA k bad (List.replicate n b)++[b !=bad (k+n)]:=by
 rw[List.replicate_succ',lu,QaJ];rfl
def M_{ws:List Bool}{n:Nat}(h:n<ws.length):cb (.lst$ ws.map bI) (nI n)= .ok (bI$ ws.getD n false):=by
 refine NT.gA ?_;rw[Qaf,Qad h];rw[Qak,Qad h];rfl
def HP{nt eN bD:D}{a5 a6 a7 a8:Option V3}{g:Gt}{i:Nat}{ws:List Bool}(hg:oK ws.length g)(hl:ws.length<20000) :
 W3 (tF (rE S nt eN (.tup$ T.map nI) bD a5 a6 a7 a8 (some$ .d$ nI i) (some$ .d$ .str$ kS g.1) (some$ .d$ .tup$ g.2.1.map nI)$ some$ .d$ .bl g.2.2)$ S++[.lst$ ws.map bI]) λo S1=>(∃b7,o= .nx (rE S nt eN (.tup$ T.map nI) bD a5 a6 b7 a8 (some$ .d$ nI i) (some$ .d$ .str$ kS g.1) (some$ .d$ .tup$ g.2.1.map nI)$ some$ .d$ .bl g.2.2))/\S1=S++[SO.lst$ (ws++[gB g ws !=T.contains i]).map bI]:=by
 have hz:=Qam;have ha:=G4 g.1;have h4:(eG (S++[.lst$ ws.map bI])$ rE S nt eN (.tup$ T.map nI) bD a5 a6 a7 a8 (some$ .d$ nI i) (some$ .d$ .str$ kS g.1) (some$ .d$ .tup$ g.2.1.map nI)$ some$ .d$ .bl g.2.2)[4]? =some (.val$ .lst$ ws.map bI):=by
  show some (match res (S++[.lst$ ws.map bI]) (.loc S.length) with | some d=>Sl.val d | none=> .un)=_
  unfold res;rw[aR]
 refine bt<|bY (by simp)<|MX (ay (ds:=[.str$ kS g.1, .lst$ (g.2.1.map λn=>ws.getD n false).map bI]) (ao rfl$ ao (bX$ bM (yt rfl) (by rw[Qaa];have:=hg.2.1;omega) ?_) rfl) (F7 hg.1$ by rw[Qaa];exact hg.2.1)) rfl ⟨_,rfl,?_⟩
 .rw [show(g.2.1.map λn=>ws.getD n false).map bI=g.2.1.map λn=>bI (ws.getD n false) from QaL]
  have ec:qb [(Str.ofString "one")] [4] (eG (S++[.lst$ ws.map bI])$ rE S nt eN (.tup$ T.map nI) bD a5 a6 a7 a8 (some$ .d$ nI i) (some$ .d$ .str$ kS g.1) (some$ .d$ .tup$ g.2.1.map nI)$ some$ .d$ .bl g.2.2)=[.un, .val$ .lst$ ws.map bI]:=by
   show [Sl.un,nT (eG (S++[.lst$ ws.map bI])$ rE S nt eN (.tup$ T.map nI) bD a5 a6 a7 a8 (some$ .d$ nI i) (some$ .d$ .str$ kS g.1) (some$ .d$ .tup$ g.2.1.map nI)$ some$ .d$ .bl g.2.2) 4]=_;unfold nT;rw[h4]
  rw[ec];exact NT.bE nI _ λn hn=>⟨[.val$ nI n, .val$ .lst$ ws.map bI],rfl,rfl,ak rfl rfl$ M_$ hg.2.2 n hn⟩
 refine o_ rfl ⟨_,aR _ _⟩ (dt (Dq rfl$ ak rfl rfl$ Hl _ _) ⟨_,_,rfl,aR _ _,by rw[Qaa];omega,⟨_,rfl⟩,?_⟩)
 rw[cZ,QaH];rfl
def iV(os:Aad)(ws:List Bool):List D:=os.map λx=> .tup$ (cE ws x.2).map bI
def HH(NO:qI ins gs os)(hb:bits.length=ins.length)(hS:Flat S){Q:V3->a_->Prop}(h:Q (.d$ .lst$ iV os$ nJ ins gs bits (λi=>T.contains i)$ λi=>B.contains i) S) :
 W3 (mj [.d$ cJ ins gs os, .d$ .lst$ bits.map bI, .d$ .tup$ T.map nI, .d$ .tup$ B.map nI] S) Q:=by
 have hz:=Qam;have hi:=NO.hi;have hg:=NO.hg;have hwd:=xV NO.hw;refine mD hS.clo$ DX rfl ?_;simp only[df,oI,List.map,List.length,List.replicate,QaM,QaY,Nat.reduceAdd,Nat.reduceSub];refine bt<|bY (by simp)<|nc rfl ⟨_,rfl,?_⟩
 have zp:tU (ins.map MT.inD) (bits.map bI)=(ins.zip bits).map λq=>D.tup [MT.inD q.1,bI q.2]:=by
  unfold tU;rw[List.zip_map,QaL];rfl
 refine bt<|g_<|jT (ds:=(ins.zip bits).map λq=>D.tup [MT.inD q.1,bI q.2]) (by rw[<-zp];rfl) ?_
 let row:Nat->List Bool:=λi=>dA 0 (λn=>B.contains n)$ oZ (ins.take i)$ bits.take i
 have hrl:∀i,i<=ins.length->(row i).length=zr (ins.take i):=λi hi=>by
  rw[rW,um$ by rw[QaK,QaK,hb]]
 have hrb:∀i,i<=ins.length->(row i).length<=100*i:=λi hi=>by
  rw[hrl i hi];have:=xV (l:=ins.take i) λx hx=>NO.hw x$ Qbs hx
  rw[QaK] at this;omega
 refine(dc (λi δ S2=>(∃a5 a6 a7 a8,δ=rE S (cJ ins gs os) (.lst$ bits.map bI) (.tup$ T.map nI) (.tup$ B.map nI) a5 a6 a7 a8 none none none none)/\S2=S++[SO.lst$ (row i).map bI])
  ⟨⟨_,_,_,_,rfl⟩,rfl⟩ ?_).mono λo S2 ⟨du,je,⟨a5,a6,a7,a8,vW⟩,v7⟩=>⟨du,je,?_⟩
 .rintro i v δ S2 hv ⟨⟨a5,a6,a7,a8,rfl⟩,rfl⟩;obtain⟨q,hq,rfl⟩:=NT.ia hv;rw[Qc9] at hq;obtain⟨q1,q2⟩:=hq;have hil:=(Qae.mp q1).1;have hw:=NO.hw q.1$ QaD q1;refine⟨rE S (cJ ins gs os) (.lst$ bits.map bI) (.tup$ T.map nI) (.tup$ B.map nI) (some$ .d$ .str q.1.1) (some$ .d$ nI q.1.2) (some$ .d$ bI q.2) a8 none none none none,rfl,?_⟩;refine g_<|jT (gC rfl$ by omega) ?_
  have hr0:=hrb i (by omega)
  refine(dc (λj δ S3=>(∃a8,δ=rE S (cJ ins gs os) (.lst$ bits.map bI) (.tup$ T.map nI) (.tup$ B.map nI) (some$ .d$ .str q.1.1) (some$ .d$ nI q.1.2) (some$ .d$ bI q.2) a8 none none none none)/\S3=S++[SO.lst$ (row i++dA (row i).length (λn=>B.contains n) (List.replicate j q.2)).map bI])
   ⟨⟨_,rfl⟩,by simp [dA]⟩ ?_).mono λo S3 ⟨T9,e3,⟨c8,J4⟩,hS3⟩=>⟨T9,e3,⟨_,_,_,_,J4⟩,?_⟩
  .rintro j v δ S3 hv ⟨⟨c8,rfl⟩,rfl⟩;obtain⟨j',Eh,rfl⟩:=NT.ia hv;have hjl:=(Qae.mp hv).1;rw[Qaa,Qaa,Qap] at hjl;refine⟨_,rfl,?_⟩;have tl:(dA (row i).length (λn=>B.contains n)$ List.replicate j q.2).length=j:=(rW _ _ _).trans QaJ
   refine(O1$ by rw[Qau,tl];omega).mono λo S4 ⟨e4,e5⟩=>⟨_,e4,⟨_,rfl⟩,?_⟩
   rw[e5,Fz,Qau,tl,QaR]
  .rw [hS3,Qaa,Qaa,Qap];have:row (i+1)=row i++dA (row i).length (λn=>B.contains n) (List.replicate q.1.2 q.2):=by
    show dA 0 _ (oZ (ins.take$ i+1)$ bits.take$ i+1)=_;rw[QaN,QaN,q1,q2];have hl:(ins.take i).length=(bits.take i).length:=by rw[QaK,QaK,hb]
    rw[yV _ _ hl,lu,QcH,hrl i (by omega),um hl]
    show _++dA _ _ (List.replicate q.1.2 q.2++[])=_;rw[Qbc]
   rw[this]
 have hlz:((ins.zip bits).map λq=>D.tup [MT.inD q.1,bI q.2]).length=ins.length:=by rw[Qaa,List.length_zip];omega
 rw[Qaa,hlz] at v7;subst vW v7;have hr1:row ins.length=dA 0 (λn=>B.contains n) (oZ ins bits):=by
  show dA 0 _ (oZ (ins.take ins.length)$ bits.take ins.length)=_;rw[QaX,<-hb,QaX]
 have hrl1:=hrl ins.length$ Qai _;rw[QaX] at hrl1;rw[hr1] at hrl1 ⊢;generalize hrow:dA 0 (λn=>B.contains n) (oZ ins bits)=row1 at hrl1
 have enG:eR (gs.map fK)=gs.zipIdx.map λx=>D.tup [.int x.2,fK x.1]:=by
  unfold eR;rw[List.zipIdx_map,QaL];rfl
 refine bt<|g_<|jT (ds:=gs.zipIdx.map λx=>D.tup [.int x.2,fK x.1]) (by rw[<-enG];exact Bm rfl) ?_
 refine(dc (λi δ S2=>(∃a5 a6 a7 a8 a9 JS Gf CM,δ=rE S (cJ ins gs os) (.lst$ bits.map bI) (.tup$ T.map nI) (.tup$ B.map nI) a5 a6 a7 a8 a9 JS Gf CM)/\S2=S++[SO.lst$ (i8 (gs.take i) (λn=>T.contains n) row1).map bI])
  ⟨⟨_,_,_,_,_,_,_,_,rfl⟩,by simp [i8]⟩ ?_).mono λo S2 ⟨du,je,⟨a5,a6,a7,a8,a9,JS,Gf,CM,vW⟩,v7⟩=>⟨du,je,?_⟩
 .rintro i v δ S2 hv ⟨⟨a5,a6,a7,a8,a9,JS,Gf,CM,rfl⟩,rfl⟩;obtain⟨⟨g,k⟩,hq,rfl⟩:=NT.ia hv;rw[QbC] at hq;cases hgi:gs[i]? with
  | none=>rw [hgi] at hq;cases hq
  | some g'=>
    rw[hgi] at hq;simp at hq;obtain⟨rfl,rfl⟩:=hq;have hil:=(Qae.mp hgi).1;have hrn:(i8 (gs.take i) (λn=>T.contains n) row1).length=zr ins+i:=by rw[uM,hrl1,QaK];omega
    refine⟨rE S (cJ ins gs os) (.lst$ bits.map bI) (.tup$ T.map nI) (.tup$ B.map nI) a5 a6 a7 a8 (some$ .d$ nI i) (some$ .d$ .str$ kS g'.1) (some$ .d$ .tup$ g'.2.1.map nI)$ some$ .d$ .bl g'.2.2,rfl,?_⟩;refine(HP (by rw[hrn];exact NO.g i g' hgi)$ by rw[hrn];omega).mono λo S4 ⟨⟨c7,e4⟩,e5⟩=>⟨_,e4,⟨_,_,_,_,_,_,_,_,rfl⟩,?_⟩
    rw[e5,QaN,hgi,uz,QaK,QbD$ by omega]
    rfl
 have hlz2:(gs.zipIdx.map λx=>D.tup [.int x.2,fK x.1]).length=gs.length:=by rw[Qaa,Qb0]
 rw[Qaa,hlz2,QaX] at v7;subst vW v7;have Rt:(i8 gs (λn=>T.contains n) row1).length=zr ins+gs.length:=by rw[uM,hrl1]
 have hwe:nJ ins gs bits (λi=>T.contains i) (λi=>B.contains i)=i8 gs (λn=>T.contains n) row1:=by unfold nJ;rw [hrow]
 rw[hwe] at h;generalize i8 gs (λn=>T.contains n) row1=ws at Rt h
 have hO:=NO.ho;refine g9<|oA (λj ds S2=>S2=S++[SO.lst$ ws.map bI]/\ds=(iV os ws).take j)<|jT (gG rfl) ⟨by rw[Qaa,Qaa];omega,⟨rfl,by simp⟩,?_,?_⟩
 .rintro j v ds S2 hv ⟨rfl,rfl⟩;obtain⟨x,hx,rfl⟩:=NT.ia hv;obtain⟨o1,o2⟩:=NO.o x$ QaD hx;refine⟨[some$ .d$ .str x.1,some$ .d$ .tup$ x.2.map nI,some$ .loc S.length],rfl,D_ ?_⟩;have h2:(eG (S++[.lst$ ws.map bI]) [some$ .d$ .str x.1,some$ .d$ .tup$ x.2.map nI,some$ .loc S.length])[2]? =some (.val$ .lst$ ws.map bI):=by
   show some (match res (S++[.lst$ ws.map bI]) (.loc S.length) with | some d=>Sl.val d | none=> .un)=_
   unfold res;rw[aR]
  have ec:qb [(Str.ofString "one")] [2] (eG (S++[.lst$ ws.map bI]) [some$ .d$ .str x.1,some$ .d$ .tup$ x.2.map nI,some$ .loc S.length])=[.un, .val$ .lst$ ws.map bI]:=by
   show [Sl.un,nT (eG (S++[.lst$ ws.map bI]) [some$ .d$ .str x.1,some$ .d$ .tup$ x.2.map nI,some$ .loc S.length]) 2]=_;unfold nT;rw[h2]
  refine MX (ay (ds:=[.lst$ (cE ws x.2).map bI]) (ao (bX$ bM (yt rfl) (by rw[Qaa];omega) ?_) rfl) rfl) ?_ ⟨_,rfl,rfl,?_⟩
  .rw [ec];unfold cE;rw[show(x.2.map λn=>ws.getD n false).map bI=x.2.map λn=>bI (ws.getD n false) from QaL]
   exact NT.bE nI _ λn hn=>⟨[.val$ nI n, .val$ .lst$ ws.map bI],rfl,rfl,ak rfl rfl$ M_$ by rw[Rt];exact o2 n hn⟩
  .generalize cE ws x.2=l
   induction l with
   | nil=>rfl
   | cons a l ih=>exact ih
  .unfold iV;rw[QaN,Qaf,hx];rfl
 .rintro ds S2 ⟨rfl,rfl⟩;rw[Qaa,Qaa,QaU$ by unfold iV;rw [Qaa];exact Qai _]
  exact⟨_,rfl,rfl,⟨_,rfl⟩,_,rfl,h⟩
end
def AS(c:Nat):List D:=(List.range$ 2 ^ c).map λp=> .lst$ (jc c p).map bI
def By{c:Nat}(hc:c<=4):jh [nI c]= .ok (.lst$ AS c):=by
 have hz:=Qam;have hp:2 ^ c<=16:=Qbt (by omega) hc
 refine cM (bZ$ bX$ bM (gC (ak rfl rfl$ Tc$ by omega)$ by omega) (by rw[Qaa,Qap];omega) ?_)
 refine NT.bE nI _ λp TZ=>⟨[.val$ nI p, .val$ nI c],rfl,rfl,bX$ bM (gC rfl$ by omega) (by rw[Qaa,Qap];omega) ?_⟩
 rw[EW hc$ QaI.mp TZ];exact NT.bE nI _ λk hk=>⟨[.val$ nI k, .val$ nI p, .val$ nI c],rfl,rfl,ak (ak rfl (ak (ak (b:=nI 1) rfl rfl$ A4 (by have:=QaI.mp hk;omega)) rfl$ A4 (by have:=QaI.mp hk;omega))$ SU _ _) rfl$ NU _⟩
def Lc(a b:Bool):A1 (bI a) (bI b)= .ok (.bl$ a !=b):=by cases a <;> cases b <;> rfl
def Dz{a b c:Bool}{k:Nat}(hk:k<3):cb (.tup [bI a,bI b,bI c]) (nI k)= .ok (bI$ [a,b,c].getD k false):=by
 match k,hk with
 | 0,_=>rfl
 | 1,_=>rfl
 | 2,_=>rfl
def Jz{os:Aad}{ws vs:List Bool}(h3:∀x∈os,x.2.length=3):eH [.lst$ iV os ws, .lst$ iV os vs]= .ok (.bl$ os.any λx=>lst (cE ws x.2)$ cE vs x.2):=by
 have hz:=Qam;have zp:tU (iV os ws) (iV os vs)=os.map λx=>D.tup [.tup$ (cE ws x.2).map bI, .tup$ (cE vs x.2).map bI]:=by
  unfold tU iV;rw[List.zip_map',QaL];rfl
 obtain⟨o,e1,h1⟩:=vn (t:=mM 2$ dv (aK 2)$ dv (aK 3) mQ) (body:=ja) (λx:Str × List Nat=>D.tup [.tup$ (cE ws x.2).map bI, .tup$ (cE vs x.2).map bI]) (λx=>if lst (cE ws x.2) (cE vs x.2) then some (.bl true) else none) (λδ=>∃a b,δ=[.val$ .lst$ iV os ws, .val$ .lst$ iV os vs,a,b]) (δ:=[.val$ .lst$ iV os ws, .val$ .lst$ iV os vs, .un, .un]) ⟨_,_,rfl⟩ (by
  rintro x hx δ ⟨a,b,rfl⟩;obtain⟨n0,n1,n2,ex⟩:=three$ h3 x hx;have e0:cE ws x.2=[ws.getD n0 false,ws.getD n1 false,ws.getD n2 false]:=by rw[ex];rfl
  have e1:cE vs x.2=[vs.getD n0 false,vs.getD n1 false,vs.getD n2 false]:=by rw[ex];rfl
  rw[e0,e1];generalize D.lst (iV os ws)=d1;generalize D.lst (iV os vs)=d2;generalize ws.getD n0 false=p0;generalize ws.getD n1 false=p1;generalize ws.getD n2 false=p2;generalize vs.getD n0 false=q0;generalize vs.getD n1 false=q1;generalize vs.getD n2 false=q2;have hcmp:b8 (cy$ eC$ .int 3) (aK 0) (b2 A1 (e2 cb (ai 1)$ ai 0)$ e2 cb (ai 2)$ ai 0) (ai 0) [(Str.ofString "k")] [2,3] [.val d1, .val d2, .val$ .tup [bI p0,bI p1,bI p2], .val$ .tup [bI q0,bI q1,bI q2]]= .ok (((List.range 3).filter λk=>[p0,p1,p2].getD k false !=[q0,q1,q2].getD k false).map nI):=by
   refine bM (gC (n:=3) rfl$ by omega) (by simp;omega) ?_
   exact NT.jE _ nI _ λk hk=>⟨[.val$ nI k, .val$ .tup [bI p0,bI p1,bI p2], .val$ .tup [bI q0,bI q1,bI q2]],rfl,eg (ak rfl rfl$ Dz$ QaI.mp hk) (ak rfl rfl$ Dz$ QaI.mp hk)$ Lc _ _,λ_=>rfl⟩
  have hb:b2 OP (aJ fP$ af (eNew$ b8 (cy$ eC$ .int 3) (aK 0) (b2 A1 (e2 cb (ai 1)$ ai 0)$ e2 cb (ai 2)$ ai 0) (ai 0) [(Str.ofString "k")] [2,3]) ax) (eC$ .int 1) [.val d1, .val d2, .val$ .tup [bI p0,bI p1,bI p2], .val$ .tup [bI q0,bI q1,bI q2]]= .ok (lst [p0,p1,p2] [q0,q1,q2]):=by
   refine eg (b:=nI 1) (ay (ao (bX hcmp) rfl)$ by rw[kr,Qaa]) rfl ?_
   cases p0 <;> cases p1 <;> cases p2 <;> cases q0 <;> cases q1 <;> cases q2 <;> rfl
  cases hl:lst [p0,p1,p2] [q0,q1,q2] with
  | true=>exact⟨_,qC (hb.trans$ by rw[hl])$ bZ rfl,rfl⟩
  | false=>exact⟨_,jI (hb.trans$ by rw[hl]) rfl,_,rfl,_,_,rfl⟩)
 rw[<-zp] at e1;have hfs:os.findSome? (λx=>if lst (cE ws x.2) (cE vs x.2) then some (D.bl true) else none)=if(os.any λx=>lst (cE ws x.2)$ cE vs x.2) then some (.bl true) else none:=by
  clear e1 h1 zp h3
  induction os with
  | nil=>rfl
  | cons x os ih=>
    rw[QbU,QbG];cases lst (cE ws x.2) (cE vs x.2) with
    | true=>rfl
    | false=>exact ih
 rw[hfs] at h1;cases ha:os.any λx=>lst (cE ws x.2) (cE vs x.2) with
 | true=>
   rw[ha] at h1;subst h1;exact cM$ NT.jl$ iG rfl e1
 | false=>
   rw[ha] at h1;obtain⟨du,rfl,a,b,rfl⟩:=h1;exact cM$ bA (iG rfl e1)$ bZ rfl
noncomputable def gp:Nat->Aae
 | 0=>[[]]
 | i+1=>(gp i).flatMap λb=>b ::(List.range 3).map λw=>b++[3*i+w]
def gg(b:List Nat):D:= .tup [nI b.length,cz b]
def yr(c:Nat):Aae:=[] ::(List.range' 1 c).flatMap λm=>rB 0 (3*c) m
def z7:∀c∈List.range 4,(gp c).length<=64/\∀b∈gp c,b.length<=c:=by decide+kernel
noncomputable def Be(b:List Nat):Int × List Int:=((b.length:Nat),b.map λ(n:Nat)=>(n:Int))
def Ly(b:List Nat):Sb (gg b)=some (Be b):=by
 show(ints?$ b.map nI).map _=_;have e:b.map nI=(b.map λ(n:Nat)=>(n:Int)).map D.int:=(QaL).symm
 rw[e,L2.ints_map];rfl
theorem xF:∀l:Aae,zf (l.map gg)=some (l.map Be)
 | []=>rfl
 | b ::l=>by
   show(Sb$ gg b).bind _=_;rw[Ly,xF l];rfl
def ord(c:Nat):Option (Array Nat):=EB$ (gp c).map Be
def LG:∀c∈[1,2],∃p∈ord c,(p.toList.map λi=>(gp c).getD i [])=yr c/\(p.toList.all λi=>decide$ i<((gp c).map Be).length)=true/\p.toList.length<64/\2<=(gp c).length/\(gp c).length<64:=by
 intro c hc;simp at hc;rcases hc with rfl | rfl
 .exact⟨#[0,1,2,3],by decide+kernel,by decide+kernel,by decide+kernel,by decide+kernel,by decide+kernel,by decide+kernel⟩
 .refine⟨(ord 2).getD #[],?_,by decide+kernel,by decide+kernel,by decide+kernel,by decide+kernel,by decide+kernel⟩
  have:(ord 2).isSome=true:=by decide+kernel
  cases q:ord 2 with
  | none=>rw [q] at this;cases this
  | some p=>exact rfl
def HJ{c:Nat}(hc:c=1\/c=2):vx [.lst$ (gp c).map gg]= .ok (.lst$ (yr c).map gg):=by
 obtain⟨p,p1,p2,p3,p4,p5,p6⟩:=LG c (by rcases hc with rfl | rfl <;> simp)
 have p1:EB ((gp c).map Be)=some p:=p1;show(match zf ((gp c).map gg) with | some ps=>R.aS (decide$ 2<=ps.length/\ps.length<64) (match EB ps with | some p=>R.aS (p.toList.all (λi=>decide$ i<ps.length) && decide (p.toList.length<64)) (R.ok$ D.lst$ p.toList.map λi=>((gp c).map gg).getD i D.cI) | none=>R.no) | none=>R.no)=_
 rw[xF];show R.aS (decide$ 2<=((gp c).map Be).length/\((gp c).map Be).length<64) (match EB ((gp c).map Be) with | some p=>R.aS (p.toList.all (λi=>decide$ i<((gp c).map Be).length) && decide (p.toList.length<64)) (R.ok$ D.lst$ p.toList.map λi=>((gp c).map gg).getD i D.cI) | none=>R.no)=_
 rw[cC _ (by rw[Qaa];exact⟨p5,p6⟩),p1]
 show R.aS (p.toList.all (λi=>decide$ i<((gp c).map Be).length) && decide (p.toList.length<64)) (R.ok$ D.lst$ p.toList.map λi=>((gp c).map gg).getD i D.cI)=_
 rw[p3,Qan p4];show R.ok (D.lst$ p.toList.map λi=>((gp c).map gg).getD i .cI)=_
 rw[<-p2,QaL];congr 2;refine Qca λi hi=>?_
 have hlt:=Qah$ Qa6.mp p3 i hi;rw[Qaa] at hlt;show((gp c).map gg).getD i .cI=gg ((gp c).getD i []);rw[Qak,Qaf,Qak,Qad hlt];rfl
def Vg(i j:Nat):Bool:=t5 (((gp 3).map Be).getD i (0,[]))$ ((gp 3).map Be).getD j (0,[])
def WH:(match SG.way? Vg with | some p=>decide ((p.toList.map λi=>(gp 3).getD i [])=yr 3) && p.toList.all (λi=>decide$ i<64) && decide (p.toList.length=64) | none=>false)=true:=by decide+kernel
def Wc:(gp 3).length=64:=by decide+kernel
def JD:pS [.lst$ (gp 3).map gg]= .ok (.lst$ (yr 3).map gg):=by
 have w:=WH;have hl:=Wc;have e1:vx [.lst$ (gp 3).map gg]= .no:=by
  show(match zf ((gp 3).map gg) with | some ps=>R.aS (decide$ 2<=ps.length/\ps.length<64) (match EB ps with | some p=>R.aS (p.toList.all (λi=>decide$ i<ps.length) && decide (p.toList.length<64)) (R.ok$ D.lst$ p.toList.map λi=>((gp 3).map gg).getD i D.cI) | none=>R.no) | none=>R.no)=_
  show R.aS (decide$ 2<=((gp 3).map Be).length/\((gp 3).map Be).length<64) _=_;rw[Qaa,hl];rfl
 have e2:y6 [.lst$ (gp 3).map gg]= .ok (.lst$ (yr 3).map gg):=by
  show(match zf ((gp 3).map gg) with | some ps=>R.aS (decide$ ps.length=64) (match SG.way? (λi j=>t5 (ps.getD i (0,[]))$ ps.getD j (0,[])) with | some p=>R.aS (p.toList.all (λi=>decide$ i<ps.length) && decide (p.toList.length=64)) (R.ok$ D.lst$ p.toList.map λi=>((gp 3).map gg).getD i .cI) | none=> .no) | none=> .no)=_
  show R.aS (decide$ ((gp 3).map Be).length=64) (match SG.way? Vg with | some p=>R.aS (p.toList.all (λi=>decide$ i<((gp 3).map Be).length) && decide (p.toList.length=64)) (R.ok$ D.lst$ p.toList.map λi=>((gp 3).map gg).getD i .cI) | none=> .no)=_
  rw[Qaa,hl];cases q:SG.way? Vg with
  | none=>rw [q] at w;cases w
  | some p=>
    rw[q] at w;rw[QaW,QaW] at w;obtain⟨⟨w1,w2⟩,w3⟩:=w;have w1:=Qah w1;show R.aS (p.toList.all (λi=>decide$ i<64) && decide (p.toList.length=64)) (R.ok$ D.lst$ p.toList.map λi=>((gp 3).map gg).getD i .cI)=_
    rw[w2,w3];show R.ok (D.lst$ p.toList.map λi=>((gp 3).map gg).getD i .cI)=_
    rw[<-w1,QaL];congr 2;refine Qca λi hi=>?_
    have hlt:=Qah$ Qa6.mp w2 i hi;show((gp 3).map gg).getD i .cI=gg ((gp 3).getD i []);rw[Qak,Qaf,Qak,Qad hlt];rfl
 unfold pS;rw[e1];exact e2
def Lx{c:Nat}(hc:1<=c)(h3:c<=3):pS [.lst$ (gp c).map gg]= .ok (.lst$ (yr c).map gg):=by
 by_cases h:c=3
 .subst h;exact JD
 .unfold pS;rw[HJ$ by omega]
def NF{a b:List D}(h:a.length+b.length<=sizeLine):lY (.lst a) (.lst b)= .ok (.lst$ a++b):=qk h
def Oz{c:Nat}(J0:1<=c)(WQ:c<=3):gu [nI c]= .ok (.lst$ (yr c).map gg):=by
 have hz:=Qam;refine cM (bA (cV rfl$ by simp [cP,jw]) ?_)
 obtain⟨c_,e1,a2,a3,a4,mW⟩:=gf (t:=aK 2) (body:=lI) (ds:=(List.range c).map nI)
  (λi δ=>∃a2 a3 a4,δ=[.val$ nI c, .val$ .lst$ (gp i).map cz,a2,a3,a4]) (δ:=[.val$ nI c, .val$ .lst$ (gp 0).map cz, .un, .un, .un]) ⟨_,_,_,rfl⟩ (by
    rintro i d δ hd ⟨a2,a3,a4,rfl⟩;obtain⟨i',Zg,rfl⟩:=NT.qF hd;obtain⟨hil,ei⟩:=Qae.mp Zg;rw[Qbd] at ei;subst ei;rw[Qap] at hil;obtain⟨b1,UW⟩:=z7 i (QaI.mpr$ by omega)
    rw[show aK 2 (nI i) [.val$ nI c, .val$ .lst$ (gp i).map cz,a2,a3,a4]= .ok [.val$ nI c, .val$ .lst$ (gp i).map cz, .val$ nI i,a3,a4] from rfl,R.aX]
    let F:Nat->Aae:=λj=>((gp i).take j).flatMap λb=>b ::(List.range 3).map λw=>b++[3*i+w]
    have hFl:∀j,(F j).length<=4*64:=λj=>by
     rw[QbJ];refine QaP (uJ (m:=4) λx hx=>?_) (by rw[Qaa,QaK];omega)
     obtain⟨b,_,rfl⟩:=QaZ.mp hx;simp
    obtain⟨du,je,c4,Gk⟩:=gf (t:=aK 4) (body:=lF)
     (λj δ=>∃c4,δ=[.val$ nI c, .val$ .lst$ (gp i).map cz, .val$ nI i, .val$ .lst$ (F j).map cz,c4]) (δ:=[.val$ nI c, .val$ .lst$ (gp i).map cz, .val$ nI i, .val$ .lst ([]:List D),a4]) ⟨a4,by simp [F]⟩ (by
       rintro j d δ hd ⟨c4,rfl⟩;obtain⟨b,hb,rfl⟩:=NT.qF hd;have hbl:=UW b$ QaD hb;have hFj:=hFl j;have hFs:F (j+1)=F j++(b ::(List.range 3).map λw=>b++[3*i+w]):=by
        show((gp i).take$ j+1).flatMap _=_;rw[QaN,hb,Qcb];simp [F]
       refine⟨[.val$ nI c, .val$ .lst$ (gp i).map cz, .val$ nI i, .val$ .lst$ (F$ j+1).map cz, .val$ cz b],?_,⟨_,rfl⟩⟩;rw[show aK 4 (cz b) [.val$ nI c, .val$ .lst$ (gp i).map cz, .val$ nI i, .val$ .lst$ (F j).map cz,c4]= .ok [.val$ nI c, .val$ .lst$ (gp i).map cz, .val$ nI i, .val$ .lst$ (F j).map cz, .val$ cz b] from rfl,R.aX,hFs]
       generalize F j=L at hFj;refine(cV (ak (a:= .lst$ (L++[b]).map cz) (b:= .lst$ ((List.range 3).map λw=>b++[3*i+w]).map cz) (ak rfl rfl$ (NF$ by rw[Qaa];simp;omega).trans$ by rw[QaH];rfl) (bX$ bM (gC (n:=3) rfl$ by omega) (by simp;omega) ?_) ?_) (by simp)).trans rfl
       .rw [show((List.range 3).map λw=>b++[3*i+w]).map cz=(List.range 3).map λw=>cz (b++[3*i+w]) from QaL]
        refine NT.bE nI _ λw hw=>⟨[.val$ nI w, .val$ nI i, .val$ cz b],rfl,rfl,ak rfl (bL (ao (ak (ak (a:=nI 3) rfl rfl$ MY$ .inr$ by omega) rfl$ fE _ _) rfl)$ by simp;omega) ?_⟩
        refine(GQ$ by rw[Qaa];simp;omega).trans ?_
        unfold cz;rw[QaH];rfl
       .refine(NF$ by rw[Qaa,Qaa,Qaa,Qau];simp;omega).trans ?_
        rw[<-QaH,QaR];rfl)
    refine⟨_,bA (cV rfl$ by simp)$ bA (iG rfl je)$ cV (d:= .lst$ (gp$ i+1).map cz) ?_ ?_,⟨.val$ nI i, .val$ .lst$ (gp$ i+1).map cz,c4,?_⟩⟩
    .rw [Gk,Qaa];show R.ok (D.lst$ (((gp i).take (gp i).length).flatMap _).map cz)=_;rw[QaX];rfl
    .rw [Gk];simp
    .rw [Gk,Qaa];show [_,_,_,Sl.val$ D.lst$ (((gp i).take (gp i).length).flatMap _).map cz,_].set 1 _=_;rw[QaX];rfl)
 refine bA (iG (gC rfl$ by omega) e1) ?_
 rw[Qaa,Qap] at mW;subst mW;obtain⟨b1,UW⟩:=z7 c (QaI.mpr$ by omega)
 refine bZ (ay (ao (bX$ bM rfl (by rw[Qaa];omega) ?_) rfl)$ Lx J0 WQ)
 exact NT.bE cz _ λb hb=>⟨[.val$ cz b],rfl,rfl,bL (ao (ay rfl$ by show R.ok (D.int ((b.map nI).length:Nat))=_;rw [Qaa];rfl) rfl) (by simp;omega)⟩
end K32
end
section
set_option maxHeartbeats 2000000
namespace K32
open PySem PySem.Spec PyProof.Rows L2 L3 MT JT
section
variable {c:Nat}{ins:Aac}{gs:List Gt}{os:Aad}{S:a_}
def tG(hc:ins.length=c)(h3:∀x∈ins,x.2=3){p:Nat}(hp:p<2 ^ c)(f:List Nat × List Nat):nJ ins gs (jc c p) (λi=>f.2.contains i) (λi=>f.1.contains i)=nL c gs f p:=by
 unfold nJ nL;rw[yZ h3$ by rw[ie hp,hc]]
def GF(a b c:Bool):HV (.tup [bI a,bI b,bI c]) (.lst [.tup [.int 0, .int 0, .int 0], .tup [.int 1, .int 1, .int 1]])= .ok (.bl$ z_ [a,b,c]):=by
 cases a <;> cases b <;> cases c <;> rfl
def VO(l:List Bool):fF 1 (.tup$ l.map bI):=fF.tup λd hd=>by obtain⟨b,_,rfl⟩:=QaZ.mp hd;exact fF.int _
def ne_nil{l:List (List Bool)}:A1 (.lst$ l.map λb=> .tup$ b.map bI) (.lst [])= .ok (.bl$ !l.isEmpty):=by
 have f1:fF 2 (.lst$ l.map λb=> .tup$ b.map bI):=fF.lst λd hd=>by obtain⟨b,_,rfl⟩:=QaZ.mp hd;exact VO b
 have f2:fF 2 (.lst []):=fF.lst λd hd=>by cases hd
 show(Gp (.lst _)$ .lst []).bind _=_;rw[O_,f1.pl,f2.pl,f1.sh (by omega),f2.sh$ by omega]
 cases l <;> rfl
def xl{p:Nat}(hp:p<2 ^ c){f:Nat->D}:cb (.lst$ (List.range$ 2 ^ c).map f) (nI p)= .ok (f p):=NT.gA (by rw[Qaf,QcT hp];rfl)
def WB(c:Nat)(gs:List Gt)(os:Aad)(p:Nat):D:= .lst$ iV os$ rT c gs p
abbrev dE(ins:Aac)(c:Nat)(gs:List Gt)(os:Aad)(a3 a4 a5 a6 a7:Option V3):DE:=[some$ .d$ cJ ins gs os,some$ .d$ .lst$ AS c,some$ .d$ .lst$ (List.range$ 2 ^ c).map$ WB c gs os,a3,a4,a5,a6,a7]
def EF{a4 a5 a6 a7:Option V3}{p:Nat}(hp:p<2 ^ c)(ho:∀x∈os,x.2.length=3)(hO:os.length<1000) :
 W3 (sU (dE ins c gs os (some$ .d$ nI p) a4 a5 a6 a7) S) λo S1=>S1=S/\(match (if wy c gs os p then some (V3.d$ sk$ some ([],[],p)) else none) with | some v=>o= .rt v | none=>∃du,o= .nx du/\∃b3,du=dE ins c gs os b3 a4 a5 a6 a7):=by
 have hz:=Qam
 let ws:=rT c gs p
 have hcmp:b8 (di$ e2 cb (ai 2)$ ai 3) (aK 0) (b2 HV (ai 0)$ eNew$ dy$ af (bz$ af (eC$ .int 0)$ af (eC$ .int 0)$ af (eC$ .int 0) ax)$ af (bz$ af (eC$ .int 1)$ af (eC$ .int 1)$ af (eC$ .int 1) ax) ax) (ai 0) [(Str.ofString "own")] [] (down$ dE ins c gs os (some$ .d$ nI p) a4 a5 a6 a7)= .ok ((((os.filter λx=>z_$ cE ws x.2).map λx=>cE ws x.2)).map λb=> .tup$ b.map bI):=by
  refine bM (ds:=os.map λx=> .tup$ (cE ws x.2).map bI) (gG$ ak rfl rfl$ xl hp) (by rw[Qaa];omega) ?_
  rw[QaL];refine NT.jE (λx:Str × List Nat=>z_$ cE ws x.2) (λx:Str × List Nat=> .tup$ (cE ws x.2).map bI) _ λx hx=>⟨[.val$ .tup$ (cE ws x.2).map bI],rfl,?_,λ_=>rfl⟩
  obtain⟨n0,n1,n2,ex⟩:=three$ ho x hx;rw[ex];exact eg rfl rfl$ GF _ _ _
 have hb:b2 A1 (eNew$ b8 (di$ e2 cb (ai 2)$ ai 3) (aK 0) (b2 HV (ai 0)$ eNew$ dy$ af (bz$ af (eC$ .int 0)$ af (eC$ .int 0)$ af (eC$ .int 0) ax)$ af (bz$ af (eC$ .int 1)$ af (eC$ .int 1)$ af (eC$ .int 1) ax) ax) (ai 0) [(Str.ofString "own")] []) (eNew$ dy ax) (down$ dE ins c gs os (some$ .d$ nI p) a4 a5 a6 a7)= .ok (wy c gs os p):=by
  refine eg (bX hcmp) rfl$ ne_nil.trans ?_;congr 2;show(!((os.filter λx=>z_$ cE ws x.2).map λx=>cE ws x.2).isEmpty)=os.any λx=>z_$ cE ws x.2
  rw[Qbq];simp only[List.isEmpty_map,Bool.not_eq_true',List.any_eq_true];constructor
  .intro h;cases hf:os.filter λx=>z_ (cE ws x.2) with
   | nil=>rw [hf] at h;cases h
   | cons x l=>
     have:x∈os.filter λx=>z_ (cE ws x.2):=by rw[hf];exact Qat
     obtain⟨h1,h2⟩:=Qbo.mp this;exact⟨x,h1,h2⟩
  .rintro⟨x,h1,h2⟩;have:x∈os.filter λx=>z_ (cE ws x.2):=Qbo.mpr ⟨h1,h2⟩
   cases hf:os.filter λx=>z_ (cE ws x.2) with
   | nil=>rw [hf] at this;cases this
   | cons x l=>rfl
 refine p9<|pO hb ?_
 cases hu:wy c gs os p with
 | true=>
   exact g9<|dt (bL rfl$ by simp;omega) ⟨rfl,rfl⟩
 | false=>
   exact f_ ⟨rfl,_,rfl,_,rfl⟩
def KC{a4:Option V3}{p:Nat}{f:List Nat × List Nat}(NO:qI ins gs os)(hc:ins.length=c)(h3:∀x∈ins,x.2=3)(hp:p<2 ^ c)(ho:∀x∈os,x.2.length=3)(hS:Flat S) :
 W3 (tJ (dE ins c gs os (some$ .d$ nI p) a4 (some$ .d$ cz f.1) (some$ .d$ cz f.2)$ some$ .d$ .lst$ (jc c p).map bI) S) λo S1=>S1=S/\(match (if mE c gs os f p then some (V3.d$ sk$ some (f.1,f.2,p)) else none) with | some v=>o= .rt v | none=>∃du,o= .nx du/\∃b3 b7,du=dE ins c gs os b3 a4 (some$ .d$ cz f.1) (some$ .d$ cz f.2) b7):=by
 have hz:=Qam;refine p9<|Dy<|ug<|aZ<|dt (ak rfl rfl$ xl hp)<|aZ<|fJ<|aZ<|dt rfl<|aZ<|dt rfl<|aZ<|dt rfl<|aZ<|dt rfl<|dH<|HH NO (by rw[ie hp,hc]) hS<|dH ⟨[WB c gs os p, .lst$ iV os$ nL c gs f p],_,by rw[tG hc h3 hp f];rfl,Jz ho,_,_,rfl,rfl,?_⟩
 show(if mE c gs os f p=true then W3 _ _ else W3 _ _)
 cases hu:mE c gs os f p with
 | true=>
   exact g9<|dt (bL rfl$ by simp;omega) ⟨rfl,rfl⟩
 | false=>
   exact f_ ⟨rfl,_,rfl,_,_,rfl⟩
def find_some{α β:Type}{l:List α}{p:α->Bool}{g:α->β}:l.findSome? (λx=>if p x then some (g x) else none)=(l.find? p).map g:=by
 induction l with
 | nil=>rfl
 | cons x l ih=>
   rw[QbU,QbO];cases p x with
   | true=>rfl
   | false=>exact ih
def LJ{a3 a4 a7:Option V3}{f:List Nat × List Nat}(NO:qI ins gs os)(hc:ins.length=c)(h3:∀x∈ins,x.2=3)(QL:c<=4)(ho:∀x∈os,x.2.length=3)(hS:Flat S) :
 W3 (s_ (dE ins c gs os a3 a4 (some$ .d$ cz f.1) (some$ .d$ cz f.2) a7) S) λo S1=>S1=S/\(match (mU c gs os f).map λr=>V3.d (sk$ some r) with | some v=>o= .rt v | none=>∃du,o= .nx du/\∃b3 b5 b6 b7,du=dE ins c gs os b3 a4 b5 b6 b7):=by
 have en:eR (AS c)=(List.range$ 2 ^ c).map λ(p:Nat)=>D.tup [nI p, .lst$ (jc c p).map bI]:=by
  unfold eR AS;refine List.ext_getElem? λi=>?_
  rw[Qaf,QbC,Qaf,Qaf];by_cases hi:i<2 ^ c
  .rw [QcT hi];simp [nI]
  .rw [QcB$ by rw[Qap];omega];rfl
 refine g_<|jT (ds:=(List.range$ 2 ^ c).map λ(p:Nat)=>D.tup [nI p, .lst$ (jc c p).map bI]) (by rw[<-en];exact Bm rfl) ?_
 rw[QaL];refine(jA (λp=>V3.d$ D.tup [nI p, .lst$ (jc c p).map bI]) (λp=>if mE c gs os f p then some (V3.d$ sk$ some (f.1,f.2,p)) else none) (λδ=>∃b3 b7,δ=dE ins c gs os b3 a4 (some$ .d$ cz f.1) (some$ .d$ cz f.2) b7) ⟨_,_,rfl⟩ ?_).mono λo S1 ⟨e1,h1⟩=>⟨e1,?_⟩
 .rintro p hp δ ⟨b3,b7,rfl⟩;exact⟨_,rfl,KC NO hc h3 (QaI.mp hp) ho hS⟩
 .rw [find_some] at h1;unfold mU;cases hh:(List.range$ 2 ^ c).find? (mE c gs os f) with
  | none=>
    rw[hh] at h1;obtain⟨du,e2,b3,b7,e3⟩:=h1;exact⟨du,e2,_,_,_,_,e3⟩
  | some p=>rw [hh] at h1;exact h1
def Jd(NO:qI ins gs os)(hc:ins.length=c)(J0:1<=c)(WQ:c<=3)(h3:∀x∈ins,x.2=3)(ho:∀x∈os,x.2.length=3)(hS:Flat S){Q:V3->a_->Prop}(h:Q (.d$ sk$ eY c gs os) S):W3 (pT [.d$ cJ ins gs os] S) Q:=by
 have hz:=Qam;have QL:c<=4:=by omega
 have hp2:2 ^ c<=16:=Qbt (by omega) QL
 have hgl:=NO.hg;refine mD hS.clo$ DX rfl ?_;simp only[df,oB,List.map,List.length,List.replicate,QaM,QaY,Nat.reduceAdd,Nat.reduceSub];refine bt<|bY (by simp)<|dt (ay (ao (ay rfl$ by rw[kr,Qaa,hc]) rfl)$ By QL) ⟨_,rfl,?_⟩
 refine bt<|bY (by simp)<|oA (λj ds S2=>S2=S/\ds=((List.range$ 2 ^ c).take j).map (WB c gs os))<|jT (gG rfl) ⟨by unfold AS;rw [Qaa,Qaa,Qap];omega,⟨rfl,rfl⟩,?_,?_⟩
 .rintro j v ds S2 hv ⟨rfl,rfl⟩;obtain⟨p,hp,rfl⟩:=NT.ia hv;have hJ:=QaI.mp$ QaD hp;refine⟨[some$ .d$ .lst$ (jc c p).map bI,some$ .d$ cJ ins gs os],rfl,D_ ?_⟩;refine fJ<|aZ<|dt rfl<|aZ<|dt rfl<|aZ<|dt (d:= .tup$ ([]:List Nat).map nI) rfl<|aZ<|dt (d:= .tup$ ([]:List Nat).map nI) rfl<|dH<|HH NO (by rw[ie hJ,hc]) hS ⟨_,rfl,rfl,?_⟩
  rw[QaN,hp,QaH,tG hc h3 hJ ([],[]),qT];rfl
 rintro ds S2 ⟨e1,rfl⟩;subst S2;have hlen:((AS c).map V3.d).length=2 ^ c:=by unfold AS;rw [Qaa,Qaa,Qap]
 rw[hlen,QaU$ by rw[Qap];exact Qai _]
 refine⟨_,rfl,?_⟩;refine Bk<|g_<|jT (gC (n:=2 ^ c) (ay rfl$ by rw[kr];unfold AS;rw [Qaa,Qap])$ by omega) ?_
 rw[QaL];refine(jA (V3.d ∘ nI) (λp=>if wy c gs os p then some (V3.d$ sk$ some ([],[],p)) else none) (λδ=>∃a3,δ=dE ins c gs os a3 none none none none) ⟨_,rfl⟩ ?_).mono λo S1 ⟨e1,h1⟩=>?_
 .rintro p hp δ ⟨a3,rfl⟩;refine⟨dE ins c gs os (some$ .d$ nI p) none none none none,rfl,?_⟩;exact EF (QaI.mp hp) ho NO.ho
 subst e1;rw[find_some] at h1;cases hu:(List.range$ 2 ^ c).find? (wy c gs os) with
 | some p=>
   rw[hu] at h1;subst h1;have hk:eY c gs os=some ([],[],p):=by unfold eY;rw [hu]
   rw[hk] at h;exact⟨_,rfl,rfl,⟨[],by simp⟩,_,rfl,h⟩
 | none=>
   rw[hu] at h1;obtain⟨du,rfl,a3,rfl⟩:=h1
   let G:List (List Nat × List Nat):=(gs.zipIdx.filter$ λx=>!x.1.2.2).map$ λx=>(([]:List Nat),[x.2])
   have hGl:G.length<=gs.length:=by
    rw[Qaa];have:=List.length_filter_le (λx:Gt × Nat=>!x.1.2.2) gs.zipIdx
    rwa [Qb0] at this
   refine bt<|bY (by simp)<|oA (λj ds S2=>S2=S1/\ds=(((gs.zipIdx.take j).filter$ λx=>!x.1.2.2).map$ λx=>(([]:List Nat),[x.2])).map iZ)<|jT (gC (ay rfl$ by rw[kr,Qaa])$ by omega) ⟨by rw[Qaa,Qaa,Qap];omega,⟨rfl,rfl⟩,?_,?_⟩
   .rintro j v ds S2 hv ⟨rfl,rfl⟩;obtain⟨j',Eh,rfl⟩:=NT.ia hv;obtain⟨hjl,ej⟩:=Qae.mp Eh;rw[Qbd] at ej;subst ej;rw[Qap] at hjl;have hgj:gs[j]? =some gs[j]:=Qad hjl;have hzj:gs.zipIdx[j]? =some (gs[j],j):=by rw[QbC,hgj];simp
    refine⟨[some$ .d$ nI j,some$ .d$ cJ ins gs os],rfl,pO (b:=!gs[j].2.2) ?_ ?_⟩
    .unfold qu pG;rw[show e2 cb (e2 cb (e2 cb (ai 1)$ eC$ .int 1)$ ai 0) (eC$ .int 2) (down [some$ V3.d$ nI j,some$ V3.d$ cJ ins gs os])= .ok (.bl gs[j].2.2) from ak (ak (ak rfl rfl rfl) rfl$ NT.gA$ by rw[Qaf,hgj];rfl) rfl rfl]
     rfl
    .rw [QaN,hzj,List.filter_append];cases hs:gs[j].2.2 with
     | false=>
       exact dt (d:=iZ ([],[j])) (bL (ao rfl$ ao (bL rfl$ by simp;omega) rfl)$ by simp;omega) ⟨_,rfl,rfl,by simp [hs]⟩
     | true=>
       exact⟨rfl,by simp [hs]⟩
   rintro ds S2 ⟨e1,rfl⟩;subst S2;rw[Qaa,Qaa,Qap,QaU$ by rw[Qb0];exact Qai _]
   refine⟨_,rfl,?_⟩;have hsl:(yr c).length<=64:=by rcases(show c=1\/c=2\/c=3 by omega) with rfl | rfl | rfl <;> decide+kernel
   have hadd:cW (.lst$ G.map iZ) (.lst$ ((yr c).map λB=>(B,([]:List Nat))).map iZ)= .ok (.lst$ (G++(yr c).map λB=>(B,([]:List Nat))).map iZ):=by
    have e1:(G.map iZ).length=G.length:=Qaa ..;have e2:(((yr c).map λB=>(B,([]:List Nat))).map iZ).length=(yr c).length:=by rw[Qaa,Qaa]
    refine(qk$ by omega).trans ?_
    exact Qbi (λz=>R.ok$ D.lst z) QaH.symm
   refine bt<|bY (by simp)<|dt (ak rfl (bX$ bM (gG$ ay (ao (ay rfl$ by rw[kr,Qaa,hc]) rfl)$ Oz J0 WQ) (by rw[Qaa];omega) ?_) hadd) ⟨_,rfl,?_⟩
   .rw [show((yr c).map λB=>(B,([]:List Nat))).map iZ=(yr c).map λB=>iZ (B,[]) from QaL]
    exact NT.bE gg _ λB hB=>⟨[.val$ nI B.length, .val$ cz B],rfl,rfl,bL rfl$ by simp;omega⟩
   refine Bk<|g_<|jT (gG rfl) ?_
   rw[QaL];refine(jA (V3.d ∘ iZ) (λf=>(mU c gs os f).map λr=>V3.d$ sk$ some r) (λδ=>∃b3 b5 b6 b7,δ=dE ins c gs os b3 (some$ .d$ .lst$ (G++(yr c).map λB=>(B,([]:List Nat))).map iZ) b5 b6 b7) ⟨_,_,_,_,rfl⟩ ?_).mono λo S1 ⟨e1,h1⟩=>?_
   .rintro f hf δ ⟨b3,b5,b6,b7,rfl⟩;exact⟨_,rfl,LJ NO hc h3 QL ho hS⟩
   .subst e1;have hk:eY c gs os=(G++(yr c).map λB=>(B,([]:List Nat))).findSome? (mU c gs os):=by
     unfold eY;rw[hu];show(G++(List.range' 1 c).flatMap λm=>(rB 0 (3*c) m).map λB=>(B,([]:List Nat))).findSome? (mU c gs os)=_
     have e0:mU c gs os ([],[])=none:=by
      have e9:(List.range$ 2 ^ c).find? (mE c gs os ([],[]))=none:=find_none.mpr λp hp=>Qn.mpr λx hx=>by rw[qT];exact IJ (by rw[Jb,ho x hx])
      unfold mU;rw[e9];rfl
     rw[List.findSome?_append,List.findSome?_append];congr 1;show _=(([] ::(List.range' 1 c).flatMap λm=>rB 0 (3*c) m).map λB=>(B,([]:List Nat))).findSome? (mU c gs os)
     rw[QaO,QbU,e0,List.map_flatMap]
    rw[hk] at h;have hfs:(G++(yr c).map λB=>(B,([]:List Nat))).findSome? (λf=>(mU c gs os f).map λr=>V3.d$ sk$ some r)=((G++(yr c).map λB=>(B,([]:List Nat))).findSome? (mU c gs os)).map λr=>V3.d (sk$ some r):=by
     rw[List.map_findSome?];rfl
    rw[hfs] at h1;cases htt:(G++(yr c).map λB=>(B,([]:List Nat))).findSome? (mU c gs os) with
    | none=>
      rw[htt] at h1 h;obtain⟨du,rfl,b3,b5,b6,b7,rfl⟩:=h1;exact g9<|dt rfl ⟨_,rfl,rfl,⟨[],by simp⟩,_,rfl,h⟩
    | some d=>
      rw[htt] at h1 h;subst h1;exact⟨_,rfl,rfl,⟨[],by simp⟩,_,rfl,h⟩
end
end K32
end
section
set_option maxHeartbeats 400000
namespace K32
open PySem PySem.Spec PyProof.Rows L2 L3 MT JT
def OG(r:Option (List Nat × List Nat × Nat)):∃ds,sk r= .tup ds/\fF 2 (sk r):=by
 have ft:∀l:List Nat,fF 1 (cz l):=λl=>fF.tup λd hd=>by obtain⟨n,_,rfl⟩:=QaZ.mp hd;exact fF.int _
 cases r with
 | none=>exact⟨_,rfl,(fF.tup λd hd=>by rw[Qa1.mp hd];exact fF.str (by decide+kernel):fF 1 (.tup [.str$ Str.ofString "keeps"])).mono (by omega)⟩
 | some q=>
   obtain⟨B,T,p⟩:=q;refine⟨_,rfl,(fF.tup λd hd=>?_:fF 2 (.tup [.str$ Str.ofString "loses",cz B,cz T,nI p]))⟩
   simp at hd;rcases hd with rfl | rfl | rfl | rfl
   .exact(fF.str$ by decide+kernel).mono (by omega)
   .exact ft B
   .exact ft T
   .exact(fF.int _).mono (by omega)
def K2(r:Option (List Nat × List Nat × Nat)):qv (sk r) (sk r)= .ok (.bl true)/\A1 (sk r) (sk r)= .ok (.bl false):=by
 obtain⟨ds,e,f⟩:=OG r;rw[e] at f ⊢;have:=f.eqT (by omega)
 exact⟨by show(Gp _ _).bind _=_;rw [this];rfl,by show(Gp _ _).bind _=_;rw [this];rfl⟩
def Jc{n:Nat}{i:Int}:cL (n+1) [.int i, .int i]= .ok (.bl true):=by
 have:cL (n+1) [.int i, .int i]= .ok (.bl$ decide$ i=i):=rfl;rw[this,Qan rfl]
def G6{n:Nat}:cL (n+1) [.str x, .str x]= .ok (.bl true):=by
 have:cL (n+1) [.str x, .str x]= .ok (.bl$ decide$ x=x):=rfl;rw[this,Qan rfl]
def B_{n:Nat}{ds:List D}(hl:ds.length<1000000)(h:∀x∈ds,cL n [x,x]= .ok (.bl true)):cL (n+1) [.tup ds, .tup ds]= .ok (.bl true):=by
 have hz:=Qam;have hf:(List.range ds.length).filter (λ_=>false)=[]:=List.filter_eq_nil_iff.mpr λa _=>by simp
 show qP jW (sS$ cL n) [.tup ds, .tup ds]=_;refine cM$ NT.jl$ qC rfl$ bA (jI ?_ rfl)$ bZ ?_
 .unfold Ur;have h1:qu (pG$ Hs "tuple"$ ai 0) (cP jW [.tup ds, .tup ds])= .ok false:=rfl;rw[h1,R.aX,QaA$ by decide]
  exact(eg rfl rfl$ V0 _ _).trans (by simp)
 .refine ak (bX$ bM (gC (ay rfl OQ)$ by omega) (by simp;omega)$ NT.jE (λ_=>false) nI nI λi hi=>⟨[.val$ nI i, .val$ .tup ds, .val$ .tup ds],rfl,?_,λh=>by cases h⟩) (bX$ jm rfl$ by show 0<=sizeLine;omega) (by rw[hf];rfl)
  have hi:=QaI.mp hi;have q:ds[i]? =some ds[i]:=Qad hi;unfold qu pG;rw[ay (ao (ak rfl rfl$ NT.yq q)$ ao (ak rfl rfl$ NT.yq q) rfl)$ h _$ Qbe hi];rfl
def Hc{r:Option (List Nat × List Nat × Nat)}(h:∀q∈r,q.1.length<1000/\q.2.1.length<1000):cL 4 [sk r,sk r]= .ok (.bl true):=by
 have tn:∀{n:Nat} {l:List Nat},l.length<1000->cL (n+2) [cz l,cz l]= .ok (.bl true):=fun {n l} hl=>B_ (by rw[Qaa];omega) λx hx=>by
  obtain⟨k,_,rfl⟩:=QaZ.mp hx;exact Jc
 cases r with
 | none=>exact B_ (by simp) λx hx=>by rw[Qa1.mp hx];exact G6
 | some q=>
   obtain⟨B,T,p⟩:=q;obtain⟨h1,h2⟩:=h _ rfl;refine B_ (by simp) λx hx=>?_
   simp at hx;rcases hx with rfl | rfl | rfl | rfl
   .exact G6
   .exact tn h1
   .exact tn h2
   .exact Jc
def Ll{f:FD}{fl fh:FO}{δ:av}{d:D}{lo hi:Option Int}{r:R D}(h:f δ= .ok d)(h1:fl δ= .ok lo)(h2:fh δ= .ok hi)(h3:UH d lo hi=r):Ld f fl fh δ=r:=by unfold Ld;rw [h,R.aX,h1,R.aX,h2,R.aX];exact h3
def WC{T:List Nat}{w:Nat}(hT:T.length=3)(hw:w=1\/w=2):UH (.tup$ T.map nI) none (some (w:Int))= .ok (.tup$ (T.take w).map nI):=by
 obtain⟨a,b,c,rfl⟩:=three hT;rcases hw with rfl | rfl <;> rfl
def U8{ds:List D}{k:Nat}(hk:k<=ds.length):N_ (.lst ds) none (some (k:Int))= .ok (.lst$ ds.take k):=by
 show R.ok (D.lst$ L2.cutD ds none$ some (k:Int))=_;unfold L2.cutD;rw[HT.uq,HT.AM,QbD hk];rfl
def WK{ds:List D}{k:Nat}(hk:k<=ds.length):N_ (.lst ds) (some (k:Int)) none= .ok (.lst$ ds.drop k):=by
 show R.ok (D.lst$ L2.cutD ds (some (k:Int)) none)=_;unfold L2.cutD;rw[HT.uq,HT.AM,QbD hk,QaU$ by rw[Qb5];omega]
noncomputable def WD:List Str:=[Str.ofString "a",Str.ofString "b",Str.ofString "c",Str.ofString "d",Str.ofString "e",Str.ofString "f"]
def VY{δ:av}{k:Nat}(hk:k<6)(h:ai 0 δ= .ok (nI k)):e2 cb (eC$ .str$ Str.ofString "abcdef") (ai 0) δ= .ok (.str$ WD.getD k Str.empty):=by
 have hz:=Qam
 match k,hk with
 | 0,_=>exact ak rfl h (jM (by rw[hz];decide) rfl)
 | 1,_=>exact ak rfl h (jM (by rw[hz];decide) rfl)
 | 2,_=>exact ak rfl h (jM (by rw[hz];decide) rfl)
 | 3,_=>exact ak rfl h (jM (by rw[hz];decide) rfl)
 | 4,_=>exact ak rfl h (jM (by rw[hz];decide) rfl)
 | 5,_=>exact ak rfl h (jM (by rw[hz];decide) rfl)
noncomputable def H_(ins:Aac)(os:Aad):Bool:=(ins.all λx=>decide$ x.2=3) && os.all λx=>decide$ x.2.length=3
def Tw(mn pl wd:Nat):Aac:=(List.range mn).map λk=>(WD.getD k Str.empty,if k=pl then wd else 3)
def Po{δ:av}{mn pl wd:Nat}(hm:mn<=6)(h5:ai 5 δ= .ok (nI mn))(hk:qb [(Str.ofString "k")] [2,6] δ=[.un, .val$ nI wd, .val$ nI pl]) :
 eNew (b8 (cy$ ai 5) (aK 0) f9 (bz$ af (e2 cb (eC$ .str$ Str.ofString "abcdef")$ ai 0)$ af (e2 cb (eNew$ dy$ af (eC$ .int 3)$ af (ai 1) ax)$ aJ rj$ af (e2 qv (ai 0)$ ai 2) ax) ax) [(Str.ofString "k")] [2,6]) δ= .ok (.lst$ (Tw mn pl wd).map MT.inD):=by
 have hz:=Qam;refine bX (bM (gC h5$ by omega) (by rw[Qaa,Qap];omega) ?_)
 rw[hk,show(Tw mn pl wd).map MT.inD=(List.range mn).map λk=>MT.inD (WD.getD k Str.empty,if k=pl then wd else 3) from QaL]
 refine NT.bE nI _ λk hk'=>⟨[.val$ nI k, .val$ nI wd, .val$ nI pl],rfl,rfl,bL (ao (VY (by have:=QaI.mp hk';omega) rfl)$ ao ?_ rfl)$ by simp;omega⟩
 refine ak (b:=nI$ if k=pl then 1 else 0) (bX$ jm rfl$ by simp;omega) (ay (ao (ak rfl rfl$ FY _ _) rfl) ?_) ?_
 .by_cases q:k=pl
  .rw [Qan q,QaG q];rfl
  .rw [Qax q,QaA q];rfl
 .by_cases q:k=pl
  .rw [QaG q,QaG q];rfl
  .rw [QaA q,QaA q];rfl
def Hj{c:Int}{ins:Aac}{gs:List Gt}{os:Aad}(MK:1<=os.length)(ho:os.length<=3)(h3:∀x∈os,x.2.length=3):∃(Bd:Aad) (ML:Aac),d7 [.int c,cJ ins gs os]= .ok (.lst [cJ ins gs Bd,cJ ML [] [(Str.ofString "o",[0,0,0])]])/\Bd.length<1000/\H_ ins Bd=false/\ML.length<1000/\H_ ML [(Str.ofString "o",[0,0,0])]=false:=by
 have hz:=Qam;obtain⟨wd,hwd⟩:∃w,1+stN c 400 % 2=w:=⟨_,rfl⟩;obtain⟨a,ha⟩:∃a,stN c 401 % os.length=a:=⟨_,rfl⟩;obtain⟨mn,hmn⟩:∃w,1+stN c 402 % 6=w:=⟨_,rfl⟩;obtain⟨pl,hJ⟩:∃w,stN c 403 % mn=w:=⟨_,rfl⟩;have hal:a<os.length:=by rw[<-ha];exact QbZ _ (by omega)
 have hpm:pl<mn:=by rw[<-hJ];exact QbZ _ (by omega)
 have hw12:wd=1\/wd=2:=by omega
 obtain⟨Bd,Q1⟩:∃Bd,os.take a++[(os[a].1,os[a].2.take wd)]++os.drop (a+1)=Bd:=⟨_,rfl⟩;have Gj:Bd.length<=10:=by rw[<-Q1];simp;omega
 have hat:cb (.lst$ os.map qi) (nI a)= .ok (qi os[a]):=NT.gA (by rw[Qaf,Qad hal];rfl)
 refine⟨Bd,Tw mn pl wd,?_,by omega,?_,by unfold Tw;rw [Qaa,Qap];omega,?_⟩
 .unfold d7 jD;refine cM (bA (cV ((ak rfl (ak (b:=nI 2) (ay rfl$ jy c 400) rfl$ gd$ by omega)$ fE _ _).trans$ by rw[hwd])$ by simp [cP,b_]) ?_)
  refine bA (cV ((ak (ay rfl$ jy c 401) (ay rfl$ by rw[kr,Qaa])$ gd$ by omega).trans$ by rw[ha])$ by simp [cP,b_]) ?_
  refine bA (cV (d:= .lst$ Bd.map qi) ?_$ by simp [cP,b_]) ?_
  .refine ak (a:= .lst$ (os.take a++[(os[a].1,os[a].2.take wd)]).map qi) (b:= .lst$ (os.drop$ a+1).map qi) (ak (a:= .lst$ (os.take a).map qi) (b:= .lst [qi (os[a].1,os[a].2.take wd)]) ?_ ?_ ?_) ?_ ?_
   .exact B9 rfl rfl (nA rfl) ((U8$ by rw[Qaa];omega).trans$ by rw[List.map_take])
   .refine bX (jm (ao (bL (ao (ak (ak rfl rfl hat) rfl rfl)$ ao (Ll (ak (ak rfl rfl hat) rfl rfl) rfl (nA rfl)$ WC (h3 _$ Qbe hal) hw12) rfl)$ by simp;omega) rfl)$ by simp;omega)
   .refine(qk$ by simp;omega).trans ?_
    rw[QaH];rfl
   .exact B9 rfl (nA$ ak (b:=nI 1) rfl rfl$ fE _ _) rfl ((WK$ by rw[Qaa];omega).trans$ by rw[List.map_drop])
   .refine(qk$ by simp;omega).trans ?_
    rw[<-Q1,QaH (l₁:=os.take a++_)]
  refine bA (cV ((ak rfl (ak (b:=nI 6) (ay rfl$ jy c 402) rfl$ gd$ by omega)$ fE _ _).trans$ by rw[hmn])$ by simp [cP,b_]) ?_
  refine bA (cV ((ak (ay rfl$ jy c 403) rfl$ gd$ by omega).trans$ by rw[hJ])$ by simp [cP,b_]) ?_
  refine bA (cV (Po (by omega) rfl rfl)$ by simp [cP,b_]) ?_
  refine bZ (bX$ jm (ao (bL (ao (ak rfl rfl rfl)$ ao (ak rfl rfl rfl)$ ao rfl rfl)$ by simp;omega)$ ao (bL (ao rfl$ ao (bX$ jm rfl$ by show 0<=sizeLine;omega) (ao (bX$ jm (ao (bL (ao rfl$ ao (bL rfl$ by simp;omega) rfl)$ by simp;omega) rfl)$ by simp;omega) rfl)) (by simp;omega)) rfl) (by simp;omega))
 .unfold H_;have:(Bd.all λx=>decide$ x.2.length=3)=false:=by
   rw[<-Q1,List.all_append,List.all_append,Qcv];have:decide ((os[a].2.take wd).length=3)=false:=Qax (by rw[QaK,h3 _$ Qbe hal];omega)
   rw[this];simp
  rw[this,Bool.and_false]
 .unfold H_;have:((Tw mn pl wd).all λx=>decide$ x.2=3)=false:=by
   rw[List.all_eq_false];exact⟨_,QcU$ QaI.mpr hpm,by rw[QaG rfl];simp;omega⟩
  rw[this,Bool.false_and]
noncomputable def wF:Aac:=[(Str.ofString "a",3),(Str.ofString "b",3),(Str.ofString "c",3)]
noncomputable def xg(k f:Nat):Gt:=(3,[3*k+f,3*k+(f+1) % 3],true)
def g3(c:Int):List Gt:=(List.range 3).map λk=>xg k$ stN c (410+k) % 3
noncomputable def g2:List Gt:=[(1,[9,10],true),(1,[11,12],true)]
noncomputable def Mh(w:Nat):Gt:=(4,[3*w,3*w+1,3*w+2],true)
noncomputable def UM:List Gt:=[(3,[14,13],true),(3,[13,14],true)]
def M6(c:Int):List Gt:=g3 c++g2++[Mh$ stN c 413 % 3]++UM
noncomputable def Kd:Aae:=[[15,16,14],[14,15,16],[16,14,15]]
def VU(c:Int):Aad:=[(Str.ofString "o",Kd.getD (stN c 414 % 3) [])]
def IX{k f n:Nat}(hf:f<3)(hn:3*k+3<=n):oK n (xg k f):=by
 refine⟨by show 3<=4;omega,rfl,λw hw=>?_⟩
 have hw:w∈[3*k+f,3*k+(f+1) % 3]:=hw;simp at hw;omega
def y_{kd a b n:Nat}(hk:kd=1\/kd=3)(ha:a<n)(hb:b<n):oK n (kd,[a,b],true):=by
 refine⟨by show kd<=4;omega,by rcases hk with rfl | rfl <;> rfl,λw hw=>?_⟩
 simp at hw;omega
def N6{w n:Nat}(h:3*w+3<=n):oK n (Mh w):=by
 refine⟨by show 4<=4;omega,rfl,λv hv=>?_⟩
 have hv:v∈[3*w,3*w+1,3*w+2]:=hv;simp at hv;omega
def M0:∀T∈Kd,T.length=3/\∀w∈T,w<17:=by decide+kernel
def Jq(c:Int):Ol wF (M6 c) (VU c):=by
 have m3:∀n,n % 3<3:=λn=>QbZ _ (by omega)
 have hT:Kd.getD (stN c 414 % 3) []∈Kd:=by
  have h:stN c 414 % 3<Kd.length:=m3 _;rw[Qak,Qad h];exact Qbe h
 have hw:zr wF=9:=rfl;have hl:(M6 c).length=8:=rfl;refine⟨⟨by show 3<100;omega,λx hx=>?_,by rw[hl];omega,λi x hx=>?_,by show 1<1000;omega,λx hx=>?_⟩,λx hx=>?_,λx hx=>?_⟩
 .unfold wF at hx;simp at hx;rcases hx with rfl | rfl | rfl <;> show 3<100 <;> omega
 .rw [hw];have hi:i<8:=by rw[<-hl];exact(Qae.mp hx).1
  match i,hi,hx with
  | 0,_,hx=>cases hx;exact IX (k:=0) (m3$ stN c 410) (by omega)
  | 1,_,hx=>cases hx;exact IX (k:=1) (m3$ stN c 411) (by omega)
  | 2,_,hx=>cases hx;exact IX (k:=2) (m3$ stN c 412) (by omega)
  | 3,_,hx=>cases hx;exact y_ (.inl rfl) (by omega) (by omega)
  | 4,_,hx=>cases hx;exact y_ (.inl rfl) (by omega) (by omega)
  | 5,_,hx=>cases hx;exact N6 (by have:=m3$ stN c 413;omega)
  | 6,_,hx=>cases hx;exact y_ (.inr rfl) (by omega) (by omega)
  | 7,_,hx=>cases hx;exact y_ (.inr rfl) (by omega) (by omega)
 .rw [Qa1.mp hx,hw,hl];obtain⟨h1,h2⟩:=M0 _ hT;exact⟨by show(Kd.getD _ []).length<1000;omega,λw hw=>by have:=h2 w hw;omega⟩
 .unfold wF at hx;simp at hx;rcases hx with rfl | rfl | rfl <;> rfl
 .rw [Qa1.mp hx];exact(M0 _ hT).1
section
variable {S:a_}{c:Int}
noncomputable abbrev M7(c:Int)(k:Nat)(a2 a3 a4 a5:Option V3):DE:=[some$ .d$ .int c,some$ .loc k,a2,a3,a4,a5]
def MH{k:Nat}{a3 a4 a5:Option V3}(hk:k<3):W3 (mK (M7 c S.length (some$ .d$ nI k) a3 a4 a5)$ S++[.lst$ ((g3 c).take k).map fK]) λo S2=>∃b3,o= .nx (M7 c S.length (some$ .d$ nI k) b3 a4 a5)/\S2=S++[SO.lst$ ((g3 c).take$ k+1).map fK]:=by
 have hz:=Qam;obtain⟨f,hf⟩:∃f,stN c (410+k) % 3=f:=⟨_,rfl⟩;have hg:(g3 c)[k]? =some (xg k f):=by
  unfold g3;rw[Qaf,QcT hk,<-hf];rfl
 have hl:((g3 c).take k).length<=3:=by rw[QaK];omega
 have e:((g3 c).take$ k+1).map fK=((g3 c).take k).map fK++[fK$ xg k f]:=by rw[QaN,hg,QaH];rfl
 rw[e];generalize (g3 c).take k=G at hl;refine bt<|bY (by simp)<|dt ((ak (b:=nI 3) (ay (ao rfl$ ao (ak rfl rfl$ fE _ _) rfl)$ jy c$ 410+k) rfl$ gd$ by omega).trans$ by rw[hf]) ⟨_,rfl,?_⟩
 refine o_ rfl ⟨_,aR _ _⟩ (dt (d:=fK$ xg k f) (bL (ds:=[.str$ Str.ofString "xor", .tup [nI$ 3*k+f,nI$ 3*k+(f+1) % 3], .bl true]) (ao rfl$ ao (bL (ao (ak (ak rfl rfl$ sQ k) rfl$ fE _ _)$ ao (ak (ak rfl rfl$ sQ k) (ak (b:=nI 3) (ak rfl rfl$ fE _ _) rfl$ gd$ by omega)$ fE _ _) rfl)$ by simp;omega) rfl)$ by simp;omega) ⟨_,_,rfl,aR _ _,by rw[Qaa];omega,_,rfl,?_⟩)
 rw[cZ]
def vm(hS:Flat S){Q:V3->a_->Prop}(h:Q (.d$ cJ wF (M6 c)$ VU c) S):W3 (jJ [.d$ .int c] S) Q:=by
 have hz:=Qam;refine mD hS.clo$ DX rfl ?_;simp only[df,iH,List.map,List.length,List.replicate,QaM,QaY,Nat.reduceAdd,Nat.reduceSub];refine bt<|bY (by simp)<|nc rfl ⟨_,rfl,?_⟩
 refine bt<|g_<|jT (gC (n:=3) rfl$ by omega) ?_
 refine(dc (λi δ S2=>∃a2 a3,δ=M7 c S.length a2 a3 none none/\S2=S++[SO.lst$ ((g3 c).take i).map fK]) ⟨_,_,rfl,rfl⟩ ?_).mono λo S2 ⟨du,je,a2,a3,vW,v7⟩=>⟨du,je,?_⟩
 .rintro i v δ S2 hv ⟨a2,a3,rfl,rfl⟩;obtain⟨j',Eh,rfl⟩:=NT.ia hv;obtain⟨hjl,ej⟩:=Qae.mp Eh;rw[Qbd] at ej;subst ej;refine⟨M7 c S.length (some$ .d$ nI i) a3 none none,rfl,?_⟩;exact(MH hjl).mono λo S2 ⟨b3,e1,e2⟩=>⟨_,e1,_,b3,rfl,e2⟩
 subst vW v7;have hl3:(g3 c).length=3:=rfl;rw[Qaa,Qaa,Qap,QaU$ by rw[hl3];omega]
 obtain⟨w,hw⟩:∃w,stN c 413 % 3=w:=⟨_,rfl⟩;refine bt<|bY (by simp)<|dt ((ak (b:=nI 3) (ay rfl$ jy c 413) rfl$ gd$ by omega).trans$ by rw[hw]) ⟨_,rfl,?_⟩
 have e2L:eNew (dy$ af (bz$ af (eC$ .str$ Str.ofString "and")$ af (bz$ af (eC$ .int 9)$ af (eC$ .int 10) ax)$ af (eC$ .bl true) ax)$ af (bz$ af (eC$ .str$ Str.ofString "and")$ af (bz$ af (eC$ .int 11)$ af (eC$ .int 12) ax)$ af (eC$ .bl true) ax) ax) (down$ M7 c S.length a2 a3 (some$ .d$ nI w) none)= .ok (.lst$ g2.map fK):=rfl;refine bt<|bY (by simp)<|M4<|w_var rfl<|dt e2L ⟨(g3 c).map fK,g2.map fK,by show dh _ _=_;unfold dh;rw [aR],rfl,by rw[Qaa,Qaa,hl3];show 5<=sizeLine;omega,_,rfl,?_⟩
 generalize hU:S++[SO.lst$ (g3 c).map fK]=U;have hg5:(g3 c).map fK++g2.map fK=(g3 c++g2).map fK:=QaH.symm;rw[hg5];refine bt<|o_ rfl ⟨_,aR _ _⟩ (dt (d:=fK$ Mh w) (bL (ds:=[.str$ Str.ofString "vote", .tup [nI$ 3*w,nI$ 3*w+1,nI$ 3*w+2], .bl true]) (ao rfl$ ao (bL (ao (ak rfl rfl$ sQ w)$ ao (ak (ak rfl rfl$ sQ w) rfl$ fE _ _)$ ao (ak (ak rfl rfl$ sQ w) rfl$ fE _ _) rfl)$ by simp;omega) rfl)$ by simp;omega) ⟨_,_,rfl,aR _ _,by rw[Qaa];show 5<sizeLine;omega,_,rfl,?_⟩)
 rw[cZ];have hg6:(g3 c++g2).map fK++[fK$ Mh w]=(g3 c++g2++[Mh w]).map fK:=by rw[QaH];rfl
 rw[hg6];have e3L:eNew (dy$ af (bz$ af (eC$ .str$ Str.ofString "xor")$ af (bz$ af (eC$ .int 14)$ af (eC$ .int 13) ax)$ af (eC$ .bl true) ax)$ af (bz$ af (eC$ .str$ Str.ofString "xor")$ af (bz$ af (eC$ .int 13)$ af (eC$ .int 14) ax)$ af (eC$ .bl true) ax) ax) (down$ M7 c U.length a2 a3 (some$ .d$ nI w) none)= .ok (.lst$ UM.map fK):=rfl;refine bt<|bY (by simp)<|M4<|w_var rfl<|dt e3L ⟨(g3 c++g2++[Mh w]).map fK,UM.map fK,by show dh _ _=_;unfold dh;rw [aR],rfl,by rw[Qaa,Qaa];show 8<=sizeLine;omega,_,rfl,?_⟩
 have hg8:(g3 c++g2++[Mh w]).map fK++UM.map fK=(M6 c).map fK:=by rw[<-QaH];unfold M6;rw [hw]
 rw[hg8];generalize hU2:U++[SO.lst$ (g3 c++g2++[Mh w]).map fK]=U2;have h3:stN c 414 % 3<Kd.length:=QbZ _ (by omega)
 obtain⟨T,hT⟩:∃T,Kd.getD (stN c 414 % 3) []=T:=⟨_,rfl⟩;have hT':Kd[stN c 414 % 3]? =some T:=by rw[<-hT,Qak,Qad h3];rfl
 have eL:eNew (dy$ af (bz$ af (eC$ .int 15)$ af (eC$ .int 16)$ af (eC$ .int 14) ax)$ af (bz$ af (eC$ .int 14)$ af (eC$ .int 15)$ af (eC$ .int 16) ax)$ af (bz$ af (eC$ .int 16)$ af (eC$ .int 14)$ af (eC$ .int 15) ax) ax) (down$ M7 c U2.length a2 a3 (some$ .d$ nI w) none)= .ok (.lst$ Kd.map gm):=rfl;refine bt<|bY (by simp)<|dt (ak eL (ak (b:=nI 3) (ay rfl$ jy c 414) rfl$ gd$ by omega)$ NT.gA$ by rw[Qaf,hT'];rfl) ⟨_,rfl,?_⟩
 have eI:dy (af (bz$ af (eC$ .str$ Str.ofString "a")$ af (eC$ .int 3) ax)$ af (bz$ af (eC$ .str$ Str.ofString "b")$ af (eC$ .int 3) ax)$ af (bz$ af (eC$ .str$ Str.ofString "c")$ af (eC$ .int 3) ax) ax) (down$ M7 c U2.length a2 a3 (some$ .d$ nI w)$ some$ .d$ gm T)= .ok (wF.map MT.inD):=rfl;refine g9<|JE<|aZ<|nc eI<|aZ<|w_var rfl<|aZ<|nc (jm (ao (bL rfl$ by simp;omega) rfl)$ by simp;omega)<|dH ⟨by simp;omega,_,rfl,?_⟩
 have Y7:U2=S++([SO.lst$ (g3 c).map fK]++[SO.lst$ (g3 c++g2++[Mh w]).map fK]):=by rw[<-hU2,<-hU,QaR]
 have hle:S.length<=U2.length:=by rw[Y7,Qau];omega
 generalize hX:U2++[SO.lst$ (M6 c).map fK]=X1;have lX:X1.length=U2.length+1:=by rw[<-hX,Qau];rfl
 have r1:∀(a b:SO),(X1++[a]++[b])[X1.length]? =some a:=λa b=>by
  rw[QaR,Qal$ Qai _,Qbl];rfl
 have r2:∀(a b:SO),(X1++[a]++[b])[U2.length]? =some (SO.lst$ (M6 c).map fK):=λa b=>by
  rw[QaR,Qaz (by omega),<-hX];exact aR _ _
 have r3:∀(a b:SO),(X1++[a]++[b])[(X1++[a]).length]? =some b:=λa b=>aR _ _
 refine⟨?_,⟨_,by rw[<-hX,Y7,QaR,QaR,QaR]⟩,cJ wF (M6 c)$ VU c,?_,h⟩
 .show(decide (S.length<=X1.length) && (decide (S.length<=U2.length) && (decide (S.length<=(X1++[SO.lst$ wF.map MT.inD]).length) && true)))=true;rw[Qan (by omega),Qan hle,Qan$ by rw[Qau];omega]
  rfl
 .show res (X1++[SO.lst$ wF.map MT.inD]++[SO.lst [qi (Str.ofString "o",T)]]) (.tup [.loc X1.length, .loc U2.length, .loc (X1++[SO.lst$ wF.map MT.inD]).length])=_;simp only[res,Al,r1,r2,r3];rw[<-hT];rfl
end
def O7{g:Gt}:fF 2 (fK g):=by
 refine fF.tup λx hx=>?_
 simp at hx;rcases hx with rfl | rfl | rfl
 .refine(fF.str ?_).mono (by omega)
  unfold kS;split <;> decide+kernel
 .exact fF.tup λd hd=>by obtain⟨z,_,rfl⟩:=QaZ.mp hd;exact fF.int _
 .exact(fF.bl _).mono (by omega)
def Qi{x:Str × List Nat}(h:fF 0 (.str x.1)):fF 2 (qi x):=fF.tup λd hd=>by
 simp at hd;rcases hd with rfl | rfl
 .exact h.mono (by omega)
 .exact fF.tup λd hd=>by obtain⟨z,_,rfl⟩:=QaZ.mp hd;exact fF.int _
def KP{l:Aac}{gs:List Gt}{os:Aad}(fi:∀x∈l,fF 0$ .str x.1)(fo:∀x∈os,fF 0$ .str x.1):fF 4 (cJ l gs os):=fF.tup λd hd=>by
 simp at hd;rcases hd with rfl | rfl | rfl
 .exact fF.lst λd hd=>by
   obtain⟨x,hx,rfl⟩:=QaZ.mp hd;exact(fF.tup λd hd=>by
    simp at hd;rcases hd with rfl | rfl
    .exact fi x hx
    .exact fF.int _).mono (by omega)
 .exact fF.lst λd hd=>by obtain⟨x,hx,rfl⟩:=QaZ.mp hd;exact O7
 .exact fF.lst λd hd=>by obtain⟨x,hx,rfl⟩:=QaZ.mp hd;exact Qi$ fo x hx
def OY{c:Nat}{gs:List Gt}{os:Aad}(hc:c<=4):∀q∈eY c gs os,q.1.length<1000/\q.2.1.length<1000:=by
 intro q hq;unfold eY at hq;split at hq
 .cases hq;exact⟨by show 0<1000;omega,by show 0<1000;omega⟩
 .obtain⟨f,hf,e⟩:=List.exists_of_findSome?_eq_some hq;obtain⟨p,_,rfl⟩:=Option.map_eq_some_iff.mp e;rcases Qbp.mp hf with h | h
  .obtain⟨x,_,rfl⟩:=QaZ.mp h;exact⟨by show 0<1000;omega,by show 1<1000;omega⟩
  .obtain⟨m,hm,h⟩:=List.mem_flatMap.mp h;obtain⟨B,hB,rfl⟩:=QaZ.mp h;have h1:=Jo hB;have h2:=QbY.mp hm;obtain⟨i,hi,rfl⟩:=h2;exact⟨by show B.length<1000;omega,by show 0<1000;omega⟩
def Ie:∀s∈(Bl.map (·.1))++qo,fF 0 (.str s):=λs hs=>fF.str (by
 have:∀s∈(Bl.map (·.1))++qo,(PyData.str s).canLay0=true:=by decide+kernel
 exact this s hs)
def Qh{m:Nat}{gs:List Gt}{os:Aad}(Ku:os.map (·.1)=qo.take os.length):A1 (cJ (jn m) gs os) (cJ (jn m) gs os)= .ok (.bl false):=by
 have f:fF 4 (cJ (jn m) gs os):=KP (λx hx=>Ie _$ Qb3 _$ QcU$ Qbs hx) (λx hx=>Ie _$ Qa2 _$ Qbs$ by rw[<-Ku];exact QcU hx)
 show(Gp (.tup _)$ .tup _).bind _=_;rw[show Gp (.tup [.lst$ (jn m).map MT.inD, .lst$ gs.map fK, .lst$ os.map qi]) (.tup [.lst$ (jn m).map MT.inD, .lst$ gs.map fK, .lst$ os.map qi])=_ from f.eqT (by omega)]
 rfl
noncomputable abbrev lE(ns:List Int)(c:Int)(a2 a3 a4 a5 a6:Option V3):DE:=[some$ .d$ .lst$ ns.map .int,some$ .d$ .int c,a2,a3,a4,a5,a6]
def Ic{ns:List Int}{c:Int}{a3 a4 a5 a6:Option V3}{ins:Aac}{gs:List Gt}{os:Aad}(hi:ins.length<1000)(ho:os.length<1000)(hw:H_ ins os=false) :
 W3 (Dw (lE ns c (some$ .d$ cJ ins gs os) a3 a4 a5 a6) []) λo S2=>o= .nx (lE ns c (some$ .d$ cJ ins gs os) a3 a4 a5 a6)/\S2=[]:=by
 refine p9<|w_not<|Dy<|fJ<|aZ<|dt rfl<|dH<|Cd hi ho hw (Flat.nil).clo ⟨_,true,rfl,rfl,?_⟩
 exact f_ ⟨rfl,rfl⟩
def Oo{ns:List Int}{c:Int}{a2 a6:Option V3}{m:Nat}{gs:List Gt}{os:Aad}(Q0:1<=m)(Gi:m<=2)(T:Ol (jn m) gs os)(Ku:os.map (·.1)=qo.take os.length) :
 W3 (Dx (lE ns c a2 (some$ .d$ cJ (jn m) gs os) (some$ .d$ sk$ eY m gs os) (some$ .d$ cJ (jn m) gs os) a6) []) λo S2=>o= .nx (lE ns c a2 (some$ .d$ cJ (jn m) gs os) (some$ .d$ sk$ eY m gs os) (some$ .d$ cJ (jn m) gs os) a6)/\S2=[]:=by
 have wa:=Qh (m:=m) (gs:=gs) Ku;have hal:=Hc (OY (c:=m) (gs:=gs) (os:=os)$ by omega)
 refine p9 ?_;refine W3.bind<|w_not<|Dy<|ug<|aZ<|fJ<|yg<|aZ<|dt rfl<|dH<|Ae T.N (lr Gi) (by omega) T.i3 T.o3 Flat.nil<|aZ<|dt rfl<|dH ⟨[sk$ eY m gs os,sk$ eY m gs os],_,rfl,hal,_,true,rfl,rfl,?_⟩
 refine pO (eg rfl rfl wa) ?_;exact f_ ⟨rfl,rfl⟩
def G_(ns:List Int)(hn:ns.length<=63):IC [.lst$ ns.map D.int]= .ok (.bl true):=by
 have hz:=Qam;have f0:Flat ([]:a_):=Flat.nil;have key:W3 (u9 sW xk [.d$ .lst$ ns.map .int] []) λv S1=>v= .d (.bl true)/\S1=[]:=by
  refine mD f0.clo$ DX rfl ?_;simp only[df,sW,List.map,List.length,List.replicate,QaM,QaY,Nat.reduceAdd,Nat.reduceSub];obtain⟨c,hc⟩:∃c,ns.getD 5 0=c:=⟨_,rfl⟩;refine bt<|bY (by simp)<|dt ((ay rfl$ Ea ns 5).trans$ by rw[hc]) ⟨_,rfl,?_⟩
  refine bt<|g_<|KD<|ug<|aZ<|dt rfl<|aZ<|fJ<|aZ<|dt rfl<|aZ<|dt rfl<|dH<|JL f0 λm gs os Q0 Gi T hg MK Zp Ku=>dH ?_
  obtain⟨Bd,ML,ew,l1,a1,l2,a2⟩:=Hj MK Zp T.o3;refine⟨[.int c,cJ (jn m) gs os],_,rfl,ew,_,rfl,?_⟩;have hil:(jn m).length<1000:=by rw[lr Gi];omega
  refine(dc (λi δ S2=>S2=[]/\∃x2,δ=lE ns c x2 none none none none) ⟨rfl,_,rfl⟩ ?_).mono λo S2 ⟨du,je,v7,x2,vW⟩=>⟨du,je,?_⟩
  .rintro i v δ S2 hv ⟨rfl,x2,rfl⟩
   match i,hv with
   | 0,hv=>
     cases hv;exact⟨_,rfl,(Ic hil l1 a1).mono λo S2 ⟨e1,e2⟩=>⟨_,e1,e2,_,rfl⟩⟩
   | 1,hv=>
     cases hv;exact⟨_,rfl,(Ic l2 (by decide) a2).mono λo S2 ⟨e1,e2⟩=>⟨_,e1,e2,_,rfl⟩⟩
  subst vW v7;refine bt$ W3.mono (Q:=λo S2=>o= .nx (lE ns c x2 none none none none)/\S2=[]) ?_ λo S2 ⟨e1,e2⟩=>⟨_,e1,?_⟩
  .have P:=Jq c;refine p9 ?_;refine W3.bind<|pO (eg (ak (b:=nI 4) (ay rfl$ jy c 415) rfl$ gd$ by omega) rfl$ FY _ _) ?_
   cases decide (stN c 415 % 4=1) with
   | false=>
     refine W3.ok ?_;exact f_ ⟨rfl,rfl⟩
   | true=>
     refine Vn<|fJ<|yg<|aZ<|fJ<|aZ<|dt rfl<|dH<|vm f0<|dH<|Ae (c:=3) P.N rfl (by omega) P.i3 P.o3 f0<|fJ<|aZ<|fJ<|aZ<|dt rfl<|dH<|vm f0<|dH<|Jd (c:=3) P.N rfl (by omega) (by omega) P.i3 P.o3 f0 ⟨_,_,false,rfl,rfl,(K2 _).2,?_⟩
     exact f_ ⟨rfl,rfl⟩
  obtain rfl:=e2.symm;refine bt<|bY (by simp)<|fJ<|aZ<|dt rfl<|aZ<|dt rfl<|dH<|JL f0 λm gs os Q0 Gi T hg MK Zp Ku=>⟨_,rfl,?_⟩
  refine bt<|bY (by simp)<|fJ<|aZ<|dt rfl<|dH<|Jd T.N (lr Gi) Q0 (by omega) T.i3 T.o3 f0 ⟨_,rfl,?_⟩
  refine bt<|bY (by simp)<|dt (bL (ao (ay rfl rfl)$ ao (ay rfl rfl)$ ao (ay rfl rfl) rfl)$ by simp;omega) ⟨_,rfl,?_⟩
  refine bt<|g_<|jT (gC (n:=2) rfl$ by omega) ?_
  refine(dc (λi δ S2=>S2=[]/\∃x6,δ=lE ns c x2 (some$ .d$ cJ (jn m) gs os) (some$ .d$ sk$ eY m gs os) (some$ .d$ cJ (jn m) gs os) x6) ⟨rfl,_,rfl⟩ ?_).mono λo S2 ⟨du,je,v7,x6,vW⟩=>⟨du,je,?_⟩
  .rintro i v δ S2 hv ⟨rfl,x6,rfl⟩;exact⟨_,rfl,(Oo Q0 Gi T Ku).mono λo S2 ⟨e1,e2⟩=>⟨_,e1,e2,_,rfl⟩⟩
  subst vW v7;exact g9<|dt rfl ⟨_,rfl,rfl,⟨[],rfl⟩,_,rfl,rfl,trivial⟩
 obtain⟨v,S1,e1,je,e3⟩:=key;show(match u9 sW xk ([D.lst$ ns.map D.int].map V3.d) [] with | .ok (.d d) []=>R.aS d.atom (R.ok d) | _=> .no)=_
 rw[show [D.lst$ ns.map D.int].map V3.d=[V3.d$ .lst$ ns.map .int] from rfl,e1,je,e3]
 rfl
end K32
end
open PySem PySem.W PyProof.Rows
set_option maxRecDepth 100000 in
set_option maxHeartbeats 0 in
theorem PySem.Challenge.cw_bearfaults_k32_keeps_or_loses_holds : PySem.Challenge.rw_bearfaults_k32_keeps_or_loses.Holds := by
 w_on;o_law;k_head;(case hw=>w_witness2)
 k_fill
 refine L2.Sy (l:=PySem.Challenge.rw_bearfaults_k32_keeps_or_loses) (n:=63) (k:=12) (x:="script") (g:=K32.IC) rfl (by decide) rfl ⟨rfl,by decide,by decide⟩ (fun w h Y=>PySem.W.kIn_of Y) ?F K32.G_
 case F=>
  intro w mg fa h KX G Uk
  have mw:L2.Def (L2.fD KX) mg "has_widths" K32.gL:=by
   dsimp only[L2.fD]
   refine' L2.cB KX G ?a ?l ?c ?k;case a|l|c|k=>k_is
  have sI:L2.Def (L2.fD KX) mg "vote_of" K32.lM:=by
   dsimp only[L2.fD]
   refine' L2.cB KX G ?a ?l ?c ?k;case a|l|c|k=>k_is
  have nW:L2.Def (L2.fD KX) mg "gate_mask" K32.iT:=by
   dsimp only[L2.fD]
   refine' L2.cB KX G ?a ?l ?c ?k;case a|l|c|k=>k_is
  have i9:L2.Def (L2.fD KX) mg "in_wire_masks" K32.er:=by
   dsimp only[L2.fD]
   refine' L2.cB KX G ?a ?l ?c ?k;case a|l|c|k=>k_is
  have qd:L2.Def (L2.fD KX) mg "masks_at" K32.jz:=by
   dsimp only[L2.fD]
   refine' L2.cB KX G ?a ?l ?c ?k;case a|l|c|k=>k_is
  have my:L2.Def (L2.fD KX) mg "wire_masks" K32.gq:=by
   dsimp only[L2.fD]
   refine' L2.cB KX G ?a ?l ?c ?k;case a|l|c|k=>k_is
  have n_:L2.Def (L2.fD KX) mg "out_masks" K32.iW:=by
   dsimp only[L2.fD]
   refine' L2.cB KX G ?a ?l ?c ?k;case a|l|c|k=>k_is
  have vY:L2.Def (L2.fD KX) mg "bit_at" K32.mY:=by
   dsimp only[L2.fD]
   refine' L2.cB KX G ?a ?l ?c ?k;case a|l|c|k=>k_is
  have mC:L2.Def (L2.fD KX) mg "all_inputs" K32.gI:=by
   dsimp only[L2.fD]
   refine' L2.cB KX G ?a ?l ?c ?k;case a|l|c|k=>k_is
  have sJ:L2.Def (L2.fD KX) mg "mask_of" K32.lL:=by
   dsimp only[L2.fD]
   refine' L2.cB KX G ?a ?l ?c ?k;case a|l|c|k=>k_is
  have sM:L2.Def (L2.fD KX) mg "in_mask" K32.lB:=by
   dsimp only[L2.fD]
   refine' L2.cB KX G ?a ?l ?c ?k;case a|l|c|k=>k_is
  have n5:L2.Def (L2.fD KX) mg "unlike_at" K32.i0:=by
   dsimp only[L2.fD]
   refine' L2.cB KX G ?a ?l ?c ?k;case a|l|c|k=>k_is
  have sC:L2.Def (L2.fD KX) mg "lost_at" K32.lQ:=by
   dsimp only[L2.fD]
   refine' L2.cB KX G ?a ?l ?c ?k;case a|l|c|k=>k_is
  have qh:L2.Def (L2.fD KX) mg "bad_sets" K32.jL:=by
   dsimp only[L2.fD]
   refine' L2.cB KX G ?a ?l ?c ?k;case a|l|c|k=>k_is
  have iy:L2.Def (L2.fD KX) mg "keeping_faults" K32.dW:=by
   dsimp only[L2.fD]
   refine' L2.cB KX G ?a ?l ?c ?k;case a|l|c|k=>k_is
  have zj:L2.Def (L2.fD KX) mg "keeps" K32.qB:=by
   dsimp only[L2.fD]
   refine' L2.cB KX G ?a ?l ?c ?k;case a|l|c|k=>k_is
  have kO:L2.Def (L2.fD KX) mg "_law_cell_at" K32.fS:=by
   dsimp only[L2.fD]
   refine' L2.cB KX G ?a ?l ?c ?k;case a|l|c|k=>k_is
  have qe:L2.Def (L2.fD KX) mg "_law_stir" K32.jF:=by
   dsimp only[L2.fD]
   refine' L2.cB KX G ?a ?l ?c ?k;case a|l|c|k=>k_is
  have sv:L2.Def (L2.fD KX) mg "_law_bit" K32.lK:=by
   dsimp only[L2.fD]
   refine' L2.cB KX G ?a ?l ?c ?k;case a|l|c|k=>k_is
  have sG:L2.Def (L2.fD KX) mg "_law_run" K32.lW:=by
   dsimp only[L2.fD]
   refine' L2.cB KX G ?a ?l ?c ?k;case a|l|c|k=>k_is
  have mB:L2.Def (L2.fD KX) mg "_law_inputs" K32.gE:=by
   dsimp only[L2.fD]
   refine' L2.cB KX G ?a ?l ?c ?k;case a|l|c|k=>k_is
  have og:L2.Def (L2.fD KX) mg "_law_votes" K32.iY:=by
   dsimp only[L2.fD]
   refine' L2.cB KX G ?a ?l ?c ?k;case a|l|c|k=>k_is
  have mm:L2.Def (L2.fD KX) mg "_law_copies" K32.gH:=by
   dsimp only[L2.fD]
   refine' L2.cB KX G ?a ?l ?c ?k;case a|l|c|k=>k_is
  have sx:L2.Def (L2.fD KX) mg "_law_net" K32.lH:=by
   dsimp only[L2.fD]
   refine' L2.cB KX G ?a ?l ?c ?k;case a|l|c|k=>k_is
  have gS:L2.Def (L2.fD KX) mg "_law_twice_wrong" K32.dI:=by
   dsimp only[L2.fD]
   refine' L2.cB KX G ?a ?l ?c ?k;case a|l|c|k=>k_is
  have jO:L2.Def (L2.fD KX) mg "_law_bad_sets" K32.eQ:=by
   dsimp only[L2.fD]
   refine' L2.cB KX G ?a ?l ?c ?k;case a|l|c|k=>k_is
  have sE:L2.Def (L2.fD KX) mg "_law_due" K32.lD:=by
   dsimp only[L2.fD]
   refine' L2.cB KX G ?a ?l ?c ?k;case a|l|c|k=>k_is
  have nX:L2.Def (L2.fD KX) mg "_law_alike" K32.iX:=by
   dsimp only[L2.fD]
   refine' L2.cB KX G ?a ?l ?c ?k;case a|l|c|k=>k_is
  have lh:L2.Def (L2.fD KX) mg "_law_refused" K32.fQ:=by
   dsimp only[L2.fD]
   refine' L2.cB KX G ?a ?l ?c ?k;case a|l|c|k=>k_is
  have gc:L2.Def (L2.fD KX) mg "_law_other_widths" K32.dm:=by
   dsimp only[L2.fD]
   refine' L2.cB KX G ?a ?l ?c ?k;case a|l|c|k=>k_is
  have ll:L2.Def (L2.fD KX) mg "_law_planted" K32.fT:=by
   dsimp only[L2.fD]
   refine' L2.cB KX G ?a ?l ?c ?k;case a|l|c|k=>k_is
  have D_law:L2.Def (L2.fD KX) mg "law" K32.Dm:=by
   dsimp only[L2.fD]
   refine' L2.cB KX G ?a ?l ?c ?k;case a|l|c|k=>k_is
  obtain⟨cl,CF⟩:∃cl,K32.Cf (L2.fD KX) mg cl:=by
   dsimp only[L2.fD]
   refine' K32.S6 KX G ?jXi ?jXG ?jW2 ?jW6 ?jXs ?jXm ?jW0 ?jCO ?jjP ?jzq ?joj ?jWR ?jWX ?jXh ?jXM ?jXS ?jXr ?jXp ?jXA ?jW4 ?jQR ?jQS ?jQ9 ?jQ3 ?jQI ?jQT ?jQ6 ?jQ2 ?jQQ ?jQY ?jQ7 ?jQZ ?jWZ ?jW8 ?jd_ ?jaG ?jeZ ?jn6 ?jd9 ?jkW ?jfM ?jqf ?jiB ?jiq ?jiC ?jdQ ?jiu ?jkY ?jlp ?jkZ ?jfV ?jiO ?jgZ ?jgP ?jgW ?jdF ?jeM
   (case jXi=>k_is)
   (case jXG=>k_is)
   (case jW2=>k_is)
   (case jW6=>k_is)
   (case jXs=>k_is)
   (case jXm=>k_is)
   (case jW0=>k_is)
   (case jCO=>k_is)
   (case jjP=>k_is)
   (case jzq=>k_is)
   (case joj=>k_is)
   (case jWR=>k_is)
   (case jWX=>k_is)
   (case jXh=>k_is)
   (case jXM=>k_is)
   (case jXS=>k_is)
   (case jXr=>k_is)
   (case jXp=>k_is)
   (case jXA=>k_is)
   (case jW4=>k_is)
   (case jQR=>k_is)
   (case jQS=>k_is)
   (case jQ9=>k_is)
   (case jQ3=>k_is)
   (case jQI=>k_is)
   (case jQT=>kernel_rfl)
   (case jQ6=>k_is)
   (case jQ2=>k_is)
   (case jQQ=>k_is)
   (case jQY=>k_is)
   (case jQ7=>k_is)
   (case jQZ=>kernel_rfl)
   (case jWZ=>k_is)
   (case jW8=>k_is)
   (case jd_=>kernel_rfl)
   (case jaG=>first | kit_is | kernel_rfl)
   (case jeZ=>first | kit_is | kernel_rfl)
   (case jn6=>first | kit_is | kernel_rfl)
   (case jd9=>first | kit_is | kernel_rfl)
   (case jkW=>first | kit_is | kernel_rfl)
   (case jfM=>first | kit_is | kernel_rfl)
   (case jqf=>first | kit_is | kernel_rfl)
   (case jiB=>k_is)
   (case jiq=>k_is)
   (case jiC=>k_is)
   (case jdQ=>k_is)
   (case jiu=>k_is)
   (case jkY=>k_is)
   (case jlp=>k_is)
   (case jkZ=>k_is)
   (case jfV=>k_is)
   (case jiO=>k_is)
   (case jgZ=>k_is)
   (case jgP=>k_is)
   (case jgW=>k_is)
   (case jdF=>k_is)
   (case jeM=>k_is)
  have dY:=CF.dY
  have fW:=CF.fW
  have dJ:=CF.dJ
  have T:K32.Tp (L2.fD KX) mg cl:=by
   dsimp only[L2.fD]
   refine' ⟨PySem.W.mg_none_of KX G ?jz_all,PySem.W.mg_none_of KX G ?jz_len,PySem.W.mg_none_of KX G ?jz_enumerate,PySem.W.mg_none_of KX G ?jz_range,PySem.W.mg_none_of KX G ?jz_tuple,PySem.W.mg_none_of KX G ?jz_reversed,PySem.W.mg_none_of KX G ?jz_zip,PySem.W.mg_none_of KX G ?jz_min,PySem.W.mg_none_of KX G ?jz_max,PySem.W.mg_none_of KX G ?jz_sum,PySem.W.mg_none_of KX G ?jz_int,PySem.W.mg_none_of KX G ?jz_sorted,PySem.W.mg_none_of KX G ?jz_isinstance,PySem.W.mg_none_of KX G ?jz_bool,PySem.W.mg_none_of KX G ?jz_str,PySem.W.mg_none_of KX G ?jz_ValueError,PySem.W.mg_none_of KX G ?jz_list,CF.C_Bench,CF.N_Bench_net,CF.N_Bench_many_inputs,CF.N_Bench_full,CF.N_Bench_in_masks,CF.M_Bench,CF.M_FaultError,CF.M_TooLong,CF.M_NoForm,CF.M_NoPlace,CF.M_Twice,CF.M_Full,CF.M_NoWire,CF.M_Open,CF.M_NotPlain,CF.M_NotThree,CF.M_NotSound,CF.M_NoFit,CF.M_NoShape,CF.M_NoneYet,CF.X_NotThree,CF.E_NotThree_FaultError,CF.J_NotThree_TooLong_NoForm_NoPlace_Twice_Full_NoWire_Open_NotPlain_NotSound_NoFit_NoShape,CF.I_NotThree_NotThree,CF.O_NotThree,CF.I_NotThree_ValueError,CF.O_ValueError,CF.I_NotThree_NoneYet,CF.O_NoneYet⟩
   (case jz_all=>k_is);(case jz_len=>k_is);(case jz_enumerate=>k_is);(case jz_range=>k_is);(case jz_tuple=>k_is);(case jz_reversed=>k_is);(case jz_zip=>k_is);(case jz_min=>k_is);(case jz_max=>k_is);(case jz_sum=>k_is);(case jz_int=>k_is);(case jz_sorted=>k_is);(case jz_isinstance=>k_is);(case jz_bool=>k_is);(case jz_str=>k_is);(case jz_ValueError=>k_is);(case jz_list=>k_is)
  obtain⟨fl,fd,Fl,hl⟩:=D_law
  have e0:=Uk.symm.trans hl
  cases e0
  refine' ⟨fd,?b,fun base kb nb=>K32.P8 T mw sI nW i9 qd my n_ vY mC sJ sM n5 sC qh iy dY fW dJ zj kO qe sv sG mB og mm sx gS jO sE nX lh gc ll Fl⟩
  obtain⟨_,_,_,_,_,_,_,_,_,e,_,_⟩:=Fl.ex
  subst e
  exact fun s u=> .of_eq rfl
