import PyProof.Rows.All
import Wide.All
import OpenK.AllK
import Wide.FinOn
import Lean
import PyProof.EqAt
import PyProof.EqKinds
import PyProof.TupleCall
import PyProof.Rows.StrJoin2
import PyProof.TupleOfGen
import PyProof.ListRange
import PyProof.Draws
import PyProof.Rows.StrClose3
import KE.KSortedM
import PyProof.Rows.SortWalk
import PyProof.WalkInts
import PyProof.Rows.Range3
import PyProof.ZipIter
import PyProof.ConsumeWalk
import PyProof.Rows.SeqMore
import KE.KRevIter
import KE.KRevSl
import KE.KUnpack
import KE.KDictSum
import KE.KTupSum
import KE.KSortTup
import KE.KDictOf
import OpenK.KRaise
import KE.KTryMore
import PyProof.ExcArgs
import PyProof.ExcBaseAll.ValueError
import PyProof.NsDelKeeps
import PyProof.AttrMissSeq
import PyProof.FString4
import PyProof.StrLawsRepr
import PyProof.Rows.StrSplitAre
import PyProof.Rows.StrNews2
import PyProof.StrLawsChain
import PyProof.StrLawsTight
import PyProof.Rows.StrJoinRep
import PyProof.Rows.StrMul
import PySem.Challenge.RW_bearfaults_k07_whole_shown_read_again
noncomputable section
set_option bootstrap.genMatcherCode false
section
open PySem
abbrev YB:=List (Addr×Obj)
abbrev YC:=Value->Shared->Prop
abbrev YD:=List (Str×Nat)
abbrev YE:=List (Str×List Nat)
abbrev YF:=List (List Nat)
abbrev YG:=Str->Option Value
abbrev YH:=Nat->Addr
end
def PySem.W.Fast.tw10088564109219083184:=0
def PySem.W.Fast.tw15392669139529254303:=0
def PySem.W.Fast.tw4960453631447303253:=0
def PySem.W.Fast.tw12877339056379626321:=0
def PySem.W.Fast.tw6833782718342425876:=0
def PySem.W.Fast.tw7641449108261988757:=0
def PySem.W.Fast.tw7893205962391953822:=0
def PySem.W.Fast.tw17176578788925484188:=0
def PySem.W.Fast.tw4269132255590557346:=0
def PySem.W.Fast.tw18112260927932508686:=0
def PySem.W.Fast.tw4899043909987501229:=0
def PySem.W.Fast.tw5165300053995397983:=0
def PySem.W.Fast.tw4095214564374758502:=0
def PySem.W.Fast.tw7698406543516261911:=0
def PySem.W.Fast.tw12670487125896956750:=0
def PySem.W.Fast.tw12080202646210907535:=0
def PySem.W.Fast.tw1304899705604484661:=0
def PySem.W.Fast.tw7861967734328561958:=0
def PySem.W.Fast.tw10950338990904230190:=0
def PySem.W.Fast.tw6191129889463799550:=0
def PySem.W.Fast.tw9393645883528079895:=0
def PySem.W.Fast.tw7173733825716720127:=0
def PySem.W.Fast.tw4169233922709138355:=0
def PySem.W.Fast.tw17862356101167466125:=0
def PySem.W.Fast.tw2277148508265953084:=0
def PySem.W.Fast.tw1391066885749794911:=0
def PySem.W.Fast.tw7984566241717388017:=0
def PySem.W.Fast.tw11743659689105744283:=0
def PySem.W.Fast.tw10066007216518286555:=0
def PySem.W.Fast.tw7290008550385413180:=0
def PySem.W.Fast.tw16294537139068458212:=0
def PySem.W.Fast.tw2903150364973366058:=0
def PySem.W.Fast.tw7890800851775518727:=0
def PySem.W.Fast.tw17535947131039237044:=0
def PySem.W.Fast.tw5787805661330912904:=0
def PySem.W.Fast.tw4669413238394418052:=0
def PySem.W.Fast.tw6017980671132271013:=0
def PySem.W.Fast.tw1724138507787292183:=0
def PySem.W.Fast.tw3031459248684719941:=0
def PySem.W.Fast.tw17810697809261949939:=0
set_option Elab.async false
set_option linter.all false
set_option maxRecDepth 100000
set_option maxHeartbeats 4000000
section
namespace L2
open PySem PySem.Spec PyProof.Rows
abbrev Key:=Sum Int Str
def tP:Key->Value->Bool
 | .inl k,v=>Value.isInt k v
 | .inr x,v=>Value.isStrOf x v
def Q6(w:World):Key->Int
 | .inl k=>hashInt k
 | .inr x=>hashStr w x
theorem c0:∀{k:Key} {v:Value},tP k v=true->(∃i t,k=Sum.inl i/\v=Value.int i t)\/(∃x t,k=Sum.inr x/\v=Value.str x t)
 | .inl i,v,h=>by
   obtain⟨t,e⟩:=Value.isInt_shape (k:=i) (v:=v) h;exact .inl ⟨i,t,rfl,e⟩
 | .inr x,v,h=>by
   obtain⟨t,e⟩:=Value.isStrOf_shape (x:=x) (v:=v) h;exact .inr ⟨x,t,rfl,e⟩
theorem BE(i:Int)(t:Tok):tP (.inl i) (.int i t)=true:=by simp [tP,Value.isInt]
theorem Be(x:Str)(t:Tok):tP (.inr x) (.str x t)=true:=by simp [tP,Value.isStrOf]
theorem Ks(a b:Int):decide ((Sum.inl a:Key)=Sum.inl b)=(a==b):=by
 by_cases e:a=b
 .subst e;simp
 .have h:¬(Sum.inl a:Key)=Sum.inl b:=fun q=>e (Sum.inl.inj q)
  rw[decide_eq_false h];exact(beq_eq_false_iff_ne.mpr e).symm
theorem JG(a b:Str):decide ((Sum.inr a:Key)=Sum.inr b)=decide (a=b):=by
 by_cases e:a=b
 .subst e;simp
 .have h:¬(Sum.inr a:Key)=Sum.inr b:=fun q=>e (Sum.inr.inj q)
  rw[decide_eq_false h,decide_eq_false e]
theorem K4(a:Int)(b:Str):decide ((Sum.inl a:Key)=Sum.inr b)=false:=decide_eq_false (fun q=>nomatch q)
theorem K7(a:Str)(b:Int):decide ((Sum.inr a:Key)=Sum.inl b)=false:=decide_eq_false (fun q=>nomatch q)
def cN(prog:Program)(w:World):PySem.KeyKind prog w Key where
 is:=tP
 hash:=Q6 w
 inj:=fun v a b ha hb=>by
  rcases c0 ha with⟨i,t,rfl,rfl⟩ | ⟨x,t,rfl,rfl⟩
  .rcases c0 hb with⟨j,u,rfl,e⟩ | ⟨y,u,rfl,e⟩
   .injection e with e1 _;rw [e1]
   .exact nomatch e
  .rcases c0 hb with⟨j,u,rfl,e⟩ | ⟨y,u,rfl,e⟩
   .exact nomatch e
   .injection e with e1 _;rw [e1]
 byValue:=fun k v h=>by
  rcases c0 h with⟨i,t,rfl,rfl⟩ | ⟨x,t,rfl,rfl⟩ <;> rfl
 pyHash:=fun hv h=>by
  rcases c0 hv with⟨i,t,rfl,rfl⟩ | ⟨x,t,rfl,rfl⟩
  .exact wpAny_pyHash_int h
  .exact wpAny_pyHash_str h
 eqBool:=fun hu hv h=>by
  rcases c0 hu with⟨i,t,rfl,rfl⟩ | ⟨x,t,rfl,rfl⟩
  .rcases c0 hv with⟨j,u,rfl,rfl⟩ | ⟨y,u,rfl,rfl⟩
   .rw [Ks] at h;exact wpAny_eqBool_int h
   .rw [K4] at h;exact SeqAt.EqAt.int_str i t y u _ _ _ _ h
  .rcases c0 hv with⟨j,u,rfl,rfl⟩ | ⟨y,u,rfl,rfl⟩
   .rw [K7] at h;exact SeqAt.EqAt.str_int x t j u _ _ _ _ h
   .rw [JG] at h;exact wpAny_eqBool_str h
 «strs»:=fun k x t v h=>by
  rcases c0 h with⟨i,u,rfl,e⟩ | ⟨y,u,rfl,e⟩
  .exact nomatch e
  .injection e with e1 _
   subst e1;cases v <;> rfl
theorem xA(prog:Program)(w:World)(i:Int)(t:Tok):(cN prog w).is (.inl i) (.int i t)=true:=BE i t
theorem l8(prog:Program)(w:World)(x:Str)(t:Tok):(cN prog w).is (.inr x) (.str x t)=true:=Be x t
inductive V where
 | cJ | bl (b:Bool) | int (i:Int) | str (x:Str) | byt (b:Array UInt8) | flt (b:UInt64) | ref (a:Addr) | ty (n:String)
 deriving DecidableEq
def RelV:V->Value->Prop
 | .cJ,u=>u=Value.none
 | .bl b,u=>u=Value.bool b
 | .int i,u=>∃t,u=Value.int i t
 | .str x,u=>∃t,u=Value.str x t
 | .byt b,u=>∃t,u=Value.bytes b t
 | .flt b,u=>∃t,u=Value.float b t
 | .ref a,u=>u=Value.ref a
 | .ty n,u=>u=Value.type n
abbrev Vals:List V->List Value->Prop:=Paired RelV
theorem Vals.length{xs:List V}{us:List Value}(r:Vals xs us):xs.length=us.length:=Paired.length r
theorem Vals.get:∀{xs:List V} {us:List Value} {i:Nat} {x:V},Vals xs us->xs[i]? =some x->∃u,us[i]? =some u/\RelV x u
 | _,_,_,_, .nil,e=>by simp at e
 | _,_,0,_, .cons r _,e=>by simp at e;subst e;exact⟨_,rfl,r⟩
 | _,_,i+1,x, .cons _ t,e=>by
   obtain⟨u,h1,h2⟩:=Vals.get (i:=i) (x:=x) t (by simpa using e)
   exact⟨u,by simpa using h1,h2⟩
theorem Vals.set{x:V}{u:Value}(r:RelV x u):∀{xs:List V} {us:List Value} (i:Nat),Vals xs us->Vals (xs.set i x) (us.set i u)
 | _,_,_, .nil=> .nil
 | _,_,0, .cons _ t=> .cons r t
 | _,_,i+1, .cons q t=> .cons q (Vals.set r i t)
theorem Vals.append:∀{xs ys:List V} {us ws:List Value},Vals xs us->Vals ys ws->Vals (xs++ys) (us++ws)
 | _,_,_,_, .nil,s=>s
 | _,_,_,_, .cons r t,s=> .cons r (Vals.append t s)
theorem Vals.take:∀{xs:List V} {us:List Value} (n:Nat),Vals xs us->Vals (xs.take n) (us.take n)
 | _,_,0,_=> .nil
 | _,_,_+1, .nil=> .nil
 | _,_,n+1, .cons r t=> .cons r (Vals.take n t)
theorem Vals.drop:∀{xs:List V} {us:List Value} (n:Nat),Vals xs us->Vals (xs.drop n) (us.drop n)
 | _,_,0,r=>r
 | _,_,_+1, .nil=> .nil
 | _,_,n+1, .cons _ t=>Vals.drop n t
def kx:Option V->Option Value->Prop
 | some v,some u=>RelV v u
 | none,none=>True
 | _,_=>False
def KV{κ:Type}:List (κ × V)->List (κ × Value)->Prop:=Paired fun(p:κ × V) (q:κ × Value)=>p.1=q.1/\RelV p.2 q.2
def kV:Key->V
 | .inl i=> .int i
 | .inr x=> .str x
inductive HO where
 | lst (xs:List V)
 | tup (xs:List V)
 | dK (ay:List (Key × V)) | dT (ay:List (List Key × V))
 | set (S:Int->Bool) (n:Nat)
 | ins (C dx:Addr) (fs:List (Str × V))
 | own (x:Addr)
 | xd (fs:List (Str × V))
 | met (f x:Addr)
 | rng (lo hi:Int)
 | ky (o:Obj) (u:HO)
 | tbl (ps:Array Value)
 | ext (φ:Heap->Prop)
abbrev Hp:=Addr->Option HO
def upd(H:Hp)(a:Addr)(o:HO):Hp:=fun b=>if b=a then some o else H b
theorem aX{a:Addr}{o:HO}:upd H a o a=some o:=by unfold upd;rw [if_pos rfl]
theorem bj{H:Hp}{a b:Addr}{o:HO}(h:b≠a):upd H a o b=H b:=by unfold upd;rw [if_neg h]
theorem A7{a:Addr}{o u:HO}:upd (upd H a o) a u=upd H a u:=by
 funext b;unfold upd;split <;> rfl
theorem NQ{H:Hp}{a b:Addr}{o u:HO}(h:H a=some o)(h':H b=some u)(d:o≠u):a≠b:=by
 intro e;subst e;rw [h] at h';exact d (Option.some.inj h')
theorem cc{H:Hp}{a b:Addr}{o:HO}(h:H a=some o)(h':H b=none):a≠b:=by
 intro e;subst e;rw [h] at h';cases h'
section
variable (P:Program) (w:World)
def dJ(H:Hp)(h:Heap)(a:Addr):HO->Prop
 | .lst xs=>xs.length<=sizeLine/\∃(its:List Value) (n:Nat),Vals xs its/\h.get? a=some {cls:= .type "list",data:= .seq its.toArray n}
 | .tup xs=>xs.length<=sizeLine/\∃its:List Value,Vals xs its/\IsTup h a its.toArray
 | .dK ay=>ay.length<=sizeLine/\(a==sysModules)=false/\∃vs,KV ay vs/\h.DictOf (cN P w) a vs
 | .dT ay=>ay.length<=sizeLine/\(a==sysModules)=false/\∃xs:List (List Key × Addr × Value),
    Paired (fun(p:List Key × V) (q:List Key × Addr × Value)=>p.1=q.1/\H q.2.1=some (.tup (p.1.map kV))/\RelV p.2 q.2.2) ay xs/\
    ∃o es ep,h.get? a=some o/\o.ExactDict/\o.data= .dict es ep/\es.toList=xs.map (entryOfKey (tupleKind (cN P w)))/\(xs.map (·.1)).Nodup
 | .set S n=>h.SetOf (intKind P w) a S n
 | .ins C dx fs=>H dx=some (.own a)/\fs.length<=1000/\dx≠a/\h.get? a=some (PySem.W.instObj C dx)/\
    ∃mA,h.Ns1 dx mA/\(∀f,kx (fs.lookup f) (mA f))/\PySem.Within mA (fs.map (·.1))
 | .own _=>∃o,h.get? a=some o
 | .xd fs=>∃mA,h.Ns1 a mA/\∀f,kx (fs.lookup f) (mA f)
 | .rng lo hi=>∃t u v,h.get? a=some {cls:= .type "range",data:= .fields #[.int lo t, .int hi u, .int 1 v]}
 | .ky o u=>h.get? a=some o/\dJ H h a u
 | .tbl ps=>h.get? a=some {cls:= .none,data:= .fields ps}
 | .met f x=>h.get? a=some (PySem.W.methodObj (.ref f) (.ref x))
 | .ext φ=>φ h/\(∃o,h.get? a=some o)/\∀h1 h2:Heap,φ h1->(∀o,h1.get? a=some o->h2.get? a=some o)->φ h2
def mM(H:Hp)(h:Heap):Prop:=∀a o,H a=some o->dJ P w H h a o
end
section
variable {P:Program} {w:World} {H H':Hp} {h h':Heap} {a:Addr} {o:HO}
theorem dJ.lt(x:dJ P w H h a o):a < h.objs.size:=by
 cases o with
 | lst xs=>obtain⟨_,_,_,_,e⟩:=x;exact Heap.lt_size e
 | tup xs=>obtain⟨_,_,_,p⟩:=x;exact p.lt
 | dK ay=>obtain⟨_,_,_,_,o,_,_,e,_⟩:=x;exact Heap.lt_size e
 | dT ay=>obtain⟨_,_,_,_,o,_,_,e,_⟩:=x;exact Heap.lt_size e
 | set S n=>obtain⟨o,_,_,_,e,_⟩:=x;exact Heap.lt_size e
 | ins C dx fs=>obtain⟨_,_,_,e,_⟩:=x;exact Heap.lt_size e
 | own y=>obtain⟨_,e⟩:=x;exact Heap.lt_size e
 | xd fs=>obtain⟨_,⟨_,_,_,e,_⟩,_⟩:=x;exact Heap.lt_size e
 | rng lo hi=>obtain⟨_,_,_,e⟩:=x;exact Heap.lt_size e
 | ky ob u=>obtain⟨e,_⟩:=x;exact Heap.lt_size e
 | tbl ps=>exact Heap.lt_size (show h.get? a=some _ from x)
 | met f y=>exact Heap.lt_size (show h.get? a=some _ from x)
 | ext φ=>obtain⟨_,⟨_,e⟩,_⟩:=x;exact Heap.lt_size e
theorem Paired.K3{α β:Type}{F G:α->β->Prop}:∀{l₁:List α} {OA:List β},Paired F l₁ OA->(∀a b,F a b->G a b)->Paired G l₁ OA
 | _,_, .nil,_=> .nil
 | _,_, .cons r t,f=> .cons (f _ _ r) (Paired.K3 t f)
theorem dJ.yj(x:dJ P w H h a o)(k:∀b u,(b=a\/H b=some (.own a))->h.get? b=some u->h'.get? b=some u)
 (ho:∀b,H b=some (.own a)->H' b=some (.own a)) (ht:∀b xs,H b=some (.tup xs)->H' b=some (.tup xs)):dJ P w H' h' a o:=by
 induction o with
 | lst xs=>obtain⟨z,its,n,r,e⟩:=x;exact⟨z,its,n,r,k _ _ (.inl rfl) e⟩
 | tup xs=>obtain⟨z,its,r,ob,e,c⟩:=x;exact⟨z,its,r,ob,k _ _ (.inl rfl) e,c⟩
 | dK ay=>obtain⟨z,y,vs,r,ob,es,ep,e,c⟩:=x;exact⟨z,y,vs,r,ob,es,ep,k _ _ (.inl rfl) e,c⟩
 | dT ay=>
   obtain⟨z,y,xs,r,ob,es,ep,e,c⟩:=x;exact⟨z,y,xs,Paired.K3 r fun p q z=>⟨z.1,ht _ _ z.2.1,z.2.2⟩,ob,es,ep,k _ _ (.inl rfl) e,c⟩
 | set S n=>obtain⟨ob,es,ep,t,e,c⟩:=x;exact⟨ob,es,ep,t,k _ _ (.inl rfl) e,c⟩
 | ins C dx fs=>
   obtain⟨d,z,ne,e,mA,⟨od,es,ep,e2,c⟩,r⟩:=x;exact⟨ho _ d,z,ne,k _ _ (.inl rfl) e,mA,⟨od,es,ep,k _ _ (.inr d) e2,c⟩,r⟩
 | own y=>obtain⟨ob,e⟩:=x;exact⟨ob,k _ _ (.inl rfl) e⟩
 | xd fs=>obtain⟨mA,⟨od,es,ep,e,c⟩,r⟩:=x;exact⟨mA,⟨od,es,ep,k _ _ (.inl rfl) e,c⟩,r⟩
 | rng lo hi=>obtain⟨t,u,v,e⟩:=x;exact⟨t,u,v,k _ _ (.inl rfl) e⟩
 | ky ob u ih=>obtain⟨e,q⟩:=x;exact⟨k _ _ (.inl rfl) e,ih q⟩
 | tbl ps=>
   have e:h.get? a=some {cls:= .none,data:= .fields ps}:=x;show h'.get? a=some {cls:= .none,data:= .fields ps};exact k a _ (.inl rfl) e
 | met f y=>
   have e:h.get? a=some (PySem.W.methodObj (.ref f) (.ref y)):=x;show h'.get? a=some (PySem.W.methodObj (.ref f) (.ref y));exact k a _ (.inl rfl) e
 | ext φ=>obtain⟨p,⟨o,e⟩,st⟩:=x;exact⟨st _ _ p fun o q=>k _ _ (.inl rfl) q,⟨o,k _ _ (.inl rfl) e⟩,st⟩
theorem mM.lt(x:mM P w H h)(e:H a=some o):a < h.objs.size:=(x a o e).lt
theorem mM.fresh(x:mM P w H h)(e:h.objs.size<=a):H a=none:=by
 cases q:H a with
 | none=>rfl
 | some u=>exact absurd (Nat.lt_of_lt_of_le (x.lt q) e) (Nat.lt_irrefl _)
theorem mM.kept(x:mM P w H h)(k:∀b u,h.get? b=some u->h'.get? b=some u):mM P w H h':=fun a o e=>
 (x a o e).yj (fun b u _ q=>k b u q) (fun _ q=>q) fun _ _ q=>q
theorem mM.laid(x:mM P w H h)(k:∀b u,h.get? b=some u->h'.get? b=some u)(hp:h.objs.size<=a)(new:dJ P w (upd H a o) h' a o):mM P w (upd H a o) h':=fun b u e=>by
 have hn:=x.fresh hp;by_cases hb:b=a
 .subst hb;rw [aX] at e;cases e;exact new
 .rw [bj hb] at e;exact(x b u e).yj (fun c v _ q=>k c v q) (fun c q=>by rw[bj (cc q hn)];exact q) fun c xs q=>by rw[bj (cc q hn)];exact q
end
def Rd(H:Hp)(a:Addr)(u:HO):Prop:=H a=some u\/∃o,H a=some (.ky o u)
theorem Rd.of{H:Hp}{a:Addr}{u:HO}(h:H a=some u):Rd H a u:= .inl h
theorem Rd.ok{a:Addr}{u:HO}(r:Rd H a u)(x:mM P w H h):dJ P w H h a u:=by
 rcases r with r | ⟨o,r⟩
 .exact x a u r
 .obtain⟨_,q⟩:=x a _ r;exact q
def NA:Option HO->Prop
 | some (.lst _)=>True
 | some (.dK _)=>True
 | some (.dT _)=>True
 | some (.set _ _)=>True
 | some (.ins _ _ _)=>True
 | some (.ext _)=>True
 | _=>False
section
variable {P:Program} {w:World} {H:Hp} {h h':Heap} {x e:Addr} {o':HO}
theorem mM.write(ok:mM P w H h)(mu:NA (H x))(he:e=x\/H e=some (.own x))(k:∀b u,b≠e->h.get? b=some u->h'.get? b=some u)(Jv:∃u,h'.get? e=some u)
 (new:dJ P w (upd H x o') h' x o'):mM P w (upd H x o') h':=fun b u q=>by
 have nown:∀c y,H c=some (.own y)->c≠x:=fun c y r z=>by subst z;rw [r] at mu;exact mu
 have ntup:∀c xs,H c=some (.tup xs)->c≠x:=fun c xs r z=>by subst z;rw [r] at mu;exact mu
 by_cases hb:b=x
 .subst hb;rw [aX] at q;cases q;exact new
 .rw [bj hb] at q;by_cases hbe:b=e
  .have q':H b=some (.own x):=by
    rcases he with z | z
    .exact absurd (hbe.trans z) hb
    .rw [hbe];exact z
   rw[q] at q';cases q';obtain⟨v,hv⟩:=Jv;exact⟨v,by rw[hbe];exact hv⟩
  .refine(ok b u q).yj (fun c v hc r=>k c v ?_ r) (fun c r=>by rw[bj (nown c b r)];exact r) fun c xs r=>by rw[bj (ntup c xs r)];exact r
   rcases hc with rfl | hc
   .exact hbe
   .rintro rfl;rcases he with z | z
    .exact nown c b hc z
    .rw [hc] at z;cases z;exact hb rfl
end
structure Un (fs ex:List Addr) (H H':Hp) (h h':Heap):Prop where
 keep:∀b o,h.get? b=some o->H b=none->b ∉ fs->b ∉ ex->h'.get? b=some o
 slot:∀b o,h.get? b=some o->H b=none->b∈fs->b ∉ ex->∃sl,h'.get? b=some {o with slots:=sl}
 free:∀b o,h.get? b=some o->H b=none->b ∉ ex->H' b=none
 there:∀b o,h.get? b=some o->b ∉ ex->∃o',h'.get? b=some o'
 tups:∀b xs,H b=some (.tup xs)->H' b=some (.tup xs)
 frzs:∀b o u,H b=some (.ky o u)->H' b=some (.ky o u)
 tbls:∀b ps,H b=some (.tbl ps)->∃more,H' b=some (.tbl (ps++more))
section
variable {fs Mx ex Yt:List Addr} {H H1 H2:Hp} {h h1 h2 h':Heap} {a x e:Addr} {o:HO}
theorem Un.any(u:Un fs ex H H1 h h1){b:Addr}{ob:Obj}(q:h.get? b=some ob)(n:H b=none)(hx:b ∉ ex):∃sl,h1.get? b=some {ob with slots:=sl}:=by
 by_cases hb:b∈fs
 .exact u.slot b ob q n hb hx
 .exact⟨ob.slots,u.keep b ob q n hb hx⟩
theorem Un.kept(k:∀b u,h.get? b=some u->h'.get? b=some u):Un fs ex H H h h':=
 ⟨fun b ob q _ _ _=>k b ob q,fun b ob q _ _ _=>⟨ob.slots,k b ob q⟩,fun _ _ _ n _=>n,fun b ob q _=>⟨ob,k b ob q⟩,fun _ _ q=>q,fun _ _ _ q=>q,fun _ ps q=>⟨#[],by rw[q];simp⟩⟩
theorem Un.refl:Un fs ex H H h h:=Un.kept fun _ _ q=>q
theorem Un.laid(k:∀b u,h.get? b=some u->h'.get? b=some u)(hp:h.objs.size<=a)(hn:H a=none):Un fs ex H (upd H a o) h h' where
 keep:=fun b u q _ _ _=>k b u q
 slot:=fun b u q _ _ _=>⟨u.slots,k b u q⟩
 free:=fun b u q n _=>by rw[bj (Nat.ne_of_lt (Nat.lt_of_lt_of_le (Heap.lt_size q) hp))];exact n
 there:=fun b u q _=>⟨u,k b u q⟩
 tups:=fun b xs q=>by rw[bj (cc q hn)];exact q
 frzs:=fun b u xs q=>by rw[bj (cc q hn)];exact q
 tbls:=fun b ps q=>⟨#[],by rw[bj (cc q hn),q];simp⟩
theorem Un.write(mu:NA (H x))(he:e=x\/H e=some (.own x))(k:∀b u,b≠e->h.get? b=some u->h'.get? b=some u)(Jv:∃u,h'.get? e=some u):Un fs ex H (upd H x o) h h':=by
 have hx:∀b,H b=none->b≠x:=fun b n z=>by subst z;rw [n] at mu;exact mu
 have hb:∀b,H b=none->b≠e:=fun b n z=>by
  subst z;rcases he with r | r
  .exact hx b n r
  .rw [n] at r;cases r
 have hm:∀b u,H b=some u->¬NA (some u)->b≠x:=fun b u q nm z=>by subst z;rw [q] at mu;exact nm mu
 refine⟨fun b u q n _ _=>k b u (hb b n) q,fun b u q n _ _=>⟨u.slots,k b u (hb b n) q⟩,fun b u q n _=>by rw[bj (hx b n)];exact n,fun b u q _=>?_,
  fun b xs q=>by rw[bj (hm b _ q fun z=>z)];exact q,fun b u xs q=>by rw[bj (hm b _ q fun z=>z)];exact q,fun b ps q=>⟨#[],by rw[bj (hm b _ q fun z=>z),q];simp⟩⟩
 by_cases hbe:b=e
 .subst hbe;exact Jv
 .exact⟨u,k b u hbe q⟩
end
def KA(h:Heap)(H:Hp):List Addr:=(List.range h.objs.size).filter fun a=>(H a).isSome
def vf(h:Heap)(H:Hp):Heap:=PySem.W.hideAll h (KA h H)
theorem Bq(h:Heap)(H:Hp):(vf h H).objs.size=h.objs.size:=PySem.W.hideAll_size _ _
theorem Fo{h:Heap}{H:Hp}{b:Addr}{o:Obj}(e:h.get? b=some o)(n:H b=none):(vf h H).get? b=some o:=
 PySem.W.hideAll_get _ e fun hm=>by
  have q:(H b).isSome=true:=(List.mem_filter.mp hm).2;rw[n] at q;simp at q
theorem Hb{h:Heap}{H:Hp}{b:Addr}{o:Obj}(e:(vf h H).get? b=some o):h.get? b=some o/\H b=none:=by
 have e':h.get? b=some o:=PySem.W.of_hideAll (KA h H) e;refine⟨e',?_⟩;cases q:H b with
 | none=>rfl
 | some x=>
   have hm:b∈KA h H:=List.mem_filter.mpr ⟨List.mem_range.mpr (Heap.lt_size e'),by simp [q]⟩
   have z:(vf h H).get? b=none:=PySem.W.hideAll_none (KA h H) hm;rw[z] at e;cases e
def Ih(g h:Heap)(L:Addr):YB:=(List.range h.objs.size).filterMap fun a=>if a=L\/(g.get? a).isSome=true then none else(h.get? a).map fun o=>(a,o)
def rest(g h:Heap)(L d:Addr):YB:=(Ih g h L).filter fun p=>decide (p.1≠d)
structure Mod (K:W.Frag) (mg:YG) (base:Heap):Prop where
 kin:K.In base
 glob:base.Ns mainGlobals mg
 blt:∃mb,base.Ns builtinsNs mb/\∀x:Str,x≠"__name__"->mb x=bootBuiltins x
 nolimit:base.NoLimit
structure Cx where
 prog:Program
 w:World
 K:W.Frag
 mg:YG
 base:Heap
 A:Around
 N:List Str
 s₀:Shared
 H₀:Hp
 env:Env
 outer:List Env
 stack:List Env
 ex:List Addr
 fn:Str->Bool
 calm:Bool
 pn:YB
 xe:YC
def qG(l:List Env):List Addr:=l.filterMap (·.frame)
abbrev Cx.fs(X:Cx):List Addr:=qG X.outer
def Gp(sc:Scope)(x:Str):Prop:=sc.names.lookup x=some .local\/sc.names.lookup x=some .cell\/sc.names.lookup x=some .free
def Loc(sc:Scope)(x:Str):Prop:=sc.names.lookup x=some .local\/sc.names.lookup x=some .cell
def Look(env:Env)(h:Heap)(m:YG)(x:Str)(u:Value):Prop:=
 (env.kindOf x=some .local/\m x=some u)\/((env.kindOf x=some .cell\/env.kindOf x=some .free)/\∃c,env.cells.lookup x=some c/\h.IsCell c (some u))
structure Cx.Ok (X:Cx):Prop where
 mod:Mod X.K X.mg X.base
 kind:X.env.scope.kind= .function
 glob:X.env.globals=mainGlobals
 blt:X.env.builtins=builtinsNs
 above:X.s₀.heap.objs.size<=X.env.locals
 inj:∀x y c,X.env.cells.lookup x=some c->X.env.cells.lookup y=some c->x=y
 has:∀x,(X.env.kindOf x=some .cell\/X.env.kindOf x=some .free)->∃c,X.env.cells.lookup x=some c
 cab:∀x c,X.fn x=true->X.env.cells.lookup x=some c->X.s₀.heap.objs.size<=c
 hd:X.calm=true->X.A.handled=none
 frames:X.A.frames=some X.stack
 stk:X.stack=X.outer\/(X.stack=X.env ::X.outer/\X.env.frame=some X.env.locals)
 exf:∀b∈X.ex,b≠X.env.locals/\∀x c,X.env.cells.lookup x=some c->c≠b
 bs:∀b o,X.base.get? b=some o->X.s₀.heap.get? b=some o/\X.H₀ b=none
 bsz:X.base.objs.size<=X.s₀.heap.objs.size
 noex:∀b o,X.base.get? b=some o->b ∉ X.ex
 exfs:∀b∈X.ex,b ∉ X.fs
 pW:X.s₀.heap.FunFrames X.base X.outer
 frf:∀b∈X.fs,X.H₀ b=none
structure Inv (X:Cx) (pins:YB) (σ:List (Option V)) (H:Hp) (s:Shared):Prop where
 ok:X.Ok
 os:s.os=X.s₀.os
 bare:AllBare s.gens
 base:Un X.fs X.ex X.H₀ H X.s₀.heap s.heap
 loc:∃m,s.heap.Ns X.env.locals m/\∀(i:Nat) (x:Str) (v:V),X.N[i]? =some x->σ[i]? =some (some v)->Gp X.env.scope x->∃u,RelV v u/\Look X.env s.heap m x u
 cell:∀x c,X.env.cells.lookup x=some c->∃v,s.heap.IsCell c v
 free:H X.env.locals=none
 freeC:∀x c,X.env.cells.lookup x=some c->H c=none
 pin:∀p∈X.pn++pins,s.heap.get? p.1=some p.2/\H p.1=none/\p.1≠X.env.locals/\p.1 ∉ X.fs/\∀v,p.2.data≠ .cell v
 hok:mM X.prog X.w H s.heap
 len:σ.length=X.N.length
section
variable {X:Cx} {pins:YB} {σ:List (Option V)} {H H':Hp} {s:Shared} {h':Heap}
theorem Cx.Ok.Pt(ok:X.Ok){b:Addr}{o:Obj}(e:X.base.get? b=some o):b ∉ X.fs:=fun hb=>by
 have:=(ok.pW.mem hb).1;rw[e] at this;cases this
theorem Inv.bs(I:Inv X pins σ H s):∀b o,X.base.get? b=some o->s.heap.get? b=some o/\H b=none:=fun b o e=>
 ⟨I.base.keep b o (I.ok.bs b o e).1 (I.ok.bs b o e).2 (I.ok.Pt e) (I.ok.noex b o e),I.base.free b o (I.ok.bs b o e).1 (I.ok.bs b o e).2 (I.ok.noex b o e)⟩
theorem Inv.bk(I:Inv X pins σ H s):∀b o,X.base.get? b=some o->s.heap.get? b=some o:=fun b o e=>(I.bs b o e).1
theorem Inv.mod(I:Inv X pins σ H s):Mod X.K X.mg X.base:=I.ok.mod
theorem Inv.w_(I:Inv X pins σ H s):X.K.In s.heap:=I.ok.mod.kin.keeps I.bk
theorem Inv.lt(I:Inv X pins σ H s):X.env.locals < s.heap.objs.size:=let⟨_,hn,_⟩:=I.loc;hn.lt
theorem Inv.sz(I:Inv X pins σ H s):X.s₀.heap.objs.size<=s.heap.objs.size:=Nat.le_trans I.ok.above (Nat.le_of_lt I.lt)
theorem Inv.Qu(I:Inv X pins σ H s){a:Addr}(h:s.heap.objs.size<=a):a ∉ X.fs:=fun hb=>by
 obtain⟨_,o,ho,_⟩:=I.ok.pW.mem hb;exact absurd (Nat.lt_of_lt_of_le (Heap.lt_size ho) (Nat.le_trans I.sz h)) (Nat.lt_irrefl _)
theorem Inv.JU(I:Inv X pins σ H s):∀x c,X.env.cells.lookup x=some c->c≠X.env.locals:=fun x c e z=>by
 obtain⟨v,o,ho,hd⟩:=I.cell x c e;obtain⟨m,⟨o',es,ep,yf,Cd,_⟩,_⟩:=I.loc;rw[z,yf] at ho;cases ho;rw [Cd] at hd;cases hd
theorem Inv.pW(I:Inv X pins σ H s):s.heap.FunFrames X.base X.outer:=by
 have all:∀(l:List Env),(∀b∈qG l,b∈X.fs)->X.s₀.heap.FunFrames X.base l->s.heap.FunFrames X.base l:=by
  intro l
  induction l with
  | nil=>intro _ _;trivial
  | cons env r ih=>
    intro hs hl;obtain⟨hk,⟨L,o,hf,hn,ho,hd⟩,hr⟩:=hl;have hL:L∈X.fs:=hs L (by unfold qG;rw [List.filterMap_cons,hf];exact List.mem_cons_self)
    obtain⟨sl,e⟩:=I.base.slot L o ho (I.ok.frf L hL) hL fun z=>I.ok.exfs L z hL
    exact⟨hk,⟨L,_,hf,hn,e,hd⟩,ih (fun b hb=>hs b (by unfold qG;rw [List.filterMap_cons,hf];exact List.mem_cons_of_mem _ hb)) hr⟩
 exact all X.outer (fun _ hb=>hb) I.ok.pW
theorem Inv.stack(I:Inv X pins σ H s):s.heap.FunFrames X.base X.stack:=by
 rcases I.ok.stk with e | ⟨e,hf⟩
 .rw [e];exact I.pW
 .rw [e];obtain⟨m,hn,_⟩:=I.loc;refine .cons (by rw[I.ok.kind];decide) hf hn ?_ I.pW
  exact Heap.get?_none_of_le (Nat.le_trans I.ok.bsz I.ok.above)
theorem Inv.yX(I:Inv X pins σ H s):∀b∈qG X.stack,b∈X.env.locals ::X.fs:=fun b hb=>by
 rcases I.ok.stk with e | ⟨e,hf⟩
 .rw [e] at hb;exact List.mem_cons_of_mem _ hb
 .rw [e] at hb;unfold qG at hb;rw[List.filterMap_cons,hf] at hb;exact hb
theorem Inv.qO(I:Inv X pins σ H s):∀b∈qG X.stack,H b=none:=fun b hb=>by
 rcases List.mem_cons.mp (I.yX b hb) with e | hb
 .rw [e];exact I.free
 .obtain⟨_,o,ho,_⟩:=I.ok.pW.mem hb;exact I.base.free b o ho (I.ok.frf b hb) fun z=>I.ok.exfs b z hb
theorem Inv.step{g':Array GenState}{t':Nat}{d':Drawn}{ch:List Addr}(I:Inv X pins σ H s)
 (F_:∀b∈ch,(b∈X.ex\/X.s₀.heap.objs.size<=b)/\b≠X.env.locals/\(∀x c,X.env.cells.lookup x=some c->c≠b)/\∀p∈X.pn++pins,p.1≠b)
 (keep:∀b o,b≠X.env.locals->b ∉ X.fs->b ∉ ch->s.heap.get? b=some o->H b=none->h'.get? b=some o)
 (slot:∀b o,b≠X.env.locals->b∈X.fs->b ∉ ch->s.heap.get? b=some o->H b=none->∃sl,h'.get? b=some {o with slots:=sl}) (free:∀b o,b ∉ ch->s.heap.get? b=some o->H b=none->H' b=none)
 (there:∀b o,b ∉ ch->s.heap.get? b=some o->∃o',h'.get? b=some o')
 (tups:∀b xs,H b=some (.tup xs)->H' b=some (.tup xs)) (frzs:∀b o u,H b=some (.ky o u)->H' b=some (.ky o u)) (tbls:∀b ps,H b=some (.tbl ps)->∃more,H' b=some (.tbl (ps++more)))
 (ns:∀m,s.heap.Ns X.env.locals m->h'.Ns X.env.locals m) (hok:mM X.prog X.w H' h') (hg:AllBare g') :
 Inv X pins σ H' {s with heap:=h',gens:=g',drawn:=d',toks:=t'}:=by
 have neL:∀b o,X.s₀.heap.get? b=some o->b≠X.env.locals:=fun b o e=>Nat.ne_of_lt (Nat.lt_of_lt_of_le (Heap.lt_size e) I.ok.above)
 have neC:∀b o,X.s₀.heap.get? b=some o->b ∉ X.ex->b ∉ ch:=fun b o e hx hb=>by
  rcases(F_ b hb).1 with z | z
  .exact hx z
  .exact absurd (Nat.lt_of_lt_of_le (Heap.lt_size e) z) (Nat.lt_irrefl _)
 have cellK:∀x c,X.env.cells.lookup x=some c->∀v,s.heap.IsCell c v->h'.IsCell c v:=fun x c e v ⟨o,ho,hd⟩=>by
  have nch:c ∉ ch:=fun z=>(F_ c z).2.2.1 x c e rfl
  by_cases hc:c∈X.fs
  .obtain⟨sl,q⟩:=slot c o (I.JU x c e) hc nch ho (I.freeC x c e);exact⟨_,q,hd⟩
  .exact⟨o,keep c o (I.JU x c e) hc nch ho (I.freeC x c e),hd⟩
 refine⟨I.ok,I.os,hg,⟨fun b o e n hb hx=>?_,fun b o e n hb hx=>?_,fun b o e n hx=>?_,fun b o e hx=>?_,fun b xs e=>tups b xs (I.base.tups b xs e),fun b o xs e=>frzs b o xs (I.base.frzs b o xs e),fun b ps e=>?_⟩,?_,fun x c e=>?_,?_,fun x c e=>?_,fun p hp=>?_,hok,I.len⟩
 .exact keep b o (neL b o e) hb (neC b o e hx) (I.base.keep b o e n hb hx) (I.base.free b o e n hx)
 .obtain⟨sl,e1⟩:=I.base.slot b o e n hb hx;obtain⟨WO,e2⟩:=slot b _ (neL b o e) hb (neC b o e hx) e1 (I.base.free b o e n hx);exact⟨WO,e2⟩
 .obtain⟨o',e1⟩:=I.base.there b o e hx;exact free b o' (neC b o e hx) e1 (I.base.free b o e n hx)
 .obtain⟨o',e1⟩:=I.base.there b o e hx;exact there b o' (neC b o e hx) e1
 .obtain⟨m1,e1⟩:=I.base.tbls b ps e;obtain⟨m2,e2⟩:=tbls b _ e1;exact⟨m1++m2,by rw[e2,Array.append_assoc]⟩
 .obtain⟨m,hn,hl⟩:=I.loc;refine⟨m,ns m hn,fun i x v e1 e2 e3=>?_⟩
  obtain⟨u,r,l⟩:=hl i x v e1 e2 e3;refine⟨u,r,?_⟩;rcases l with l | ⟨k,c,e,z⟩
  .exact .inl l
  .exact .inr ⟨k,c,e,cellK x c e _ z⟩
 .obtain⟨v,z⟩:=I.cell x c e;exact⟨v,cellK x c e v z⟩
 .obtain⟨m,⟨o,_,_,ho,_⟩,_⟩:=I.loc;exact free _ o (fun z=>(F_ _ z).2.1 rfl) ho I.free
 .obtain⟨v,o,ho,hd⟩:=I.cell x c e;exact free c o (fun z=>(F_ c z).2.2.1 x c e rfl) ho (I.freeC x c e)
 .obtain⟨e,n,ne,nf,d⟩:=I.pin p hp;have nch:p.1 ∉ ch:=fun z=>(F_ p.1 z).2.2.2 p hp rfl
  exact⟨keep p.1 p.2 ne nf nch e n,free p.1 p.2 nch e n,ne,nf,d⟩
theorem Inv.un{t':Nat}(I:Inv X pins σ H s)(u:Un X.fs [] H H' s.heap h')(hok:mM X.prog X.w H' h'):Inv X pins σ H' {s with heap:=h',toks:=t'}:=by
 obtain⟨m,⟨o,es,ep,ho,r⟩,_⟩:=id I.loc;obtain⟨sl,hL⟩:=u.any ho I.free (by simp)
 exact I.step (g':=s.gens) (d':=s.drawn) (ch:=[]) (fun _ z=>nomatch z) (fun b o _ hb _ e n=>u.keep b o e n hb (by simp)) (fun b o _ hb _ e n=>u.slot b o e n hb (by simp)) (fun b o _ e n=>u.free b o e n (by simp)) (fun b o _ e=>u.there b o e (by simp)) u.tups u.frzs u.tbls (fun m' hm=>by
  obtain⟨o',RE,R8,yf,r'⟩:=hm;rw[ho] at yf;cases yf;exact⟨_,RE,R8,hL,r'⟩) hok I.bare
theorem Inv.call{g':Array GenState}{t':Nat}{d':Drawn}{ch:List Addr}(I:Inv X pins σ H s)(u:Un (qG X.stack) ch H H' s.heap h')(hok:mM X.prog X.w H' h')(hg:AllBare g')
 (F_:∀b∈ch,(b∈X.ex\/X.s₀.heap.objs.size<=b)/\b≠X.env.locals/\(∀x c,X.env.cells.lookup x=some c->c≠b)/\∀p∈X.pn++pins,p.1≠b) :
 Inv X pins σ H' {s with heap:=h',gens:=g',drawn:=d',toks:=t'}:=by
 obtain⟨m,⟨o,es,ep,ho,r⟩,_⟩:=id I.loc;obtain⟨sl,hL⟩:=u.any ho I.free fun z=>(F_ _ z).2.1 rfl
 exact I.step (ch:=ch) F_ (fun b o hL hb hc e n=>u.keep b o e n (fun z=>(List.mem_cons.mp (I.yX b z)).elim hL hb) hc) (fun b o _ _ hc e n=>u.any e n hc) (fun b o hc e n=>u.free b o e n hc) (fun b o hc e=>u.there b o e hc) u.tups u.frzs u.tbls (fun m' hm=>by
  obtain⟨o',RE,R8,yf,r'⟩:=hm;rw[ho] at yf;cases yf;exact⟨_,RE,R8,hL,r'⟩) hok hg
theorem Inv.turned{t':Nat}{it:Addr}(I:Inv X pins σ H s)(k:∀b o,b≠it->s.heap.get? b=some o->h'.get? b=some o)(hn:H it=none)(hL:it≠X.env.locals)
 (h1:it∈X.ex\/X.s₀.heap.objs.size<=it) (h2:∀x c,X.env.cells.lookup x=some c->c≠it) (h3:∀p∈X.pn++pins,p.1≠it):Inv X pins σ H {s with heap:=h',toks:=t'}:=by
 have nit:∀b u,H b=some u->b≠it:=fun b u e z=>by rw[z,hn] at e;cases e
 refine I.step (g':=s.gens) (d':=s.drawn) (ch:=[it]) (fun b hb=>?_) (fun b o _ _ hc e _=>k b o (fun z=>hc (by simp [z])) e) (fun b o _ _ hc e _=>⟨o.slots,k b o (fun z=>hc (by simp [z])) e⟩) (fun _ _ _ _ n=>n)
  (fun b o hc e=>⟨o,k b o (fun z=>hc (by simp [z])) e⟩) (fun _ _ e=>e) (fun _ _ _ e=>e) (fun b ps e=>⟨#[],by rw[e];simp⟩) (fun m hm=>?_) (fun b u e=>?_) I.bare
 .have e:b=it:=by simpa using hb
  subst e;exact⟨h1,hL,h2,h3⟩
 .obtain⟨o,es,ep,ho,r⟩:=hm;exact⟨o,es,ep,k _ o (Ne.symm hL) ho,r⟩
 .refine(I.hok b u e).yj (fun c v hc q=>k c v ?_ q) (fun _ q=>q) fun _ _ q=>q
  rcases hc with z | z
  .rw [z];exact nit b u e
  .exact nit c _ z
theorem Inv.tok(I:Inv X pins σ H s)(t:Nat):Inv X pins σ H {s with toks:=t}:=I.un (h':=s.heap) (t':=t) Un.refl I.hok
theorem Inv.kept{t':Nat}(I:Inv X pins σ H s)(k:∀b u,s.heap.get? b=some u->h'.get? b=some u):Inv X pins σ H {s with heap:=h',toks:=t'}:=I.un (Un.kept k) (I.hok.kept k)
theorem Inv.laid{a:Addr}{o:HO}{t':Nat}(I:Inv X pins σ H s)(k:∀b u,s.heap.get? b=some u->h'.get? b=some u)(hp:s.heap.objs.size<=a)(new:dJ X.prog X.w (upd H a o) h' a o) :
 Inv X pins σ (upd H a o) {s with heap:=h',toks:=t'}:=I.un (Un.laid k hp (I.hok.fresh hp)) (I.hok.laid k hp new)
theorem Inv.write{x e:Addr}{o:HO}{t':Nat}(I:Inv X pins σ H s)(mu:NA (H x))(he:e=x\/H e=some (.own x))(k:∀b u,b≠e->s.heap.get? b=some u->h'.get? b=some u)(Jv:∃u,h'.get? e=some u)
 (new:dJ X.prog X.w (upd H x o) h' x o):Inv X pins σ (upd H x o) {s with heap:=h',toks:=t'}:=I.un (Un.write mu he k Jv) (I.hok.write mu he k Jv new)
theorem Inv.As{FN:YB}(I:Inv X pins σ H s)(h:∀p∈FN,s.heap.get? p.1=some p.2/\H p.1=none/\p.1≠X.env.locals/\p.1 ∉ X.fs/\∀v,p.2.data≠ .cell v):Inv X FN σ H s:=
 ⟨I.ok,I.os,I.bare,I.base,I.loc,I.cell,I.free,I.freeC,fun p hp=>(List.mem_append.mp hp).elim (fun z=>I.pin p (List.mem_append_left _ z)) (h p),I.hok,I.len⟩
theorem i_{N:List Str}(hN:N.Nodup){i j:Nat}(a:N[i]? =some x)(b:N[j]? =some x):i=j:=by
 obtain⟨h1,e1⟩:=List.getElem?_eq_some_iff.mp a;obtain⟨h2,e2⟩:=List.getElem?_eq_some_iff.mp b;exact(List.getElem_inj hN).mp (e1.trans e2.symm)
theorem um{M:Model}{A:Around}{E:YC}{i:Nat}{x:Str}{v:V}{u:Value}{Q:Unit->Shared->Prop}(I:Inv X pins σ H s)(hN:X.N.Nodup)(hi:X.N[i]? =some x)(hx:Loc X.env.scope x)(r:RelV v u)
 (h:∀s',Inv X pins (σ.set i (some v)) H s'->(∃a,Heap.SameBut a s.heap s'.heap/\(a=X.env.locals\/X.env.cells.lookup x=some a))->Q () s') (hf:X.fn x=true\/X.env.scope.names.lookup x=some .local:=by first | exact .inl rfl | exact .inr rfl | assumption):wpAny M A (storeName X.env x u) Q E s:=by
 obtain⟨m,hn,hl⟩:=id I.loc;have hcls:(X.env.scope.kind== .class || (X.env.scope.kind== .module && X.env.locals !=X.env.globals))=false:=by rw[I.ok.kind];rfl
 have hiσ:i < σ.length:=by rw[I.len];exact(List.getElem?_eq_some_iff.mp hi).1
 have JU:=I.JU;have tracked:∀{a:Addr} {h':Heap},(∃o,s.heap.get? a=some o/\H a=none)->Heap.SameBut a s.heap h'->mM X.prog X.w H h':=fun {a h'} ha hs b ob e=>by
  obtain⟨_,_,hfree⟩:=ha;refine(I.hok b ob e).yj (fun c w' hc q=>(hs.2 c ?_).trans q) (fun _ q=>q) fun _ _ q=>q
  rintro rfl;rcases hc with rfl | hc
  .rw [hfree] at e;cases e
  .rw [hfree] at hc;cases hc
 rcases hx with hk | hk
 .refine wpAny_storeName_local hk hn (fun h' Xh hs=>?_) hcls
  obtain⟨oL,_,_,hoL,_⟩:=id hn;refine h _ ⟨I.ok,I.os,I.bare,⟨fun b o e n hb hx=>?_,fun b o e n hb hx=>?_,I.base.free,fun b o e hx=>?_,I.base.tups,I.base.frzs,I.base.tbls⟩,⟨_,Xh,fun j y v' e1 e2 e3=>?_⟩,fun y c e=>?_,I.free,I.freeC,fun p hp=>?_,tracked ⟨oL,hoL,I.free⟩ hs,by simpa using I.len⟩ ⟨_,hs, .inl rfl⟩
  .exact(hs.2 b (Nat.ne_of_lt (Nat.lt_of_lt_of_le (Heap.lt_size e) I.ok.above))).trans (I.base.keep b o e n hb hx)
  .obtain⟨sl,e1⟩:=I.base.slot b o e n hb hx;exact⟨sl,(hs.2 b (Nat.ne_of_lt (Nat.lt_of_lt_of_le (Heap.lt_size e) I.ok.above))).trans e1⟩
  .obtain⟨o',e1⟩:=I.base.there b o e hx;exact⟨o',(hs.2 b (Nat.ne_of_lt (Nat.lt_of_lt_of_le (Heap.lt_size e) I.ok.above))).trans e1⟩
  .by_cases hj:j=i
   .subst hj;rw[hi] at e1;cases e1;rw[List.getElem?_set_self hiσ] at e2;cases e2;exact⟨u,r, .inl ⟨hk,by simp⟩⟩
   .rw [List.getElem?_set_ne (Ne.symm hj)] at e2;obtain⟨u',r',q⟩:=hl j y v' e1 e2 e3;refine⟨u',r',?_⟩;rcases q with⟨k,e⟩ | ⟨k,c,e,z⟩
    .refine .inl ⟨k,?_⟩;have:y≠x:=fun e=>hj (i_ hN e1 (e▸hi))
     simp [this,e]
    .exact .inr ⟨k,c,e,z.sameBut hs (JU y c e)⟩
  .obtain⟨w',z⟩:=I.cell y c e;exact⟨w',z.sameBut hs (JU y c e)⟩
  .obtain⟨e,n,ne,nf,d⟩:=I.pin p hp;exact⟨(hs.2 p.1 ne).trans e,n,ne,nf,d⟩
 .have hfn:X.fn x=true:=by
   rcases hf with z | z
   .exact z
   .rw [z] at hk;cases hk
  obtain⟨c,hc⟩:=I.ok.has x (.inl hk);obtain⟨w',z⟩:=I.cell x c hc;refine wpAny_storeName_cell I.ok.kind hk hc z (fun h' CA hs=>?_)
  obtain⟨oc,hoc,hocd⟩:=id z;refine h {s with heap:=h'} ⟨I.ok,I.os,I.bare,⟨fun b o e n hb hx=>?_,fun b o e n hb hx=>?_,I.base.free,fun b o e hx=>?_,I.base.tups,I.base.frzs,I.base.tbls⟩,⟨m,hn.sameBut hs (Ne.symm (JU x c hc)),fun j y v' e1 e2 e3=>?_⟩,fun y c' e=>?_,I.free,I.freeC,fun p hp=>?_,tracked ⟨oc,hoc,I.freeC x c hc⟩ hs,by simpa using I.len⟩ ⟨c,hs, .inr hc⟩
  .exact(hs.2 b (Nat.ne_of_lt (Nat.lt_of_lt_of_le (Heap.lt_size e) (I.ok.cab x c hfn hc)))).trans (I.base.keep b o e n hb hx)
  .obtain⟨sl,e1⟩:=I.base.slot b o e n hb hx;exact⟨sl,(hs.2 b (Nat.ne_of_lt (Nat.lt_of_lt_of_le (Heap.lt_size e) (I.ok.cab x c hfn hc)))).trans e1⟩
  .obtain⟨o',e1⟩:=I.base.there b o e hx;exact⟨o',(hs.2 b (Nat.ne_of_lt (Nat.lt_of_lt_of_le (Heap.lt_size e) (I.ok.cab x c hfn hc)))).trans e1⟩
  .by_cases hj:j=i
   .subst hj;rw[hi] at e1;cases e1;rw[List.getElem?_set_self hiσ] at e2;cases e2;exact⟨u,r, .inr ⟨.inl hk,c,hc,CA⟩⟩
   .rw [List.getElem?_set_ne (Ne.symm hj)] at e2;obtain⟨u',r',q⟩:=hl j y v' e1 e2 e3;refine⟨u',r',?_⟩;rcases q with q | ⟨k,c',e,z'⟩
    .exact .inl q
    .refine .inr ⟨k,c',e,z'.sameBut hs ?_⟩;rintro rfl;exact hj (i_ hN e1 (I.ok.inj _ _ _ e hc▸hi))
  .by_cases hcc:c'=c
   .subst hcc;exact⟨_,CA⟩
   .obtain⟨w2,z2⟩:=I.cell y c' e;exact⟨w2,z2.sameBut hs hcc⟩
  .obtain⟨e,n,ne,nf,d⟩:=I.pin p hp;refine⟨(hs.2 p.1 ?_).trans e,n,ne,nf,d⟩;intro q;rw[q,hoc] at e;have q':oc=p.2:=Option.some.inj e;exact d w' (by rw[<-q'];exact hocd)
theorem wA{M:Model}{A:Around}{E:YC}{i:Nat}{x:Str}{v:V}{u:Value}{Q:Unit->Shared->Prop}(I:Inv X pins σ H s)(hN:X.N.Nodup)(hi:X.N[i]? =some x)(hx:Loc X.env.scope x)(r:RelV v u)
 (h:∀s',Inv X pins (σ.set i (some v)) H s'->Q () s') (hf:X.fn x=true\/X.env.scope.names.lookup x=some .local:=by first | exact .inl rfl | exact .inr rfl | assumption):wpAny M A (storeName X.env x u) Q E s:=
 um I hN hi hx r (fun s' I' _=>h s' I') hf
theorem Inv.Ov{s':Shared}{ch:List Addr}(I:Inv X pins σ H s)(ho:s'.os=s.os)(u:Un (qG X.stack) ch H H' s.heap s'.heap)(hok:mM X.prog X.w H' s'.heap)(hg:AllBare s'.gens)
 (F_:∀b∈ch,(b∈X.ex\/X.s₀.heap.objs.size<=b)/\b≠X.env.locals/\(∀x c,X.env.cells.lookup x=some c->c≠b)/\∀p∈X.pn++pins,p.1≠b):Inv X pins σ H' s':=by
 obtain⟨h',g',d',t',o'⟩:=s';have e:o'=s.os:=ho;subst e;exact I.call (g':=g') (t':=t') (d':=d') u hok hg F_
end
abbrev XK:=Value->Option Addr->Hp->Prop
abbrev St:=List (Option V)
abbrev VK:=V->Hp->Prop
abbrev TE:=St->Hp->VK->Prop
abbrev TT:=St->Hp->(Bool->Hp->Prop)->Prop
abbrev TA:=St->Hp->(List V->Hp->Prop)->Prop
structure Ends where
 nx:St->Hp->Prop
 rt:VK
 bk:St->Hp->Prop:=fun _ _=>False
 ct:St->Hp->Prop:=fun _ _=>False
abbrev TS:=Ends->St->Hp->Prop
def EP(X:Cx)(pins:YB)(σ:St)(Q:VK)(u:Value)(s':Shared):Prop:=∃v H',Inv X pins σ H' s'/\RelV v u/\Q v H'
def TP(X:Cx)(pins:YB)(σ:St)(Q:Bool->Hp->Prop)(b:Bool)(s':Shared):Prop:=∃H',Inv X pins σ H' s'/\Q b H'
def AP(X:Cx)(pins:YB)(σ:St)(Q:List V->Hp->Prop)(us:List Value)(s':Shared):Prop:=∃vs H',Inv X pins σ H' s'/\Vals vs us/\Q vs H'
def SP(X:Cx)(pins:YB)(D:Ends)(f:Flow)(s':Shared):Prop:=
 match f with
 | .next=>∃cA H',Inv X pins cA H' s'/\D.nx cA H'
 | .brk=>∃cA H',Inv X pins cA H' s'/\D.bk cA H'
 | .cont=>∃cA H',Inv X pins cA H' s'/\D.ct cA H'
 | .ret u=>∃v cA H',Inv X pins cA H' s'/\RelV v u/\D.rt v H'
def PE(X:Cx)(e:Expr)(t:TE):Prop:=
 ∀(pins:YB) (s:Shared) (σ:St) (H:Hp) (Q:VK),Inv X pins σ H s->t σ H Q->wpAny (model X.prog X.w) X.A (eval e X.env) (EP X pins σ Q) X.xe s
def PT(X:Cx)(e:Expr)(t:TT):Prop:=
 ∀(pins:YB) (s:Shared) (σ:St) (H:Hp) (Q:Bool->Hp->Prop),Inv X pins σ H s->t σ H Q->wpAny (model X.prog X.w) X.A (isTrue e X.env (eval e X.env)) (TP X pins σ Q) X.xe s
def PW(X:Cx)(e:Expr)(t:TT):Prop:=
 ∀(whole:Sem Value) (pins:YB) (s:Shared) (σ:St) (H:Hp) (Q:Bool->Hp->Prop),Inv X pins σ H s->t σ H Q->wpAny (model X.prog X.w) X.A (isTrue e X.env whole) (TP X pins σ Q) X.xe s
theorem PW.pt{X:Cx}{t:TT}(h:PW X e t):PT X e t:=h _
def PA(X:Cx)(es:List Expr)(t:TA):Prop:=
 ∀(pos:Pos) (pins:YB) (s:Shared) (σ:St) (H:Hp) (Q:List V->Hp->Prop),Inv X pins σ H s->t σ H Q->wpAny (model X.prog X.w) X.A (spliced (backTo pos (starEach es X.env))) (AP X pins σ Q) X.xe s
def PS(X:Cx)(st:Stmt)(t:TS):Prop:=
 ∀(pins:YB) (s:Shared) (σ:St) (H:Hp) (D:Ends),Inv X pins σ H s->t D σ H->wpAny (model X.prog X.w) X.A (exec st X.env) (SP X pins D) X.xe s
def ue(X:Cx)(st:List Stmt)(t:TS):Prop:=
 ∀(pins:YB) (s:Shared) (σ:St) (H:Hp) (D:Ends),Inv X pins σ H s->t D σ H->wpAny (model X.prog X.w) X.A (execs st X.env) (SP X pins D) X.xe s
theorem cE{α:Type}{t:Sem α}{Q Q':α->Shared->Prop}{M:Model}{E:YC}{s:Shared}(h:wpAny M A t Q E s)(hQ:∀a s,Q a s->Q' a s):wpAny M A t Q' E s:=wpAny_mono h hQ fun _ _ x=>x
section
variable {X:Cx}
def Q3(i:Nat):TE:=fun σ H Q=>∃v,σ[i]? =some (some v)/\Q v H
def tC(v:V):TE:=fun _ H Q=>Q v H
theorem uQ{i:Nat}{pos:Pos}(hN:X.N[i]? =some x)(hv:Gp X.env.scope x)(hd:(x==("__debug__":Str))=false:=by decide)(qI:(x==("__classdict__":Str))=false:=by decide):PE X (.Name x pos) (Q3 i):=by
 intro pins s σ H Q I h;obtain⟨v,e,h⟩:=h;obtain⟨m,hn,hl⟩:=I.loc;obtain⟨u,r,l⟩:=hl i x v hN e hv;have fin:EP X pins σ Q u s:=⟨v,H,I,r,h⟩;rcases l with⟨hk,hm⟩ | ⟨hk,c,hc,hcell⟩
 .exact wpAny_Name (wpAny_loadName_local I.ok.kind hk hn hm fin) hd
 .rcases hk with hk | hk
  .exact wpAny_Name (wpAny_loadName_cell I.ok.kind hk hc hcell fin) hd
  .exact wpAny_Name (wpAny_loadName_free I.ok.kind hk hc hcell fin qI) hd
theorem q_{i j pos}:PE X (.Constant (.int i) j pos) (tC (.int i)):=fun _ _ _ H _ I h=>wpAny_Constant_int ⟨.int i,H,I.tok _,⟨_,rfl⟩,h⟩
theorem MX{b j pos}:PE X (.Constant (.bool b) j pos) (tC (.bl b)):=fun _ _ _ H _ I h=>Constant_bool ⟨.bl b,H,I,rfl,h⟩
theorem ft{x j pos}:PE X (.Constant (.str x) j pos) (tC (.str x)):=fun _ _ _ H _ I h=>Calls.Constant_str ⟨.str x,H,I.tok _,⟨_,rfl⟩,h⟩
def Gl(X:Cx)(x:Str):Prop:=X.env.kindOf x=some .globalImplicit
theorem qL{E:YC}{pins:YB}{s:Shared}{σ:St}{H:Hp}{x:Str}{u:Value}{pos:Pos}{Q:YC}(I:Inv X pins σ H s)(hg:Gl X x)(hm:X.mg x=some u)(h:Q u s)
 (hd:(x==("__debug__":Str))=false:=by decide):wpAny (model X.prog X.w) X.A (eval (.Name x pos) X.env) Q E s:=
 Calls.Name_function_global I.ok.kind hg (Calls.loadGlobal_global (by rw[I.ok.glob];exact I.mod.glob.keeps I.bk) hm h) hd
theorem vG{E:YC}{pins:YB}{s:Shared}{σ:St}{H:Hp}{x:Str}{u:Value}{pos:Pos}{Q:YC}(I:Inv X pins σ H s)(hg:Gl X x)(hm:X.mg x=none)(hv:bootBuiltins x=some u)(h:Q u s)
 (hn:x≠"__name__":=by decide) (hd:(x==("__debug__":Str))=false:=by decide):wpAny (model X.prog X.w) X.A (eval (.Name x pos) X.env) Q E s:=by
 obtain⟨mb,h1,h2⟩:=I.mod.blt;exact Calls.Name_function_global I.ok.kind hg (Calls.loadGlobal_builtin (by rw[I.ok.glob];exact I.mod.glob.keeps I.bk) hm (by rw[I.ok.blt];exact h1.keeps I.bk) ((h2 x hn).trans hv) h) hd
theorem z_{v:V}{u:Value}{pos:Pos}(hg:Gl X x)(hm:X.mg x=some u)(r:RelV v u)(hd:(x==("__debug__":Str))=false:=by decide):PE X (.Name x pos) (tC v):=
 fun _ _ _ H _ I h=>qL I hg hm ⟨v,H,I,r,h⟩ hd
def OY(ta tb:TE)(k:Int->Int->Hp->Prop):St->Hp->Prop:=fun σ H=>ta σ H fun x H1=>tb σ H1 fun y H2=>∃i j,x= .int i/\y= .int j/\k i j H2
def VR(ta tb:TE):TE:=fun σ H Q=>OY ta tb (fun i j H2=>Q (.int (i+j)) H2) σ H
def Ww(ta tb:TE):TE:=fun σ H Q=>OY ta tb (fun i j H2=>Q (.int (i - j)) H2) σ H
def Wr(ta tb:TE):TE:=fun σ H Q=>OY ta tb (fun i j H2=>(-(2 ^ 64) < i/\i < 2 ^ 64)/\Q (.int (i*j)) H2) σ H
variable {a b:Expr} {ta tb:TE} {pos:Pos}
def PC(X:Cx)(op:CmpOp)(a b:Expr)(t:TE):Prop:=
 ∀(pins:YB) (s:Shared) (σ:St) (H:Hp) (Q:VK),Inv X pins σ H s->t σ H Q->
  wpAny (model X.prog X.w) X.A (eval a X.env) (fun v s₁=>wpAny (model X.prog X.w) X.A (eval b X.env) (fun u yc=>wpAny (model X.prog X.w) X.A (compareOp op v u) (EP X pins σ Q) X.xe yc) X.xe s₁) X.xe s
def Bf(p:Int->Int->Bool)(ta tb:TE):TE:=fun σ H Q=>OY ta tb (fun i j H2=>Q (.bl (p i j)) H2) σ H
abbrev Yh:TE->TE->TE:=Bf fun i j=>decide (i < j)
abbrev XX:TE->TE->TE:=Bf fun i j=>decide (i<=j)
abbrev X9:TE->TE->TE:=Bf fun i j=>decide (j < i)
abbrev XQ:TE->TE->TE:=Bf fun i j=>decide (j<=i)
abbrev Vj:TE->TE->TE:=Bf fun i j=>decide (i=j)
abbrev Vx:TE->TE->TE:=Bf fun i j=>!decide (i=j)
def U3(ta:TE):TE:=fun σ H Q=>ta σ H fun x H1=>Q (.bl (decide (x= .cJ))) H1
def Tf(ta:TE):TE:=fun σ H Q=>ta σ H fun x H1=>Q (.bl (!decide (x= .cJ))) H1
def tB(t:TE):TT:=fun σ H Q=>t σ H fun x H1=>∃c,x= .bl c/\Q c H1
theorem KG{op:CmpOp}{t:TE}(h:PC X op a b t)(h1:behindInMarks op b=false:=by first | exact nobehind _ (by decide) (by decide) | rfl):PE X (.Compare a [op] [b] pos) t:=fun pins s σ H Q I hw=>wpAny_Compare1 (h pins s σ H Q I hw) h1
theorem yV{op:CmpOp}{t:TE}(h:PC X op a b t)(h1:behindInMarks op b=false:=by first | exact nobehind _ (by decide) (by decide) | rfl):PT X (.Compare a [op] [b] pos) (tB t):=by
 intro pins s σ H Q I hw;refine wpAny_isTrue_Compare1 (cE (h pins s σ H _ I hw) fun v s1 h1=>cE h1 fun u s2 h2=>cE h2 fun c s3 ⟨x,H1,I1,r1,q1⟩=>?_) h1
 obtain⟨d,rfl,q⟩:=q1;cases r1;exact wpAny_truthy_bool ⟨H1,I1,q⟩
variable {tA Pk:TT} {rest:List Expr}
def P_(t u:TT):TT:=fun σ H Q=>t σ H fun c H1=>if c=true then u σ H1 Q else Q false H1
def Vt(t u:TT):TT:=fun σ H Q=>t σ H fun c H1=>if c=true then Q true H1 else u σ H1 Q
def QY(t:TT):TT:=fun σ H Q=>t σ H fun c H1=>Q (!c) H1
theorem Ib(ha:PT X a tA):PW X (.BoolOp .And [a] pos) tA:=by
 intro wh pins s σ H Q I h;refine isTrue_and (cE (ha pins s σ H Q I h) fun c s1 e=>?_)
 cases c with
 | true=>exact isTrue_and_nil e
 | false=>exact e
theorem Fc(ha:PT X a tA):PW X (.BoolOp .Or [a] pos) tA:=by
 intro wh pins s σ H Q I h;refine isTrue_or (cE (ha pins s σ H Q I h) fun c s1 e=>?_)
 cases c with
 | false=>exact isTrue_or_nil e
 | true=>exact e
theorem LY(ha:PT X a tA)(hb:PW X (.BoolOp .And (b ::rest) pos) Pk):PW X (.BoolOp .And (a ::b ::rest) pos) (P_ tA Pk):=by
 intro wh pins s σ H Q I h;refine isTrue_and (cE (ha pins s σ H _ I h) fun c s1 ⟨H1,I1,q1⟩=>?_)
 cases c with
 | true=>exact hb wh pins s1 σ H1 Q I1 q1
 | false=>exact⟨H1,I1,q1⟩
theorem ID(ha:PT X a tA)(hb:PW X (.BoolOp .Or (b ::rest) pos) Pk):PW X (.BoolOp .Or (a ::b ::rest) pos) (Vt tA Pk):=by
 intro wh pins s σ H Q I h;refine isTrue_or (cE (ha pins s σ H _ I h) fun c s1 ⟨H1,I1,q1⟩=>?_)
 cases c with
 | true=>exact⟨H1,I1,q1⟩
 | false=>exact hb wh pins s1 σ H1 Q I1 q1
theorem DG(ha:PT X a tA):PT X (.UnaryOp .Not a pos) (QY tA):=by
 intro pins s σ H Q I h;exact isTrue_not (ha pins s σ H (fun c H1=>Q (!c) H1) I h)
def Nm(ta tb:TE):TE:=fun σ H Q=>ta σ H fun x H1=>∃c,x= .bl c/\if c=true then tb σ H1 Q else Q (.bl false) H1
def PR(ta tb:TE):TE:=fun σ H Q=>ta σ H fun x H1=>∃c,x= .bl c/\if c=true then Q (.bl true) H1 else tb σ H1 Q
def MW(ta:TE):TE:=fun σ H Q=>ta σ H fun x H1=>∃c,x= .bl c/\Q (.bl (!c)) H1
theorem CG{op}{t:TE}(h:PE X a t):PE X (.BoolOp op [a] pos) t:=fun pins s σ H Q I hw=>BoolOp_one (h pins s σ H Q I hw)
theorem DC(ha:PE X a ta)(hb:PE X (.BoolOp .And (b ::rest) pos) tb):PE X (.BoolOp .And (a ::b ::rest) pos) (Nm ta tb):=by
 intro pins s σ H Q I h;refine BoolOp_and (cE (ha pins s σ H _ I h) fun v s1 ⟨x,H1,I1,r1,q1⟩=>?_)
 obtain⟨c,rfl,q1⟩:=q1;cases r1;refine wpAny_truthy_bool ?_;cases c with
 | true=>exact hb pins s1 σ H1 Q I1 q1
 | false=>exact⟨.bl false,H1,I1,rfl,q1⟩
theorem N8(ha:PE X a ta)(hb:PE X (.BoolOp .Or (b ::rest) pos) tb):PE X (.BoolOp .Or (a ::b ::rest) pos) (PR ta tb):=by
 intro pins s σ H Q I h;refine BoolOp_or (cE (ha pins s σ H _ I h) fun v s1 ⟨x,H1,I1,r1,q1⟩=>?_)
 obtain⟨c,rfl,q1⟩:=q1;cases r1;refine wpAny_truthy_bool ?_;cases c with
 | false=>exact hb pins s1 σ H1 Q I1 q1
 | true=>exact⟨.bl true,H1,I1,rfl,q1⟩
theorem JF(ha:PE X a ta):PE X (.UnaryOp .Not a pos) (MW ta):=by
 intro pins s σ H Q I h;refine UnaryOp_ (cE (ha pins s σ H _ I h) fun v s1 ⟨x,H1,I1,r1,q1⟩=>?_)
 obtain⟨c,rfl,q1⟩:=q1;cases r1;exact not_of (wpAny_truthy_bool ⟨.bl (!c),H1,I1,rfl,q1⟩)
def VU(t:TT)(ta tb:TE):TE:=fun σ H Q=>t σ H fun c H1=>if c=true then ta σ H1 Q else tb σ H1 Q
theorem Dy(hc:PT X c tA)(ha:PE X a ta)(hb:PE X b tb):PE X (.IfExp c a b pos) (VU tA ta tb):=by
 intro pins s σ H Q I h;refine wpAny_IfExp (cE (hc pins s σ H _ I h) fun d s1 ⟨H1,I1,q1⟩=>?_)
 cases d with
 | true=>exact ha pins s1 σ H1 Q I1 q1
 | false=>exact hb pins s1 σ H1 Q I1 q1
end
def lj(K:W.Frag)(H:Hp)(a:Addr)(xs:List V):Prop:=
 Rd H a (.lst xs)\/
  ∃(o:Obj) (its:Array Value) (n:Nat),K.lookup a=some o/\o.cls= .type "list"/\o.dict=none/\o.data= .seq its n/\its.size<=sizeLine/\Vals xs its.toList
def oT(K:W.Frag)(H:Hp)(a:Addr)(xs:List V):Prop:=
 Rd H a (.tup xs)\/
  ∃(o:Obj) (its:Array Value) (n:Nat),K.lookup a=some o/\o.cls= .type "tuple"/\o.data= .seq its n/\its.size<=sizeLine/\Vals xs its.toList
def PQ:Value->Option V
 | .none=>some .cJ
 | .bool b=>some (.bl b)
 | .int i _=>some (.int i)
 | .str x _=>some (.str x)
 | .bytes b _=>some (.byt b)
 | .float b _=>some (.flt b)
 | .ref a=>some (.ref a)
 | .type n=>some (.ty n)
 | _=>none
theorem RelV.abs{x:V}{u:Value}(r:RelV x u):PQ u=some x:=by
 cases x with
 | cJ=>cases r;rfl
 | bl _=>cases r;rfl
 | int _=>obtain⟨t,rfl⟩:=r;rfl
 | str _=>obtain⟨t,rfl⟩:=r;rfl
 | byt _=>obtain⟨t,rfl⟩:=r;rfl
 | flt _=>obtain⟨t,rfl⟩:=r;rfl
 | ref _=>cases r;rfl
 | ty _=>cases r;rfl
theorem RelV.inj{x y:V}{u:Value}(r:RelV x u)(q:RelV y u):x=y:=Option.some.inj (r.abs.symm.trans q.abs)
theorem Vals.inj:∀{xs ys:List V} {us:List Value},Vals xs us->Vals ys us->xs=ys
 | _,_,_, .nil, .nil=>rfl
 | _,_,_, .cons r t, .cons r' t'=>by rw[r.inj r',Vals.inj t t']
section
variable {X:Cx} {pins:YB} {σ:St} {H:Hp} {s:Shared} {a:Addr} {xs ys:List V}
theorem lj.of{K:W.Frag}(h:H a=some (.lst xs)):lj K H a xs:= .inl (.inl h)
theorem Inv.list(I:Inv X pins σ H s)(h:lj X.K H a xs):∃its:List Value,Vals xs its/\PlainL s.heap a its.toArray/\xs.length<=sizeLine:=by
 rcases h with h | ⟨o,its,n,hk,hc,hd,hs,hz,r⟩
 .obtain⟨z,its,n,r,e⟩:=h.ok I.hok;exact⟨its,r,⟨_,n,e,rfl,rfl,rfl⟩,z⟩
 .refine⟨its.toList,r,⟨o,n,I.w_ a o hk,hc,hd,by simpa using hs⟩,?_⟩
  have e:=r.length;simp only[Array.length_toList] at e;omega
theorem Inv.tuple(I:Inv X pins σ H s)(h:oT X.K H a xs):∃its:List Value,Vals xs its/\IsTup s.heap a its.toArray/\xs.length<=sizeLine:=by
 rcases h with h | ⟨o,its,n,hk,hc,hs,hz,r⟩
 .obtain⟨z,its,r,p⟩:=h.ok I.hok;exact⟨its,r,p,z⟩
 .refine⟨its.toList,r,⟨o,I.w_ a o hk,hc,n,by simpa using hs⟩,?_⟩
  have e:=r.length;simp only[Array.length_toList] at e;omega
theorem Inv.xQ(I:Inv X pins σ H s)(h:lj X.K H a xs)(h':lj X.K H a ys):xs=ys:=by
 obtain⟨its,r,⟨o,n,e,_,_,d⟩,_⟩:=I.list h;obtain⟨its',r',⟨o',n',e',_,_,d'⟩,_⟩:=I.list h';rw[e] at e';cases e';rw[d] at d';injection d' with d1 _
 have:its=its':=by simpa using congrArg Array.toList d1
 subst this;exact r.inj r'
theorem Inv.BV(I:Inv X pins σ H s)(h:oT X.K H a xs)(h':oT X.K H a ys):xs=ys:=by
 obtain⟨its,r,⟨o,e,_,n,d⟩,_⟩:=I.tuple h;obtain⟨its',r',⟨o',e',_,n',d'⟩,_⟩:=I.tuple h';rw[e] at e';cases e';rw[d] at d';injection d' with d1 _
 have:its=its':=by simpa using congrArg Array.toList d1
 subst this;exact r.inj r'
end
abbrev Cx.tG(X:Cx)(E:YC):Cx:={X with xe:=E}
abbrev Cx.HV(X:Cx):Cx:=X.tG fun _ _=>False
theorem Cx.Ok.tG{X:Cx}(ok:X.Ok)(E:YC):(X.tG E).Ok:=
 ⟨ok.mod,ok.kind,ok.glob,ok.blt,ok.above,ok.inj,ok.has,ok.cab,ok.hd,ok.frames,ok.stk,ok.exf,ok.bs,ok.bsz,ok.noex,ok.exfs,ok.pW,ok.frf⟩
theorem Cx.Ok.lK{X:Cx}{E:YC}(ok:(X.tG E).Ok):X.Ok:=
 ⟨ok.mod,ok.kind,ok.glob,ok.blt,ok.above,ok.inj,ok.has,ok.cab,ok.hd,ok.frames,ok.stk,ok.exf,ok.bs,ok.bsz,ok.noex,ok.exfs,ok.pW,ok.frf⟩
section
variable {X:Cx} {pins:YB} {σ:St} {H:Hp} {s:Shared} {E:YC}
theorem Inv.tG(I:Inv X pins σ H s)(E:YC):Inv (X.tG E) pins σ H s:=⟨I.ok.tG E,I.os,I.bare,I.base,I.loc,I.cell,I.free,I.freeC,I.pin,I.hok,I.len⟩
theorem Inv.lK(I:Inv (X.tG E) pins σ H s):Inv X pins σ H s:=⟨I.ok.lK,I.os,I.bare,I.base,I.loc,I.cell,I.free,I.freeC,I.pin,I.hok,I.len⟩
theorem SP.lK{D:Ends}{f:Flow}{s':Shared}(h:SP (X.tG E) pins D f s'):SP X pins D f s':=by
 cases f with
 | next=>obtain⟨cA,H',I,q⟩:=h;exact⟨cA,H',I.lK,q⟩
 | brk=>obtain⟨cA,H',I,q⟩:=h;exact⟨cA,H',I.lK,q⟩
 | cont=>obtain⟨cA,H',I,q⟩:=h;exact⟨cA,H',I.lK,q⟩
 | ret u=>obtain⟨v,cA,H',I,r,q⟩:=h;exact⟨v,cA,H',I.lK,r,q⟩
theorem ue.HV{st:List Stmt}{t:TS}(h:ue X.HV st t):ue X st t:=fun pins s σ H D I hw=>
 wpAny_mono (h pins s σ H D (I.tG _) hw) (fun _ _ q=>q.lK) fun _ _ z=>False.elim z
end
section
variable {X:Cx} {st:Stmt} {rest:List Stmt} {t u:TS} {e:Expr} {te:TE} {pos:Pos}
def N2:TS:=fun D σ H=>D.nx σ H
def Nt(t u:TS):TS:=fun D σ H=>t {D with nx:=u D} σ H
theorem vB:ue X [] N2:=fun _ _ σ H _ I h=>wpAny_execs_nil ⟨σ,H,I,h⟩
theorem rT(h1:PS X st t)(h2:ue X rest u):ue X (st ::rest) (Nt t u):=by
 intro pins s σ H D I h;refine wpAny_execs_cons (cE (h1 pins s σ H {D with nx:=u D} I h) fun f s1 q=>?_)
 cases f with
 | next=>
   obtain⟨cA,H',I',q⟩:=q;exact h2 pins s1 cA H' D I' q
 | ret v=>exact q
 | brk=>exact q
 | cont=>exact q
theorem vh(h1:PS X st t):ue X [st] t:=by
 intro pins s σ H D I h;refine wpAny_execs_cons (cE (h1 pins s σ H D I h) fun f s1 q=>?_)
 cases f with
 | next=>exact wpAny_execs_nil q
 | ret v=>exact q
 | brk=>exact q
 | cont=>exact q
def Pz:TS:=fun D σ H=>D.bk σ H
def Uu:TS:=fun D σ H=>D.ct σ H
theorem Inv.quiet{pins:YB}{s:Shared}(I:Inv X pins σ H s):interactive X.env=false:=by simp [interactive,I.ok.kind]
def MN(te:TE):TS:=fun D σ H=>te σ H fun _ H1=>D.nx σ H1
theorem o5(he:PE X e te)(hs:swapsWith e none pos.line X.env=pure false:=by rfl):PS X (.Expr e pos) (MN te):=by
 intro pins s σ H D I h;exact wpAny_Expr_any (cE (he pins s σ H _ I h) fun v s1 ⟨x,H1,I1,r1,q1⟩=>⟨σ,H1,I1,q1⟩) I.quiet hs
def Qx(te:TE):TS:=fun D σ H=>te σ H D.rt
theorem Fi(he:PE X e te):PS X (.Return (some e) pos) (Qx te):=by
 intro pins s σ H D I h;exact wpAny_Return_some (cE (he pins s σ H _ I h) fun v s1 ⟨x,H1,I1,r1,q1⟩=>⟨x,σ,H1,I1,r1,q1⟩)
def TU:TS:=fun D _ H=>D.rt .cJ H
def MU(c:TT)(t u:TS):TS:=fun D σ H=>c σ H fun b H1=>if b=true then t D σ H1 else u D σ H1
theorem Ff{tc:TT}(hc:PT X c tc)(ha:ue X a t)(hb:ue X b u):PS X (.If c a b pos) (MU tc t u):=by
 intro pins s σ H D I h;refine wpAny_If (cE (hc pins s σ H _ I h) fun d s1 ⟨H1,I1,q1⟩=>?_)
 cases d with
 | true=>exact ha pins s1 σ H1 D I1 q1
 | false=>exact hb pins s1 σ H1 D I1 q1
def Qf:TS:=fun _ _ _=>False
end
abbrev TG:=V->St->Hp->(St->Hp->Prop)->Prop
abbrev Ct:=List V->St->Hp->(St->Hp->Prop)->Prop
def PG(X:Cx)(target:Expr)(t:TG):Prop:=
 ∀(pins:YB) (s:Shared) (σ:St) (H:Hp) (v:V) (u:Value) (Q:St->Hp->Prop),Inv X pins σ H s->RelV v u->t v σ H Q->
  wpAny (model X.prog X.w) X.A (assign target X.env u) (fun _ s'=>∃cA H',Inv X pins cA H' s'/\Q cA H') X.xe s
def F0(X:Cx)(ts:List Expr)(t:Ct):Prop:=
 ∀(pins:YB) (s:Shared) (σ:St) (H:Hp) (vs:List V) (us:List Value) (Q:St->Hp->Prop),Inv X pins σ H s->Vals vs us->t vs σ H Q->
  wpAny (model X.prog X.w) X.A (assignInOrder ((assignEach ts X.env).map (·.2)) us) (fun _ s'=>∃cA H',Inv X pins cA H' s'/\Q cA H') X.xe s
abbrev Gh:=V->V->V->Hp->(Hp->Prop)->Prop
def N9(X:Cx)(t:Gh):Prop:=
 ∀(pins:YB) (s:Shared) (σ:St) (H:Hp) (o i v:V) (ov iv u:Value) (Q:Hp->Prop),Inv X pins σ H s->RelV o ov->RelV i iv->RelV v u->t o i v H Q->
  wpAny (model X.prog X.w) X.A (setItem ov iv u) (fun _ s'=>∃H',Inv X pins σ H' s'/\Q H') X.xe s
abbrev O7:=V->V->Hp->VK->Prop
def Ym(X:Cx)(op:Operator)(t:O7):Prop:=
 ∀(pins:YB) (s:Shared) (σ:St) (H:Hp) (x y:V) (v u:Value) (Q:VK),Inv X pins σ H s->RelV x v->RelV y u->t x y H Q->
  wpAny (model X.prog X.w) X.A (inplaceOp op v u) (EP X pins σ Q) X.xe s
section
variable {X:Cx} {pos:Pos}
def tQ(i:Nat):TG:=fun v σ H Q=>Q (σ.set i (some v)) H
theorem AZ{i:Nat}(hN:X.N.Nodup)(hi:X.N[i]? =some x)(hx:Loc X.env.scope x)(hf:X.fn x=true\/X.env.scope.names.lookup x=some .local:=by first | exact .inl rfl | exact .inr rfl | assumption):PG X (.Name x pos) (tQ i):=by
 intro pins s σ H v u Q I r h;exact wpAny_assign_Name (wA I hN hi hx r (fun s' I'=>⟨_,H,I',h⟩) hf)
def QH:Ct:=fun vs σ H Q=>vs=[]/\Q σ H
def NV(t:TG)(u:Ct):Ct:=fun vs σ H Q=>∃v r,vs=v ::r/\t v σ H fun cA H'=>u r cA H' Q
theorem Ag:F0 X [] QH:=by
 intro pins s σ H vs us Q I r h;obtain⟨e,h⟩:=h;subst e;cases r;exact assignInOrder_nil ⟨σ,H,I,h⟩
theorem xI{e:Expr}{es:List Expr}{t:TG}{u:Ct}(h1:PG X e t)(h2:F0 X es u)
 (hs:(assignEach (e ::es) X.env).map (·.2)=assign e X.env ::(assignEach es X.env).map (·.2):=by rfl):F0 X (e ::es) (NV t u):=by
 intro pins s σ H vs us Q I r h;obtain⟨v,vr,e1,h⟩:=h;subst e1;cases r with
 | cons r rr=>
   rw[hs];refine assignInOrder_cons (cE (h1 pins s σ H _ _ _ I r h) fun _ s1 ⟨Cy,H1,I1,q1⟩=>?_)
   exact h2 pins s1 Cy H1 _ _ Q I1 rr q1
def QX(K:W.Frag)(n:Nat)(t:Ct):TG:=fun v σ H Q=>∃a xs,v= .ref a/\oT K H a xs/\xs.length=n/\t xs σ H Q
theorem D8{es:List Expr}{k:Nat}{t:Ct}{n:Nat}(hc:X.calm=true)(h:F0 X es t)
 (hn:(assignEach es X.env).length=n:=by rfl) (xZ:(assignEach es X.env).findIdx? (·.1)=none:=by rfl):PG X (.Tuple es k pos) (QX X.K n t):=by
 intro pins s σ H v u Q I r hw;obtain⟨a,xs,e1,hq,hl,hw⟩:=hw;subst e1;cases r;obtain⟨its,rv,ht,hz⟩:=I.tuple hq;refine assign_Tuple_tuple (I.ok.hd hc) ht (by simp [hn,<-hl,rv.length]) xZ fun h' hx=>?_
 have I1:Inv X pins σ H {s with heap:=h'}:=I.kept (t':=s.toks) fun b o e=>hx b o (Nat.ne_of_lt (Heap.lt_size e)) e
 exact h pins _ σ H xs _ Q I1 (by simpa using rv) hw
def Ol(to ti:TE)(t:Gh):TG:=fun v σ H Q=>to σ H fun o H1=>ti σ H1 fun i H2=>t o i v H2 fun H3=>Q σ H3
theorem yy{o i:Expr}{to ti:TE}{t:Gh}(ho:PE X o to)(hi:PE X i ti)(hs:N9 X t)
 (ha:∀v,assign (.Subscript o i pos) X.env v=(do
   let ov <-holding [v] (eval o X.env)
   let iv <-holding [v,ov] (eval i X.env)
   standAt pos
   holding [v,ov,iv] (setItem ov iv v)
   release [v,ov,iv] []):=by intro _;rfl):PG X (.Subscript o i pos) (Ol to ti t):=by
 intro pins s σ H v u Q I r h;rw[ha];refine wpAny_bind (wpAny_holding (cE (ho pins s σ H _ I h) fun ov s1 ⟨x,H1,I1,r1,q1⟩=>?_))
 refine wpAny_bind (wpAny_holding (cE (hi pins s1 σ H1 _ I1 q1) fun iv s2 ⟨y,H2,I2,r2,q2⟩=>?_))
 refine wpAny_bind (wpAny_standAt (wpAny_bind (wpAny_holding (cE (hs pins s2 σ H2 x y v ov iv u _ I2 r1 r2 r q2) fun _ s3 ⟨H3,I3,q3⟩=>?_))))
 exact wpAny_release ⟨σ,H3,I3,q3⟩
def Dg(te:TE)(g:TG):TS:=fun D σ H=>te σ H fun x H1=>g x σ H1 D.nx
theorem EJ{tg e:Expr}{te:TE}{g:TG}(he:PE X e te)(hg:PG X tg g)(hs:swapsWithSole [tg] e pos.line X.env=pure false:=by rfl)(hw:swappedStores [tg] e X.env=pure none:=by rfl)
 (h1:(assignEach [tg] X.env).map (·.2)=[assign tg X.env]:=by rfl):PS X (.Assign [tg] e pos) (Dg te g):=by
 intro pins s σ H D I h;refine wpAny_Assign_stores (cE (he pins s σ H _ I h) fun v s1 ⟨x,H1,I1,r1,q1⟩=>?_) hs hw
 rw[h1];exact cE (hg pins s1 σ H1 x v _ I1 r1 q1) fun _ s2 q=>q
theorem zf{i:Nat}{te:TE}(hN:X.N.Nodup)(hi:X.N[i]? =some x)(hx:Loc X.env.scope x)(he:PE X e te)(hs:swapsWith e (some (.Name x pos')) pos.line X.env=pure false:=by rfl)(hf:X.fn x=true\/X.env.scope.names.lookup x=some .local:=by first | exact .inl rfl | exact .inr rfl | assumption) :
 PS X (.Assign [.Name x pos'] e pos) (Dg te (tQ i)):=by
 intro pins s σ H D I h;refine wpAny_Assign_Name (cE (he pins s σ H _ I h) fun v s1 ⟨y,H1,I1,r1,q1⟩=>?_) hs
 exact wA I1 hN hi hx r1 (fun s2 I2=>⟨_,H1,I2,q1⟩) hf
def Vy(i j:Nat)(ta:TA):TS:=fun D σ H=>ta σ H fun vs H1=>∃v w,vs=[v,w]/\D.nx ((σ.set i (some v)).set j (some w)) H1
def VQ(i:Nat)(te:TE)(ti:O7):TS:=fun D σ H=>∃x,σ[i]? =some (some x)/\te σ H fun y H1=>ti x y H1 fun z H2=>D.nx (σ.set i (some z)) H2
def To(to ti te:TE)(Sw:V->V->Hp->VK->Prop)(Xy:O7)(RP:Gh):TS:=fun D σ H=>to σ H fun o H1=>ti σ H1 fun i H2=>Sw o i H2 fun x H3=>te σ H3 fun y H4=>Xy x y H4 fun z H5=>RP o i z H5 fun H6=>D.nx σ H6
def Vi(X:Cx)(t:V->V->Hp->VK->Prop):Prop:=
 ∀(pins:YB) (s:Shared) (σ:St) (H:Hp) (o i:V) (ov iv:Value) (Q:VK),Inv X pins σ H s->RelV o ov->RelV i iv->t o i H Q->
  wpAny (model X.prog X.w) X.A (getItem ov iv) (EP X pins σ Q) X.xe s
def Yo(f:Int->Int->Int):O7:=fun x y H Q=>∃i j,x= .int i/\y= .int j/\Q (.int (f i j)) H
end
section
variable {X:Cx} {pos:Pos}
def JB(c:TT)(tb:TS):TS:=fun D σ H=>∃W:Nat->St->Hp->Prop,(∃m,W m σ H)/\∀m σ H,W m σ H->
 c σ H fun b H1=>if b=true then ∃N:St->Hp->Prop,(∀cA H',N cA H'->∃m',m' < m/\W m' cA H')/\tb {D with nx:=N,ct:=N,bk:=D.nx} σ H1 else D.nx σ H1
theorem Ej{tc:TT}{tb:TS}(hp:PassesOwn (model X.prog X.w) X.A X.env X.xe)(hc:PT X c tc)(hb:ue X body tb):PS X (.While c body [] pos) (JB tc tb):=by
 intro pins s σ H D I h;obtain⟨W,⟨m0,w0⟩,turn⟩:=h;refine wpAny_While (codeAny_whileLoop (fun n s'=>∃cA H',Inv X pins cA H' s'/\W n cA H') ?_ m0 ⟨σ,H,I,w0⟩)
 rintro n s1 ⟨Cy,H1,I1,w1⟩;refine wpAny_passesOwn hp (cE (hc pins s1 Cy H1 _ I1 (turn n Cy H1 w1)) fun b s2 ⟨H2,I2,q2⟩=>?_)
 cases b with
 | true=>
   obtain⟨N,hN,q2⟩:=q2;rw[if_pos rfl];refine wpAny_passesOwn hp (cE (hb pins s2 Cy H2 _ I2 q2) fun f s3 q3=>?_)
   cases f with
   | next=>
     obtain⟨yd,H3,I3,n3⟩:=q3;obtain⟨m',hm,w3⟩:=hN yd H3 n3;exact⟨m',hm,yd,H3,I3,w3⟩
   | cont=>
     obtain⟨yd,H3,I3,n3⟩:=q3;obtain⟨m',hm,w3⟩:=hN yd H3 n3;exact⟨m',hm,yd,H3,I3,w3⟩
   | brk=>exact q3
   | ret v=>exact q3
 | false=>
   rw[if_neg Bool.false_ne_true];exact wpAny_execs_nil ⟨Cy,H2,I2,q2⟩
end
structure It where
 go:Nat->Hp->Prop
 yld:Nat->Hp->V->Hp->Prop
 stop:Nat->Hp->Prop
def qw(X:Cx)(pins:YB)(H:Hp)(b:Addr):Prop:=
 H b=none/\b≠X.env.locals/\b ∉ X.fs/\(b∈X.ex\/X.s₀.heap.objs.size<=b)/\(∀x c,X.env.cells.lookup x=some c->c≠b)/\∀p∈X.pn++pins,p.1≠b
theorem Inv.yg{X:Cx}{pins:YB}{H H':Hp}{s:Shared}{b:Addr}(I:Inv X pins σ H s)(hb:s.heap.objs.size<=b)(hn:H' b=none):qw X pins H' b:=by
 refine⟨hn,Nat.ne_of_gt (Nat.lt_of_lt_of_le I.lt hb),I.Qu hb, .inr (Nat.le_trans I.sz hb),fun x c e z=>?_,fun p hp z=>?_⟩
 .obtain⟨v,q⟩:=I.cell x c e;exact absurd (Nat.lt_of_lt_of_le q.lt (by rw[z];exact hb)) (Nat.lt_irrefl _)
 .exact absurd (Nat.lt_of_lt_of_le (Heap.lt_size (I.pin p hp).1) (by rw[z];exact hb)) (Nat.lt_irrefl _)
structure Turn (P:Program) (w:World) (K:W.Frag) (tg:Expr) (J:It) (fp:List Addr) (it:Addr) (tn:Nat->Heap->Prop):Prop where
 mem:it∈fp
 obj:∀i h,tn i h->∀b∈fp,∃o,h.get? b=some o/\∀v,o.data≠ .cell v
 keep:∀i h h',tn i h->(∀b∈fp,∀o,h.get? b=some o->h'.get? b=some o)->tn i h'
 item:∀(X:Cx),X.prog=P->X.w=w->X.K=K->X.calm=true->∀(i:Nat) (pins:YB) (s:Shared) (σ:St) (H:Hp) (E:YC),Inv X pins σ H s->(∀b∈fp,qw X pins H b)->tn i s.heap->J.go i H->
  wpAny (model P w) X.A (pyNext (.ref it)) (fun r s1=>∃u,r=some u/\
   wpAny (model P w) X.A (letOwnedTupleGo tg (.ref it) u) (fun _ s2=>∃x H',Inv X pins σ H' s2/\RelV x u/\J.yld i H x H'/\tn (i+1) s2.heap/\∀b∈fp,H' b=none) E s1) E s
 done:∀(X:Cx),X.prog=P->X.w=w->X.K=K->X.calm=true->∀(i:Nat) (pins:YB) (s:Shared) (σ:St) (H:Hp) (E:YC),Inv X pins σ H s->(∀b∈fp,qw X pins H b)->tn i s.heap->J.stop i H->
  wpAny (model P w) X.A (pyNext (.ref it)) (fun r s1=>r=none/\Inv X pins σ H s1) E s
 self:∀(A:Around) (i:Nat) (s:Shared) (Q:YC) (E:YC),tn i s.heap->Q (.ref it) s->wpAny (model P w) A (pyIter (.ref it)) Q E s
abbrev TI:=St->Hp->(It->Hp->Prop)->Prop
def Ud(X:Cx)(pins:YB)(σ:St)(tg:Expr)(R:It->Hp->Prop)(Po:Value)(s2:Shared):Prop:=
 ∃(it:Addr) (fp:List Addr) (tn:Nat->Heap->Prop) (J:It) (H':Hp),Po= .ref it/\Inv X pins σ H' s2/\Turn X.prog X.w X.K tg J fp it tn/\tn 0 s2.heap/\(∀b∈fp,qw X pins H' b)/\R J H'
def PI(X:Cx)(tg iter:Expr)(wi:TI):Prop:=
 ∀(pins:YB) (s:Shared) (σ:St) (H:Hp) (R:It->Hp->Prop),Inv X pins σ H s->wi σ H R->
  wpAny (model X.prog X.w) X.A (eval iter X.env) (fun v s1=>wpAny (model X.prog X.w) X.A (pyIter v) (Ud X pins σ tg R) X.xe s1) X.xe s
theorem Ar{M:Model}{A:Around}{E:YC}{s:Shared}{tg:Expr}{it:Addr}{u:Value}{o:Obj}{n:String}{vs:Array Value}{Q:Unit->Shared->Prop}(ho:s.heap.get? it=some o)(hc:o.cls= .type n)(hd:o.data= .fields vs)
 (hn:["enumerate","zip","dict_itemiterator","dict_reverseitemiterator","odict_iterator","itertools.zip_longest","itertools.pairwise"].contains n=false) (hQ:Q () s):wpAny M A (letOwnedTupleGo tg (.ref it) u) Q E s:=by
 unfold letOwnedTupleGo;cases tg <;> first
  | exact wpAny_pure hQ
  | (cases u <;> first
      | exact wpAny_pure hQ
      | (refine wpAny_bind (wpAny_load ho ?_)
         rw[hc,hd];show wpAny M A (if(["enumerate","zip","dict_itemiterator","dict_reverseitemiterator","odict_iterator","itertools.zip_longest","itertools.pairwise"].contains n && vs[0]? ==some (rawInt _))=true then _ else _) Q E s
         rw[if_neg (by intro h;rw [hn,Bool.false_and] at h;cases h)]
         exact wpAny_pure hQ))
def TQ(K:W.Frag)(a:Addr):It:=
 ⟨fun i H=>∃xs x,lj K H a xs/\xs[i]? =some x,fun i H x H'=>H'=H/\∀xs,lj K H a xs->xs[i]? =some x,fun i H=>∃xs,lj K H a xs/\xs.length<=i⟩
def Uq(K:W.Frag)(a:Addr):It:=
 ⟨fun i H=>∃xs x,oT K H a xs/\xs[i]? =some x,fun i H x H'=>H'=H/\∀xs,oT K H a xs->xs[i]? =some x,fun i H=>∃xs,oT K H a xs/\xs.length<=i⟩
def NH(lo:Int)(n:Nat):It:=⟨fun i _=>i < n,fun i H x H'=>H'=H/\x= .int (lo+i),fun i _=>n<=i⟩
theorem BO{K:W.Frag}(a it:Addr):Turn P w K tg (TQ K a) [it] it (fun i h=>h.IsListIter it a i) where
 mem:=by simp
 obj:=fun i h st b hb=>by
  have e:b=it:=by simpa using hb
  subst e;obtain⟨o,e,c,d⟩:=st;exact⟨o,e,fun v z=>by rw[d] at z;cases z⟩
 keep:=fun i h h' st k=>st.at fun o e=>k it (by simp) o e
 item:=by
  intro X hP hw hK hc i pins s σ H E I hf st hg;subst hP hw hK;obtain⟨xs,x,hq,hx⟩:=hg;obtain⟨its,rv,p,hz⟩:=I.list hq;obtain⟨u,hu,ru⟩:=rv.get hx;obtain⟨f0,f1,f2,f3,f4,f5⟩:=hf it (by simp)
  refine wpAny_pyNext_list_item st p.isList (x:=u) (by simpa using hu) fun h' FH sb=>?_
  have I1:Inv X pins σ H {s with heap:=h'}:=I.turned (t':=s.toks) (fun b o hb e=>(sb.2 b hb).trans e) f0 f1 f3 f4 f5
  obtain⟨o,e,c,d⟩:=id FH;exact⟨u,rfl,Ar (s:={s with heap:=h'}) e c d (by decide) ⟨x,H,I1,ru,⟨rfl,fun ys hy=>by rw[I.xQ hy hq];exact hx⟩,FH,fun b hb=>(hf b hb).1⟩⟩
 done:=by
  intro X hP hw hK hc i pins s σ H E I hf st hg;subst hP hw hK;obtain⟨xs,hq,hx⟩:=hg;obtain⟨its,rv,p,hz⟩:=I.list hq;obtain⟨f0,f1,f2,f3,f4,f5⟩:=hf it (by simp)
  have hl:=rv.length;exact wpAny_pyNext_list_end (I.ok.hd hc) st p.isList (by simp;omega) fun h' eb=>⟨rfl,I.turned (t':=s.toks) (fun b o hb e=>eb b o hb e) f0 f1 f3 f4 f5⟩
 self:=fun _ _ _ _ _ st h=>wpAny_pyIter_listiter st h
theorem zF{K:W.Frag}(a it:Addr):Turn P w K tg (Uq K a) [it] it (fun i h=>h.IsTupleIter it a i) where
 mem:=by simp
 obj:=fun i h st b hb=>by
  have e:b=it:=by simpa using hb
  subst e;obtain⟨o,e,c,d⟩:=st;exact⟨o,e,fun v z=>by rw[d] at z;cases z⟩
 keep:=fun i h h' st k=>st.at fun o e=>k it (by simp) o e
 item:=by
  intro X hP hw hK hc i pins s σ H E I hf st hg;subst hP hw hK;obtain⟨xs,x,hq,hx⟩:=hg;obtain⟨its,rv,p,hz⟩:=I.tuple hq;obtain⟨u,hu,ru⟩:=rv.get hx;obtain⟨f0,f1,f2,f3,f4,f5⟩:=hf it (by simp)
  refine wpAny_pyNext_tuple_item st (show s.heap.IsTuple a its.toArray from p) (x:=u) (by simpa using hu) fun h' FH sb=>?_
  have I1:Inv X pins σ H {s with heap:=h'}:=I.turned (t':=s.toks) (fun b o hb e=>(sb.2 b hb).trans e) f0 f1 f3 f4 f5
  obtain⟨o,e,c,d⟩:=id FH;exact⟨u,rfl,Ar (s:={s with heap:=h'}) e c d (by decide) ⟨x,H,I1,ru,⟨rfl,fun ys hy=>by rw[I.BV hy hq];exact hx⟩,FH,fun b hb=>(hf b hb).1⟩⟩
 done:=by
  intro X hP hw hK hc i pins s σ H E I hf st hg;subst hP hw hK;obtain⟨xs,hq,hx⟩:=hg;obtain⟨its,rv,p,hz⟩:=I.tuple hq;obtain⟨f0,f1,f2,f3,f4,f5⟩:=hf it (by simp)
  have hl:=rv.length;exact wpAny_pyNext_tuple_end (I.ok.hd hc) st (show s.heap.IsTuple a its.toArray from p) (by simp;omega) fun h' eb=>⟨rfl,I.turned (t':=s.toks) (fun b o hb e=>eb b o hb e) f0 f1 f3 f4 f5⟩
 self:=fun _ _ _ _ _ st h=>wpAny_pyIter_tupleiter st h
theorem yh{K:W.Frag}(it:Addr)(lo:Int)(n:Nat):Turn P w K tg (NH lo n) [it] it (fun i h=>IsRangeIter h it (lo+(i:Nat)*1) ((n:Int) - (i:Nat)) 1) where
 mem:=by simp
 obj:=fun i h st b hb=>by
  have e:b=it:=by simpa using hb
  subst e;exact⟨_,st,fun v z=>by
   have z':Data.fields _=Data.cell v:=z;cases z'⟩
 keep:=fun i h h' st k=>k it (by simp) _ st
 item:=by
  intro X hP hw hK hc i pins s σ H E I hf st hg;subst hP hw hK;obtain⟨f0,f1,f2,f3,f4,f5⟩:=hf it (by simp)
  have W:=Walks.range (prog:=X.prog) (w:=X.w) (I.ok.hd hc) it lo 1 n;refine W.item i s _ _ hg st fun v h' tk hv FH kk=>?_
  obtain⟨t,rfl⟩:=hv;have I1:Inv X pins σ H {s with heap:=h',toks:=tk}:=I.turned (fun b o hb e=>kk b o (by simpa using hb) e) f0 f1 f3 f4 f5
  refine⟨_,rfl,Ar (s:={s with heap:=h',toks:=tk}) (n:="range_iterator") FH rfl rfl (by decide) ⟨.int (lo+i),H,I1,⟨t,?_⟩,⟨rfl,rfl⟩,FH,fun b hb=>(hf b hb).1⟩⟩
  rw[Int.mul_one]
 done:=by
  intro X hP hw hK hc i pins s σ H E I hf st hg;subst hP hw hK;obtain⟨f0,f1,f2,f3,f4,f5⟩:=hf it (by simp)
  exact wpAny_pyNext_range_end (I.ok.hd hc) st (by have:n<=i:=hg;omega) fun h' eb=>⟨rfl,I.turned (t':=s.toks) (fun b o hb e=>eb b o hb e) f0 f1 f3 f4 f5⟩
 self:=fun _ _ _ _ _ st h=>wpAny_pyIter_rangeiter st h
section
variable {X:Cx} {tg:Expr}
def TB(K:W.Frag)(tl:TE):TI:=fun σ H R=>tl σ H fun x H1=>∃a,x= .ref a/\(∃xs,lj K H1 a xs)/\R (TQ K a) H1
def Q_(K:W.Frag)(tl:TE):TI:=fun σ H R=>tl σ H fun x H1=>∃a,x= .ref a/\(∃xs,oT K H1 a xs)/\R (Uq K a) H1
theorem Fm{pins:YB}{σ:St}{H:Hp}{s:Shared}{R:It->Hp->Prop}{E:YC}{lo hi:Int}{t u v:Tok}{tk:Nat}(I:Inv X pins σ H s)(h1: -(2 ^ 62)<=lo)(h2:lo < 2 ^ 62)(h3: -(2 ^ 62)<=hi)(h4:hi < 2 ^ 62)
 (q:R (NH lo (hi - lo).toNat) H):wpAny (model X.prog X.w) X.A (pyIter (.ref s.heap.objs.size)) (Ud X pins σ tg R) E {s with heap:=s.heap.push {cls:= .type "range",data:= .fields #[.int lo t, .int hi u, .int 1 v]},toks:=tk}:=by
 refine wpAny_pyIter_range (IsRange.new ..) (small_one h1 h2 h3 h4) ?_;have I1:Inv X pins σ H {s with heap:=s.heap.push {cls:= .type "range",data:= .fields #[.int lo t, .int hi u, .int 1 v]},toks:=tk}:=I.kept fun b o e=>Heap.get?_push_of_some _ e
 refine⟨(s.heap.push {cls:= .type "range",data:= .fields #[.int lo t, .int hi u, .int 1 v]}).objs.size,[(s.heap.push {cls:= .type "range",data:= .fields #[.int lo t, .int hi u, .int 1 v]}).objs.size],_,_,H,rfl,
  I1.kept (t':=tk) fun b o e=>Heap.get?_push_of_some _ e,yh _ lo (hi - lo).toNat,?_,fun b hb=>?_,q⟩
 .have e1:lo+((0:Nat):Int)*1=lo:=by simp
  have e2:(((hi - lo).toNat:Nat):Int) - ((0:Nat):Int)=Builtin.Range.rangeSize lo hi 1:=by rw[rangeSize_one];split <;> omega
  show IsRangeIter _ _ (lo+((0:Nat):Int)*1) ((((hi - lo).toNat:Nat):Int) - ((0:Nat):Int)) 1;rw[e1,e2];exact Heap.get?_push_size _ rfl
 .have e:b=(s.heap.push {cls:= .type "range",data:= .fields #[.int lo t, .int hi u, .int 1 v]}).objs.size:=by simpa using hb
  subst e;exact I1.yg (Nat.le_refl _) (I1.hok.fresh (Nat.le_refl _))
def IQ(ta:TA):TI:=fun σ H R=>ta σ H fun vs H1=>∃j:Int,vs=[.int j]/\ -(2 ^ 62)<=j/\j < 2 ^ 62/\R (NH 0 j.toNat) H1
def Ub(ta:TA):TI:=fun σ H R=>ta σ H fun vs H1=>∃i j:Int,vs=[.int i, .int j]/\(-(2 ^ 62)<=i/\i < 2 ^ 62/\ -(2 ^ 62)<=j/\j < 2 ^ 62)/\R (NH i (j - i).toNat) H1
theorem Bg{ta:TA}{p pos:Pos}(hg:Gl X "range")(hm:X.mg "range"=none)(ha:PA X [a] ta)(hs:starEach [a] X.env=[(false,eval a X.env)]:=by rfl):PI X tg (.Call (.Name "range" p) [a] [] pos) (IQ ta):=by
 intro pins s σ H R I h;refine Call_ (vG I hg hm boot_range (PyProof.Rows.callWith_type1 (cE (ha pos pins s σ H _ I h) fun us s1 ⟨vs,H1,I1,r1,q1⟩=>?_) hs rfl))
 obtain⟨j,e,q1,q2,q⟩:=q1;subst e;cases r1 with
 | cons r rr=>
   cases rr;obtain⟨t,rfl⟩:=r;exact call_range_1 (Fm I1 (by omega) (by omega) q1 q2 (by simpa using q))
def Qw(wi:TI)(g:TG)(tb:TS):TS:=fun D σ H=>wi σ H fun J H1=>∃W:Nat->Nat->St->Hp->Prop,(∃m,W 0 m σ H1)/\∀i m σ H,W i m σ H->
 (J.stop i H/\D.nx σ H)\/(J.go i H/\∃N:St->Hp->Prop,(∀cA H',N cA H'->∃m',m' < m/\W (i+1) m' cA H')/\∀x H',J.yld i H x H'->g x σ H' fun qr H2=>tb {D with nx:=N,ct:=N,bk:=D.nx} qr H2)
def nM(fp:List Addr)(h:Heap):YB:=fp.filterMap fun b=>(h.get? b).map fun o=>(b,o)
theorem kA{fp:List Addr}{h:Heap}{b:Addr}{o:Obj}(hb:b∈fp)(e:h.get? b=some o):(b,o)∈nM fp h:=List.mem_filterMap.mpr ⟨b,hb,by rw[e];rfl⟩
theorem B8{fp:List Addr}{h:Heap}{p:Addr × Obj}(hp:p∈nM fp h):p.1∈fp/\h.get? p.1=some p.2:=by
 obtain⟨b,hb,e⟩:=List.mem_filterMap.mp hp;cases q:h.get? b with
 | none=>rw [q] at e;cases e
 | some o=>
   rw[q] at e;have e':(b,o)=p:=Option.some.inj e;subst e';exact⟨hb,q⟩
theorem Inv.pinned{pins:YB}{s:Shared}{fp:List Addr}(I:Inv X pins σ H s)(hf:∀b∈fp,qw X pins H b)(ho:∀b∈fp,∃o,s.heap.get? b=some o/\∀v,o.data≠ .cell v):Inv X (pins++nM fp s.heap) σ H s:=
 I.As fun p hp=>(List.mem_append.mp hp).elim (fun z=>I.pin p (List.mem_append_right _ z)) fun z=>by
  obtain⟨hb,e⟩:=B8 z;obtain⟨f0,f1,f2,_⟩:=hf p.1 hb;obtain⟨o,e',d⟩:=ho p.1 hb;rw[e] at e';cases e';exact⟨e,f0,f1,f2,d⟩
theorem Inv.n9{pins pl:YB}{s:Shared}(I:Inv X (pins++pl) σ H s):Inv X pins σ H s:=I.As fun p hp=>I.pin p (List.mem_append_right _ (List.mem_append_left _ hp))
theorem yz{iter:Expr}{body:List Stmt}{wi:TI}{g:TG}{tb:TS}{pos:Pos}(hp:PassesOwn (model X.prog X.w) X.A X.env X.xe)(hc:X.calm=true)(hi:PI X tg iter wi)(hg:PG X tg g)(hb:ue X body tb)
 (hs:∀x,foldedSetIterable iter X.env x=pure x:=by intro _;rfl):PS X (.For tg iter body [] pos) (Qw wi g tb):=by
 intro pins s σ H D I h;refine wpAny_For (cE (hi pins s σ H _ I h) fun v s1 h1=>cE h1 fun Po s2 h2=>?_) hs
 obtain⟨it,fp,tn,J,H2,e,I2,T,L9,f2,W,⟨m0,w0⟩,turn⟩:=h2;subst e;have stat:∀{H':Hp},(∀b∈fp,H' b=none)->∀b∈fp,qw X pins H' b:=fun hn b hb=>⟨hn b hb,(f2 b hb).2⟩
 refine codeAny_forLoop_any (fun n s'=>∃i cA H',Inv X pins cA H' s'/\tn i s'.heap/\(∀b∈fp,H' b=none)/\W i n cA H') ?_ m0 ⟨0,σ,H2,I2,L9,fun b hb=>(f2 b hb).1,w0⟩
 rintro n s3 ⟨i,yd,H3,I3,Ip,OQ,w3⟩;rcases turn i n yd H3 w3 with⟨stop,qn⟩ | ⟨go,N,hN,step⟩
 .refine wpAny_passesOwn hp (cE (T.done X rfl rfl rfl hc i pins s3 yd H3 X.xe I3 (stat OQ) Ip stop) fun r s4 ⟨hr,I4⟩=>?_)
  subst hr;exact wpAny_execs_nil ⟨yd,H3,I4,qn⟩
 .refine wpAny_passesOwn hp (cE (T.item X rfl rfl rfl hc i pins s3 yd H3 X.xe I3 (stat OQ) Ip go) fun r s4 ⟨u,hr,h4⟩=>?_)
  subst hr;refine wpAny_passesOwn hp (cE h4 fun _ s5 ⟨x,H5,I5,r5,y5,L4,RT⟩=>?_)
  have I5':=I5.pinned (stat RT) (T.obj _ _ L4);refine wpAny_passesOwn hp (cE (hg _ s5 yd H5 x u _ I5' r5 (step x H5 y5)) fun _ s6 ⟨OI,H6,I6,q6⟩=>?_)
  refine wpAny_passesOwn hp (cE (hb _ s6 OI H6 _ I6 q6) fun f s7 q7=>?_)
  have again:∀{x9:St} {H7:Hp},Inv X (pins++nM fp s5.heap) x9 H7 s7->N x9 H7->∃m,m < n/\∃i cA H',Inv X pins cA H' s7/\tn i s7.heap/\(∀b∈fp,H' b=none)/\W i m cA H':=fun {x9 H7} I7 n7=>by
   obtain⟨m',hm,w7⟩:=hN x9 H7 n7;refine⟨m',hm,i+1,x9,H7,I7.n9,T.keep _ _ _ L4 fun b hb o e=>(I7.pin (b,o) (List.mem_append_right _ (List.mem_append_right _ (kA hb e)))).1,fun b hb=>?_,w7⟩
   obtain⟨o,e,d⟩:=T.obj _ _ L4 b hb;exact(I7.pin (b,o) (List.mem_append_right _ (List.mem_append_right _ (kA hb e)))).2.1
  cases f with
  | next=>obtain⟨x9,H7,I7,n7⟩:=q7;exact again I7 n7
  | cont=>obtain⟨x9,H7,I7,n7⟩:=q7;exact again I7 n7
  | brk=>obtain⟨x9,H7,I7,q7⟩:=q7;exact⟨x9,H7,I7.n9,q7⟩
  | ret v=>obtain⟨x7,x9,H7,I7,r7,q7⟩:=q7;exact⟨x7,x9,H7,I7.n9,r7,q7⟩
end
abbrev R2:=V->V->Hp->VK->Prop
def mR(X:Cx)(f:Value->Value->Sem Value)(r:R2):Prop:=
 ∀(pins:YB) (s:Shared) (σ:St) (H:Hp) (x y:V) (v u:Value) (Q:VK),Inv X pins σ H s->RelV x v->RelV y u->r x y H Q->
  wpAny (model X.prog X.w) X.A (f v u) (EP X pins σ Q) X.xe s
def X8(X:Cx)(f:Value->Sem Value)(r:V->Hp->VK->Prop):Prop:=
 ∀(pins:YB) (s:Shared) (σ:St) (H:Hp) (x:V) (v:Value) (Q:VK),Inv X pins σ H s->RelV x v->r x H Q->
  wpAny (model X.prog X.w) X.A (f v) (EP X pins σ Q) X.xe s
def jY(X:Cx)(f:Value)(r:List V->Hp->VK->Prop):Prop:=
 ∀(pins:YB) (s:Shared) (σ:St) (H:Hp) (xs:List V) (us:List Value) (Q:VK),Inv X pins σ H s->Vals xs us->r xs H Q->
  wpAny (model X.prog X.w) X.A (call f us) (EP X pins σ Q) X.xe s
def Qs(X:Cx)(r:V->Hp->(Bool->Hp->Prop)->Prop):Prop:=
 ∀(pins:YB) (s:Shared) (σ:St) (H:Hp) (x:V) (v:Value) (Q:Bool->Hp->Prop),Inv X pins σ H s->RelV x v->r x H Q->
  wpAny (model X.prog X.w) X.A (truthy v) (TP X pins σ Q) X.xe s
def Mv(r:R2)(ta tb:TE):TE:=fun σ H Q=>ta σ H fun x H1=>tb σ H1 fun y H2=>r x y H2 Q
def Yi(r:V->Hp->VK->Prop)(ta:TE):TE:=fun σ H Q=>ta σ H fun x H1=>r x H1 Q
def rI(C:Int->Int->Prop)(g:Int->Int->V):R2:=fun x y H Q=>∃i j,x= .int i/\y= .int j/\C i j/\Q (g i j) H
def FU(g:Int->Int->V):R2:=fun x y H Q=>∃i j,x= .int i/\y= .int j/\Q (g i j) H
def rU(g:Int->V):V->Hp->VK->Prop:=fun x H Q=>∃i,x= .int i/\Q (g i) H
section
variable {X:Cx} {a b c:Expr} {ta tb tc:TE} {pos:Pos}
theorem Kh(ha:PE X a ta)(hb:PE X b tb){pins:YB}{s:Shared}{σ:St}{H:Hp}{R:V->V->Hp->Prop}(I:Inv X pins σ H s)
 (h:ta σ H fun x H1=>tb σ H1 fun y H2=>R x y H2) {Q:YC} {f:Value->Value->Sem Value}
 (hf:∀v u s2 x y H2,Inv X pins σ H2 s2->RelV x v->RelV y u->R x y H2->wpAny (model X.prog X.w) X.A (f v u) Q X.xe s2) :
 wpAny (model X.prog X.w) X.A (eval a X.env) (fun v s₁=>wpAny (model X.prog X.w) X.A (eval b X.env) (fun u yc=>wpAny (model X.prog X.w) X.A (f v u) Q X.xe yc) X.xe s₁) X.xe s:=by
 refine cE (ha pins s σ H _ I h) fun v s1 ⟨x,H1,I1,r1,q1⟩=>?_
 refine cE (hb pins s1 σ H1 _ I1 q1) fun u s2 ⟨y,H2,I2,r2,q2⟩=>?_
 exact hf v u s2 x y H2 I2 r1 r2 q2
theorem Og{op:Operator}{r:R2}(ho:mR X (binaryOp op) r)(ha:PE X a ta)(hb:PE X b tb):PE X (.BinOp a op b pos) (Mv r ta tb):=by
 intro pins s σ H Q I h;exact wpAny_BinOp (Kh ha hb I h fun v u s2 x y H2 I2 rx ry q=>ho pins s2 σ H2 x y v u Q I2 rx ry q)
theorem Oe{f:Value->Value->Sem Value}{C:Int->Int->Prop}{g:Int->Int->Int}
 (rule:∀(i j:Int) (t u:Tok) (s:Shared) (Q:YC) (E:YC),C i j->Q (.int (g i j) s.toks) {s with toks:=s.toks+1}->wpAny (model X.prog X.w) X.A (f (.int i t) (.int j u)) Q E s) :
 mR X f (rI C fun i j=> .int (g i j)):=by
 intro pins s σ H x y v u Q I rx ry h;obtain⟨i,j,rfl,rfl,hc,q⟩:=h;obtain⟨t,rfl⟩:=rx;obtain⟨t',rfl⟩:=ry;exact rule i j t t' s _ _ hc ⟨.int (g i j),H,I.tok _,⟨_,rfl⟩,q⟩
theorem Nr{f:Value->Value->Sem Value}{g:Int->Int->Int}
 (rule:∀(i j:Int) (t u:Tok) (s:Shared) (Q:YC) (E:YC),Q (.int (g i j) s.toks) {s with toks:=s.toks+1}->wpAny (model X.prog X.w) X.A (f (.int i t) (.int j u)) Q E s) :
 mR X f (FU fun i j=> .int (g i j)):=by
 intro pins s σ H x y v u Q I rx ry h;obtain⟨i,j,rfl,rfl,q⟩:=h;obtain⟨t,rfl⟩:=rx;obtain⟨t',rfl⟩:=ry;exact rule i j t t' s _ _ ⟨.int (g i j),H,I.tok _,⟨_,rfl⟩,q⟩
theorem He{f:Value->Value->Sem Value}{g:Int->Int->Bool}
 (rule:∀(i j:Int) (t u:Tok) (s:Shared) (Q:YC) (E:YC),Q (.bool (g i j)) s->wpAny (model X.prog X.w) X.A (f (.int i t) (.int j u)) Q E s) :
 mR X f (FU fun i j=> .bl (g i j)):=by
 intro pins s σ H x y v u Q I rx ry h;obtain⟨i,j,rfl,rfl,q⟩:=h;obtain⟨t,rfl⟩:=rx;obtain⟨t',rfl⟩:=ry;exact rule i j t t' s _ _ ⟨.bl (g i j),H,I,rfl,q⟩
def Qg(i j:Int):Prop:=0 < j/\j < 1073741824
def Uk(i j:Int):Prop:=j≠0/\j.natAbs < 1073741824
def QS(i j:Int):Prop:=0<=j/\j<=1000000/\i.natAbs < 2 ^ 64
def JW(i j:Int):Prop:=(-(2 ^ 64) < i/\i < 2 ^ 64)\/(-(2 ^ 64) < j/\j < 2 ^ 64)
theorem JW.ok{i j:Int}(h:JW i j):IntMulOk i j:=by
 rcases h with⟨h1,h2⟩ | ⟨h1,h2⟩
 .exact .of_left (intBits_le_64 h1 h2)
 .exact .of_right (intBits_le_64 h1 h2)
theorem zx(k:Nat):(0:Int)<=2 ^ k:=by
 rw[two_pow_cast];exact Int.natCast_nonneg _
theorem JJ:mR X (binaryOp .Add) (FU fun i j=> .int (i+j)):=Nr fun _ _ _ _ _ _ _ q=>add_int q
theorem L0:mR X (binaryOp .Sub) (FU fun i j=> .int (i - j)):=Nr fun _ _ _ _ _ _ _ q=>sub_int q
theorem K2:mR X (binaryOp .Mult) (rI JW fun i j=> .int (i*j)):=Oe fun _ _ _ _ _ _ _ hc q=>mul_int q hc.ok
theorem GY:mR X (binaryOp .FloorDiv) (rI Qg fun i j=> .int (i / j)):=Oe fun i j _ _ _ _ _ hc q=>by
 have h1:(0:Int) < j:=hc.1;have h2:j < 1073741824:=hc.2;exact floordiv_int (by omega) (by rw[Int.fdiv_eq_ediv_of_nonneg i (by omega)];exact q) (.inl (PyProof.noPylong_small (by omega)))
theorem Kv:mR X (binaryOp .Mod) (rI (fun _ j=>0 < j) fun i j=> .int (i % j)):=Oe fun i j _ _ _ _ _ hc q=>by
 have h1:(0:Int) < j:=hc;exact mod_int' (by omega) (by rw[Int.fmod_eq_emod_of_nonneg i (by omega)];exact q)
theorem Lm:mR X (binaryOp .Pow) (rI QS fun i j=> .int (i ^ j.toNat)):=Oe fun _ _ _ _ _ _ _ hc q=>pow_int_small hc.1 hc.2.1 hc.2.2 q
theorem Kk:mR X (binaryOp .RShift) (rI (fun _ j=>0<=j) fun i j=> .int (i / 2 ^ j.toNat)):=Oe fun i j _ _ _ _ _ hc q=>
 rshift_int hc (by rw[Int.fdiv_eq_ediv_of_nonneg i (zx _)];exact q)
end
def M8:V->V->Bool
 | .cJ, .cJ=>true | .cJ, .int _=>true | .int _, .cJ=>true | .cJ, .bl _=>true | .bl _, .cJ=>true | .cJ, .str _=>true | .str _, .cJ=>true
 | .int _, .int _=>true | .bl _, .bl _=>true | .str _, .str _=>true | .byt _, .byt _=>true
 | .int _, .str _=>true | .str _, .int _=>true | .bl _, .str _=>true | .str _, .bl _=>true
 | _,_=>false
def V6:R2:=fun x y H Q=>M8 x y=true/\Q (.bl (decide (x=y))) H
def V7:R2:=fun x y H Q=>M8 x y=true/\Q (.bl (!decide (x=y))) H
theorem zZ{i j:Int}:decide (V.int i=V.int j)=(i==j):=by
 rw[Bool.eq_iff_iff];simp
theorem D1{i j:Bool}:decide (V.bl i=V.bl j)=(i==j):=by
 rw[Bool.eq_iff_iff];simp
theorem zU:decide (V.str i=V.str j)=(i==j):=by
 rw[Bool.eq_iff_iff];simp
theorem AE{i j:Array UInt8}:decide (V.byt i=V.byt j)=(i.toList==j.toList):=by
 rw[Bool.eq_iff_iff];cases i;cases j;simp
section
variable {X:Cx} {a b c:Expr} {ta tb tc:TE} {pos:Pos}
theorem bM{pins:YB}{s:Shared}{Q:VK}{k k':Bool}(I:Inv X pins σ H s)(q:Q (.bl k) H)(e:k=k'):EP X pins σ Q (.bool k') s:=by
 subst e;exact⟨.bl k,H,I,rfl,q⟩
theorem Dt:mR X (compareOp .Eq) V6:=by
 intro pins s σ H x y v u Q I rx ry h;obtain⟨hs,q⟩:=h;cases x with
 | cJ=>
   cases rx;cases y with
   | cJ=>cases ry;exact PySem.EqNone.eq_none_none (bM I q (by simp))
   | bl j=>cases ry;exact PySem.EqNone.eq_none_bool (bM I q (by simp))
   | int j=>obtain⟨t',rfl⟩:=ry;exact PySem.EqNone.eq_none_int (bM I q (by simp))
   | str j=>obtain⟨t',rfl⟩:=ry;exact PySem.EqNone.eq_none_str (bM I q (by simp))
   | _=>exact absurd (show false=true from hs) Bool.false_ne_true
 | bl i=>
   cases rx;cases y with
   | cJ=>cases ry;exact PySem.EqNone.eq_bool_none (bM I q (by simp))
   | bl j=>cases ry;exact eq_bool (bM I q D1)
   | str j=>obtain⟨t',rfl⟩:=ry;exact PySem.EqMixed.eq_bool_str (bM I q (by simp))
   | _=>exact absurd (show false=true from hs) Bool.false_ne_true
 | int i=>
   obtain⟨t,rfl⟩:=rx;cases y with
   | cJ=>cases ry;exact PySem.EqNone.eq_int_none (bM I q (by simp))
   | int j=>obtain⟨t',rfl⟩:=ry;exact eq_int (bM I q zZ)
   | str j=>obtain⟨t',rfl⟩:=ry;exact PySem.EqMixed.eq_int_str (bM I q (by simp))
   | _=>exact absurd (show false=true from hs) Bool.false_ne_true
 | str i=>
   obtain⟨t,rfl⟩:=rx;cases y with
   | cJ=>cases ry;exact PySem.EqNone.eq_str_none (bM I q (by simp))
   | bl j=>cases ry;exact PySem.EqMixed.eq_str_bool (bM I q (by simp))
   | int j=>obtain⟨t',rfl⟩:=ry;exact PySem.EqMixed.eq_str_int (bM I q (by simp))
   | str j=>obtain⟨t',rfl⟩:=ry;exact eq_str (bM I q zU)
   | _=>exact absurd (show false=true from hs) Bool.false_ne_true
 | byt i=>
   obtain⟨t,rfl⟩:=rx;cases y with
   | byt j=>obtain⟨t',rfl⟩:=ry;exact PySem.W.eq_bytes (bM I q AE)
   | _=>exact absurd (show false=true from hs) Bool.false_ne_true
 | _=>cases y <;> exact absurd (show false=true from hs) Bool.false_ne_true
theorem ES:mR X (compareOp .NotEq) V7:=by
 intro pins s σ H x y v u Q I rx ry h;obtain⟨hs,q⟩:=h;cases x with
 | cJ=>
   cases rx;cases y with
   | cJ=>cases ry;exact PySem.EqNone.ne_none_none (bM I q (by simp))
   | bl j=>cases ry;exact PySem.EqNone.ne_none_bool (bM I q (by simp))
   | int j=>obtain⟨t',rfl⟩:=ry;exact PySem.EqNone.ne_none_int (bM I q (by simp))
   | str j=>obtain⟨t',rfl⟩:=ry;exact PySem.EqNone.ne_none_str (bM I q (by simp))
   | _=>exact absurd (show false=true from hs) Bool.false_ne_true
 | bl i=>
   cases rx;cases y with
   | cJ=>cases ry;exact PySem.EqNone.ne_bool_none (bM I q (by simp))
   | bl j=>cases ry;exact ne_bool (bM I q (congrArg not D1))
   | str j=>obtain⟨t',rfl⟩:=ry;exact PySem.EqMixed.ne_bool_str (bM I q (by simp))
   | _=>exact absurd (show false=true from hs) Bool.false_ne_true
 | int i=>
   obtain⟨t,rfl⟩:=rx;cases y with
   | cJ=>cases ry;exact PySem.EqNone.ne_int_none (bM I q (by simp))
   | int j=>obtain⟨t',rfl⟩:=ry;exact ne_int (bM I q (congrArg not zZ))
   | str j=>obtain⟨t',rfl⟩:=ry;exact PySem.EqMixed.ne_int_str (bM I q (by simp))
   | _=>exact absurd (show false=true from hs) Bool.false_ne_true
 | str i=>
   obtain⟨t,rfl⟩:=rx;cases y with
   | cJ=>cases ry;exact PySem.EqNone.ne_str_none (bM I q (by simp))
   | bl j=>cases ry;exact PySem.EqMixed.ne_str_bool (bM I q (by simp))
   | int j=>obtain⟨t',rfl⟩:=ry;exact PySem.EqMixed.ne_str_int (bM I q (by simp))
   | str j=>obtain⟨t',rfl⟩:=ry;exact ne_str (bM I q (congrArg not zU))
   | _=>exact absurd (show false=true from hs) Bool.false_ne_true
 | byt i=>
   obtain⟨t,rfl⟩:=rx;cases y with
   | byt j=>obtain⟨t',rfl⟩:=ry;exact PySem.W.ne_bytes (bM I q (congrArg not AE))
   | _=>exact absurd (show false=true from hs) Bool.false_ne_true
 | _=>cases y <;> exact absurd (show false=true from hs) Bool.false_ne_true
theorem NJ:mR X (compareOp .Lt) (FU fun i j=> .bl (decide (i < j))):=He fun _ _ _ _ _ _ _ q=>lt_int q
theorem Oa:mR X (compareOp .LtE) (FU fun i j=> .bl (decide (i<=j))):=He fun _ _ _ _ _ _ _ q=>le_int q
theorem M6:mR X (compareOp .Gt) (FU fun i j=> .bl (decide (j < i))):=He fun _ _ _ _ _ _ _ q=>gt_int q
theorem Nn:mR X (compareOp .GtE) (FU fun i j=> .bl (decide (j<=i))):=He fun _ _ _ _ _ _ _ q=>ge_int q
theorem Bb:mR X (compareOp .In) (fun x y H Q=>∃i j,x= .str i/\y= .str j/\Q (.bl (!(Builtin.Str.occurrences j i 0 j.length 1).isEmpty)) H):=by
 intro pins s σ H x y v u Q I rx ry h;obtain⟨i,j,rfl,rfl,q⟩:=h;obtain⟨t,rfl⟩:=rx;obtain⟨t',rfl⟩:=ry;exact in_str (bM I q rfl)
theorem vy:mR X (compareOp .NotIn) (fun x y H Q=>∃i j,x= .str i/\y= .str j/\Q (.bl (!(!(Builtin.Str.occurrences j i 0 j.length 1).isEmpty))) H):=by
 intro pins s σ H x y v u Q I rx ry h;obtain⟨i,j,rfl,rfl,q⟩:=h;obtain⟨t,rfl⟩:=rx;obtain⟨t',rfl⟩:=ry;exact notIn_str (bM I q rfl)
def isObj:HO->Bool
 | .lst _=>true
 | .ins _ _ _=>true
 | _=>false
theorem bA(b:Expr){op:CmpOp}(h:op≠ .In:=by decide)(h2:op≠ .NotIn:=by decide):behindInMarks op b=false:=by
 have e1:(op==CmpOp.In)=false:=by cases op <;> first | rfl | exact absurd rfl h
 have e2:(op==CmpOp.NotIn)=false:=by cases op <;> first | rfl | exact absurd rfl h2
 cases b <;> simp [behindInMarks,e1,e2]
theorem Aj{op:CmpOp}{r:R2}(ho:mR X (compareOp op) r)(ha:PE X a ta)(hb:PE X b tb)(hm:behindInMarks op b=false):PE X (.Compare a [op] [b] pos) (Mv r ta tb):=by
 intro pins s σ H Q I h;exact wpAny_Compare1 (Kh ha hb I h fun v u s2 x y H2 I2 rx ry q=>ho pins s2 σ H2 x y v u Q I2 rx ry q) hm
def Oh(t:TE):TT:=fun σ H Q=>t σ H fun x H'=>∃k,x= .bl k/\Q k H'
theorem A4{op:CmpOp}{r:R2}(ho:mR X (compareOp op) r)(ha:PE X a ta)(hb:PE X b tb)(hm:behindInMarks op b=false):PT X (.Compare a [op] [b] pos) (Oh (Mv r ta tb)):=by
 intro pins s σ H Q I h;refine wpAny_isTrue_Compare1 (cE (ha pins s σ H _ I h) fun v s1 ⟨x,H1,I1,r1,q1⟩=>cE (hb pins s1 σ H1 _ I1 q1) fun u s2 ⟨y,H2,I2,r2,q2⟩=>
  cE (ho pins s2 σ H2 x y v u _ I2 r1 r2 q2) fun c s3 ⟨z,H3,I3,r3,k,e,q3⟩=>?_) hm
 subst e;cases r3;exact wpAny_truthy_bool ⟨H3,I3,q3⟩
def P6(r r':R2)(ta tb tc:TE):TE:=fun σ H Q=>ta σ H fun x H1=>tb σ H1 fun y H2=>r x y H2 fun z H3=>∃k,z= .bl k/\
 (if k=true then tc σ H3 fun w' H4=>r' y w' H4 Q else Q (.bl false) H3)
def KO(K:W.Frag)(x:V)(H:Hp)(k:Bool):Prop:=
 match x with
 | .cJ=>k=false
 | .bl b=>k=b
 | .int i=>k=(i !=0)
 | .str y=>y.length<=sizeLine/\k=((y.length:Int) !=0)
 | .byt y=>y.size<=sizeLine/\k=((y.size:Int) !=0)
 | .ref p=>(∃xs,lj K H p xs/\k=!xs.isEmpty)\/(∃xs,oT K H p xs/\k=!xs.isEmpty)\/∃ay,H p=some (.dK ay)/\k=!ay.isEmpty
 | _=>False
theorem zJ{κ:Type}{ay:List (κ × V)}{vs:List (κ × Value)}(r:KV ay vs):(!vs.isEmpty)=!ay.isEmpty:=by
 cases r <;> rfl
theorem rA{xs:List V}{its:List Value}(r:Vals xs its):(!its.toArray.isEmpty)=!xs.isEmpty:=by
 cases r <;> simp
theorem nh:(sizeLine:Nat) < 2 ^ 63:=by rw[sizeLine_eq];decide
theorem KS:Qs X (fun x H Q=>∃k,KO X.K x H k/\Q k H):=by
 intro pins s σ H x v Q I rx h;obtain⟨k,e,q⟩:=h;have hl:=nh;have hs:sizeLine=16777216:=sizeLine_eq;cases x with
 | cJ=>
   cases rx;have e':k=false:=e;subst e';exact truthy_none ⟨H,I,q⟩
 | bl b=>
   cases rx;have e':k=b:=e;subst e';exact wpAny_truthy_bool ⟨H,I,q⟩
 | int i=>
   obtain⟨t,rfl⟩:=rx;have e':k=(i !=0):=e;subst e';exact PySem.P.truthy_int ⟨H,I,q⟩
 | str y=>
   obtain⟨t,rfl⟩:=rx;obtain⟨hy,e'⟩:y.length<=sizeLine/\k=((y.length:Int) !=0):=e;subst e';exact PySem.P.truthy_str (by omega) ⟨H,I.tok _,q⟩
 | byt y=>
   obtain⟨t,rfl⟩:=rx;obtain⟨hy,e'⟩:y.size<=sizeLine/\k=((y.size:Int) !=0):=e;subst e';exact PySem.W.truthy_bytes (by omega) ⟨H,I.tok _,q⟩
 | ref p=>
   cases rx;have e':(∃xs,lj X.K H p xs/\k=!xs.isEmpty)\/(∃xs,oT X.K H p xs/\k=!xs.isEmpty)\/∃ay,H p=some (.dK ay)/\k=!ay.isEmpty:=e;rcases e' with⟨xs,hx,e'⟩ | ⟨xs,hx,e'⟩ | ⟨ay,hx,e'⟩
   .subst e';obtain⟨its,r,pl,hz⟩:=I.list hx;have hlen:=r.length;exact wpAny_truthy_list pl.isList (by simp only[List.size_toArray];omega) ⟨H,I.tok _,by rw[rA r];exact q⟩
   .subst e';obtain⟨its,r,pl,hz⟩:=I.tuple hx;have hlen:=r.length;exact truthy_tuple pl (by simp only[List.size_toArray];omega) ⟨H,I.tok _,by rw[rA r];exact q⟩
   .subst e';obtain⟨hz,hS,vs,r,m⟩:ay.length<=sizeLine/\(p==sysModules)=false/\∃vs,KV ay vs/\s.heap.DictOf (cN X.prog X.w) p vs:=I.hok p _ hx;have hlen:ay.length=vs.length:=Paired.length r;exact wpAny_truthy_dict hS m (by omega) ⟨H,I.tok _,by rw[zJ r];exact q⟩
 | _=>exact(show False from e).elim
theorem xq(ha:PE X a ta)(he:∀whole,isTrue a X.env whole=(do let v <-whole;standAt a.pos;holding [v] (truthy v))) :
 PT X a (fun σ H Q=>ta σ H fun x H'=>∃k,KO X.K x H' k/\Q k H'):=by
 intro pins s σ H Q I h;exact isTrue_plain (cE (ha pins s σ H _ I h) fun v s1 ⟨x,H1,I1,r1,q1⟩=>KS pins s1 σ H1 x v Q I1 r1 q1) (he _)
theorem ze:mR X (binaryOp .Add) (fun x y H Q=>∃i j,x= .str i/\y= .str j/\i.length+j.length<=sizeLine/\Q (.str (i++j)) H):=by
 intro pins s σ H x y v u Q I rx ry h;obtain⟨i,j,rfl,rfl,hz,q⟩:=h;obtain⟨t,rfl⟩:=rx;obtain⟨t',rfl⟩:=ry;exact add_str (fun t' tk=>⟨.str (i++j),H,I.tok _,⟨_,rfl⟩,q⟩) hz
def Nf(b:Expr):Prop:=∀o i,subscripted b false o i=operate [o,i] (getItem o i)
theorem vals1{x:V}{us:List Value}(r:Vals [x] us):∃u,us=[u]/\RelV x u:=by
 cases r with
 | cons r1 r2=>cases r2;exact⟨_,rfl,r1⟩
theorem vals2{x y:V}{us:List Value}(r:Vals [x,y] us):∃u w',us=[u,w']/\RelV x u/\RelV y w':=by
 cases r with
 | cons r1 r2=>
   cases r2 with
   | cons r3 r4=>cases r4;exact⟨_,_,rfl,r1,r3⟩
theorem Bi(hc:X.calm=true):jY X (.builtin "min") (fun xs H Q=>∃i j,xs=[.int i, .int j]/\Q (.int (if j < i then j else i)) H):=by
 intro pins s σ H xs us Q I r h;obtain⟨i,j,rfl,q⟩:=h;obtain⟨u,w',rfl,⟨t,rfl⟩,⟨t',rfl⟩⟩:=vals2 r;refine min_two_ints (I.ok.hd hc) fun h' tk k=>⟨_,H,I.kept k,?_,q⟩
 by_cases hj:j < i
 .rw [if_pos hj,if_pos hj];exact⟨_,rfl⟩
 .rw [if_neg hj,if_neg hj];exact⟨_,rfl⟩
theorem BM:jY X (.type "int") (fun xs H Q=>(∃i,xs=[.int i]/\Q (.int i) H)\/∃k,xs=[.bl k]/\Q (.int (if k then 1 else 0)) H):=by
 intro pins s σ H xs us Q I r h;rcases h with⟨i,rfl,q⟩ | ⟨k,rfl,q⟩
 .obtain⟨u,rfl,t,rfl⟩:=vals1 r;exact call_int_int ⟨.int i,H,I,⟨_,rfl⟩,q⟩
 .obtain⟨u,rfl,r1⟩:=vals1 r;cases r1;exact call_int_bool ⟨.int (if k then 1 else 0),H,I.tok _,⟨_,rfl⟩,q⟩
def PF(K:W.Frag)(x:V)(H:Hp)(n:Nat):Prop:=
 match x with
 | .str y=>y.length<=sizeLine/\n=y.length
 | .byt y=>y.size<=sizeLine/\n=y.size
 | .ref p=>(∃xs,lj K H p xs/\n=xs.length)\/∃xs,oT K H p xs/\n=xs.length
 | _=>False
theorem Dk:jY X (.builtin "len") (fun xs H Q=>∃x n,xs=[x]/\PF X.K x H n/\Q (.int n) H):=by
 intro pins s σ H xs us Q I r h;obtain⟨x,n,rfl,e,q⟩:=h;obtain⟨u,rfl,rx⟩:=vals1 r;have hl:=nh;have hs:sizeLine=16777216:=sizeLine_eq;cases x with
 | str y=>
   obtain⟨t,rfl⟩:=rx;obtain⟨hy,e'⟩:y.length<=sizeLine/\n=y.length:=e;subst e';exact len_str (by omega) ⟨.int _,H,I.tok _,⟨_,rfl⟩,q⟩
 | byt y=>
   obtain⟨t,rfl⟩:=rx;obtain⟨hy,e'⟩:y.size<=sizeLine/\n=y.size:=e;subst e';exact PySem.W.len_bytes (by omega) ⟨.int _,H,I.tok _,⟨_,rfl⟩,q⟩
 | ref p=>
   cases rx;have e':(∃xs,lj X.K H p xs/\n=xs.length)\/∃xs,oT X.K H p xs/\n=xs.length:=e;rcases e' with⟨xs,hx,e'⟩ | ⟨xs,hx,e'⟩
   .subst e';obtain⟨its,r',pl,hz⟩:=I.list hx;have hlen:=r'.length;exact Calls.call_len_list pl.isList (by simp only[List.size_toArray];omega) ⟨.int xs.length,H,I.tok _,⟨_,by simp only[List.size_toArray];rw [hlen]⟩,q⟩
   .subst e';obtain⟨its,r',pl,hz⟩:=I.tuple hx;have hlen:=r'.length;exact len_tuple pl (by simp only[List.size_toArray];omega) ⟨.int xs.length,H,I.tok _,⟨_,by simp only[List.size_toArray];rw [hlen]⟩,q⟩
 | _=>exact(show False from e).elim
end
structure y0 (h:Heap) (x dx C:Addr) (mA:YG):Prop where
 obj:h.get? x=some (PySem.W.instObj C dx)
 ns:h.Ns1 dx mA
 ne:dx≠x
theorem Bt{h:Heap}{dx:Addr}{mA:YG}(n:h.Ns1 dx mA):∃od,h.get? dx=some od/\∀name,PySem.W.lookIn name od=some (mA name):=by
 obtain⟨o,es,ep,ho,hd,hk,_,hm⟩:=n;refine⟨o,ho,fun name=>?_⟩
 have e:=hm name;unfold nsFind findBy at e;rw[<-Array.find?_toList] at e;unfold PySem.W.lookIn;rw[hd];dsimp only;split
 .rename_i y q;rw[q] at e;exact congrArg some e
 .rename_i q;rw[q] at e;have a:es.toList.any (·.refKey)=false:=by
   rw[List.any_eq_false];intro y hy;obtain⟨z,t,hkey⟩:=hk y (Array.mem_toList_iff.mp hy);simp [DictEntry.refKey,hkey]
  have a':¬es.toList.any (·.refKey)=true:=by rw[a];exact Bool.false_ne_true
  rw[if_neg a'];exact congrArg some e
theorem y0.look{x dx C:Addr}{mA:YG}(I:y0 h x dx C mA):∃od,PySem.W.InstAt h x (PySem.W.instObj C dx) C (some od)/\∀name,PySem.W.lookIn name od=some (mA name):=
 let⟨od,ho,hl⟩:=Bt I.ns
 ⟨od,⟨I.obj,rfl,rfl,ho⟩,hl⟩
section
variable {prog:Program} {w:World} {A:Around} {E:YC} {s:Shared} {K:W.Frag} {x dx C f:Addr} {mA:YG} {name:Str} {v:Value}
theorem get_map{expr:Bool}{Q:YC}(X:K.In s.heap)(I:y0 s.heap x dx C mA)(hg:PySem.W.plainGet K C name=true)(hh:PySem.W.hasDictIn K C=true)
 (ha:PySem.W.findIn K (.ref C) name=some none) (hv:mA name=some v) (WW:PySem.W.handedIn v=true) (h:Q v {s with toks:=s.toks+1}) :
 wpAny (model prog w) A (getAttr (.ref x) name expr) Q E s:=by
 obtain⟨od,J,hl⟩:=I.look;exact PySem.W.get_value X J (PySem.W.plainGet_of hg).1 (PySem.W.findObj_own hh ha rfl (by rw[hl,hv])) WW h
theorem Fs{pl:Sem Bool}{Q:Value × List Value->Shared->Prop}(X:K.In s.heap)(I:y0 s.heap x dx C mA)(hg:PySem.W.plainGet K C name=true)
 (hf:PySem.W.findIn K (.ref C) name=some (some (.ref f))) (ht:PySem.W.isFn K (.ref f)=true) (hv:mA name=none) (h:Q (.ref f,[.ref x]) s) :
 wpAny (model prog w) A (getMethod (.ref x) name pl) Q E s:=by
 obtain⟨od,J,hl⟩:=I.look;exact PySem.W.method_fn X J (PySem.W.plainGet_of hg).1 (PySem.W.plainGet_of hg).2 hf (beq_iff_eq.mp ht) (by show(PySem.W.lookIn name od).map (·.isSome)=some false;rw [hl,hv];rfl) h
theorem Hq{ns:List Str}{Q:Unit->Shared->Prop}(X:K.In s.heap)(I:y0 s.heap x dx C mA)
 (hs:PySem.W.findIn K (.ref C) "__setattr__"=some (some (.builtin "object.__setattr__"))) (hp:PySem.W.plainOver K C=true) (ht:PySem.W.takerIn K C name=some none) (hh:PySem.W.hasDictIn K C=true)
 (hw:PySem.Within mA ns) (hsz:ns.length<=sizeLine)
 (h:∀h',y0 h' x dx C (fun y=>if y=name then some v else mA y)->Heap.SameBut dx s.heap h'->Q () {s with heap:=h',toks:=s.toks+2}) :
 wpAny (model prog w) A (setAttr (.ref x) name v) Q E s:=by
 obtain⟨od,J,hl⟩:=I.look;refine PySem.W.set_plain X J hs (PySem.W.osa_open (s:={s with toks:=s.toks+1}) (r:=none) X J hp ht fun b=>?_)
 obtain⟨cd,hc,Cd⟩:=PySem.W.any_some hh;have hx:s.heap.get? x=some ⟨.ref C,some dx, .plain,#[]⟩:=I.obj;refine wpAny_bind (wpAny_pure (wpAny_bind (wpAny_bind (wpAny_loadPart hx (wpAny_bind (PySem.W.Looks.here (s:={s with toks:=s.toks+1}) (PySem.W.looks_clsIn X hc) ?_))))))
 rw[Cd];refine wpAny_pure (a:=some dx) (wpAny_bind (wpAny_pure (wpAny_bind ?_)));refine wpAny_nsSet1 (s:={s with toks:=s.toks+1}) I.ns fun h' Pg UB=>?_
 obtain⟨oD,esD,epD,hoD,hdD,hcD⟩:=Pg.count (PySem.Within.cons name v hw);refine wpAny_bind (wpAny_lookBehind hoD (by rw[hdD];exact pastItsLine_dict (Nat.le_trans hcD (by rw[List.length_cons];omega))) ?_)
 exact wpAny_pure (h _ ⟨(UB.2 _ (Ne.symm I.ne)).trans I.obj,Pg,I.ne⟩ UB)
theorem Du{R:Result->Shared->Prop}{vs:List Value}{kw:List (Str × Value)}(X:K.In s.heap)(hm:PySem.W.makesIn K C=true)
 (hi:PySem.W.findIn K (.ref C) "__init__"=some (some (.ref f))) (hf:PySem.W.typeIn K (.ref f)=some (.type "function"))
 (h:codeAny (model prog w) (A.under (.builtin "type.__call__" ⟨.ref C ::vs,kw⟩)) (.call (.ref f) ⟨.ref (s.heap.objs.size+1) ::vs,kw⟩) (PySem.W.InitBack (s.heap.objs.size+1) R)
   {s with heap:=(s.heap.push PySem.W.emptyDict).push (PySem.W.instObj C s.heap.objs.size)}) :
 codeAny (model prog w) A (.call (.ref C) ⟨vs,kw⟩) R s:=by
 obtain⟨hh,g,d,t,os⟩:=s;exact PySem.W.make_core (PySem.W.makes_of X hm) (PySem.W.looks_findIn X hi) (fun self=>PySem.W.bind_fn X self hf) (.inl rfl) h
end
def jQ(f:Str)(v:V):List (Str × V)->List (Str × V)
 | []=>[(f,v)]
 | (g,x) ::r=>if g=f then(g,v) ::r else(g,x) ::jQ f v r
theorem qi(f g:Str)(v:V):∀fs:List (Str × V),(jQ f v fs).lookup g=if g=f then some v else fs.lookup g
 | []=>by
   show List.lookup g [(f,v)]=_;by_cases h:g=f
   .have hb:(g==f)=true:=beq_iff_eq.mpr h;simp only[List.lookup,hb,if_pos h]
   .have hb:(g==f)=false:=beq_eq_false_iff_ne.mpr h;simp only[List.lookup,hb,if_neg h]
 | (k,x) ::r=>by
   have ih:=qi f g v r;rw[show jQ f v ((k,x) ::r)=(if k=f then(k,v) ::r else(k,x) ::jQ f v r) from rfl]
   by_cases hk:k=f
   .rw [if_pos hk];by_cases h:g=k
    .have hb:(g==k)=true:=beq_iff_eq.mpr h;simp only[List.lookup,hb,if_pos (h.trans hk)]
    .have hb:(g==k)=false:=beq_eq_false_iff_ne.mpr h;simp only[List.lookup,hb,if_neg (fun e:g=f=>h (e.trans hk.symm))]
   .rw [if_neg hk];by_cases h:g=k
    .have hb:(g==k)=true:=beq_iff_eq.mpr h;simp only[List.lookup,hb,if_neg (fun e:g=f=>hk (h.symm.trans e))]
    .have hb:(g==k)=false:=beq_eq_false_iff_ne.mpr h;simp only[List.lookup,hb];exact ih
theorem pO(f:Str)(v:V):∀fs:List (Str × V),f∈(jQ f v fs).map (·.1)/\∀g,g∈fs.map (·.1)->g∈(jQ f v fs).map (·.1)
 | []=>⟨by simp [jQ],fun g h=>by simp at h⟩
 | (k,x) ::r=>by
   obtain⟨i1,i2⟩:=pO f v r;rw[show jQ f v ((k,x) ::r)=(if k=f then(k,v) ::r else(k,x) ::jQ f v r) from rfl]
   by_cases hk:k=f
   .rw [if_pos hk];subst hk;exact⟨by simp,fun g h=>by simpa using h⟩
   .rw [if_neg hk];refine⟨?_,fun g h=>?_⟩
    .rw [List.map_cons];exact List.mem_cons_of_mem _ i1
    .rw [List.map_cons] at h ⊢;rcases List.mem_cons.mp h with e | e
     .exact List.mem_cons.mpr (.inl e)
     .exact List.mem_cons_of_mem _ (i2 g e)
theorem qo(f:Str)(v:V):∀fs:List (Str × V),(jQ f v fs).length<=fs.length+1
 | []=>by simp [jQ]
 | (k,x) ::r=>by
   have ih:=qo f v r;rw[show jQ f v ((k,x) ::r)=(if k=f then(k,v) ::r else(k,x) ::jQ f v r) from rfl]
   by_cases hk:k=f
   .rw [if_pos hk,List.length_cons,List.length_cons];omega
   .rw [if_neg hk,List.length_cons,List.length_cons];omega
theorem kx.some_of{v:V}{o:Option Value}(r:kx (some v) o):∃u,o=some u/\RelV v u:=by
 cases o with
 | none=>exact(show False from r).elim
 | some u=>exact⟨u,rfl,r⟩
theorem kx.none_of{o:Option Value}(r:kx none o):o=none:=by
 cases o with
 | none=>rfl
 | some u=>exact(show False from r).elim
theorem BG{v:V}{u:Value}(r:RelV v u):PySem.W.handedIn u=true:=by
 cases v with
 | cJ=>cases(show u=Value.none from r);rfl
 | bl b=>cases(show u=Value.bool b from r);rfl
 | int i=>obtain⟨t,e⟩:=(show ∃t,u=Value.int i t from r);cases e;rfl
 | str x=>obtain⟨t,e⟩:=(show ∃t,u=Value.str x t from r);cases e;rfl
 | byt b=>obtain⟨t,e⟩:=(show ∃t,u=Value.bytes b t from r);cases e;rfl
 | flt b=>obtain⟨t,e⟩:=(show ∃t,u=Value.float b t from r);cases e;rfl
 | ref a=>cases(show u=Value.ref a from r);rfl
 | ty n=>cases(show u=Value.type n from r);rfl
section
variable {P:Program} {w:World} {H H':Hp} {h h':Heap} {a C dx:Addr} {fs Mx:List (Str × V)}
theorem vc(hok:mM P w H h)(e:H a=some (.ins C dx fs)):∃mA,y0 h a dx C mA/\(∀f,kx (fs.lookup f) (mA f))/\PySem.Within mA (fs.map (·.1))/\fs.length<=1000/\H dx=some (.own a):=by
 obtain⟨d,z,ne,ob,mA,n,r,q⟩:=(show dJ P w H h a (.ins C dx fs) from hok a _ e)
 exact⟨mA,⟨ob,n,ne⟩,r,q,z,d⟩
end
structure xK (K:W.Frag) (C:Addr):Prop where
 pg:PySem.W.plainGet K C Str.empty=true
 hd:PySem.W.hasDictIn K C=true
 po:PySem.W.plainOver K C=true
 sa:PySem.W.findIn K (.ref C) "__setattr__"=some (some (.builtin "object.__setattr__"))
theorem xK.get{K:W.Frag}{C:Addr}(c:xK K C)(f:Str):PySem.W.plainGet K C f=true:=c.pg
def c9(K:W.Frag)(C:Addr)(f:Str):Prop:=PySem.W.findIn K (.ref C) f=some none
theorem c9.M_{K:W.Frag}{C:Addr}(n:c9 K C f):PySem.W.takerIn K C f=some none:=by
 unfold PySem.W.takerIn;rw[show PySem.W.findIn K (.ref C) f=some none from n]
 rfl
structure Wh (K:W.Frag) (C:Addr) (f:Str) (v:V) (u:Value):Prop where
 at_:PySem.W.findIn K (.ref C) f=some (some u)
 rel:RelV v u
 get:PySem.W.specialIn K u "__get__"=some none
 cp:PySem.W.copiedNames.contains f=false
structure Meth (K:W.Frag) (C:Addr) (m:Str) (f:Addr):Prop where
 at_:PySem.W.findIn K (.ref C) m=some (some (.ref f))
 fn:PySem.W.isFn K (.ref f)=true
 kp:PySem.W.keepIn K (.ref f)=true
section
variable {X:Cx} {pins:YB} {σ:St} {H:Hp} {s:Shared} {a C dx:Addr} {fs:List (Str × V)} {f:Str} {v:V} {A:Around} {E:YC}
theorem zq{b:Bool}{Q:YC}(I:Inv X pins σ H s)(e:H a=some (.ins C dx fs))(c:xK X.K C)(n:c9 X.K C f)(l:fs.lookup f=some v)
 (h:∀u s',Inv X pins σ H s'->RelV v u->Q u s'):wpAny (model X.prog X.w) A (getAttr (.ref a) f b) Q E s:=by
 obtain⟨mA,O,r,_,_,_⟩:=vc I.hok e;obtain⟨u,hu,ru⟩:=kx.some_of (v:=v) (o:=mA f) (by rw[<-l];exact r f)
 exact get_map I.w_ O (c.get f) c.hd n hu (BG ru) (h u _ (I.tok _) ru)
theorem yC{m:Str}{g:Addr}{pl:Sem Bool}{Q:Value × List Value->Shared->Prop}(I:Inv X pins σ H s)(e:H a=some (.ins C dx fs))(c:xK X.K C)(k:Meth X.K C m g)(l:fs.lookup m=none)
 (h:Q (.ref g,[.ref a]) s):wpAny (model X.prog X.w) A (getMethod (.ref a) m pl) Q E s:=by
 obtain⟨mA,O,r,_,_,_⟩:=vc I.hok e;have hn:mA m=none:=kx.none_of (by rw[<-l];exact r m)
 exact Fs I.w_ O (c.get m) k.at_ k.fn hn h
theorem ym{y:V}{u:Value}{Q:Unit->Shared->Prop}(I:Inv X pins σ H s)(e:H a=some (.ins C dx fs))(c:xK X.K C)(n:c9 X.K C f)(hl:fs.length < 1000)(ry:RelV y u)
 (h:∀s',Inv X pins σ (upd H a (.ins C dx (jQ f y fs))) s'->Q () s'):wpAny (model X.prog X.w) A (setAttr (.ref a) f u) Q E s:=by
 obtain⟨mA,O,r,wi,_,ho⟩:=vc I.hok e;have hz:(fs.map (·.1)).length<=sizeLine:=by rw[List.length_map,sizeLine_eq];omega
 refine Hq I.w_ O c.sa c.po n.M_ c.hd wi hz fun h' O' sb=>h _ ?_
 have hd:∃o,h'.get? dx=some o:=let⟨o,_,_,e',_⟩:=O'.ns;⟨o,e'⟩
 refine I.write (x:=a) (e:=dx) (by rw[e];exact True.intro) (.inr ho) (fun b q hb z=>(sb.2 b hb).trans z) hd ?_
 refine⟨by rw[bj O.ne];exact ho,?_,O.ne,O'.obj,_,O'.ns,fun g=>?_,fun g hg=>?_⟩
 .have:=qo f y fs;omega
 .show kx ((jQ f y fs).lookup g) (if g=f then some u else mA g)
  rw[qi];by_cases q:g=f
  .rw [if_pos q,if_pos q];exact ry
  .rw [if_neg q,if_neg q];exact r g
 .by_cases q:g=f
  .rw [q];exact(pO f y fs).1
  .refine(pO f y fs).2 g (wi g fun z=>hg ?_)
   show(if g=f then some u else mA g)=none
   rw[if_neg q];exact z
theorem Inv.made(I:Inv X pins σ H s):Inv X pins σ (upd (upd H s.heap.objs.size (.own (s.heap.objs.size+1))) (s.heap.objs.size+1) (.ins C s.heap.objs.size []))
 {s with heap:=(s.heap.push PySem.W.emptyDict).push (PySem.W.instObj C s.heap.objs.size)}:=by
 have e1:(s.heap.push PySem.W.emptyDict).get? s.heap.objs.size=some PySem.W.emptyDict:=Heap.get?_push_size s.heap rfl;have e2:((s.heap.push PySem.W.emptyDict).push (PySem.W.instObj C s.heap.objs.size)).get? (s.heap.objs.size+1)=some (PySem.W.instObj C s.heap.objs.size):=by
  have:=Heap.get?_push_size (s.heap.push PySem.W.emptyDict) (o:=PySem.W.instObj C s.heap.objs.size) rfl
  rwa [Heap.size_push] at this
 have e3:(s.heap.push PySem.W.emptyDict).Ns s.heap.objs.size (fun _=>none):=⟨PySem.W.emptyDict,#[],_,e1,rfl,(fun e he=>absurd he (by simp)),fun _=>rfl⟩
 have I1:=I.laid (a:=s.heap.objs.size) (o:= .own (s.heap.objs.size+1)) (h':=s.heap.push PySem.W.emptyDict) (t':=s.toks) (fun b u q=>Heap.get?_push_of_some _ q) (Nat.le_refl _) ⟨_,e1⟩
 refine I1.laid (a:=s.heap.objs.size+1) (o:= .ins C s.heap.objs.size []) (t':=s.toks) (fun b u q=>Heap.get?_push_of_some _ q) (Nat.le_of_eq (Heap.size_push _ _)) ?_
 have ne:s.heap.objs.size≠s.heap.objs.size+1:=Nat.ne_of_lt (Nat.lt_succ_self _);refine⟨by rw[bj ne,aX],Nat.zero_le _,ne,e2,fun _=>none,(Heap.Ns1.of_empty e3).at fun o q=>Heap.get?_push_of_some _ q,fun _=>True.intro,fun y hy=>absurd rfl hy⟩
theorem Gs{prog:Program}{w:World}{env:Env}{e:Expr}{f:Str}{pos:Pos}{s:Shared}{Q:YC}(hb:attributeBase e f env (eval e env)=eval e env)
 (h:wpAny (model prog w) A (eval e env) (fun o s₁=>wpAny (model prog w) A (getAttr o f true) Q E s₁) E s):wpAny (model prog w) A (eval (.Attribute e f pos) env) Q E s:=
 Attribute_any_ h (by rw[arm_eval_Attribute,hb])
end
def Q4(K:W.Frag)(ta:TE)(f:Str):TE:=fun σ H Q=>ta σ H fun x H1=>∃a C dx fs v,x= .ref a/\H1 a=some (.ins C dx fs)/\xK K C/\c9 K C f/\fs.lookup f=some v/\Q v H1
def U4(K:W.Frag)(ta:TE)(f:Str):TE:=fun σ H Q=>ta σ H fun x H1=>∃a C dx fs v u,x= .ref a/\H1 a=some (.ins C dx fs)/\xK K C/\Wh K C f v u/\fs.lookup f=none/\Q v H1
def Q9(K:W.Frag)(ta tv:TE)(f:Str):TS:=fun D σ H=>tv σ H fun y H1=>ta σ H1 fun x H2=>∃a C dx fs,x= .ref a/\H2 a=some (.ins C dx fs)/\xK K C/\c9 K C f/\fs.length < 1000/\
 D.nx σ (upd H2 a (.ins C dx (jQ f y fs)))
def VO(X:Cx)(op:Operator)(rd:V->V->Hp->VK->Prop):Prop:=
 ∀(pins:YB) (s:Shared) (σ:St) (H:Hp) (x y:V) (u v:Value) (Q:VK),Inv X pins σ H s->RelV x u->RelV y v->rd x y H Q->wpAny (model X.prog X.w) X.A (inplaceOp op u v) (EP X pins σ Q) X.xe s
def O0(K:W.Frag)(ta tv:TE)(rd:V->V->Hp->VK->Prop)(f:Str):TS:=fun D σ H=>ta σ H fun x H1=>∃a C dx fs v,x= .ref a/\H1 a=some (.ins C dx fs)/\xK K C/\c9 K C f/\fs.lookup f=some v/\
 tv σ H1 fun y H2=>rd v y H2 fun z H3=>∃dx' Mx,H3 a=some (.ins C dx' Mx)/\Mx.length < 1000/\D.nx σ (upd H3 a (.ins C dx' (jQ f z Mx)))
section
variable {X:Cx} {o e value:Expr} {f:Str} {pos pos' FK:Pos} {ta tv:TE}
theorem Kl(he:PE X e ta)(hb:attributeBase e f X.env (eval e X.env)=eval e X.env):PE X (.Attribute e f pos) (Q4 X.K ta f):=by
 intro pins s σ H Q I h;refine Gs hb (cE (he pins s σ H _ I h) fun u s1 ⟨x,H1,I1,rx,a,C,dx,fs,v,ex,ea,c,n,l,q⟩=>?_)
 subst ex;obtain rfl:u=Value.ref a:=rx;exact zq I1 ea c n l fun u' s2 I2 ru=>⟨v,H1,I2,ru,q⟩
theorem Lx(ha:PE X o ta)(hv:PE X value tv)(hs:swapsWith value (some (.Attribute o f pos')) pos.line X.env=pure false):PS X (.Assign [.Attribute o f pos'] value pos) (Q9 X.K ta tv f):=by
 intro pins s σ H D I h;refine plainObj_wpAny_Assign_Attribute (cE (hv pins s σ H _ I h) fun u s1 ⟨y,H1,I1,ry,q⟩=>cE (ha pins s1 σ H1 _ I1 q) fun ov s2 ⟨x,H2,I2,rx,a,C,dx,fs,ex,ea,c,n,l,q2⟩=>?_) hs
 subst ex;obtain rfl:ov=Value.ref a:=rx;exact ym I2 ea c n l ry fun s3 I3=>⟨σ,_,I3,q2⟩
def VA:V->V->Hp->VK->Prop:=fun x y H Q=>∃i j,x= .int i/\y= .int j/\Q (.int (i+j)) H
def Wu:V->V->Hp->VK->Prop:=fun x y H Q=>∃i j,x= .int i/\y= .int j/\Q (.int (i - j)) H
end
section
variable {X:Cx} {pins:YB} {σ:St} {H:Hp} {s:Shared} {A:Around} {E:YC} {Q:YC} {c:Value} {b:Bool}
inductive qZ (K:W.Frag) (H:Hp):V->Value->Prop where
 | cJ:qZ K H .cJ (.type "NoneType")
 | bl (x:Bool):qZ K H (.bl x) (.type "bool")
 | int (i:Int):qZ K H (.int i) (.type "int")
 | str (x:Str):qZ K H (.str x) (.type "str")
 | flt (x:UInt64):qZ K H (.flt x) (.type "float")
 | lst {a:Addr} {xs:List V} (e:H a=some (.lst xs)):qZ K H (.ref a) (.type "list")
 | ky {a:Addr} {o:Obj} {xs:List V} (e:H a=some (.ky o (.lst xs))):qZ K H (.ref a) (.type "list")
 | tup {a:Addr} {xs:List V} (e:H a=some (.tup xs)):qZ K H (.ref a) (.type "tuple")
 | dK {a:Addr} {ay:List (Key × V)} (e:H a=some (.dK ay)):qZ K H (.ref a) (.type "dict")
 | dT {a:Addr} {ay:List (List Key × V)} (e:H a=some (.dT ay)):qZ K H (.ref a) (.type "dict")
 | ins {a C dx:Addr} {fs:List (Str × V)} (e:H a=some (.ins C dx fs)) (cl:xK K C) (ha:PySem.W.findIn K (.ref C) "__class__"=some (some (.builtin "object.__class__")))
    (hn:PySem.W.specialIn K (.builtin "object.__class__") "__get__"=some (some (.builtin "getset_descriptor.__get__"))) (Yq:PySem.W.takesIn K (.builtin "object.__class__")=some true)
    (hm:PySem.W.mroIn K C (.type "object")=some true):qZ K H (.ref a) (.ref C)
end
structure dA (k:Nat) (A:Around):Prop where
 hd:A.handled=none
 dp:A.depth+3*k+5 < recursionLimit
 un:A.units+16*k+200 < cLine
theorem dA.mono{j k:Nat}(r:dA k A)(h:j<=k):dA j A:=⟨r.hd,by have:=r.dp;omega,by have:=r.un;omega⟩
theorem dA.deeper{k:Nat}{A:Around}(r:dA (k+1) A)(env:Env):dA k (A.deeper env):=
 ⟨r.hd,by have:=r.dp;show A.depth+1+3*k+5 < _;omega,by have:=r.un;show A.units+3+16*k+200 < _;omega⟩
theorem yQ{A:Around}{C:Addr}{us:List Value}{kw:List (Str × Value)}:(A.under (.builtin "type.__call__" ⟨.ref C ::us,kw⟩)).depth=A.depth+1:=by
 first | rfl | simp [Around.under,Code.weight,Code.isCreation,Code.isGuard,Code.isCaller,Code.frames,Code.isFrame,guardIds]
theorem yG{A:Around}{C:Addr}{us:List Value}{kw:List (Str × Value)}:(A.under (.builtin "type.__call__" ⟨.ref C ::us,kw⟩)).units=A.units+1:=by
 first | rfl | simp [Around.under,Code.cUnits,Code.frames,Code.isFrame]
theorem dA.make{k:Nat}{A:Around}(r:dA (k+1) A)(C:Addr)(us:List Value)(kw:List (Str × Value)):dA k (A.under (.builtin "type.__call__" ⟨.ref C ::us,kw⟩)):=
 ⟨r.hd,by have:=r.dp;rw [yQ];omega,by have:=r.un;rw [yG];omega⟩
theorem dA.depth{k:Nat}{A:Around}(r:dA k A):A.depth < recursionLimit:=by have:=r.dp;omega
theorem dA.units{k:Nat}{A:Around}(r:dA k A):A.units+64 < cLine:=by have:=r.un;omega
def MA:TA:=fun _ H Q=>Q [] H
def NI(ta:TE)(tr:TA):TA:=fun σ H Q=>ta σ H fun x H1=>tr σ H1 fun xs H2=>Q (x ::xs) H2
section
variable {X:Cx} {e:Expr} {es:List Expr} {te:TE} {t:TA} {pos:Pos}
theorem i9:PA X [] MA:=fun _ _ _ _ H Q I h=>Calls.spliced_nil ⟨[],H,I, .nil,h⟩
theorem f_(ha:PE X e te)(hr:PA X es t)(hs:starEach (e ::es) X.env=(false,eval e X.env) ::starEach es X.env:=by rfl):PA X (e ::es) (NI te t):=by
 intro pos pins s σ H Q I h;rw[hs];show wpAny _ _ (spliced ((false,eval e X.env) ::backTo pos (starEach es X.env))) _ _ s;refine Calls.spliced_cons (cE (ha pins s σ H _ I h) fun u s1 ⟨x,H1,I1,r1,q1⟩=>?_)
 exact cE (hr pos pins s1 σ H1 _ I1 q1) fun us s2 ⟨xs,H2,I2,r2,q2⟩=>⟨x ::xs,H2,I2, .cons r1 r2,q2⟩
def PH(t:TA):TE:=fun σ H Q=>t σ H fun xs H1=>xs.length<=sizeLine/\∀p,H1 p=none->Q (.ref p) (upd H1 p (.tup xs))
def Qz(t:TA):TE:=fun σ H Q=>t σ H fun xs H1=>xs.length<=sizeLine/\∀p,H1 p=none->Q (.ref p) (upd H1 p (.lst xs))
theorem zw{x1}(h:PA X es t):PE X (.Tuple es x1 pos) (PH t):=by
 intro pins s σ H Q I hq;refine wpAny_Tuple_spliced (cE (h pos pins s σ H _ I hq) fun us s1 ⟨xs,H1,I1,r,z,q⟩=>⟨by rw[<-r.length];exact z,?_⟩)
 have hf:H1 s1.heap.objs.size=none:=I1.hok.fresh (Nat.le_refl _);refine⟨.ref s1.heap.objs.size,upd H1 s1.heap.objs.size (.tup xs),I1.laid (t':=s1.toks) (fun b u e=>Heap.get?_push_of_some _ e) (Nat.le_refl _) ?_,rfl,q _ hf⟩
 exact⟨z,us,r,⟨_,Heap.get?_push_size _ rfl,rfl,_,rfl⟩⟩
theorem LU(h:PA X es t):PE X (.List es pos) (Qz t):=by
 intro pins s σ H Q I hq;refine wpAny_List_spliced (cE (h pos pins s σ H _ I hq) fun us s1 ⟨xs,H1,I1,r,z,q⟩=>⟨by rw[<-r.length];exact z,?_⟩)
 have hf:H1 s1.heap.objs.size=none:=I1.hok.fresh (Nat.le_refl _);refine⟨.ref s1.heap.objs.size,upd H1 s1.heap.objs.size (.lst xs),I1.laid (t':=s1.toks) (fun b u e=>Heap.get?_push_of_some _ e) (Nat.le_refl _) ?_,rfl,q _ hf⟩
 exact⟨z,us,0,r,Heap.get?_push_size _ rfl⟩
end
abbrev Sp:=List V->Hp->VK->XK->Prop
abbrev Cq:=List Env->Hp->Shared->XK->Value->Shared->Prop
structure yD (P:Program) (w:World) (K:W.Frag) (mg:YG) (base:Heap) (A:Around) (outer:List Env) (s:Shared) (H:Hp):Prop where
 frames:A.frames=some outer
 mod:Mod K mg base
 bs:∀b o,base.get? b=some o->s.heap.get? b=some o/\H b=none
 bsz:base.objs.size<=s.heap.objs.size
 pW:s.heap.FunFrames base outer
 frf:∀b∈qG outer,H b=none
 hok:mM P w H s.heap
 bare:AllBare s.gens
def CE(outer:List Env)(P:Program)(w:World)(H:Hp)(s:Shared)(Q:VK)(u:Value)(s':Shared):Prop:=
 ∃v H',s'.os=s.os/\AllBare s'.gens/\Un (qG outer) [] H H' s.heap s'.heap/\mM P w H' s'.heap/\RelV v u/\Q v H'
def CR(CX:Cq)(outer:List Env)(P:Program)(w:World)(H:Hp)(s:Shared)(Q:VK)(E:XK)(r:Result)(s':Shared):Prop:=
 match r with
 | .ok (.ret u)=>CE outer P w H s Q u s'
 | .ok _=>False
 | .error e=>CX outer H s E e s'
structure ig (P:Program) (w:World) (K:W.Frag) (mg:YG) (base:Heap) (CX:Cq) (k:Nat) (f:Addr) (fd:FuncData) (ps:List Str) (sp:Sp):Prop where
 len:∀vs H Q E,sp vs H Q E->vs.length=ps.length
 run:∀(A:Around) (outer:List Env) (s:Shared) (H:Hp) (args:Args) (us:List Value) (vs:List V) (Q:VK) (E:XK),dA k A->yD P w K mg base A outer s H->BindsTo s fd args (ps.zip us)->Vals vs us->sp vs H Q E->
  codeAny (model P w) A (.call (.ref f) args) (CR CX outer P w H s Q E) s
theorem ig.imp{P:Program}{w:World}{K:W.Frag}{mg:YG}{base:Heap}{CX:Cq}{k:Nat}{f:Addr}{fd:FuncData}{ps:List Str}{sp UJ:Sp}(F:ig P w K mg base CX k f fd ps sp)
 (h:∀vs H Q E,UJ vs H Q E->sp vs H Q E):ig P w K mg base CX k f fd ps UJ:=
 ⟨fun vs H Q E q=>F.len vs H Q E (h _ _ _ _ q),fun A outer s H args us vs Q E hr he hb hv hs=>F.run A outer s H args us vs Q E hr he hb hv (h _ _ _ _ hs)⟩
theorem yD.make{K:W.Frag}{mg:YG}{outer:List Env}{s:Shared}(e:yD P w K mg base A outer s H)(C:Addr)(us:List Value)(kw:List (Str × Value)) :
 yD P w K mg base (A.under (.builtin "type.__call__" ⟨.ref C ::us,kw⟩)) outer s H:=⟨by first | exact e.frames | (simpa [Around.under,Code.envs,Code.isFrame,pushEnvs] using e.frames),e.mod,e.bs,e.bsz,e.pW,e.frf,e.hok,e.bare⟩
section
variable {X:Cx} {pins:YB} {σ:St} {H:Hp} {s s':Shared}
theorem Inv.ME(I:Inv X pins σ H s):yD X.prog X.w X.K X.mg X.base X.A X.stack s H:=
 ⟨I.ok.frames,I.ok.mod,I.bs,Nat.le_trans I.ok.bsz I.sz,I.stack,I.qO,I.hok,I.bare⟩
theorem Inv.after{Q:VK}{u:Value}(I:Inv X pins σ H s)(h:CE X.stack X.prog X.w H s Q u s'):EP X pins σ Q u s':=by
 obtain⟨v,H',os,bare,un,hok,r,q⟩:=h;obtain⟨hh,g,d,t,la⟩:=s';obtain rfl:la=s.os:=os;exact⟨v,H',I.call (h':=hh) (g':=g) (d':=d) (t':=t) (ch:=[]) un hok bare (fun b z=>absurd z (by simp)),r,q⟩
end
def NB(sp:Sp)(vP:List V)(E:XK)(t:TA):TE:=fun σ H Q=>t σ H fun vs H1=>sp (vs++vP) H1 Q E
def Ot(C:Addr)(m:Str)(sp:Sp)(vP:List V)(E:XK)(ta:TE)(t:TA):TE:=fun σ H Q=>ta σ H fun x H1=>∃a dx fs,x= .ref a/\H1 a=some (.ins C dx fs)/\fs.lookup m=none/\
 t σ H1 fun vs H2=>sp (x ::(vs++vP)) H2 Q E
def Nj(C:Addr)(sp:Sp)(vP:List V)(E:XK)(t:TA):TE:=fun σ H Q=>t σ H fun vs H1=>∀x dx,H1 x=none->H1 dx=none->dx≠x->
 sp (.ref x ::(vs++vP)) (upd (upd H1 dx (.own x)) x (.ins C dx [])) (fun v H2=>v= .cJ/\Q (.ref x) H2) E
def Binds(K:W.Frag)(fd:FuncData)(ps:List Str)(ds:List Value):Prop:=
 ∀(s:Shared) (us:List Value),K.In s.heap->(us++ds).length=ps.length->BindsTo s fd ⟨us,[]⟩ (ps.zip (us++ds))
theorem Binds.all{K:W.Frag}{fd:FuncData}{ps:List Str}(h:∀us:List Value,us.length=ps.length->bindArgs fd ⟨us,[]⟩=pure (ps.zip us)):Binds K fd ps []:=fun s us _ hl=>by
 rw[List.append_nil] at hl ⊢;exact .of_eq (h us hl)
def Passes(CX:Cq)(X:Cx)(E:XK):Prop:=∀(pins:YB) (σ:St) (H:Hp) (s:Shared) (e:Value) (s':Shared),Inv X pins σ H s->CX X.stack H s E e s'->X.xe e s'
section
variable {X:Cx} {CX:Cq} {k:Nat} {f C:Addr} {fd:FuncData} {ps:List Str} {sp:Sp} {vP:List V} {ds:List Value} {E:XK} {x m:Str} {p pos apos:Pos} {e o:Expr} {es:List Expr} {ta:TE} {t:TA}
theorem FE{pins:YB}{σ:St}{H:Hp}{s:Shared}{Q:VK}{us:List Value}{vs:List V}(F:ig X.prog X.w X.K X.mg X.base CX k f fd ps sp)(hr:dA k X.A)(hb:Binds X.K fd ps ds)(hd:Vals vP ds)(hx:Passes CX X E)
 (I:Inv X pins σ H s) (r:Vals vs us) (h:sp (vs++vP) H Q E):wpAny (model X.prog X.w) X.A (call (.ref f) us) (EP X pins σ Q) X.xe s:=by
 have r2:Vals (vs++vP) (us++ds):=r.append hd;have hl:(us++ds).length=ps.length:=by rw[<-r2.length];exact F.len _ _ _ _ h
 refine wpAny_call (codeAny_mono (F.run X.A X.stack s H ⟨us,[]⟩ (us++ds) (vs++vP) Q E hr I.ME (hb s us I.w_ hl) r2 h) fun r s' hq=>?_)
 cases r with
 | error e=>exact hx pins σ H s e s' I hq
 | ok fl=>
   cases fl with
   | ret u=>exact I.after hq
   | next=>exact False.elim hq
   | brk=>exact False.elim hq
   | cont=>exact False.elim hq
theorem qN(F:ig X.prog X.w X.K X.mg X.base CX k f fd ps sp)(hr:dA k X.A)(hg:Gl X x)(hm:X.mg x=some (.ref f))(hk:PySem.W.keepIn X.K (.ref f)=true)(hb:Binds X.K fd ps ds)(hd:Vals vP ds)(hx:Passes CX X E)
 (ha:PA X (e ::es) t) (jz:(x==("__debug__":Str))=false:=by decide) (he:starEach (e ::es) X.env=(false,eval e X.env) ::starEach es X.env:=by rfl) (ko:(backTo pos (starEach es X.env)).any (·.1)=false:=by rfl) :
 PE X (.Call (.Name x p) (e ::es) [] pos) (NB sp vP E t):=by
 intro pins s σ H Q I h;refine wpAny_Call_Name_kw (qL I hg hm ?_ jz);refine PySem.W.callWith_K (h₀:=X.base) I.ok.mod.kin hk (cE (ha pos pins s σ H _ I h) fun us s1 ⟨vs,H1,I1,r,q⟩=>⟨I1.w_,?_⟩) he ko
 exact FE F hr hb hd hx I1 r q
theorem G_{pl:Sem Bool}(he:PE X o ta)(c:xK X.K C)(hm:Meth X.K C m f)(F:ig X.prog X.w X.K X.mg X.base CX k f fd ps sp)(hr:dA k X.A)(hb:Binds X.K fd ps ds)(hd:Vals vP ds)(hx:Passes CX X E)(ha:PA X (e ::es) t)
 (xZ:starEach (e ::es) X.env=(false,eval e X.env) ::starEach es X.env:=by rfl) (ko:(backTo pos (starEach es X.env)).any (·.1)=false:=by rfl)
 (ht:eval (.Call (.Attribute o m apos) (e ::es) [] pos) X.env=(do
   let ov <-eval o X.env
   standAt apos.atName
   let(f,first) <-holding [ov] (getMethod ov m pl)
   callWith pos f first (backTo pos (starEach (e ::es) X.env)) (backToKw pos (keywordEach [] X.env))):=by rfl) :
 PE X (.Call (.Attribute o m apos) (e ::es) [] pos) (Ot C m sp vP E ta t):=by
 intro pins s σ H Q I h;refine PySem.W.methodCall_KW (pl:=pl) (cE (he pins s σ H _ I h) fun u s1 ⟨x,H1,I1,rx,a,dx,fs,ex,ea,l,q⟩=>?_) ht
 subst ex;obtain rfl:u=Value.ref a:=rx;refine yC I1 ea c hm l ?_;refine PySem.W.callWith_K (first:=[.ref a]) (h₀:=X.base) I.ok.mod.kin hm.kp (cE (ha pos pins s1 σ H1 _ I1 q) fun us s2 ⟨vs,H2,I2,r,q2⟩=>⟨I2.w_,?_⟩) xZ ko
 exact FE (us:= .ref a ::us) (vs:= .ref a ::vs) F hr hb hd hx I2 (.cons rfl r) q2
structure Mk (K:W.Frag) (C f:Addr):Prop where
 makes:PySem.W.makesIn K C=true
 init:PySem.W.findIn K (.ref C) "__init__"=some (some (.ref f))
 fn:PySem.W.isFn K (.ref f)=true
 kp:PySem.W.keepIn K (.ref C)=true
theorem ED{pins:YB}{σ:St}{H:Hp}{s:Shared}{Q:VK}{us:List Value}{vs:List V}(M:Mk X.K C f)(F:ig X.prog X.w X.K X.mg X.base CX k f fd ps sp)(hr:dA (k+1) X.A)(hb:Binds X.K fd ps ds)(hd:Vals vP ds)
 (hx:Passes CX X E) (I:Inv X pins σ H s) (r:Vals vs us)
 (h:∀x dx,H x=none->H dx=none->dx≠x->sp (.ref x ::(vs++vP)) (upd (upd H dx (.own x)) x (.ins C dx [])) (fun v H2=>v= .cJ/\Q (.ref x) H2) E) :
 wpAny (model X.prog X.w) X.A (call (.ref C) us) (EP X pins σ Q) X.xe s:=by
 have hq:=h (s.heap.objs.size+1) s.heap.objs.size (I.hok.fresh (Nat.le_succ _)) (I.hok.fresh (Nat.le_refl _)) (Nat.ne_of_lt (Nat.lt_succ_self _));have I2:=Inv.made (C:=C) I;have r2:Vals (V.ref (s.heap.objs.size+1) ::(vs++vP)) (Value.ref (s.heap.objs.size+1) ::(us++ds)):= .cons rfl (r.append hd);have hl:(Value.ref (s.heap.objs.size+1) ::us++ds).length=ps.length:=by
  have e:=r2.length;rw[F.len _ _ _ _ hq] at e;exact e.symm
 refine wpAny_call (Du (f:=f) I.w_ M.makes M.init (beq_iff_eq.mp M.fn) (codeAny_mono (F.run _ X.stack _ _ ⟨Value.ref (s.heap.objs.size+1) ::us,[]⟩ (Value.ref (s.heap.objs.size+1) ::(us++ds)) _ _ E (hr.make C us [])
  (I2.ME.make C us []) (hb _ (Value.ref (s.heap.objs.size+1) ::us) I2.w_ hl) r2 hq) fun r s' OP=>?_))
 cases r with
 | error e=>exact hx pins σ _ _ e s' I2 OP
 | ok fl=>
   cases fl with
   | ret u=>
     obtain⟨v,H',I3,rv,ev,q3⟩:=I2.after OP;subst ev;exact⟨rv,⟨V.ref (s.heap.objs.size+1),H',I3,rfl,q3⟩⟩
   | next=>exact False.elim OP
   | brk=>exact False.elim OP
   | cont=>exact False.elim OP
theorem CT(M:Mk X.K C f)(F:ig X.prog X.w X.K X.mg X.base CX k f fd ps sp)(hr:dA (k+1) X.A)(hg:Gl X x)(hm:X.mg x=some (.ref C))(hb:Binds X.K fd ps ds)(hd:Vals vP ds)(hx:Passes CX X E)
 (jz:(x==("__debug__":Str))=false:=by decide):PE X (.Call (.Name x p) [] [] pos) (Nj C sp vP E MA):=by
 intro pins s σ H Q I h;refine wpAny_Call_Name_kw (qL I hg hm ?_ jz);exact PySem.W.callWith_K0 I.w_ M.kp (ED (us:=[]) M F hr hb hd hx I .nil h)
end
def PK(X:Cx)(Uz:List Keyword)(t:TA):Prop:=
 ∀(pos:Pos) (pins:YB) (s:Shared) (σ:St) (H:Hp) (Q:List V->Hp->Prop),Inv X pins σ H s->t σ H Q->wpAny (model X.prog X.w) X.A (evalAll ((backToKw pos (keywordEach Uz X.env)).map (·.2))) (AP X pins σ Q) X.xe s
section
variable {X:Cx} {CX:Cq} {k:Nat} {f C:Addr} {fd:FuncData} {ps ks:List Str} {sp:Sp} {E:XK} {x m:Str} {p pos apos Xv:Pos} {e o:Expr} {es:List Expr} {Uz:List Keyword} {te ta:TE} {t tk:TA} {nm:Option Str}
structure Ql (K:W.Frag) (fd:FuncData) (ps ks:List Str) (g:List Value->List Value->List Value) (gV:List V->List V->List V):Prop where
 to:∀(s:Shared) (us ws:List Value),K.In s.heap->(g us ws).length=ps.length->BindsTo s fd ⟨us,ks.zip ws⟩ (ps.zip (g us ws))
 rel:∀{vs:List V} {us:List Value} {zs:List V} {ws:List Value},Vals vs us->Vals zs ws->Vals (gV vs zs) (g us ws)
def Qr(sp:Sp)(gV:List V->List V->List V)(E:XK)(t tk:TA):TE:=fun σ H Q=>t σ H fun vs H1=>tk σ H1 fun zs H2=>sp (gV vs zs) H2 Q E
variable {g:List Value->List Value->List Value} {gV:List V->List V->List V}
end
structure bb (N P:List Str) (sc:Scope):Prop where
 kind:sc.kind= .function
 co:sc.isCoroutine=false
 gen:sc.isGenerator=false
 nd:N.Nodup
 pre:N.take P.length=P
 par:∀x∈P,sc.names.lookup x=some .local\/sc.names.lookup x=some .cell
 nofree:∀y∈sc.names,y.2≠ .free
theorem tV{kindOf:Str->Option NameKind}:∀{binds:List (Str × Value)} {m:YG},(∀v,(x,v) ∉ binds)->bindL kindOf binds m x=m x
 | [],_,_=>rfl
 | (n,v) ::r,m,h=>by
   unfold bindL;rw[tV fun w hw=>h w (List.mem_cons_of_mem _ hw)]
   split
   .have:x≠n:=by rintro rfl;exact h v List.mem_cons_self
    simp [this]
   .rfl
theorem uz{kindOf:Str->Option NameKind}:∀{binds:List (Str × Value)} {m:YG},(∀v,(x,v) ∉ binds)->bindC kindOf binds m x=m x
 | [],_,_=>rfl
 | (n,v) ::r,m,h=>by
   unfold bindC;rw[uz fun w hw=>h w (List.mem_cons_of_mem _ hw)]
   split
   .rfl
   .have:x≠n:=by rintro rfl;exact h v List.mem_cons_self
    simp [this]
theorem uj{kindOf:Str->Option NameKind}{v:Value}:∀{P:List Str} {vs:List Value} {i:Nat} {m:YG},P.Nodup->P[i]? =some x->vs[i]? =some v->kindOf x=some .local->
 bindL kindOf (P.zip vs) m x=some v
 | [],_,_,_,_,h,_,_=>by simp at h
 | _ ::_,[],_,_,_,_,h,_=>by simp at h
 | p ::P,w ::vs,0,m,nd,h1,h2,hk=>by
   simp at h1 h2;subst h1;subst h2;show bindL kindOf ((p,w) ::P.zip vs) m p=_;unfold bindL;rw[tV fun v hv=>(List.nodup_cons.mp nd).1 (List.of_mem_zip hv).1,if_pos hk]
   simp
 | p ::P,w ::vs,i+1,m,nd,h1,h2,hk=>by
   show bindL kindOf ((p,w) ::P.zip vs) m x=_;unfold bindL;exact uj (i:=i) (List.nodup_cons.mp nd).2 (by simpa using h1) (by simpa using h2) hk
theorem tR{kindOf:Str->Option NameKind}{v:Value}:∀{P:List Str} {vs:List Value} {i:Nat} {m:YG},P.Nodup->P[i]? =some x->vs[i]? =some v->kindOf x≠some .local->
 bindC kindOf (P.zip vs) m x=some v
 | [],_,_,_,_,h,_,_=>by simp at h
 | _ ::_,[],_,_,_,_,h,_=>by simp at h
 | p ::P,w ::vs,0,m,nd,h1,h2,hk=>by
   simp at h1 h2;subst h1;subst h2;show bindC kindOf ((p,w) ::P.zip vs) m p=_;unfold bindC;rw[uz fun v hv=>(List.nodup_cons.mp nd).1 (List.of_mem_zip hv).1,if_neg hk]
   simp
 | p ::P,w ::vs,i+1,m,nd,h1,h2,hk=>by
   show bindC kindOf ((p,w) ::P.zip vs) m x=_;unfold bindC;exact tR (i:=i) (List.nodup_cons.mp nd).2 (by simpa using h1) (by simpa using h2) hk
def start(N:List Str)(vs:List V):St:=vs.map some++List.replicate (N.length - vs.length) none
def km(CX:Cq)(P:Program)(w:World)(K:W.Frag)(mg:YG)(base:Heap)(N:List Str)(qual:Str)(scope:Scope)(f:Addr)(cd:Value)(A:Around)(outer:List Env)(s:Shared)(H:Hp)(E:XK):Cx where
 prog:=P
 w:=w
 K:=K
 mg:=mg
 base:=base
 A:=A.deeper (envOfC qual scope s.heap.objs.size f cd)
 N:=N
 s₀:=s
 H₀:=H
 env:=envOfC qual scope s.heap.objs.size f cd
 outer:=outer
 stack:=envOfC qual scope s.heap.objs.size f cd ::outer
 ex:=[]
 calm:=true
 fn:=fun _=>true
 pn:=[]
 xe:=fun e s'=>wpAny (model P w) (A.deeper (envOfC qual scope s.heap.objs.size f cd)) (leaving (envOfC qual scope s.heap.objs.size f cd) e) (fun _ R1=>CX outer H s E e R1) (fun e' R1=>CX outer H s E e' R1) s'
theorem rV{sc:Scope}{n:Nat}(h:sc.names.lookup x=some .cell):∃c,(cellsFrom n sc.names []).lookup x=some c:=by
 have q:=PySem.W.cellsFrom_some sc.names n [] (.inl h);exact Option.isSome_iff_exists.mp q
theorem Bd{CX:Cq}{P:Program}{w:World}{K:W.Frag}{mg:YG}{base:Heap}{N ps:List Str}{qual:Str}{scope:Scope}{f:Addr}{cd:Value}{A:Around}{outer:List Env}{s s1:Shared}{H:Hp}{E:XK}{us:List Value}{vs:List V}
 (S:bb N ps scope) (hd:A.handled=none) (e0:yD P w K mg base A outer s H) (hl:vs.length=ps.length) (r:Vals vs us)
 (x:InCallC s s.heap.objs.size (bindL (envOfC qual scope s.heap.objs.size f cd).kindOf (ps.zip us) fun _=>none) (cellsFrom (s.heap.objs.size+1) scope.names []) (bindC (envOfC qual scope s.heap.objs.size f cd).kindOf (ps.zip us) fun _=>none) s1) :
 Inv (km CX P w K mg base N qual scope f cd A outer s H E) [] (start N vs) H s1:=by
 have ko:ps.length<=N.length:=by have:=congrArg List.length S.pre;rw [List.length_take] at this;omega
 obtain⟨h1,tk,rfl,hk⟩:=x.done;have noA:∀b:Addr,b ∉ (km CX P w K mg base N qual scope f cd A outer s H E).ex:=fun b z=>absurd (show b∈([]:List Addr) from z) (by simp)
 refine⟨⟨e0.mod,S.kind,rfl,rfl,Nat.le_refl _,fun y z c h1 h2=>?_,fun y hy=>?_,fun y c _ h=>?_,fun _=>hd,Around.frames_deeper e0.frames, .inr ⟨rfl,rfl⟩,fun b z=>absurd z (noA b),e0.bs,e0.bsz,fun b _ _=>noA b,fun b z=>absurd z (noA b),e0.pW,e0.frf⟩,
  rfl,e0.bare,Un.kept hk,⟨_,x.toInCall.ns,fun i y v h1 h2 h3=>?_⟩,fun y c h=>⟨_,x.cell y c h⟩,e0.hok.fresh (Nat.le_refl _),fun y c h=>?_,fun p hp=>absurd (show p∈([]:YB) from hp) (by simp),e0.hok.kept hk,?_⟩
 .exact name_of_addr x.apart (PySem.mem_of_lookup h1) (PySem.mem_of_lookup h2)
 .have hy:scope.names.lookup y=some .cell\/scope.names.lookup y=some .free:=hy;rcases hy with hy | hy
  .exact rV hy
  .exact absurd rfl (S.nofree _ (PySem.mem_of_lookup hy))
 .exact Nat.le_of_lt (x.above y c (PySem.mem_of_lookup h))
 .have hi:i < vs.length:=by
   unfold start at h2;by_cases hi:i < vs.length
   .exact hi
   .rw [List.getElem?_append_right (by simpa using hi)] at h2
    rw[List.getElem?_replicate] at h2;split at h2 <;> cases h2
  have ha:vs[i]? =some v:=by
   unfold start at h2;rw[List.getElem?_append_left (by simpa using hi),List.getElem?_map] at h2
   cases e:vs[i]? with
   | none=>rw [e] at h2;cases h2
   | some a=>rw [e] at h2;cases h2;rfl
  obtain⟨u,hu,rv⟩:=r.get ha;have hp:ps[i]? =some y:=by
   rw[<-S.pre,List.getElem?_take_of_lt (by omega)];exact h1
  have ndP:ps.Nodup:=by rw[<-S.pre];exact S.nd.sublist (List.take_sublist _ _)
  refine⟨u,rv,?_⟩;rcases S.par y (List.mem_of_getElem? hp) with k | k
  .exact .inl ⟨k,uj ndP hp hu k⟩
  .obtain⟨c,e⟩:=rV (n:=s.heap.objs.size+1) k;refine .inr ⟨.inl k,c,e,?_⟩;have q:=x.cell y c e;rw[tR ndP hp hu (by show scope.names.lookup y≠_;rw [k];decide)] at q
   exact q
 .exact e0.hok.fresh (Nat.le_of_lt (x.above y c (PySem.mem_of_lookup h)))
 .unfold start;show _=N.length;rw[List.length_append,List.length_map,List.length_replicate];omega
theorem IX{CX:Cq}{P:Program}{w:World}{K:W.Frag}{mg:YG}{base:Heap}{k:Nat}{f:Addr}{name qual:Str}{params:Arguments}{body:List Stmt}{scope:Scope}{dV kV doc pm dt ct oc:Value}{an od:Option Addr}
 {FJ:Array (Option Value)} {N ps:List Str} {sp:Sp} (lk:K.lookup f=some ⟨oc,od, .func (PySem.W.fnOf name qual params body scope dV kV doc pm an dt ct),FJ⟩) (qI:PySem.W.codeIn K dt qual=true) (S:bb N ps scope)
 (len:∀vs H Q E,sp vs H Q E->vs.length=ps.length)
 (jr:∀(A:Around) (outer:List Env) (s:Shared) (H:Hp) (vs:List V) (Q:VK) (E:XK),dA k (A.deeper (envOfC qual scope s.heap.objs.size f dt))->sp vs H Q E->
   ∃t,ue (km CX P w K mg base N qual scope f dt A outer s H E) body t/\t {nx:=fun _ H'=>Q .cJ H',rt:=Q} (start N vs) H) :
 ig P w K mg base CX (k+1) f (PySem.W.fnOf name qual params body scope dV kV doc pm an dt ct) ps sp:=by
 refine⟨len,fun A outer s H args us vs Q E hr e0 hb r Jy=>?_⟩
 have hl:=len _ _ _ _ Jy;have KX:K.In s.heap:=e0.mod.kin.keeps fun b o e=>(e0.bs b o e).1
 have lim:s.heap.NoLimit:=e0.mod.nolimit.keeps fun b o e=>(e0.bs b o e).1
 have hkind:∀y∈ps.zip us,scope.names.lookup y.1=some .local\/(scope.names.lookup y.1=some .cell/\((cellsFrom (s.heap.objs.size+1) scope.names []).lookup y.1).isSome=true):=fun⟨n,v⟩ hy=>by
  rcases S.par n (List.of_mem_zip hy).1 with q | q
  .exact .inl q
  .exact .inr ⟨q,PySem.W.cellsFrom_some _ _ _ (.inl q)⟩
 refine codeAny_call_function hr.depth (KX _ _ lk) rfl S.co S.gen rfl (PySem.W.codeRec_of KX qI) (hb _ _ _ _ ?_);refine wpAny_newFunctionEnv_cells S.kind hkind fun env he s1 x=>?_
 subst he;refine⟨lim.keeps x.toInCall.keep,codeAny_func ?_⟩;obtain⟨t,ht,hq⟩:=jr A outer s H vs Q E (hr.deeper _) Jy;have I:Inv (km CX P w K mg base N qual scope f dt A outer s H E) [] (start N vs) H s1:=Bd S hr.hd e0 hl r x;refine wpAny_mono (ht [] s1 (start N vs) H _ I hq) (fun fl s' hs=>?_) fun e s' hs=>hs
 have fin:∀{cA:St} {H':Hp} {v:V} {u:Value},Inv (km CX P w K mg base N qual scope f dt A outer s H E) [] cA H' s'->RelV v u->Q v H'->CE outer P w H s Q u s':=
  fun {cA H' v u} J rv q=>⟨v,H',J.os,J.bare,J.base,J.hok,rv,q⟩
 cases fl with
 | ret u=>
   obtain⟨v,cA,H',J,rv,q⟩:=hs;exact fin J rv q
 | next=>
   obtain⟨cA,H',J,q⟩:=hs;exact fin (v:=V.cJ) (u:=Value.none) J rfl q
 | brk=>
   obtain⟨_,_,_,q⟩:=hs;exact False.elim q
 | cont=>
   obtain⟨_,_,_,q⟩:=hs;exact False.elim q
section
variable {X:Cx} {x:Str} {p pos:Pos} {e:Expr} {es:List Expr} {t:TA} {id T:String} {r:List V->Hp->VK->Prop}
def Uh(r:List V->Hp->VK->Prop)(t:TA):TE:=fun σ H Q=>t σ H fun vs H1=>r vs H1 Q
theorem xO(hc:jY X (.builtin id) r)(hg:Gl X x)(hm:X.mg x=none)(hv:bootBuiltins x=some (.builtin id))(ha:PA X (e ::es) t)(hn:x≠"__name__":=by decide)(jz:(x==("__debug__":Str))=false:=by decide)
 (he:starEach (e ::es) X.env=(false,eval e X.env) ::starEach es X.env:=by rfl) (ko:(backTo pos (starEach es X.env)).any (·.1)=false:=by rfl):PE X (.Call (.Name x p) (e ::es) [] pos) (Uh r t):=by
 intro pins s σ H Q I h;refine wpAny_Call_Name_kw (vG I hg hm hv ?_ hn jz);exact PyProof.Rows.callWith_builtin1 (cE (ha pos pins s σ H _ I h) fun us s1 ⟨vs,H1,I1,r1,q1⟩=>hc pins s1 σ H1 vs us Q I1 r1 q1) he ko
theorem pA(hc:jY X (.type T) r)(hg:Gl X x)(hm:X.mg x=none)(hv:bootBuiltins x=some (.type T))(ha:PA X (e ::es) t)(hn:x≠"__name__":=by decide)(jz:(x==("__debug__":Str))=false:=by decide)
 (he:starEach (e ::es) X.env=(false,eval e X.env) ::starEach es X.env:=by rfl) (ko:(backTo pos (starEach es X.env)).any (·.1)=false:=by rfl):PE X (.Call (.Name x p) (e ::es) [] pos) (Uh r t):=by
 intro pins s σ H Q I h;refine wpAny_Call_Name_kw (vG I hg hm hv ?_ hn jz);exact PyProof.Rows.callWith_type1 (cE (ha pos pins s σ H _ I h) fun us s1 ⟨vs,H1,I1,r1,q1⟩=>hc pins s1 σ H1 vs us Q I1 r1 q1) he ko
end
section
variable {κ:Type} [DecidableEq κ]
def iI(ay:List (κ × V))(k:κ):Option V:=(ay.find? fun kv=>decide (kv.1=k)).map (·.2)
def putK(ay:List (κ × V))(k:κ)(v:V):List (κ × V):=
 if(ay.any fun kv=>decide (kv.1=k))=true then ay.map (fun kv=>if kv.1=k then(kv.1,v) else kv) else ay++[(k,v)]
def Dv(ay:List (κ × V))(k:κ):List (κ × V):=ay.filter fun kv=>decide (kv.1≠k)
theorem rY{p:κ × V}{r:List (κ × V)}{k:κ}(e:p.1=k):iI (p ::r) k=some p.2:=by simp [iI,List.find?_cons,e]
theorem rp{p:κ × V}{r:List (κ × V)}{k:κ}(e:¬p.1=k):iI (p ::r) k=iI r k:=by simp [iI,List.find?_cons,e]
theorem xt(k:κ):∀ay:List (κ × V),(ay.any fun kv=>decide (kv.1=k))=(iI ay k).isSome
 | []=>rfl
 | p ::r=>by
   rw[List.any_cons];by_cases e:p.1=k
   .simp only[rY e,decide_eq_true e,Bool.true_or,Option.isSome_some]
   .rw [rp e,decide_eq_false e,Bool.false_or];exact xt k r
theorem l5(ay:List (κ × V))(k:κ)(v:V):(putK ay k v).length<=ay.length+1:=by
 unfold putK;split
 .rw [List.length_map];omega
 .rw [List.length_append,List.length_cons,List.length_nil];omega
theorem kx.gG{o:Option V}{u:Option Value}(r:kx o u):o.isSome=u.isSome:=by
 cases o with
 | none=>cases u with
   | none=>rfl
   | some _=>exact(show False from r).elim
 | some _=>cases u with
   | none=>exact(show False from r).elim
   | some _=>rfl
theorem kx.getD{o:Option V}{u:Option Value}{d:V}{d':Value}(r:kx o u)(rd:RelV d d'):RelV (o.getD d) (u.getD d'):=by
 cases o with
 | none=>cases u with
   | none=>exact rd
   | some _=>exact(show False from r).elim
 | some _=>cases u with
   | none=>exact(show False from r).elim
   | some _=>exact r
theorem KV.val{ay:List (κ × V)}{vs:List (κ × Value)}(r:KV ay vs)(k:κ):kx (iI ay k) (valueAt vs k):=by
 unfold KV at r
 induction r with
 | nil=>exact True.intro
 | @cons p q ps qs h t ih=>
   obtain⟨h1,h2⟩:=h;by_cases e:p.1=k
   .have e':q.1=k:=h1.symm.trans e;have b:valueAt (q ::qs) k=some q.2:=by simp [valueAt,List.find?_cons,e']
    rw[rY e,b];exact h2
   .have e':¬q.1=k:=fun z=>e (h1.trans z)
    have b:valueAt (q ::qs) k=valueAt qs k:=by simp [valueAt,List.find?_cons,e']
    rw[rp e,b];exact ih
theorem KV.any{ay:List (κ × V)}{vs:List (κ × Value)}(r:KV ay vs)(k:κ):(ay.any fun kv=>decide (kv.1=k))=vs.any fun kv=>decide (kv.1=k):=by
 unfold KV at r
 induction r with
 | nil=>rfl
 | cons h t ih=>rw [List.any_cons,List.any_cons,ih,h.1]
theorem KV.LB{ay:List (κ × V)}{vs:List (κ × Value)}(r:KV ay vs)(k:κ){y:V}{u:Value}(ry:RelV y u) :
 KV (ay.map fun kv=>if kv.1=k then(kv.1,y) else kv) (vs.map fun kv=>if kv.1=k then(kv.1,u) else kv):=by
 unfold KV at r ⊢
 induction r with
 | nil=>exact .nil
 | @cons p q ps qs h t ih=>
   rw[List.map_cons,List.map_cons];refine .cons ?_ ih;obtain⟨h1,h2⟩:=h;by_cases e:p.1=k
   .rw [if_pos e,if_pos (h1.symm.trans e)];exact⟨h1,ry⟩
   .rw [if_neg e,if_neg (fun z=>e (h1.trans z))];exact⟨h1,h2⟩
theorem KV.put{ay:List (κ × V)}{vs:List (κ × Value)}(r:KV ay vs)(k:κ){y:V}{u:Value}(ry:RelV y u):KV (putK ay k y) (stored vs k u):=by
 unfold putK stored;rw[r.any k];by_cases e:(vs.any fun kv=>decide (kv.1=k))=true
 .rw [if_pos e,if_pos e];exact r.LB k ry
 .rw [if_neg e,if_neg e];exact Paired.snoc r ⟨rfl,ry⟩
theorem KV.length{ay:List (κ × V)}{vs:List (κ × Value)}(r:KV ay vs):ay.length=vs.length:=Paired.length r
end
theorem m3{k:Key}{u:Value}(r:RelV (kV k) u):(cN P w).is k u=true:=by
 cases k with
 | inl i=>obtain⟨t,e⟩:=(show ∃t,u=Value.int i t from r);subst e;exact xA P w i t
 | inr x=>obtain⟨t,e⟩:=(show ∃t,u=Value.str x t from r);subst e;exact l8 P w x t
theorem t9:∀{ks:List Key} {us:List Value},Vals (ks.map kV) us->ItemsAre (cN P w) ks us
 | [],_,r=>by rw[List.map_nil] at r;cases r;exact .nil
 | k ::ks,_,r=>by
   rw[List.map_cons] at r;cases r with
   | cons h t=>exact .cons (m3 h) (t9 t)
abbrev KT(H:Hp):List (List Key × V)->List (List Key × Addr × Value)->Prop:=Paired fun p q=>p.1=q.1/\H q.2.1=some (.tup (p.1.map kV))/\RelV p.2 q.2.2
theorem KT.val{ay:List (List Key × V)}{xs:List (List Key × Addr × Value)}(r:KT H ay xs)(k:List Key):kx (iI ay k) ((atKey xs k).map (·.2)):=by
 induction r with
 | nil=>exact True.intro
 | @cons p q ps qs h t ih=>
   obtain⟨h1,_,h2⟩:=h;by_cases e:p.1=k
   .have e':q.1=k:=h1.symm.trans e;have b:atKey (q ::qs) k=some q.2:=by simp [atKey,List.find?_cons,e']
    rw[rY e,b];exact h2
   .have e':¬q.1=k:=fun z=>e (h1.trans z)
    have b:atKey (q ::qs) k=atKey qs k:=by simp [atKey,List.find?_cons,e']
    rw[rp e,b];exact ih
theorem KT.LB{ay:List (List Key × V)}{xs:List (List Key × Addr × Value)}(r:KT H ay xs)(k:List Key){y:V}{u:Value}(ry:RelV y u) :
 KT H (ay.map fun kv=>if kv.1=k then(kv.1,y) else kv) (xs.map (putAt k u)):=by
 induction r with
 | nil=>exact .nil
 | @cons p q ps qs h t ih=>
   rw[List.map_cons,List.map_cons];refine .cons ?_ ih;obtain⟨h1,h2,h3⟩:=h;unfold putAt;by_cases e:p.1=k
   .rw [if_pos e,if_pos (h1.symm.trans e)];exact⟨h1,h2,ry⟩
   .rw [if_neg e,if_neg (fun z=>e (h1.trans z))];exact⟨h1,h2,h3⟩
theorem KT.put{H:Hp}{ay:List (List Key × V)}{xs:List (List Key × Addr × Value)}(r:KT H ay xs)(k:List Key){b:Addr}{y:V}{u:Value}(hb:H b=some (.tup (k.map kV)))(ry:RelV y u) :
 KT H (putK ay k y) (storedH xs k b u):=by
 have e:(ay.any fun kv=>decide (kv.1=k))=(atKey xs k).isSome:=by
  rw[xt,(r.val k).gG,Option.isSome_map]
 unfold putK storedH;rw[e];by_cases q:(atKey xs k).isSome=true
 .rw [if_pos q,if_pos q];exact r.LB k ry
 .rw [if_neg q,if_neg q];exact Paired.snoc r ⟨rfl,hb,ry⟩
theorem KT.keeps{H H':Hp}{ay:List (List Key × V)}{xs:List (List Key × Addr × Value)}(r:KT H ay xs)(ht:∀b ys,H b=some (.tup ys)->H' b=some (.tup ys)):KT H' ay xs:=
 Paired.K3 r fun _ _ z=>⟨z.1,ht _ _ z.2.1,z.2.2⟩
section
variable {P:Program} {w:World} {H:Hp} {h:Heap} {a:Addr}
theorem IY{u:HO}(ok:mM P w H h)(e:Rd H a u):dJ P w H h a u:=e.ok ok
theorem qf{ay:List (Key × V)}(ok:mM P w H h)(e:Rd H a (.dK ay)):ay.length<=sizeLine/\(a==sysModules)=false/\∃vs,KV ay vs/\h.DictOf (cN P w) a vs:=
 show dJ P w H h a (.dK ay) from IY ok e
theorem II{ay:List (Key × V)}(ok:mM P w H h)(e:H a=some (.dK ay)):ay.length<=sizeLine/\(a==sysModules)=false/\∃vs,KV ay vs/\h.DictOf (cN P w) a vs:=qf ok (.inl e)
theorem pq{ks:List Key}(ok:mM P w H h)(e:H a=some (.tup (ks.map kV))):(tupleKind (cN P w)).is h ks a:=by
 obtain⟨_,its,r,o,h1,h2,n,h3⟩:=(show dJ P w H h a (.tup (ks.map kV)) from ok a _ e)
 exact⟨o,its.toArray,n,h1,h2,h3,by simpa using t9 r⟩
theorem q0{ay:List (List Key × V)}(ok:mM P w H h)(e:Rd H a (.dT ay)):ay.length<=sizeLine/\(a==sysModules)=false/\
 ∃xs,KT H ay xs/\h.DictOfH (tupleKind (cN P w)) a xs:=by
 obtain⟨z,y,xs,r,o,es,ep,h1,h2,h3,h4,h5⟩:=(show dJ P w H h a (.dT ay) from IY ok e)
 refine⟨z,y,xs,r,o,es,ep,h1,h2,h3,h4,fun x hx=>?_,h5⟩
 have all:∀{l:List (List Key × V)} {m:List (List Key × Addr × Value)},KT H l m->∀x∈m,(tupleKind (cN P w)).is h x.1 x.2.1:=by
  intro l m q
  induction q with
  | nil=>intro x hx;exact nomatch hx
  | @cons p q ps qs hq t ih=>
    intro x hx;rcases List.mem_cons.mp hx with e | hx
    .subst e;exact pq ok (by rw[<-hq.1];exact hq.2.1)
    .exact ih x hx
 exact all r x hx
theorem NG{ay:List (List Key × V)}(ok:mM P w H h)(e:H a=some (.dT ay)):ay.length<=sizeLine/\(a==sysModules)=false/\
 ∃xs,KT H ay xs/\h.DictOfH (tupleKind (cN P w)) a xs:=q0 ok (.inl e)
end
def lC(H:Hp)(a:Addr)(y:V)(r:Option V):Prop:=
 (∃ay k,Rd H a (.dK ay)/\y=kV k/\r=iI ay k)\/∃ay k b,Rd H a (.dT ay)/\y= .ref b/\H b=some (.tup (k.map kV))/\r=iI ay k
def Bl(H:Hp)(a:Addr)(y v:V)(H':Hp):Prop:=
 (∃ay k,H a=some (.dK ay)/\y=kV k/\ay.length < sizeLine/\H'=upd H a (.dK (putK ay k v)))\/
 ∃ay k b,H a=some (.dT ay)/\y= .ref b/\H b=some (.tup (k.map kV))/\ay.length < sizeLine/\H'=upd H a (.dT (putK ay k v))
theorem lC.k{H:Hp}{a:Addr}{ay:List (Key × V)}{k:Key}(e:H a=some (.dK ay)):lC H a (kV k) (iI ay k):= .inl ⟨ay,k, .inl e,rfl,rfl⟩
theorem Bl.k{H:Hp}{a:Addr}{ay:List (Key × V)}{k:Key}{v:V}(e:H a=some (.dK ay))(hl:ay.length < sizeLine):Bl H a (kV k) v (upd H a (.dK (putK ay k v))):= .inl ⟨ay,k,e,rfl,hl,rfl⟩
section
variable {X:Cx} {pins:YB} {σ:St} {H:Hp} {s:Shared} {a:Addr} {y v:V} {u r:Value} {o:Option V} {A:Around} {E:YC}
theorem Inv.big(I:Inv X pins σ H s):sysModules < s.heap.objs.size:=by
 have h:mainGlobals < s.heap.objs.size:=(I.mod.glob.keeps I.bk).lt;exact Nat.lt_trans (by decide) h
theorem B9{Q:YC}(hu:A.units+1 < cLine)(I:Inv X pins σ H s)(g:lC H a y (some v))(ry:RelV y u)(h:∀w' s',Inv X pins σ H s'->RelV v w'->Q w' s') :
 wpAny (model X.prog X.w) A (getItem (.ref a) u) Q E s:=by
 rcases g with⟨ay,k,e,ey,l⟩ | ⟨ay,k,b,e,ey,eb,l⟩
 .subst ey;obtain⟨z,hd,vs,rel,dd⟩:=qf I.hok e;obtain⟨w',hw,Cn⟩:=kx.some_of (v:=v) (o:=valueAt vs k) (by rw[l];exact rel.val k)
  exact wpAny_getItem_of (m3 ry) dd.mapOf hw (h w' _ (I.tok _) Cn)
 .subst ey;cases(show u=Value.ref b from ry)
  obtain⟨z,hd,xs,rel,dd⟩:=q0 I.hok e;obtain⟨w',hw,Cn⟩:=kx.some_of (v:=v) (o:=(atKey xs k).map (·.2)) (by rw[l];exact rel.val k)
  obtain⟨p,hp,W9⟩:=Option.map_eq_some_iff.mp hw;refine wpAny_getItem_heap (tupleKind_room_in1 hu) (pq I.hok eb) dd hp ?_;rw[W9];exact h w' _ (I.tok _) Cn
theorem Qm{Q:YC}(hu:A.units+1 < cLine)(I:Inv X pins σ H s)(g:lC H a y o)(ry:RelV y u)(h:∀s',Inv X pins σ H s'->Q (.bool o.isSome) s') :
 wpAny (model X.prog X.w) A (compareOp .In u (.ref a)) Q E s:=by
 rcases g with⟨ay,k,e,ey,l⟩ | ⟨ay,k,b,e,ey,eb,l⟩
 .subst ey;obtain⟨z,hd,vs,rel,dd⟩:=qf I.hok e;refine wpAny_in_of (m3 ry) hd dd.mapOf ?_;rw[<-(rel.val k).gG,<-l];exact h _ (I.tok _)
 .subst ey;cases(show u=Value.ref b from ry)
  obtain⟨z,hd,xs,rel,dd⟩:=q0 I.hok e;refine wpAny_in_heap (tupleKind_room_in1 hu) (pq I.hok eb) hd dd ?_;have q:=(rel.val k).gG;rw[Option.isSome_map] at q;rw[<-q,<-l];exact h _ (I.tok _)
theorem Hc{Q:YC}(hu:A.units+1 < cLine)(I:Inv X pins σ H s)(g:lC H a y o)(ry:RelV y u)(h:∀s',Inv X pins σ H s'->Q (.bool (!o.isSome)) s') :
 wpAny (model X.prog X.w) A (compareOp .NotIn u (.ref a)) Q E s:=by
 rcases g with⟨ay,k,e,ey,l⟩ | ⟨ay,k,b,e,ey,eb,l⟩
 .subst ey;obtain⟨z,hd,vs,rel,dd⟩:=qf I.hok e;refine wpAny_notIn_of (m3 ry) hd dd.mapOf ?_;rw[<-(rel.val k).gG,<-l];exact h _ (I.tok _)
 .subst ey;cases(show u=Value.ref b from ry)
  obtain⟨z,hd,xs,rel,dd⟩:=q0 I.hok e;refine wpAny_notIn_heap (tupleKind_room_in1 hu) (pq I.hok eb) hd dd ?_;have q:=(rel.val k).gG;rw[Option.isSome_map] at q;rw[<-q,<-l];exact h _ (I.tok _)
theorem uX{h':Heap}{t':Nat}{ob:HO}(I:Inv X pins σ H s)(mu:NA (H a))(hs:Heap.SameBut a s.heap h')(he:∃q,h'.get? a=some q)(new:dJ X.prog X.w (upd H a ob) h' a ob) :
 Inv X pins σ (upd H a ob) {s with heap:=h',toks:=t'}:=
 I.write (x:=a) (e:=a) mu (.inl rfl) (fun b q hb z=>(hs.2 b hb).trans z) he new
theorem Dh{H':Hp}{h':Heap}{ay:List (Key × V)}{vs:List (Key × Value)}(z:ay.length<=sizeLine)(hd:(a==sysModules)=false)(rel:KV ay vs)(dd:h'.DictOf (cN P w) a vs) :
 dJ P w H' h' a (.dK ay):=⟨z,hd,vs,rel,dd⟩
theorem B0{Q:Unit->Shared->Prop}(hu:A.units+1 < cLine)(I:Inv X pins σ H s)(g:Bl H a y v H')(ry:RelV y u)(rv:RelV v r)(h:∀s',Inv X pins σ H' s'->Q () s') :
 wpAny (model X.prog X.w) A (setItem (.ref a) u r) Q E s:=by
 rcases g with⟨ay,k,e,ey,l,eH⟩ | ⟨ay,k,b,e,ey,eb,l,eH⟩
 .subst ey eH;obtain⟨z,hd,vs,rel,dd⟩:=II I.hok e;have hz:vs.length<=sizeLine:=by rw[<-rel.length];exact z
  have hl:(putK ay k v).length<=sizeLine:=by have:=l5 ay k v;omega
  refine wpAny_setItem_pairs (hsz:=hz) (m3 ry) dd fun h' L_ hs=>h _ ?_
  have he:∃q,h'.get? a=some q:=let⟨q,_,_,hq,_⟩:=L_;⟨q,hq⟩
  exact uX I (by rw[e];exact True.intro) hs he (Dh hl hd (rel.put k rv) L_)
 .subst ey eH;cases(show u=Value.ref b from ry)
  obtain⟨z,hd,xs,rel,dd⟩:=NG I.hok e;have hz:xs.length<=sizeLine:=by rw[<-Paired.length rel];exact z
  have hl:(putK ay k v).length<=sizeLine:=by have:=l5 ay k v;omega
  refine wpAny_setItem_heap (hsz:=hz) (tupleKind_room_in1 hu) (pq I.hok eb) dd fun h' L_ hs=>h _ ?_
  obtain⟨q,es,ep,hq,h2,h3,h4,_,h5⟩:=L_;refine uX I (by rw[e];exact True.intro) hs ⟨q,hq⟩ ⟨hl,hd,_,(rel.put k eb rv).keeps fun c ys ec=>?_,q,es,ep,hq,h2,h3,h4,h5⟩
  rw[bj (NQ ec e (fun z=>nomatch z))]
  exact ec
end
section
variable {X:Cx} {pins:YB} {σ:St} {H:Hp} {s:Shared} {a:Addr} {ay:List (Key × V)} {k:Key} {u:Value} {A:Around} {E:YC}
theorem MS{Q:YC}(I:Inv X pins σ H s)(e:Rd H a (.dK ay))(h:∀t s',Inv X pins σ H s'->Q (.int ay.length t) s'):wpAny (model X.prog X.w) A (call (.builtin "len") [.ref a]) Q E s:=by
 obtain⟨z,hd,vs,rel,dd⟩:=qf I.hok e;refine call_len_dict hd dd (by rw[<-rel.length];rw [sizeLine_eq] at z;omega) ?_
 rw[<-rel.length];exact h _ _ (I.tok _)
end
def D3(i:Expr):Prop:=∀ov iv,subscripted i false ov iv=operate [ov,iv] (getItem ov iv)
theorem A8{prog:Program}{w:World}{A:Around}{E:YC}{s:Shared}{env:Env}{value slice:Expr}{pos:Pos}{T id:String}{Q:YC}
 (hl:typeLookup (.type T) "__getitem__"=pure (some (.builtin id))) (hs:D3 slice)
 (h:wpAny (model prog w) A (eval value env) (fun o s₁=>wpAny (model prog w) A (eval slice env) (fun i yc=>yc.TypeIs o T/\wpAny (model prog w) A (getItem o i) Q E yc) E s₁) E s) :
 wpAny (model prog w) A (eval (.Subscript value slice pos) env) Q E s:=by
 refine Subscript_ (wpAny_mono h (fun o s₁ lh=>wpAny_mono lh (fun i yc vL=>?_) fun _ _ x=>x) fun _ _ x=>x)
 obtain⟨hT,vL⟩:=vL;unfold subscriptTail;refine wpAny_bind ?_;rw[getitemInPython_of_ne hT.not_modules];refine wpAny_bind (wpAny_specialOf hT hl ?_);have fin:wpAny (model prog w) A (subscripted slice false o i) (fun r Oy=>wpAny (model prog w) A (letTemporaryGo value o r >>=fun _=>pure r) Q E Oy) E yc:=by
  rw[hs o i];exact wpAny_operating (wpAny_mono vL (fun r Oy RI=>wpAny_bind (wpAny_letTemporaryGo (wpAny_pure RI))) fun _ _ x=>x)
 first
  | exact wpAny_pure (wpAny_bind fin)
  | exact wpAny_bind (wpAny_pure (wpAny_bind fin))
  | exact wpAny_bind fin
theorem vZ{X:Cx}{pins:YB}{s:Shared}{a:Addr}{y:V}{o:Option V}(I:Inv X pins σ H s)(g:lC H a y o):s.TypeIs (.ref a) "dict":=by
 rcases g with⟨ay,k,e,_,_⟩ | ⟨ay,k,b,e,_,_,_⟩
 .obtain⟨_,_,vs,_,dd⟩:=qf I.hok e;exact dd.typeIs
 .obtain⟨_,_,xs,_,dd⟩:=q0 I.hok e;exact dd.typeIs
def Ng(td ty:TE):TE:=fun σ H Q=>td σ H fun x H1=>ty σ H1 fun y H2=>∃a v,x= .ref a/\lC H2 a y (some v)/\Q v H2
def QE(ty td:TE):TE:=fun σ H Q=>ty σ H fun y H1=>td σ H1 fun x H2=>∃a o,x= .ref a/\lC H2 a y o/\Q (.bl o.isSome) H2
def HS(ty td:TE):TE:=fun σ H Q=>ty σ H fun y H1=>td σ H1 fun x H2=>∃a o,x= .ref a/\lC H2 a y o/\Q (.bl (!o.isSome)) H2
def NP(td ty tv:TE):TS:=fun D σ H=>tv σ H fun v H1=>td σ H1 fun x H2=>ty σ H2 fun y H3=>∃a H4,x= .ref a/\Bl H3 a y v H4/\D.nx σ H4
def Ut(td ty tv:TE)(rd:V->V->Hp->VK->Prop):TS:=fun D σ H=>td σ H fun x H1=>ty σ H1 fun y H2=>∃a v,x= .ref a/\lC H2 a y (some v)/\
 tv σ H2 fun y2 H3=>rd v y2 H3 fun z H4=>∃H5,Bl H4 a y z H5/\D.nx σ H5
def Us(td ty:TE):TS:=fun D σ H=>td σ H fun x H1=>ty σ H1 fun y H2=>∃a ay k,x= .ref a/\H2 a=some (.dK ay)/\y=kV k/\(iI ay k).isSome=true/\D.nx σ (upd H2 a (.dK (Dv ay k)))
section
variable {X:Cx} {o i e value:Expr} {pos pos' FK:Pos} {td ty tv:TE}
theorem Af(hu:X.A.units+1 < cLine)(ho:PE X o td)(hi:PE X i ty)(hs:D3 i):PE X (.Subscript o i pos) (Ng td ty):=by
 intro pins s σ H Q I h;refine A8 PySem.F.slot_dict_getitem.lookup hs (cE (ho pins s σ H _ I h) fun u s1 ⟨x,H1,I1,rx,q1⟩=>cE (hi pins s1 σ H1 _ I1 q1) fun iv s2 ⟨y,H2,I2,ry,a,v,ex,g,q2⟩=>?_)
 subst ex;obtain rfl:u=Value.ref a:=rx;exact⟨vZ I2 g,B9 hu I2 g ry fun w' s3 I3 Cn=>⟨v,H2,I3,Cn,q2⟩⟩
theorem Ls(hu:X.A.units+1 < cLine)(hi:PE X i ty)(ho:PE X o td):PC X .In i o (QE ty td):=by
 intro pins s σ H Q I h;refine cE (hi pins s σ H _ I h) fun iv s1 ⟨y,H1,I1,ry,q1⟩=>cE (ho pins s1 σ H1 _ I1 q1) fun u s2 ⟨x,H2,I2,rx,a,ov,ex,g,q2⟩=>?_
 subst ex;obtain rfl:u=Value.ref a:=rx;exact Qm hu I2 g ry fun s3 I3=>⟨.bl ov.isSome,H2,I3,rfl,q2⟩
theorem Bn(hu:X.A.units+1 < cLine)(hi:PE X i ty)(ho:PE X o td):PC X .NotIn i o (HS ty td):=by
 intro pins s σ H Q I h;refine cE (hi pins s σ H _ I h) fun iv s1 ⟨y,H1,I1,ry,q1⟩=>cE (ho pins s1 σ H1 _ I1 q1) fun u s2 ⟨x,H2,I2,rx,a,ov,ex,g,q2⟩=>?_
 subst ex;obtain rfl:u=Value.ref a:=rx;exact Hc hu I2 g ry fun s3 I3=>⟨.bl (!ov.isSome),H2,I3,rfl,q2⟩
theorem GS(hu:X.A.units+1 < cLine)(ho:PE X o td)(hi:PE X i ty)(hv:PE X value tv)(hs:swapsWith value (some (.Subscript o i pos')) pos.line X.env=pure false) :
 PS X (.Assign [.Subscript o i pos'] value pos) (NP td ty tv):=by
 intro pins s σ H D I h;refine wpAny_Assign_Subscript (cE (hv pins s σ H _ I h) fun r s1 ⟨v,H1,I1,rv,q1⟩=>cE (ho pins s1 σ H1 _ I1 q1) fun u s2 ⟨x,H2,I2,rx,q2⟩=>cE (hi pins s2 σ H2 _ I2 q2) fun iv s3 ⟨y,H3,I3,ry,a,H4,ex,g,q3⟩=>?_) hs
 subst ex;obtain rfl:u=Value.ref a:=rx;exact B0 hu I3 g ry rv fun s4 I4=>⟨σ,H4,I4,q3⟩
end
theorem wC(h:Heap)(hb:sysModules < h.objs.size):dJ P w H (h.push {cls:= .type "dict",data:= .dict #[]}) h.objs.size (.dK []):=
 ⟨Nat.zero_le _,beq_eq_false_iff_ne.mpr (Ne.symm (Nat.ne_of_lt hb)),[], .nil,Heap.DictOf.new h⟩
def Ln:TE:=fun _ H Q=>∀p,H p=none->Q (.ref p) (upd H p (.dK []))
def Qv:TE:=fun _ H Q=>∀p,H p=none->Q (.ref p) (upd H p (.dT []))
section
variable {X:Cx} {pos:Pos}
theorem DW:PE X (.Dict [] [] pos) Ln:=fun pins s σ H Q I h=>
 wpAny_Dict_empty ⟨.ref s.heap.objs.size,_,I.laid (a:=s.heap.objs.size) (o:= .dK []) (t':=s.toks) (fun _ _ q=>Heap.get?_push_of_some _ q) (Nat.le_refl _) (wC s.heap I.big),rfl,h _ (I.hok.fresh (Nat.le_refl _))⟩
end
def nv:List (TE × TE)->St->Hp->(List (V × V)->Hp->Prop)->Prop
 | [],_,H,Q=>Q [] H
 | (tk,tv) ::r,σ,H,Q=>tk σ H fun x H1=>tv σ H1 fun y H2=>nv r σ H2 fun ps H3=>Q ((x,y) ::ps) H3
abbrev VV:List (V × V)->List (Value × Value)->Prop:=Paired fun p q=>RelV p.1 q.1/\RelV p.2 q.2
def Iy(X:Cx)(pos:Pos)(keys:List (Option Expr))(values:List Expr)(sR:List (TE × TE)):Prop:=
 ∀(pins:YB) (s:Shared) (σ:St) (H:Hp) (Q:List (V × V)->Hp->Prop),Inv X pins σ H s->nv sR σ H Q->
  wpAny (model X.prog X.w) X.A (evalPairs (pairTrees keys values X.env pos)) (fun vs s'=>∃ps H',Inv X pins σ H' s'/\VV ps vs/\Q ps H') X.xe s
theorem vn{X:Cx}:Iy X pos [] [] []:=fun pins s σ H Q I h=>pairTrees_nil_walk ⟨[],H,I, .nil,h⟩
theorem fT{X:Cx}{ks:List (Option Expr)}{tk tv:TE}{sR:List (TE × TE)}(hk:PE X k tk)(hv:PE X v tv)(hr:Iy X pos ks vs sR) :
 Iy X pos (some k ::ks) (v ::vs) ((tk,tv) ::sR):=fun pins s σ H Q I h=>
 pairTrees_cons_walk (cE (hk pins s σ H _ I h) fun u s1 ⟨x,H1,I1,rx,q1⟩=>cE (hv pins s1 σ H1 _ I1 q1) fun w2 s2 ⟨y,H2,I2,ry,q2⟩=>
  cE (hr pins s2 σ H2 _ I2 q2) fun ws s3 ⟨ps,H3,I3,rel,q3⟩=>⟨(x,y) ::ps,H3,I3, .cons ⟨rx,ry⟩ rel,q3⟩)
def jP(ay more:List (Key × V)):List (Key × V):=more.foldl (fun acc kv=>putK acc kv.1 kv.2) ay
theorem KV.merge:∀{more:List (Key × V)} {rs:List (Key × Value)} {ay:List (Key × V)} {vs:List (Key × Value)},KV more rs->KV ay vs->KV (jP ay more) (merged vs rs):=by
 intro more rs ay vs r;unfold KV at r
 induction r generalizing ay vs with
 | nil=>intro q;exact q
 | @cons p q ps qs h t ih=>
   intro r0;have e:KV (putK ay p.1 p.2) (stored vs q.1 q.2):=by
    have:=r0.put p.1 h.2;rw[<-h.1];exact this
   exact ih e
theorem mY:∀(more ay:List (Key × V)),(jP ay more).length<=ay.length+more.length
 | [],ay=>by show ay.length<=ay.length+0;omega
 | p ::r,ay=>by
   have h1:=mY r (putK ay p.1 p.2);have h2:=l5 ay p.1 p.2;show(jP (putK ay p.1 p.2) r).length<=_;rw[List.length_cons];omega
theorem rO:∀{ay:List (Key × V)} {ws:List (Value × Value)},VV (ay.map fun kv=>(kV kv.1,kv.2)) ws->∃rs,Carries (cN P w) ws rs/\KV ay rs
 | [],_,r=>by rw[List.map_nil] at r;cases r;exact⟨[],True.intro, .nil⟩
 | p ::ay,_,r=>by
   rw[List.map_cons] at r;cases r with
   | @cons a b as bs h t=>
     obtain⟨rs,c,q⟩:=rO (P:=P) (w:=w) t;obtain⟨b1,b2⟩:=b;exact⟨(p.1,b2) ::rs,⟨m3 h.1,rfl,c⟩, .cons ⟨rfl,h.2⟩ q⟩
def C_(sR:List (TE × TE)):TE:=fun σ H Q=>∀p,H p=none->nv sR σ (upd H p (.dK [])) fun ps H2=>H2 p=some (.dK [])/\∃ay:List (Key × V),ps=ay.map (fun kv=>(kV kv.1,kv.2))/\ay.length<=15/\Q (.ref p) (upd H2 p (.dK (jP [] ay)))
theorem Ad{X:Cx}{pos:Pos}{keys:List (Option Expr)}{values:List Expr}{sR:List (TE × TE)}(h:Iy X pos keys values sR)(yb:keys.all (·.isSome)=true)(hl:keys.length=values.length)(h0:keys≠[])
 (SY:keys.length<=15):PE X (.Dict keys values pos) (C_ sR):=by
 intro pins s σ H Q I q;have hn:=I.hok.fresh (Nat.le_refl s.heap.objs.size);have I1:=I.laid (a:=s.heap.objs.size) (o:= .dK []) (h':=s.heap.push {cls:= .type "dict",data:= .dict #[]}) (t':=s.toks) (fun _ _ q=>Heap.get?_push_of_some _ q) (Nat.le_refl _) (wC s.heap I.big)
 refine wpAny_Dict_walk (knd:=cN X.prog X.w) yb hl h0 SY (cE (h pins _ σ _ _ I1 (q _ hn)) fun ws s2 ⟨ps,H2,I2,rel,e,ay,ep,lk,q2⟩=>?_)
 subst ep;obtain⟨rs,c,rk⟩:=rO (P:=X.prog) (w:=X.w) rel;obtain⟨z,hd,Ys,r0,dd⟩:=II I2.hok e;cases r0;refine⟨rs,c,dd,fun h' L_ hs=>⟨.ref s.heap.objs.size,_,?_,rfl,q2⟩⟩
 have hz:(jP [] ay).length<=sizeLine:=by
  have h1:=mY ay [];rw[List.length_nil] at h1;rw[sizeLine_eq];omega
 have he:∃q,h'.get? s.heap.objs.size=some q:=let⟨q,_,_,hq,_⟩:=L_;⟨q,hq⟩
 exact uX I2 (by rw[e];exact True.intro) hs he (Dh hz hd (rk.merge .nil) L_)
structure M1 (X:Cx) (o:Expr) (m:Str) (apos:Pos) (e:Expr) (a_:Pos):Prop where
 base:attributeBase o m X.env (eval o X.env)=eval o X.env
 few:((backTo a_ (starEach [e] X.env)).all (fun x=>!x.1) && (backToKw a_ (keywordEach [] X.env)).all (fun x=>x.1.isSome)
  && decide (([e]:List Expr).length+([]:List Keyword).length+(if([]:List Keyword).isEmpty then 0 else 1) < 30))=true
 line:(apos.endLine==a_.line)=true
 trees:backTo a_ (starEach [e] X.env)=[(false,eval e X.env)]
structure M2 (X:Cx) (o:Expr) (m:Str) (apos:Pos) (e f:Expr) (a_:Pos):Prop where
 base:attributeBase o m X.env (eval o X.env)=eval o X.env
 few:((backTo a_ (starEach [e,f] X.env)).all (fun x=>!x.1) && (backToKw a_ (keywordEach [] X.env)).all (fun x=>x.1.isSome)
  && decide (([e,f]:List Expr).length+([]:List Keyword).length+(if([]:List Keyword).isEmpty then 0 else 1) < 30))=true
 line:(apos.endLine==a_.line)=true
 trees:backTo a_ (starEach [e,f] X.env)=[(false,eval e X.env),(false,eval f X.env)]
def N5(H:Hp)(a:Addr):Prop:=(∃ay,Rd H a (.dK ay))\/∃ay,Rd H a (.dT ay)
theorem JZ{X:Cx}{pins:YB}{s:Shared}{a:Addr}(I:Inv X pins σ H s)(d:N5 H a) :
 s.TypeIs (.ref a) "dict"/\(∀b,Value.ref a= .ref b->∃ob,s.heap.get? b=some ob/\ob.dict=none)/\(a==sysModules)=false:=by
 rcases d with⟨ay,e⟩ | ⟨ay,e⟩
 .obtain⟨_,hd,vs,_,dd⟩:=qf I.hok e;refine⟨dd.typeIs,fun b q=>?_,hd⟩
  cases q;obtain⟨ob,_,_,h1,h2,_⟩:=dd;exact⟨ob,h1,h2.2.1⟩
 .obtain⟨_,hd,xs,_,dd⟩:=q0 I.hok e;refine⟨dd.typeIs,fun b q=>?_,hd⟩
  cases q;obtain⟨ob,_,_,h1,h2,_⟩:=dd;exact⟨ob,h1,h2.2.1⟩
section
variable {X:Cx} {pins:YB} {σ:St} {H:Hp} {s:Shared} {a:Addr} {y d:V} {u r:Value} {o:Option V} {A:Around} {E:YC}
theorem La{Q:YC}(hu:A.units+1 < cLine)(I:Inv X pins σ H s)(g:lC H a y o)(ry:RelV y u)(rd:RelV d r)(h:∀w' s',Inv X pins σ H s'->RelV (o.getD d) w'->Q w' s') :
 wpAny (model X.prog X.w) A (call (.builtin "dict.get") [.ref a,u,r]) Q E s:=by
 rcases g with⟨ay,k,e,ey,l⟩ | ⟨ay,k,b,e,ey,eb,l⟩
 .subst ey;obtain⟨z,hd,vs,rel,dd⟩:=qf I.hok e;refine call_meetsIn PySem.F.slot_dict_get dd.typeIs PySem.F.entry_dict_get (PySem.F.args_dict_get_3 _ _ _) (meets_dict_get_default (cN X.prog X.w) a (m3 ry) hd r) ⟨_,dd.mapOf,h _ _ (I.tok _) ?_⟩;rw[l];exact(rel.val k).getD rd
 .subst ey;cases(show u=Value.ref b from ry)
  obtain⟨z,hd,xs,rel,dd⟩:=q0 I.hok e;refine call_meetsIn PySem.F.slot_dict_get dd.typeIs PySem.F.entry_dict_get (PySem.F.args_dict_get_3 _ _ _) (meetsH_dict_get_default (tupleKind (cN X.prog X.w)) a b hd r) ⟨tupleKind_room_in1 hu,k,xs,pq I.hok eb,dd,h _ _ (I.tok _) ?_⟩;rw[l];exact(rel.val k).getD rd
end
def QQ(td ty:TE):TE:=fun σ H Q=>td σ H fun x H1=>∃a,x= .ref a/\N5 H1 a/\ty σ H1 fun y H2=>∃o,lC H2 a y o/\Q (o.getD .cJ) H2
def JH(td ty tx:TE):TE:=fun σ H Q=>td σ H fun x H1=>∃a,x= .ref a/\N5 H1 a/\ty σ H1 fun y H2=>tx σ H2 fun z H3=>∃o,lC H3 a y o/\Q (o.getD z) H3
def P1(td ty:TE):TE:=fun σ H Q=>td σ H fun x H1=>∃a,x= .ref a/\N5 H1 a/\ty σ H1 fun y H2=>∃ay k v,H2 a=some (.dK ay)/\y=kV k/\iI ay k=some v/\Q v (upd H2 a (.dK (Dv ay k)))
def Q8(td ty tx:TE):TE:=fun σ H Q=>td σ H fun x H1=>∃a,x= .ref a/\N5 H1 a/\ty σ H1 fun y H2=>tx σ H2 fun z H3=>∃ay k,H3 a=some (.dK ay)/\y=kV k/\
 (∀v,iI ay k=some v->Q v (upd H3 a (.dK (Dv ay k))))/\(iI ay k=none->Q z H3)
section
variable {X:Cx} {o e f:Expr} {apos a_:Pos} {td ty tx:TE}
theorem Fh(hu:X.A.units+1 < cLine)(ho:PE X o td)(he:PE X e ty)(hf:PE X f tx)(m:M2 X o "get" apos e f a_):PE X (.Call (.Attribute o "get" apos) [e,f] [] a_) (JH td ty tx):=by
 intro pins s σ H Q I h;refine wpAny_Call_method m.base m.few m.line PySem.F.plainAttrs_dict PySem.F.slot_dict_get PySem.F.type_dict_get (cE (ho pins s σ H _ I h) fun u s1 ⟨x,H1,I1,rx,a,ex,d,q1⟩=>?_)
 subst ex;obtain rfl:u=Value.ref a:=rx;obtain⟨t1,t2,_⟩:=JZ I1 d;refine⟨t1,t2,?_⟩;rw[m.trees];refine Calls.callWith_builtin rfl (Calls.evalArgs_plain (Calls.spliced_cons (cE (he pins s1 σ H1 _ I1 q1) fun iv s2 ⟨y,H2,I2,ry,q2⟩=>
  Calls.spliced_cons (cE (hf pins s2 σ H2 _ I2 q2) fun fv s3 ⟨z,H3,I3,rz,ov,g,q3⟩=>Calls.spliced_nil ?_))))
 exact La hu I3 g ry rz fun w' s4 I4 Cn=>⟨_,H3,I4,Cn,q3⟩
end
section
variable {X:Cx} {pins:YB} {σ:St} {H:Hp} {s:Shared} {a:Addr} {ay:List (Key × V)} {A:Around} {E:YC}
end
section
variable {X:Cx} {pins:YB} {σ:St} {H:Hp} {s:Shared} {a:Addr} {y:V} {u:Value} {A:Around} {E:YC}
end
end L2
namespace HT
open PySem PyProof.Rows
def lexLt:List Int->List Int->Bool
 | [],[]=>false
 | [],_ ::_=>true
 | _ ::_,[]=>false
 | x ::xs,y ::ys=>if x=y then lexLt xs ys else decide (x < y)
section
open PySem.SeqAt
open PySem.AutoSeq1 (wpAny_loadPart')
open PySem.MeetsSeq PySem.MeetsSeq2 PySem.MeetsSeq3
end
section
variable {prog:Program} {w:World} {A:Around} {E:YC} {s:Shared}
theorem GQ{t b:Addr}{vs ws:List Value}{Q:YC}(ht:IsTup s.heap t vs.toArray)(hb:IsTup s.heap b ws.toArray)(hv:vs≠[])
 (h1:ws=[]->Q (.ref t) s) (h2:ws≠[]->Q (.ref s.heap.objs.size) {s with heap:=s.heap.push {cls:= .type "tuple",data:= .seq (vs++ws).toArray}})
 (hsz:vs.length+ws.length<=sizeLine):wpAny (model prog w) A (binaryOp .Add (.ref t) (.ref b)) Q E s:=by
 obtain⟨⟨cls,dd,data,sl⟩,ho,hc,n,hd⟩:=id ht;obtain⟨⟨Se,Pn,data2,L6⟩,Md,hc2,n2,hd2⟩:=id hb;simp only at hc hd hc2 hd2;subst hc hd hc2 hd2;have e:vs.toArray++ws.toArray=(vs++ws).toArray:=by simp
 by_cases hw:ws=[]
 .exact concat_meets ⟨_,ho,rfl⟩ ⟨_,Md,rfl⟩ noFill_tuple_add seq_tuple_add PySem.F.slot_tuple_add PySem.F.entry_tuple_add (PySem.F.args_tuple_add_2 _ _)
   (tuple_addW1 t b vs.toArray ws.toArray n n2 dd Pn sl L6 (by simpa using hv) (by simp [hw])) ⟨ho,Md,h1 hw⟩
 .refine concat_meets ⟨_,ho,rfl⟩ ⟨_,Md,rfl⟩ noFill_tuple_add seq_tuple_add PySem.F.slot_tuple_add PySem.F.entry_tuple_add (PySem.F.args_tuple_add_2 _ _)
   (tuple_addW2 t b vs.toArray ws.toArray n n2 dd Pn sl L6 (by simpa using hv) (by simpa using hw) (by rw[List.size_toArray,List.size_toArray];exact hsz)) ⟨ho,Md,?_⟩
  rw[e];exact h2 hw
def et(n d:Nat):Option Int->Nat
 | none=>d
 | some v=>if v < 0 then(v+(n:Int)).toNat else min v.toNat n
theorem r6(n d:Nat):et n d none=d:=rfl
theorem oI(n d k:Nat):et n d (some (k:Int))=min k n:=by
 show(if(k:Int) < 0 then((k:Int)+(n:Int)).toNat else min (k:Int).toNat n)=min k n
 rw[if_neg (by omega),Int.toNat_natCast]
theorem LS(n d:Nat)(hd:d<=n)(o:Option Int):et n d o<=n:=by
 cases o with
 | none=>exact hd
 | some v=>
   show(if v < 0 then(v+(n:Int)).toNat else min v.toNat n)<=n
   by_cases hv:v < 0
   .rw [if_pos hv];omega
   .rw [if_neg hv];exact Nat.min_le_right _ _
theorem Ae(v:Int)(n d:Nat):(if v < 0 then max (v+(n:Int)) 0 else min v (n:Int))=((et n d (some v):Nat):Int):=by
 show(if v < 0 then max (v+(n:Int)) 0 else min v (n:Int))=(((if v < 0 then(v+(n:Int)).toNat else min v.toNat n):Nat):Int)
 by_cases hv:v < 0
 .simp only[if_pos hv];omega
 .simp only[if_neg hv];omega
theorem yE(lo hi:Option Int)(n:Nat):Builtin.Slice.sliceAdjust lo hi 1 (n:Int)=(((et n 0 lo:Nat):Int),((et n n hi:Nat):Int)):=by
 have h1:¬((1:Int) < 0):=by omega
 unfold Builtin.Slice.sliceAdjust;simp only[h1,if_false];refine Prod.ext ?_ ?_
 .cases lo with
  | none=>rfl
  | some v=>exact Ae v n 0
 .cases hi with
  | none=>rfl
  | some v=>exact Ae v n n
theorem zo(i j:Nat):Builtin.Slice.slicePlaces (i:Int) (j:Int) 1=j - i:=by
 unfold Builtin.Slice.slicePlaces;have h1:(1:Int) > 0:=by omega
 simp only[h1,if_true,Int.ediv_one];split <;> omega
theorem q8{v:Value}{o:Option Int}{Q:Option Int->Shared->Prop}(p:IsPart v o)(h:Q o s):wpAny (model prog w) A (Builtin.Slice.slicePartIndex v) Q E s:=by
 cases p with
 | none=>exact slicePart_none h
 | int i t=>exact slicePart_int h
theorem kh{sl:Addr}{vl vu:Value}{lo hi:Option Int}{n:Nat}{Q:Int × Int × Nat->Shared->Prop}(hs:s.heap.IsSliceOf sl vl vu .none)(pl:IsPart vl lo)(pu:IsPart vu hi)
 (h:Q (((et n 0 lo:Nat):Int),1,et n n hi - et n 0 lo) s):wpAny (model prog w) A (Builtin.Slice.sliceApplied (.ref sl) (pure (n:Int))) Q E s:=by
 obtain⟨os,hos,hcs,hds⟩:=id hs;unfold Builtin.Slice.sliceApplied Builtin.Slice.sliceFields;refine wpAny_bind (wpAny_bind (wpAny_field hos hds (x:=vl) rfl (wpAny_bind (wpAny_field hos hds (x:=vu) rfl (wpAny_bind (wpAny_field hos hds (x:= .none) rfl (wpAny_pure ?_)))))));refine wpAny_bind (slicePart_none ?_);show wpAny _ _ (if((1:Int)==0)=true then _ else _) _ _ s
 rw[if_neg (by decide)]
 refine wpAny_bind (q8 pl (wpAny_bind (q8 pu (wpAny_bind (wpAny_pure ?_)))));show wpAny _ _ (match Builtin.Slice.sliceAdjust lo hi 1 (n:Int) with | (lo,hi)=>pure (lo,(1:Int),Builtin.Slice.slicePlaces lo hi 1)) _ _ s
 rw[yE lo hi n];show wpAny _ _ (pure (((et n 0 lo:Nat):Int),(1:Int),Builtin.Slice.slicePlaces ((et n 0 lo:Nat):Int) ((et n n hi:Nat):Int) 1)) _ _ s;rw[zo];exact wpAny_pure h
theorem Df(xs:Array Value)(i k:Nat):((List.range k).filterMap fun(m:Nat)=>xs[((i:Int)+(m:Int)*1).toNat]?).toArray=((xs.toList.drop i).take k).toArray:=by
 have e:(fun(m:Nat)=>xs[((i:Int)+(m:Int)*1).toNat]?)=fun m=>xs[i+m]?:=by
  funext m;have:((i:Int)+(m:Int)*1).toNat=i+m:=by omega
  rw[this]
 rw[e];have:=pick_run xs i k;rw[List.filterMap_map] at this;have e2:((fun x=>xs[x]?) ∘ fun x=>i+x)=fun m=>xs[i+m]?:=rfl
 rw[e2] at this;rw[this]
theorem og{t sl:Addr}{items:Array Value}{vl vu:Value}{lo hi:Option Int}{Q:YC}(ht:IsTup s.heap t items)(hs:s.heap.IsSliceOf sl vl vu .none)(pl:IsPart vl lo)(pu:IsPart vu hi)
 (hw:¬(et items.size 0 lo=0/\et items.size items.size hi=items.size))
 (h:Q (.ref s.heap.objs.size) {s with heap:=s.heap.push {cls:= .type "tuple",data:= .seq ((items.toList.drop (et items.size 0 lo)).take (et items.size items.size hi - et items.size 0 lo)).toArray}})
 (hsz:items.size<=sizeLine):wpAny (model prog w) A (getItem (.ref t) (.ref sl)) Q E s:=by
 have htake:sizeOk (.seq ((items.toList.drop (et items.size 0 lo)).take (et items.size items.size hi - et items.size 0 lo)).toArray):=by
  show((items.toList.drop (et items.size 0 lo)).take (et items.size items.size hi - et items.size 0 lo)).toArray.size<=sizeLine;rw[List.size_toArray,List.length_take,List.length_drop,Array.length_toList];omega
 have hj:et items.size items.size hi<=items.size:=LS _ _ (Nat.le_refl _) hi;obtain⟨os,hos,hcs,hds⟩:=id hs;have hTs:s.TypeIs (.ref sl) "slice":=⟨os,hos,hcs⟩;unfold getItem
 try with_reducible refine wpAny_holding ?_
 first | refine wpAny_bind (wpAny_pure ?_) | skip
 refine wpAny_bind (wpAny_sequenceKey ht.typeIs (by decide) ?_)
 refine wpAny_bind (wpAny_callSpecial?_slot (name:="__getitem__") ht.typeIs PyProof.Rows.slot_tuple_getitem
  (wpAny_call_entry PyProof.Rows.slot_tuple_getitem ht.typeIs entry_tuple_getitem ?_ (args_tuple_getitem _ _)))
 show wpAny _ _ (Builtin.Tuple.tupleItemsOf (.ref t) >>=_) _ _ s;refine wpAny_bind (tupleItemsOf_ ht ?_);refine wpAny_bind (wpAny_typeOf hTs ?_);rw[if_pos (by decide)]
 refine wpAny_bind (kh hs pl pu ?_);have hno:¬((((et items.size 0 lo:Nat):Int)==0 && (1:Int)==1 && (et items.size items.size hi - et items.size 0 lo)==items.size)=true):=by
  intro q;rw[Bool.and_eq_true,Bool.and_eq_true] at q;have q1:((et items.size 0 lo:Nat):Int)=0:=eq_of_beq q.1.1;have q2:et items.size items.size hi - et items.size 0 lo=items.size:=eq_of_beq q.2;exact hw ⟨by omega,by omega⟩
 show wpAny _ _ (if(((et items.size 0 lo:Nat):Int)==0 && (1:Int)==1 && (et items.size items.size hi - et items.size 0 lo)==items.size)=true then _ else _) _ _ s
 rw[if_neg hno,Df]
 first
  | exact wpAny_bind (m:=Builtin.Tuple.tupleExact _) (wpAny_newObj_type (wpAny_pure ⟨_,rfl,wpAny_pure h⟩) htake)
  | exact wpAny_bind (m:=Builtin.Tuple.tupleExact _) (wpAny_newObj_type (wpAny_bind (wpAny_pure (wpAny_pure ⟨_,rfl,wpAny_pure h⟩))) htake)
  | exact wpAny_bind (wpAny_bind (m:=Builtin.Tuple.tupleExact _) (wpAny_newObj_type (wpAny_pure (wpAny_pure ⟨_,rfl,wpAny_pure h⟩)) htake))
  | exact wpAny_bind (wpAny_bind (m:=Builtin.Tuple.tupleExact _) (wpAny_newObj_type (wpAny_pure ⟨_,rfl,wpAny_pure h⟩) htake))
end
end HT
namespace L2
open PySem PySem.Spec PyProof.Rows
abbrev TO:=St->Hp->(Option Int->Hp->Prop)->Prop
def PO(X:Cx)(e:Option Expr)(t:TO):Prop:=
 ∀(pins:YB) (s:Shared) (σ:St) (H:Hp) (Q:Option Int->Hp->Prop),Inv X pins σ H s->t σ H Q->
  wpAny (model X.prog X.w) X.A (evalPart e X.env) (fun u s'=>∃o H',Inv X pins σ H' s'/\IsPart u o/\Q o H') X.xe s
def HN:TO:=fun _ H Q=>Q none H
def Na(t:TE):TO:=fun σ H Q=>t σ H fun x H1=>∃i,x= .int i/\Q (some i) H1
section
variable {X:Cx} {e:Expr} {te:TE} {lo hi:Option Expr} {tl th:TO} {pos p2:Pos}
theorem Gn:PO X none HN:=by
 intro pins s σ H Q I h;rw[evalPart_none];exact wpAny_pure ⟨none,H,I, .none,h⟩
theorem Hu(h:PE X e te):PO X (some e) (Na te):=by
 intro pins s σ H Q I hw;rw[evalPart_some];refine cE (h pins s σ H _ I hw) fun u s1 ⟨x,H1,I1,r1,q1⟩=>?_
 obtain⟨i,rfl,q⟩:=q1;obtain⟨t,rfl⟩:=r1;exact⟨some i,H1,I1, .int i t,q⟩
def HP(X:Cx)(r:V->Option Int->Option Int->Hp->VK->Prop):Prop:=
 ∀(pins:YB) (s:Shared) (σ:St) (H:Hp) (x:V) (v vl vu:Value) (lo hi:Option Int) (sl:Addr) (Q:VK),Inv X pins σ H s->RelV x v->s.heap.IsSliceOf sl vl vu .none->IsPart vl lo->IsPart vu hi->r x lo hi H Q->
  ∃T id,typeLookup (.type T) "__getitem__"=pure (some (.builtin id))/\s.TypeIs v T/\wpAny (model X.prog X.w) X.A (getItem v (.ref sl)) (EP X pins σ Q) X.xe s
theorem HP.or{r r':V->Option Int->Option Int->Hp->VK->Prop}(h:HP X r)(h':HP X r'):HP X (fun x lo hi H Q=>r x lo hi H Q\/r' x lo hi H Q):=by
 intro pins s σ H x v vl vu lo hi sl Q I rx hs pl pu q;rcases q with q | q
 .exact h pins s σ H x v vl vu lo hi sl Q I rx hs pl pu q
 .exact h' pins s σ H x v vl vu lo hi sl Q I rx hs pl pu q
def Ve(r:V->Option Int->Option Int->Hp->VK->Prop)(te:TE)(tl th:TO):TE:=fun σ H Q=>te σ H fun x H1=>tl σ H1 fun l H2=>th σ H2 fun u H3=>r x l u H3 Q
theorem xN{r:V->Option Int->Option Int->Hp->VK->Prop}(hr:HP X r)(he:PE X e te)(hl:PO X lo tl)(hu:PO X hi th):PE X (.Subscript e (.Slice lo hi none p2) pos) (Ve r te tl th):=by
 intro pins s σ H Q I h;refine Subscript_ (cE (he pins s σ H _ I h) fun v s1 ⟨x,H1,I1,r1,q1⟩=>?_)
 refine wpAny_Slice (cE (hl pins s1 σ H1 _ I1 q1) fun vl s2 ⟨l,H2,I2,pl,q2⟩=>cE (hu pins s2 σ H2 _ I2 q2) fun vu s3 ⟨u,H3,I3,pu,q3⟩=>?_)
 rw[evalPart_none];refine wpAny_pure ?_;have I4:Inv X pins σ H3 {s3 with heap:=s3.heap.push {cls:= .type "slice",data:= .fields #[vl,vu, .none]}}:=I3.kept (t':=s3.toks) fun b ob q=>Heap.get?_push_of_some _ q
 obtain⟨T,id,hT,ht,hg⟩:=hr pins {s3 with heap:=s3.heap.push {cls:= .type "slice",data:= .fields #[vl,vu, .none]}} σ H3 x v vl vu l u s3.heap.objs.size Q I4 r1 (Heap.IsSliceOf.new ..) pl pu q3
 show wpAny (model X.prog X.w) X.A (subscriptTail e (.Slice lo hi none p2) v (.ref s3.heap.objs.size)) (EP X pins σ Q) X.xe {s3 with heap:=s3.heap.push {cls:= .type "slice",data:= .fields #[vl,vu, .none]}}
 exact tail_any (ops:=[.ref s3.heap.objs.size,v]) ht hT hg (by with_unfolding_all rfl)
def xy(xs:List V)(lo hi:Option Int):List V:=(xs.drop (HT.et xs.length 0 lo)).take (HT.et xs.length xs.length hi - HT.et xs.length 0 lo)
theorem ql(xs:List V)(lo hi:Option Int):(xy xs lo hi).length<=xs.length:=by
 unfold xy;rw[List.length_take,List.length_drop];omega
def QZ(K:W.Frag):V->Option Int->Option Int->Hp->VK->Prop:=fun x lo hi H Q=>∃a xs,x= .ref a/\oT K H a xs/\
 ¬(HT.et xs.length 0 lo=0/\HT.et xs.length xs.length hi=xs.length)/\∀p,H p=none->Q (.ref p) (upd H p (.tup (xy xs lo hi)))
theorem JO:HP X (QZ X.K):=by
 intro pins s σ H x v vl vu lo hi sl Q I rx hs pl pu h;obtain⟨a,xs,rfl,hx,hw,q⟩:=h;cases rx;obtain⟨its,r,ht,hz⟩:=I.tuple hx;have hlen:its.toArray.size=xs.length:=by rw[List.size_toArray];exact r.length.symm
 refine⟨"tuple",_,PyProof.Rows.slot_tuple_getitem.lookup,ht.typeIs,?_⟩;refine HT.og ht hs pl pu (by rw[hlen];exact hw) ?_ (by rw[hlen];exact hz)
 rw[hlen];refine⟨.ref s.heap.objs.size,_,I.laid (t':=s.toks) (o:= .tup (xy xs lo hi)) (fun b ob q=>Heap.get?_push_of_some _ q) (Nat.le_refl _) ?_,rfl,q _ (I.hok.fresh (Nat.le_refl _))⟩
 exact⟨Nat.le_trans (ql xs lo hi) hz,_,(r.drop (HT.et xs.length 0 lo)).take (HT.et xs.length xs.length hi - HT.et xs.length 0 lo),IsTup.new _ _⟩
def UW(K:W.Frag):R2:=fun x y H Q=>∃a b ns ms,x= .ref a/\y= .ref b/\oT K H a (ns.map V.int)/\oT K H b (ms.map V.int)/\Q (.bl (HT.lexLt ns ms)) H
def Ul(K:W.Frag):R2:=fun x y H Q=>∃a b xs ys,x= .ref a/\y= .ref b/\oT K H a xs/\oT K H b ys/\xs≠[]/\xs.length+ys.length<=sizeLine/\
 (ys=[]->Q (.ref a) H)/\(ys≠[]->∀p,H p=none->Q (.ref p) (upd H p (.tup (xs++ys))))
end
def Bk(n:Nat)(i:Int):Option Nat:=if 0<=i then(if i < n then some i.toNat else none) else if -(n:Int)<=i then some (i+n).toNat else none
def uF{α:Type}(xs:List α)(i:Int):Option α:=(Bk xs.length i).bind fun j=>xs[j]?
theorem Ay{n:Nat}{i:Int}{j:Nat}(h:Bk n i=some j):seqIndex? i n=some j/\j < n/\ -(n:Int)<=i/\i < n:=by
 unfold Bk at h;by_cases h0:0<=i
 .rw [if_pos h0] at h;by_cases h1:i < n
  .rw [if_pos h1] at h;have e:i.toNat=j:=Option.some.inj h;exact⟨by rw[seqIndex_of h0 h1,e],by omega,by omega,h1⟩
  .rw [if_neg h1] at h;cases h
 .rw [if_neg h0] at h;by_cases h1: -(n:Int)<=i
  .rw [if_pos h1] at h;have e:(i+n).toNat=j:=Option.some.inj h;exact⟨by rw[seqIndex_neg (by omega) h1,e],by omega,h1,by omega⟩
  .rw [if_neg h1] at h;cases h
theorem vw{α:Type}{xs:List α}{i:Int}{v:α}(h:uF xs i=some v):∃j,seqIndex? i xs.length=some j/\xs[j]? =some v/\j < xs.length/\ -(xs.length:Int)<=i/\i < xs.length:=by
 unfold uF at h;cases e:Bk xs.length i with
 | none=>rw [e] at h;cases h
 | some j=>
   rw[e] at h;obtain⟨h1,h2,h3,h4⟩:=Ay e;exact⟨j,h1,h,h2,h3,h4⟩
def uV(b:Expr):Prop:=∀o i,subscripted b false o i=operate [o,i] (getItem o i)
def Hr(X:Cx)(r:R2):Prop:=
 ∀(value slice:Expr) (pins:YB) (s:Shared) (σ:St) (H:Hp) (x y:V) (v u:Value) (Q:VK),Inv X pins σ H s->RelV x v->RelV y u->r x y H Q->
  subscripted slice false v u=operate [v,u] (getItem v u)->wpAny (model X.prog X.w) X.A (subscriptTail value slice v u) (EP X pins σ Q) X.xe s
def Tt(X:Cx)(id:String)(r:V->List V->Hp->VK->Prop):Prop:=
 ∀(pins:YB) (s:Shared) (σ:St) (H:Hp) (x:V) (xs:List V) (v:Value) (us:List Value) (Q:VK),Inv X pins σ H s->RelV x v->Vals xs us->r x xs H Q->
  wpAny (model X.prog X.w) X.A (call (.builtin id) (v ::us)) (EP X pins σ Q) X.xe s
section
variable {X:Cx} {a b:Expr} {ta tb:TE} {pos:Pos}
theorem Hr.or{r r':R2}(h:Hr X r)(h':Hr X r'):Hr X (fun x y H Q=>r x y H Q\/r' x y H Q):=by
 intro value slice pins s σ H x y v u Q I rx ry q hs;rcases q with q | q
 .exact h value slice pins s σ H x y v u Q I rx ry q hs
 .exact h' value slice pins s σ H x y v u Q I rx ry q hs
theorem Ni{r:R2}(hr:Hr X r)(ha:PE X a ta)(hb:PE X b tb)(hs:uV b):PE X (.Subscript a b pos) (Mv r ta tb):=by
 intro pins s σ H Q I h;exact Subscript_ (Kh ha hb I h fun v u s2 x y H2 I2 rx ry q=>hr a b pins s2 σ H2 x y v u Q I2 rx ry q (hs _ _))
def MK(K:W.Frag):R2:=fun x y H Q=>∃p xs i v,x= .ref p/\y= .int i/\lj K H p xs/\uF xs i=some v/\Q v H
def Np(K:W.Frag):R2:=fun x y H Q=>∃p xs i v,x= .ref p/\y= .int i/\oT K H p xs/\uF xs i=some v/\Q v H
def MB:R2:=fun x y H Q=>∃z i c,x= .str z/\y= .int i/\z.length<=sizeLine/\uF z.cps.toList i=some c/\Q (.str ⟨#[c]⟩) H
theorem GR:Hr X (MK X.K):=by
 intro value slice pins s σ H x y v u Q I rx ry h hs;obtain⟨p,xs,i,z,rfl,rfl,hq,he,q⟩:=h;cases rx;obtain⟨t,rfl⟩:=ry;obtain⟨its,r,pl,hz⟩:=I.list hq;obtain⟨j,h1,h2,h3,h4,h5⟩:=vw he;obtain⟨w,ew,Cn⟩:=r.get h2;have hl:=r.length;have hn:=nh;have fin:EP X pins σ Q w s:=⟨z,H,I,Cn,q⟩;by_cases h0:0<=i
 .have hj:i.toNat=j:=by
   rw[seqIndex_of h0 h5] at h1;exact Option.some.inj h1
  exact item_listR pl.isList h0 (by omega) (by rw[hj];simpa using ew) fin hs
 .have hj:(i+(its.toArray.size:Int)).toNat=j:=by
   rw[seqIndex_neg (by omega) h4] at h1
   rw[List.size_toArray,<-hl];exact Option.some.inj h1
  exact subscriptTail_builtinR (x:=w) pl.isList.typeIs slot_list_getitem.lookup
   (wpAny_getItem_list_neg (Q:=fun r s'=>r=w/\EP X pins σ Q r s') pl.isList (by omega) (by rw[List.size_toArray] <;> omega) (by omega) (by rw[hj];simpa using ew) ⟨rfl,fin⟩) hs
theorem Lo:Hr X (Np X.K):=by
 intro value slice pins s σ H x y v u Q I rx ry h hs;obtain⟨p,xs,i,z,rfl,rfl,hq,he,q⟩:=h;cases rx;obtain⟨t,rfl⟩:=ry;obtain⟨its,r,pl,hz⟩:=I.tuple hq;obtain⟨j,h1,h2,h3,h4,h5⟩:=vw he;obtain⟨w,ew,Cn⟩:=r.get h2;have hl:=r.length;have hn:=nh;have fin:EP X pins σ Q w s:=⟨z,H,I,Cn,q⟩;exact subscriptTail_builtinR (x:=w) pl.typeIs slot_tuple_getitem.lookup
  (getItem_tuple (j:=j) (Q:=fun r s'=>r=w/\EP X pins σ Q r s') pl (by omega) (by omega) (by rw[List.size_toArray,<-hl];exact h1) (by simpa using ew) ⟨rfl,fin⟩) hs
theorem Le:Hr X MB:=by
 intro value slice pins s σ H x y v u Q I rx ry h hs;obtain⟨z,i,c,rfl,rfl,hz,he,q⟩:=h;obtain⟨t,rfl⟩:=rx;obtain⟨t',rfl⟩:=ry;obtain⟨j,h1,h2,h3,h4,h5⟩:=vw he;have hl:z.cps.toList.length=z.length:=by simp [Str.length]
 rw[hl] at h1 h4 h5;have hn:=nh;exact tail_any (typeIs_str s z t) slot_str_getitem.lookup (getItem_str (c:=c) (by
  have e1:decide (i < -(2 ^ 63:Int))=false:=decide_eq_false (by omega)
  have e2:decide (i>=2 ^ 63)=false:=decide_eq_false (by omega)
  rw[e1,e2,Bool.or_false]) (by rw[h1];simpa using h2) ⟨.str ⟨#[c]⟩,H,I.tok _,⟨_,rfl⟩,q⟩) hs
def Tz(K:W.Frag):R2:=fun x y H Q=>MK K x y H Q\/Np K x y H Q\/MB x y H Q
theorem Lj:Hr X (Tz X.K):=GR.or (Lo.or Le)
theorem zE(its:List Value)(n j:Nat)(u:Value):Obj.mapSeq (·.setIfInBounds j u) {cls:= .type "list",data:= .seq its.toArray n}={cls:= .type "list",data:= .seq (its.set j u).toArray n}:=by
 simp [Obj.mapSeq]
theorem Inv.lst{pins:YB}{H:Hp}{s:Shared}{p:Addr}{xs:List V}(I:Inv X pins σ H s)(h:H p=some (.lst xs)) :
 ∃(its:List Value) (n:Nat),Vals xs its/\s.heap.get? p=some {cls:= .type "list",data:= .seq its.toArray n}/\xs.length<=sizeLine:=by
 obtain⟨z,its,n,r,e⟩:=I.hok p _ h;exact⟨its,n,r,e,z⟩
theorem Inv.LD{pins:YB}{σ:St}{H:Hp}{s:Shared}{p:Addr}{xs ys:List V}{its its':List Value}{n n':Nat}{f:Obj->Obj}(I:Inv X pins σ H s)(h:H p=some (.lst xs))
 (ho:s.heap.get? p=some {cls:= .type "list",data:= .seq its.toArray n}) (hf:f {cls:= .type "list",data:= .seq its.toArray n}={cls:= .type "list",data:= .seq its'.toArray n'}) (r:Vals ys its') (hz:ys.length<=sizeLine) (t:Nat) :
 Inv X pins σ (upd H p (.lst ys)) {s with heap:=s.heap.update p f,toks:=t}:=by
 have e:(s.heap.update p f).get? p=some {cls:= .type "list",data:= .seq its'.toArray n'}:=by
  rw[Heap.get?_update_self f ho (by rw[hf] <;> rfl),hf]
 refine I.write (x:=p) (e:=p) (by rw[h];trivial) (.inl rfl) (fun b u hb q=>(Heap.get?_update_other _ _ (Ne.symm hb)).trans q) ⟨_,e⟩ ?_
 exact⟨hz,its',n',r,e⟩
def IK:V->V->V->Hp->(Hp->Prop)->Prop:=fun o i v H Q=>∃p xs k j,o= .ref p/\i= .int k/\H p=some (.lst xs)/\Bk xs.length k=some j/\Q (upd H p (.lst (xs.set j v)))
theorem set_list:N9 X IK:=by
 intro pins s σ H o i v ov iv u Q I ro ri rv h;obtain⟨p,xs,k,j,rfl,rfl,hp,hj,q⟩:=h;cases ro;obtain⟨t,rfl⟩:=ri;obtain⟨its,n,r,ho,hz⟩:=I.lst hp;obtain⟨h1,h2,h3,h4⟩:=Ay hj;have hl:=r.length;have hn:=nh;have I':Inv X pins σ (upd H p (.lst (xs.set j v))) {s with heap:=s.heap.update p (Obj.mapSeq (·.setIfInBounds j u))}:=
  I.LD hp ho (zE its n j u) (r.set rv j) (by rw[List.length_set];exact hz) s.toks
 by_cases h0:0<=k
 .have hk:k.toNat=j:=by
   rw[seqIndex_of h0 h4] at h1;exact Option.some.inj h1
  exact PySem.W.ki_setAt ho h0 (by omega) (by rw[List.size_toArray,<-hl];exact h4) (by rw[hk];exact⟨_,I',q⟩)
 .have hk:(k+(its.toArray.size:Int)).toNat=j:=by
   rw[seqIndex_neg (by omega) h3] at h1
   rw[List.size_toArray,<-hl];exact Option.some.inj h1
  exact PySem.W.ki_setBack ho (by omega) (by rw[List.size_toArray,<-hl];exact h3) (by omega) (by rw[hk];exact⟨_,I',q⟩)
theorem uE(lo hi:Option Int)(n:Nat):(sliceBounds lo hi none n).1=((HT.et n 0 lo:Nat):Int)/\(sliceBounds lo hi none n).2.1=((HT.et n n hi:Nat):Int)/\(sliceBounds lo hi none n).2.2=1:=by
 refine⟨?_,?_,rfl⟩
 .cases lo with
  | none=>simp [sliceBounds,HT.et]
  | some i=>
    simp only[sliceBounds,HT.et,Option.getD_none,show(1:Int) > 0 by decide,if_true]
    by_cases h:i < 0
    .simp only[h,if_true] <;> omega
    .simp only[h,if_false] <;> omega
 .cases hi with
  | none=>simp [sliceBounds,HT.et]
  | some i=>
    simp only[sliceBounds,HT.et,Option.getD_none,show(1:Int) > 0 by decide,if_true]
    by_cases h:i < 0
    .simp only[h,if_true] <;> omega
    .simp only[h,if_false] <;> omega
theorem sY(its:List Value)(lo hi:Option Int):slicePick its.toArray lo hi none=((its.drop (HT.et its.length 0 lo)).take (HT.et its.length its.length hi - HT.et its.length 0 lo)).toArray:=by
 obtain⟨h1,h2,h3⟩:=uE lo hi its.toArray.size;unfold slicePick;rw[h1,h2,h3];simp only[sliceRange_one,pick_run,List.size_toArray] <;> rfl
def QL(K:W.Frag):V->Option Int->Option Int->Hp->VK->Prop:=fun x lo hi H Q=>∃a xs,x= .ref a/\lj K H a xs/\∀p,H p=none->Q (.ref p) (upd H p (.lst (xy xs lo hi)))
theorem H_:HP X (QL X.K):=by
 intro pins s σ H x v vl vu lo hi sl Q I rx hs pl pu h;obtain⟨a,xs,rfl,hx,q⟩:=h;cases rx;obtain⟨its,r,ht,hz⟩:=I.list hx;have hlen:=r.length;refine⟨"list",_,slot_list_getitem.lookup,ht.isList.typeIs,?_⟩;refine wpAny_getItem_list_slice ht.isList hs pl pu .none (by simp) ?_ (by rw[List.size_toArray] <;> omega)
 rw[sY,<-hlen];refine⟨.ref s.heap.objs.size,_,I.laid (t':=s.toks) (o:= .lst (xy xs lo hi)) (fun b ob q=>Heap.get?_push_of_some _ q) (Nat.le_refl _) ?_,rfl,q _ (I.hok.fresh (Nat.le_refl _))⟩
 exact⟨Nat.le_trans (ql xs lo hi) hz,_,0,(r.drop (HT.et xs.length 0 lo)).take (HT.et xs.length xs.length hi - HT.et xs.length 0 lo),Heap.get?_push_size _ rfl⟩
def kW:V->Bool
 | .cJ=>true
 | .bl _=>true
 | .int _=>true
 | .str _=>true
 | _=>false
def Jr:V->V->Bool
 | .cJ, .cJ=>true
 | .bl a, .bl b=>a==b
 | .bl a, .int b=>(if a then 1 else 0)==b
 | .int a, .bl b=>a==(if b then 1 else 0)
 | .int a, .int b=>a==b
 | .str a, .str b=>a==b
 | _,_=>false
theorem Lk{s:Shared}{y x:V}{u v:Value}(ry:RelV y u)(rx:RelV x v)(fy:kW y=true)(fx:kW x=true):SeqAt.EqAt A s u v (Jr y x):=by
 cases y with
 | cJ=>
   cases ry;cases x with
   | cJ=>cases rx;exact SeqAt.EqAt.same _
   | bl b=>cases rx;exact SeqAt.EqAt.none_bool b
   | int b=>obtain⟨t,rfl⟩:=rx;exact SeqAt.EqAt.none_int b t
   | str b=>obtain⟨t,rfl⟩:=rx;exact SeqAt.EqAt.none_str b t
   | _=>exact absurd (show false=true from fx) Bool.false_ne_true
 | bl a=>
   cases ry;cases x with
   | cJ=>cases rx;exact SeqAt.EqAt.bool_none a
   | bl b=>cases rx;exact SeqAt.EqAt.bool_bool a b
   | int b=>obtain⟨t,rfl⟩:=rx;exact SeqAt.EqAt.bool_int a b t
   | str b=>obtain⟨t,rfl⟩:=rx;exact SeqAt.EqAt.bool_str a b t
   | _=>exact absurd (show false=true from fx) Bool.false_ne_true
 | int a=>
   obtain⟨t',rfl⟩:=ry;cases x with
   | cJ=>cases rx;exact SeqAt.EqAt.int_none a t'
   | bl b=>cases rx;exact SeqAt.EqAt.int_bool a t' b
   | int b=>obtain⟨t,rfl⟩:=rx;exact SeqAt.EqAt.int_int a t' b t
   | str b=>obtain⟨t,rfl⟩:=rx;exact SeqAt.EqAt.int_str a t' b t
   | _=>exact absurd (show false=true from fx) Bool.false_ne_true
 | str a=>
   obtain⟨t',rfl⟩:=ry;cases x with
   | cJ=>cases rx;exact SeqAt.EqAt.str_none a t'
   | bl b=>cases rx;exact SeqAt.EqAt.str_bool a t' b
   | int b=>obtain⟨t,rfl⟩:=rx;exact SeqAt.EqAt.str_int a t' b t
   | str b=>obtain⟨t,rfl⟩:=rx;exact SeqAt.EqAt.str_str a t' b t
   | _=>exact absurd (show false=true from fx) Bool.false_ne_true
 | _=>exact absurd (show false=true from fy) Bool.false_ne_true
def yk(x:V)(u:Value):Bool:=match u with
 | .none=>Jr .cJ x
 | .bool b=>Jr (.bl b) x
 | .int i _=>Jr (.int i) x
 | .str z _=>Jr (.str z) x
 | _=>false
theorem Ek{x y:V}{u:Value}(r:RelV y u)(f:kW y=true):yk x u=Jr y x:=by
 cases y with
 | cJ=>cases r;rfl
 | bl b=>cases r;rfl
 | int i=>obtain⟨t,rfl⟩:=r;rfl
 | str z=>obtain⟨t,rfl⟩:=r;rfl
 | _=>exact absurd (show false=true from f) Bool.false_ne_true
theorem oy{x:V}:∀{xs:List V} {us:List Value},Vals xs us->xs.all kW=true->us.any (yk x)=xs.any fun y=>Jr y x
 | _,_, .nil,_=>rfl
 | y ::xs,u ::us, .cons r t,f=>by
   rw[List.all_cons,Bool.and_eq_true] at f;rw[List.any_cons,List.any_cons,Ek r f.1,oy t f.2]
theorem lN{s:Shared}{x:V}{v:Value}(rx:RelV x v)(fx:kW x=true):∀{xs:List V} {us:List Value},Vals xs us->xs.all kW=true->∀u∈us,SeqAt.EqAt A s u v (yk x u)
 | _,_, .nil,_=>fun u hu=>by cases hu
 | y ::xs,u ::us, .cons r t,f=>fun u' hu=>by
   rw[List.all_cons,Bool.and_eq_true] at f;rcases List.mem_cons.mp hu with rfl | hu
   .rw [Ek r f.1];exact Lk r rx f.1 fx
   .exact lN rx fx t f.2 u' hu
def Jb(x:V)(xs:List V):Bool:=xs.any fun y=>Jr y x
def Pr(K:W.Frag)(neg:Bool):R2:=fun x y H Q=>∃p xs,y= .ref p/\(lj K H p xs\/oT K H p xs)/\kW x=true/\xs.all kW=true/\Q (.bl (if neg then !Jb x xs else Jb x xs)) H
theorem BI:mR X (compareOp .In) (Pr X.K false):=by
 intro pins s σ H x y v u Q I rx ry h;obtain⟨p,xs,rfl,hq,fx,fs,q⟩:=h;cases ry;rcases hq with hq | hq
 .obtain⟨its,r,pl,hz⟩:=I.list hq;refine SeqAt.in_listAt (yk x) pl.isList (fun w hw=>lN rx fx r fs w (by simpa using hw)) ⟨.bl _,H,I,rfl,?_⟩
  rw[show its.toArray.any (yk x)=its.any (yk x) by simp,oy r fs]
  exact q
 .obtain⟨its,r,pl,hz⟩:=I.tuple hq;refine SeqAt.in_tupleAt (yk x) pl (fun w hw=>lN rx fx r fs w (by simpa using hw)) ⟨.bl _,H,I,rfl,?_⟩
  rw[show its.toArray.any (yk x)=its.any (yk x) by simp,oy r fs]
  exact q
theorem vK:mR X (compareOp .NotIn) (Pr X.K true):=by
 intro pins s σ H x y v u Q I rx ry h;obtain⟨p,xs,rfl,hq,fx,fs,q⟩:=h;cases ry;rcases hq with hq | hq
 .obtain⟨its,r,pl,hz⟩:=I.list hq;refine SeqAt.notIn_listAt (yk x) pl.isList (fun w hw=>lN rx fx r fs w (by simpa using hw)) ⟨.bl _,H,I,rfl,?_⟩
  rw[show its.toArray.any (yk x)=its.any (yk x) by simp,oy r fs]
  exact q
 .obtain⟨its,r,pl,hz⟩:=I.tuple hq;refine SeqAt.notIn_tupleAt (yk x) pl (fun w hw=>lN rx fx r fs w (by simpa using hw)) ⟨.bl _,H,I,rfl,?_⟩
  rw[show its.toArray.any (yk x)=its.any (yk x) by simp,oy r fs]
  exact q
theorem u7:jY X (.builtin "len") (fun xs H Q=>∃p ys,xs=[.ref p]/\(lj X.K H p ys\/oT X.K H p ys)/\Q (.int ys.length) H):=by
 intro pins s σ H xs us Q I r h;obtain⟨p,ys,rfl,hq,q⟩:=h;obtain⟨u,rfl,rx⟩:=vals1 r;cases rx;have hn:=nh;rcases hq with hq | hq
 .obtain⟨its,r',pl,hz⟩:=I.list hq;have hlen:=r'.length;exact Calls.call_len_list pl.isList (by simp only[List.size_toArray] <;> omega) ⟨.int ys.length,H,I.tok _,⟨s.toks+1,by rw[List.size_toArray,hlen]⟩,q⟩
 .obtain⟨its,r',pl,hz⟩:=I.tuple hq;have hlen:=r'.length;exact len_tuple pl (by simp only[List.size_toArray] <;> omega) ⟨.int ys.length,H,I.tok _,⟨s.toks+1,by rw[List.size_toArray,hlen]⟩,q⟩
theorem vz:jY X (.type "list") (fun xs H Q=>∃p ys,xs=[.ref p]/\(lj X.K H p ys\/oT X.K H p ys)/\∀l,H l=none->Q (.ref l) (upd H l (.lst ys))):=by
 intro pins s σ H xs us Q I r h;obtain⟨p,ys,rfl,hq,q⟩:=h;obtain⟨u,rfl,rx⟩:=vals1 r;cases rx;have fin:∀(its:List Value),Vals ys its->ys.length<=sizeLine->∀(h':Heap) (c':Nat),(∀b o',s.heap.get? b=some o'->h'.get? b=some o')->
  h'.get? s.heap.objs.size=some {cls:= .type "list",dict:=none,data:= .seq its.toArray c',slots:=#[]}->EP X pins σ Q (.ref s.heap.objs.size) {s with heap:=h'}:=fun its r' hz h' c' kp e=>
  ⟨.ref s.heap.objs.size,_,I.laid (t':=s.toks) kp (Nat.le_refl _) (show dJ X.prog X.w _ h' _ (.lst ys) from⟨hz,its,c',r',e⟩),rfl,q _ (I.hok.fresh (Nat.le_refl _))⟩
 rcases hq with hq | hq
 .obtain⟨its,r',pl,hz⟩:=I.list hq;have hlen:=r'.length;obtain⟨o,ho,hc,n,hd⟩:=pl.isList;exact call_list_seq p (.inl rfl) ho hc hd (fun h' c' kp e=>fin its r' hz h' c' kp e) (by simp only[List.size_toArray] <;> omega)
 .obtain⟨its,r',pl,hz⟩:=I.tuple hq;have hlen:=r'.length;obtain⟨o,ho,hc,n,hd⟩:=pl;exact call_list_seq p (.inr rfl) ho hc hd (fun h' c' kp e=>fin its r' hz h' c' kp e) (by simp only[List.size_toArray] <;> omega)
theorem tq:jY X (.type "tuple") (fun xs H Q=>∃p ys,xs=[.ref p]/\((lj X.K H p ys/\∀l,H l=none->Q (.ref l) (upd H l (.tup ys)))\/(oT X.K H p ys/\Q (.ref p) H))):=by
 intro pins s σ H xs us Q I r h;obtain⟨p,ys,rfl,h⟩:=h;obtain⟨u,rfl,rx⟩:=vals1 r;cases rx;rcases h with⟨hq,q⟩ | ⟨hq,q⟩
 .obtain⟨its,r',pl,hz⟩:=I.list hq;have hlen:=r'.length;refine call_tuple_list pl.isList (fun h' kp=>?_) (by simp only[List.size_toArray] <;> omega)
  have I1:Inv X pins σ H {s with heap:=h'}:=I.kept (t':=s.toks) kp
  have I2:Inv X pins σ (upd H h'.objs.size (.tup ys)) {s with heap:=h'.push {cls:= .type "tuple",data:= .seq its.toArray}}:=
   I1.laid (t':=s.toks) (fun b o e=>Heap.get?_push_of_some _ e) (Nat.le_refl _) (show dJ X.prog X.w _ _ _ (.tup ys) from⟨hz,its,r',IsTup.new _ _⟩)
  exact⟨.ref h'.objs.size,_,I2,rfl,q _ (I1.hok.fresh (Nat.le_refl _))⟩
 .obtain⟨its,r',pl,hz⟩:=I.tuple hq;exact call_tuple_same pl ⟨.ref p,H,I,rfl,q⟩
def Qa(K:W.Frag)(T:String)(x:V)(H:Hp):Prop:=match x with
 | .str _=>T="str"
 | .int _=>T="int"
 | .ref p=>(T="list"/\∃xs,lj K H p xs)\/(T="tuple"/\∃o,K.lookup p=some o/\o.cls= .type "tuple"/\o.dict=none)\/
    (T="dict"/\((∃ay,H p=some (.dK ay))\/∃ay,H p=some (.dT ay)))\/(T="set"/\∃S n,H p=some (.set S n))
 | _=>False
theorem Kp{pins:YB}{s:Shared}{T:String}{x:V}{v:Value}(I:Inv X pins σ H s)(r:RelV x v)(ty:Qa X.K T x H) :
 s.TypeIs v T/\∀a,v= .ref a->∃ob,s.heap.get? a=some ob/\ob.dict=none:=by
 cases x with
 | str z=>
   obtain⟨t,rfl⟩:=r;cases(show T="str" from ty)
   exact⟨typeIs_str s z t,fun _ e=>nomatch e⟩
 | int i=>
   obtain⟨t,rfl⟩:=r;cases(show T="int" from ty)
   exact⟨typeIs_int s i t,fun _ e=>nomatch e⟩
 | ref p=>
   cases r;rcases ty with⟨rfl,xs,hq⟩ | ⟨rfl,o,hk,hc,hd⟩ | ⟨rfl,hk⟩ | ⟨rfl,S,n,hk⟩
   .obtain⟨its,_,pl,_⟩:=I.list hq;refine⟨pl.isList.typeIs,fun a e=>?_⟩
    cases e;obtain⟨o,n,e,c,hd,_⟩:=pl;exact⟨o,e,hd⟩
   .refine⟨⟨o,I.w_ p o hk,hc⟩,fun a e=>?_⟩
    cases e;exact⟨o,I.w_ _ o hk,hd⟩
   .have z:∃o,s.heap.get? p=some o/\o.ExactDict:=by
     rcases hk with⟨ay,hk⟩ | ⟨ay,hk⟩
     .obtain⟨_,_,_,_,o,_,_,e,ex,_⟩:=I.hok p _ hk;exact⟨o,e,ex⟩
     .obtain⟨_,_,_,_,o,_,_,e,ex,_⟩:=I.hok p _ hk;exact⟨o,e,ex⟩
    obtain⟨o,e,ex⟩:=z;refine⟨⟨o,e,ex.1⟩,fun a e2=>?_⟩
    cases e2;exact⟨o,e,ex.2.1⟩
   .obtain⟨o,_,_,_,e,ex,_⟩:=I.hok p _ hk;refine⟨⟨o,e,ex.1⟩,fun a e2=>?_⟩
    cases e2;exact⟨o,e,ex.2.1⟩
 | _=>exact False.elim ty
def US(K:W.Frag)(T:String)(r:V->List V->Hp->VK->Prop)(to:TE):TE:=fun σ H Q=>to σ H fun x H1=>Qa K T x H1/\r x [] H1 Q
def V8(K:W.Frag)(T:String)(r:V->List V->Hp->VK->Prop)(to:TE)(t:TA):TE:=fun σ H Q=>to σ H fun x H1=>Qa K T x H1/\t σ H1 fun xs H2=>r x xs H2 Q
variable {o e:Expr} {es:List Expr} {to:TE} {t:TA} {name:Str} {apos a_:Pos} {T id:String} {r:V->List V->Hp->VK->Prop}
theorem wR(pa:PlainAttrs T)(slot:Slot T name id)(Ga:typeOf (.builtin id)=pure (.type "method_descriptor"))(hm:Tt X id r)(ho:PE X o to)(ha:PA X (e ::es) t)
 (en:attributeBase o name X.env (eval o X.env)=eval o X.env:=by rfl)
 (jo:((backTo a_ (starEach (e ::es) X.env)).all (fun x=>!x.1) && (backToKw a_ (keywordEach [] X.env)).all (fun x=>x.1.isSome)
   && decide ((e ::es).length+([]:List Keyword).length+(if([]:List Keyword).isEmpty then 0 else 1) < 30))=true:=by rfl)
 (eh:(apos.endLine==a_.line)=true:=by rfl) (hs:starEach (e ::es) X.env=(false,eval e X.env) ::starEach es X.env:=by rfl) (zM:(backTo a_ (starEach es X.env)).any (·.1)=false:=by rfl) :
 PE X (.Call (.Attribute o name apos) (e ::es) [] a_) (V8 X.K T r to t):=by
 intro pins s σ H Q I h;refine wpAny_Call_method_late en jo eh rfl (cE (ho pins s σ H _ I h) fun v s1 ⟨x,H1,I1,r1,ty,q1⟩=>?_)
 obtain⟨h1,h2⟩:=Kp I1 r1 ty;refine⟨T,id,pa,slot,Ga,h1,h2,?_⟩;have hA:=ha a_ pins s1 σ H1 _ I1 q1;rw[hs] at hA ⊢;refine Calls.callWith_builtin (by show(false || (backTo a_ (starEach es X.env)).any (·.1))=false;rw [zM] <;> rfl) (Calls.evalArgs_plain ?_)
 exact cE hA fun us s2 ⟨vs,H2,I2,r2,q2⟩=>hm pins s2 σ H2 x vs v us Q I2 r1 r2 q2
end
def Tw(X:Cx)(id:String)(r:V->List V->Hp->VK->Prop):Prop:=
 ∀(pins:YB) (s:Shared) (σ:St) (H:Hp) (x:V) (xs:List V) (v:Value) (us:List Value) (Q:VK),Inv X pins σ H s->RelV x v->Vals xs us->r x xs H Q->
  wpAny (model X.prog X.w) X.A (call (.builtin id) (v ::us)) (EP X pins σ Q) X.xe s
theorem Vals.one:∀{x:V} {us:List Value},Vals [x] us->∃u,us=[u]/\RelV x u
 | _,_, .cons r .nil=>⟨_,rfl,r⟩
section
variable {X:Cx} {pins:YB} {σ:St} {H:Hp} {s:Shared} {l b:Addr} {xs ys zs:List V}
theorem Inv.M7{its its':List Value}{n:Nat}{f:Array Value->Array Value}{t':Nat}(I:Inv X pins σ H s)(hH:H l=some (.lst xs))
 (e:s.heap.get? l=some {cls:= .type "list",data:= .seq its.toArray n}) (hf:f its.toArray=its'.toArray) (hv:Vals ys its') (hz:ys.length<=sizeLine) :
 Inv X pins σ (upd H l (.lst ys)) {s with heap:=s.heap.update l (Obj.mapSeq f),toks:=t'}:=by
 have q:=PySem.IsL.update e f;rw[hf] at q;refine I.write (x:=l) (e:=l) (by rw[hH];exact trivial) (.inl rfl) (fun b' u hb hu=>(Heap.get?_update_other s.heap (Obj.mapSeq f) (Ne.symm hb)).trans hu) ⟨_,q⟩ ?_
 exact⟨hz,its',_,hv,q⟩
theorem Inv.JN{its:List Value}{t':Nat}(I:Inv X pins σ H s)(hv:Vals ys its)(hz:ys.length<=sizeLine) :
 Inv X pins σ (upd H s.heap.objs.size (.lst ys)) {s with heap:=s.heap.push {cls:= .type "list",data:= .seq its.toArray},toks:=t'}:=
 I.laid (fun _ _ q=>Heap.get?_push_of_some _ q) (Nat.le_refl _) ⟨hz,its,0,hv,Heap.get?_push_size _ rfl⟩
theorem Inv.fresh(I:Inv X pins σ H s):H s.heap.objs.size=none:=I.hok.fresh (Nat.le_refl _)
theorem Inv.Nc(I:Inv X pins σ H s)(hH:H l=some (.lst xs)):xs.length<=sizeLine/\∃(its:List Value) (n:Nat),Vals xs its/\xs.length=its.length/\s.heap.get? l=some {cls:= .type "list",data:= .seq its.toArray n}:=by
 obtain⟨z,its,n,r,e⟩:=I.hok l _ hH;exact⟨z,its,n,r,r.length,e⟩
theorem CQ{n:Nat}(h:n<=sizeLine):Builtin.List.listTooLong n=false:=by
 unfold Builtin.List.listTooLong;exact decide_eq_false (by omega)
end
section
variable {X:Cx}
def GH:V->List V->Hp->VK->Prop:=fun x vs H Q=>∃l xs y,x= .ref l/\vs=[y]/\H l=some (.lst xs)/\xs.length < sizeLine/\Q .cJ (upd H l (.lst (xs++[y])))
theorem mG:Tw X "list.append" GH:=by
 intro pins s σ H x vs v us Q I rx rv h;obtain⟨l,xs,y,rfl,rfl,hH,hz,q⟩:=h;cases rx;obtain⟨u,rfl,ru⟩:=rv.one;obtain⟨z,its,n,r,hl,e⟩:=I.Nc hH;refine call_meets F.slot_list_append ⟨_,e,rfl⟩ F.entry_list_append (F.args_list_append_2 _ _) (PySem.list_append l its.toArray n u (by rw[List.size_toArray];omega)) ⟨e,?_⟩
 refine⟨.cJ,_,I.M7 (its':=its++[u]) hH e (by simp) (r.append (.cons ru .nil)) ?_,rfl,q⟩
 rw[List.length_append,List.length_singleton];omega
def O6:V->List V->Hp->VK->Prop:=fun x vs H Q=>∃l b xs zs,x= .ref l/\vs=[.ref b]/\H l=some (.lst xs)/\H b=some (.lst zs)/\xs.length+zs.length<=sizeLine/\Q .cJ (upd H l (.lst (xs++zs)))
def Vd:V->List V->Hp->VK->Prop:=fun x vs H Q=>∃l xs y,x= .ref l/\vs=[]/\H l=some (.lst xs)/\xs[xs.length - 1]? =some y/\Q y (upd H l (.lst xs.dropLast))
def QC:V->List V->Hp->VK->Prop:=fun x vs H Q=>∃l xs i k y,x= .ref l/\vs=[.int i]/\H l=some (.lst xs)/\ -(2 ^ 63)<=i/\i < 2 ^ 63/\seqIndex? i xs.length=some k/\xs[k]? =some y/\Q y (upd H l (.lst (xs.eraseIdx k)))
def N_:V->List V->Hp->VK->Prop:=fun x vs H Q=>∃l xs,x= .ref l/\vs=[]/\H l=some (.lst xs)/\Q .cJ (upd H l (.lst xs.reverse))
def Py:V->List V->Hp->VK->Prop:=fun x vs H Q=>∃l xs,x= .ref l/\vs=[]/\H l=some (.lst xs)/\Q .cJ (upd H l (.lst []))
def We:R2:=fun x y H Q=>∃l b xs zs,x= .ref l/\y= .ref b/\H l=some (.lst xs)/\H b=some (.lst zs)/\xs.length+zs.length<=sizeLine/\∀p,H p=none->Q (.ref p) (upd H p (.lst (xs++zs)))
def U6:R2:=fun x y H Q=>∃l k xs,x= .ref l/\y= .int k/\H l=some (.lst xs)/\ -(2 ^ 63)<=k/\k < 2 ^ 63/\xs.length*k.toNat<=sizeLine/\
 ∀p,H p=none->Q (.ref p) (upd H p (.lst (List.replicate k.toNat xs).flatten))
end
section
variable {prog:Program} {w:World} {A:Around} {E:YC} {s:Shared}
set_option maxRecDepth 100000 in
end
section
variable {X:Cx}
end
end L2
namespace Att
open PySem PySem.W PySem.Calls PyProof.Rows
theorem qA{P:Params}:∀(ns:List Int) (vs:List Value),WellAll P h vs (ns.map WData.int)->IntsAre vs ns:=by
 intro ns
 induction ns with
 | nil=>
   intro vs w;rw[List.map_nil] at w;cases w;exact .nil
 | cons n ns ih=>
   intro vs w;rw[List.map_cons] at w;cases w with
   | cons a b=>
     cases a;exact .cons _ _ (ih _ b)
theorem B4{l:OpenLaw}{n:Nat}(hn:l.most=some n){P:Params}{h:Heap}{args:List WData}{vals:List Value}
 (Im:l.row.toRowW.claim.pre args=true) (A_:WellAll P h vals args) :
 ∃a vs ns,vals=[Value.ref a]/\args=[WData.list (ns.map WData.int)]/\h.get? a=some {cls:= .type "list",data:= .seq vs.toArray}/\IntsAre vs ns/\ns.length<=n:=by
 have hsh:WShape.hasAll [] args [.list .int]=true:=(pre_splitW Im).1;have hc:l.pre.holds [] {args:=args}=true:=(pre_splitW Im).2;obtain⟨d,r,rfl,h1,h2⟩:=hasAllW_cons hsh;obtain rfl:=hasAllW_nil h2;obtain⟨xs,rfl,h3⟩:=hasW_list h1;obtain⟨ns,rfl⟩:=items_int h3;have hlen:ns.length<=n:=by
  unfold OpenLaw.pre at hc;have h4:(WTm.not (.lt (.lit (.int (n:Int))) (.len (.arg 0)))).holds [] {args:=[.list (ns.map .int)]}=true:=by
   have h4:=(holds_andW hc).1;rw[hn] at h4;exact h4
  have h5:=condW_of h4 (w_not (w_lt w_lit (w_len_list (w_arg rfl))));rw[List.length_map] at h5;refine Nat.le_of_not_lt fun q=>?_
  have q':(n:Int) < ((ns.length:Nat):Int):=by omega
  first
   | (rw [decide_eq_true q'] at h5;exact absurd h5 (by decide))
   | (simp at h5;omega)
 cases A_ with
 | cons w1 w2=>
   cases w2;cases w1 with
   | list ho yb=>exact⟨_,_,ns,rfl,rfl,ho,qA ns _ yb,hlen⟩
theorem BZ(l:OpenLaw)(args:List WData):l.row.toRowW.claim.post args (.bool true) args=true:=
 postW_of (r:=l.row.toRowW) (X:=(true==true))
  (show WShape.has [] (.bool true) .bool=true by first | rfl | decide | simp [WShape.has,WShape.arms,WShape.armsAll])
  (show(WTm.eq .res (.lit (.bool true))).value [] {args:=args,res:=some (.bool true),after:=args}=some (.bool (true==true)) from w_eq_bool (w_res rfl) w_lit) rfl
theorem wZ{l:OpenLaw}{n:Nat}{q:Program}{loose:List Str}{XP:(Str->Option Value)->Heap->Prop}{YP:World->Heap->Prop}{d:DefRec}
 (hn:l.most=some n) (SE:d.params.defaults=[])
 (call:∀(w:World) (s₀ s₁:Shared) (mg mb:YG) (fa:Addr) (o:Obj) (pm cd doc:Value) (a:Addr) (vs:List Value) (ns:List Int),
   Ground q loose [] XP w s₀ mg mb s₁.heap->YP w s₁.heap->
   s₁.heap.get? fa=some o->o.data= .func (docDef d.name d.params d.body d.scope pm cd doc)->s₁.heap.CodeRec cd d.name->mg d.name=some (.ref fa)->
   s₁.heap.get? a=some {cls:= .type "list",data:= .seq vs.toArray}->IntsAre vs ns->ns.length<=n->s₁.gens=#[]->
   codeAny (model l.prog w) callerA (.call (.ref fa) ⟨[.ref a],[]⟩) (fun r s'=>r= .ok (.ret (.bool true))/\OldK s₁.heap s'.heap/\s'.os=s₁.os/\AllBare s'.gens) s₁) :
 WalkO q loose XP YP l.row.toRowW d [] (fun f vs=>PySem.call f vs):=by
 intro w s₀ s₁ mg mb G Y fa o pm cd doc dV kV ho hd qI hD OD hg args vals as Im hlay hrd A_ hlo;obtain rfl:dV= .none:=Dflts.none hD SE;obtain rfl:kV= .none:=Dflts.noKw hD;obtain⟨a,vs,ns,rfl,rfl,Mc,hints,hlen⟩:=B4 hn Im A_;refine enter_call (codeAny_mono (call w s₀ s₁ mg mb fa o pm cd doc a vs ns G Y ho (fd_plain hd) qI OD Mc hints hlen hg) fun r s' hq=>?_)
 obtain⟨rfl,h2,h3,h4⟩:=hq;exact⟨.inl ⟨.bool true, .bool true,[],rfl,fun _=>rfl, .bool true,BZ l _,fun _=>⟨List.Pairwise.nil,fun _ hm=>(nomatch hm)⟩⟩,h2,h3,h4⟩
section
variable {prog:Program} {w:World} {A:Around} {E:YC} {s:Shared} {K:Frag}
def Qp(h:Heap):Heap:={h with objs:=#[]}
def ledger(h:Heap)(L d:Addr):YB:=(List.range h.objs.size).filterMap fun a=>if a=L\/a=d then none else(h.get? a).map fun o=>(a,o)
end
end Att
namespace L2
open PySem PySem.Spec PyProof.Rows
theorem ux:∀{vs:List Value} {ns:List Int},IntsAre vs ns->Vals (ns.map V.int) vs
 | _,_, .nil=> .nil
 | _,_, .cons n t h=> .cons ⟨t,rfl⟩ (ux h)
def Nz(H:Hp):Prop:=∀b,H b=none\/∃o xs,H b=some (.ky o (.lst xs))
abbrev dN{K:W.Frag}{h:Heap}(_:K.In h):W.Frag:=K
def inClass(s:Stmt)(j:Nat):Stmt:=match s with
 | .ClassDef _ _ _ body _ _ _ _ _ _ _=>body.getD j (.Pass ⟨0,0,0,0⟩)
 | _=> .Pass ⟨0,0,0,0⟩
def g_(s:Stmt):Arguments:=match s with
 | .FunctionDef _ a _ _ _ _ _ _ _ _=>a
 | _=>{posonlyargs:=[],args:=[],vararg:=none,kwonlyargs:=[],kw_defaults:=[],kwarg:=none,defaults:=[]}
def aO(s:Stmt):List Stmt:=match s with
 | .FunctionDef _ _ b _ _ _ _ _ _ _=>b
 | _=>[]
def aF(s:Stmt):Scope:=match s with
 | .FunctionDef _ _ _ _ _ _ sc _ _ _=>sc
 | _=>{kind:= .function,names:=[],isGenerator:=false,isCoroutine:=false}
abbrev ur:Cq:=fun _ _ _ _ _ _=>False
abbrev E0:XK:=fun _ _ _=>False
theorem z0{X:Cx}:Passes ur X E0:=fun _ _ _ _ _ _ _ h=>h.elim
structure yt (K:W.Frag) (x qual:Str) (st:Stmt) (f:Addr) (fd:FuncData):Prop where
 ex:∃(oc:Value) (od:Option Addr) (kV doc pm:Value) (an:Option Addr) (dt ct:Value) (FJ:Array (Option Value)),
  fd=PySem.W.fnOf x qual (g_ st) (aO st) (aF st) .none kV doc pm an dt ct/\K.lookup f=some ⟨oc,od, .func fd,FJ⟩/\PySem.W.codeIn K dt qual=true
 kp:PySem.W.keepIn K (.ref f)=true
section
variable {P:Program} {w:World} {K:W.Frag} {mg:YG} {base:Heap}
theorem yt.ok{x qual:Str}{st:Stmt}{f:Addr}{fd:FuncData}{N ps:List Str}{k:Nat}{sp:Sp}(F:yt K x qual st f fd)(S:bb N ps (aF st))(len:∀vs H Q E,sp vs H Q E->vs.length=ps.length)
 (jr:∀(dt:Value) (A:Around) (outer:List Env) (s:Shared) (H:Hp) (vs:List V) (Q:VK) (E:XK),dA k (A.deeper (envOfC qual (aF st) s.heap.objs.size f dt))->sp vs H Q E->
   ∃t,ue (km ur P w K mg base N qual (aF st) f dt A outer s H E).HV (aO st) t/\t {nx:=fun _ H'=>Q .cJ H',rt:=Q} (start N vs) H):ig P w K mg base ur (k+1) f fd ps sp:=by
 obtain⟨oc,od,kV,doc,pm,an,dt,ct,FJ,rfl,lk,qI⟩:=F.ex;refine IX lk qI S len fun A outer s H vs Q E hr Jy=>?_
 obtain⟨t,h,q⟩:=jr dt A outer s H vs Q E hr Jy;exact⟨t,h.HV,q⟩
theorem yt.binds{x qual:Str}{st:Stmt}{f:Addr}{fd:FuncData}{ps:List Str}(F:yt K x qual st f fd)
 (h:∀(kV doc pm:Value) (an:Option Addr) (dt ct:Value) (us:List Value),us.length=ps.length->bindArgs (PySem.W.fnOf x qual (g_ st) (aO st) (aF st) .none kV doc pm an dt ct) ⟨us,[]⟩=pure (ps.zip us)):Binds K fd ps []:=by
 obtain⟨oc,od,kV,doc,pm,an,dt,ct,FJ,rfl,lk,qI⟩:=F.ex;exact .all (h kV doc pm an dt ct)
theorem pT{x qual:Str}{st:Stmt}{f:Addr}{oc:Value}{od an:Option Addr}{FJ:Array (Option Value)}{kV doc pm dt ct:Value}(l:K.lookup f=some ⟨oc,od, .func (PySem.W.fnOf x qual (g_ st) (aO st) (aF st) .none kV doc pm an dt ct),FJ⟩)
 (c:PySem.W.codeIn K dt qual=true) (k:PySem.W.keepIn K (.ref f)=true):yt K x qual st f (PySem.W.fnOf x qual (g_ st) (aO st) (aF st) .none kV doc pm an dt ct):=⟨⟨oc,od,kV,doc,pm,an,dt,ct,FJ,rfl,l,c⟩,k⟩
end
theorem jC{A:Around}{k:Nat}(hr:dA k A):A.units+1 < cLine:=Nat.lt_of_le_of_lt (Nat.add_le_add_left (by decide:1<=64) _) hr.units
section
variable {X:Cx}
theorem Bc:jY X (.builtin "len") (fun xs H Q=>∃a ay,xs=[V.ref a]/\H a=some (.dK ay)/\Q (.int ay.length) H):=by
 intro pins s σ H xs us Q I r h;obtain⟨a,ay,rfl,ha,q⟩:=h;obtain⟨u,rfl,ru⟩:=vals1 r;cases ru;exact MS I (.inl ha) fun t s' I'=>⟨.int ay.length,H,I',⟨t,rfl⟩,q⟩
end
theorem B7{A B:Prop}(h:B):if false=true then A else B:=by
 rw[if_neg Bool.false_ne_true];exact h
theorem BS{A B:Prop}(h:A):if true=true then A else B:=by
 rw[if_pos rfl];exact h
def aM(H H':Hp):Prop:=∀b o,H b=some o->H' b=some o
theorem aM.refl(H:Hp):aM H H:=fun _ _ h=>h
theorem aM.trans(a:aM H H1)(b:aM H1 H2):aM H H2:=fun c o h=>b c o (a c o h)
theorem aM.free{H H':Hp}(e:aM H H'){l:Addr}(h:H' l=Option.none):H l=Option.none:=by
 cases q:H l with
 | none=>rfl
 | some o=>
   rw[e l o q] at h;cases h
section
variable {κ:Type} [DecidableEq κ]
end
end L2
end
section
namespace L2
open PySem PySem.Spec PyProof.Rows
def mT(cells:List (Str × Addr)):List (Str × NameKind)->List (Str × Addr)->List (Str × Addr)
 | [],acc=>acc
 | (n,k) ::r,acc=>mT cells r (if k==NameKind.free then(n,(cells.lookup n).getD 0) ::acc else acc)
theorem kC{env:Env}:∀(names:List (Str × NameKind)) (acc:List (Str × Addr)),(∀y∈names,y.2= .free->∃c,env.cells.lookup y.1=some c)->
 (forIn names acc fun(x:Str × NameKind) (cs:List (Str × Addr))=>(match x with
   | (name,kind)=>if kind== .free then do let a <-cellOf env name;pure (ForInStep.yield ((name,a) ::cs)) else pure (ForInStep.yield cs):Sem (ForInStep (List (Str × Addr)))))=pure (mT env.cells names acc)
 | [],acc,_=>by simp [mT]
 | (n,k) ::r,acc,h=>by
   rw[List.forIn_cons];by_cases hk:k=NameKind.free
   .subst hk;obtain⟨c,hc⟩:=h (n, .free) List.mem_cons_self rfl;have e:cellOf env n=pure c:=by unfold cellOf;rw [hc]
    simp only[beq_self_eq_true,if_true,e,pure_bind,mT,hc,Option.getD_some];exact kC r _ fun y hy=>h y (List.mem_cons_of_mem _ hy)
   .have hb:(k==NameKind.free)=false:=by simpa using hk
    simp only[hb,Bool.false_eq_true,if_false,pure_bind,mT];exact kC r _ fun y hy=>h y (List.mem_cons_of_mem _ hy)
theorem kT{env:Env}{scope:Scope}(h:∀y∈scope.names,y.2= .free->∃c,env.cells.lookup y.1=some c):closureFor scope env=pure (mT env.cells scope.names []):=by
 unfold closureFor;have:=kC (env:=env) scope.names [] h;simp only[bind_pure];exact this
theorem jJ{cells:List (Str × Addr)}:∀(names:List (Str × NameKind)) (acc:List (Str × Addr)) {x:Str} {c:Addr},(mT cells names acc).lookup x=some c->
 acc.lookup x=some c\/((x,NameKind.free)∈names/\c=(cells.lookup x).getD 0)
 | [],acc,x,c,h=> .inl h
 | (n,k) ::r,acc,x,c,h=>by
   rcases jJ r _ h with q | ⟨q1,q2⟩
   .by_cases hk:k=NameKind.free
    .subst hk;simp only[beq_self_eq_true,if_true] at q;cases hx:x==n with
     | true=>
       have e:x=n:=by simpa using hx
       subst e;rw[List.lookup_cons,hx] at q;exact .inr ⟨List.mem_cons_self,(Option.some.inj q).symm⟩
     | false=>
       rw[List.lookup_cons,hx] at q;exact .inl q
    .have hb:(k==NameKind.free)=false:=by simpa using hk
     simp only[hb,Bool.false_eq_true,if_false] at q;exact .inl q
   .exact .inr ⟨List.mem_cons_of_mem _ q1,q2⟩
theorem xi{cells:List (Str × Addr)}:∀(names:List (Str × NameKind)) (acc:List (Str × Addr)) {x:Str},((x,NameKind.free)∈names\/∃c,acc.lookup x=some c)->∃c,(mT cells names acc).lookup x=some c
 | [],acc,x,h=>by
   rcases h with h | h
   .simp at h
   .exact h
 | (n,k) ::r,acc,x,h=>by
   refine xi r _ ?_;rcases h with h | ⟨c,h⟩
   .rcases List.mem_cons.mp h with e | e
    .cases e;exact .inr ⟨(cells.lookup n).getD 0,by simp [List.lookup_cons]⟩
    .exact .inl e
   .by_cases hk:k=NameKind.free
    .subst hk;simp only[beq_self_eq_true,if_true];cases hx:x==n with
     | true=>exact .inr ⟨(cells.lookup n).getD 0,by rw[List.lookup_cons,hx]⟩
     | false=>exact .inr ⟨c,by rw[List.lookup_cons,hx];exact h⟩
    .have hb:(k==NameKind.free)=false:=by simpa using hk
     simp only[hb,Bool.false_eq_true,if_false];exact .inr ⟨c,h⟩
theorem vx:∀(names:List (Str × NameKind)) (n:Nat) (acc:List (Str × Addr)) {x:Str},(x,NameKind.cell) ∉ names->(cellsFrom n names acc).lookup x=acc.lookup x
 | [],_,_,_,_=>rfl
 | (y,k) ::r,n,acc,x,h=>by
   unfold cellsFrom;split
   .rename_i hk;have hk:k= .cell:=by simpa using hk
    subst hk;rw[vx r _ _ fun z=>h (List.mem_cons_of_mem _ z),List.lookup_cons]
    cases hx:x==y with
    | true=>
      have e:x=y:=by simpa using hx
      subst e;exact absurd List.mem_cons_self h
    | false=>rfl
   .exact vx r _ _ fun z=>h (List.mem_cons_of_mem _ z)
theorem nJ:∀(names:List (Str × NameKind)) (n:Nat) (acc:List (Str × Addr)),cellsFrom n names acc=cellsFrom n names []++acc
 | [],_,_=>rfl
 | (y,k) ::r,n,acc=>by
   unfold cellsFrom;split
   .rw [nJ r (n+1) ((y,n) ::acc),nJ r (n+1) [(y,n)],List.append_assoc];rfl
   .exact nJ r n acc
theorem yZ{a b:List (Str × Addr)}{c:Addr}(h:(a++b).lookup x=some c):(x,c)∈a\/b.lookup x=some c:=by
 induction a with
 | nil=>exact .inr h
 | cons y r ih=>
   obtain⟨n,v⟩:=y;rw[List.cons_append,List.lookup_cons] at h;cases hx:x==n with
   | true=>
     rw[hx] at h;have e:x=n:=by simpa using hx
     subst e;cases h;exact .inl List.mem_cons_self
   | false=>
     rw[hx] at h;exact(ih h).imp (List.mem_cons_of_mem _) id
theorem lD{a b:List (Str × Addr)}(h:∃c,b.lookup x=some c):∃c,(a++b).lookup x=some c:=by
 induction a with
 | nil=>exact h
 | cons y r ih=>
   rw[List.cons_append,List.lookup_cons];cases x==y.1 with
   | true=>exact⟨_,rfl⟩
   | false=>exact ih
theorem vk{a b:List (Str × Addr)}{c:Addr}(h:a.lookup x=some c):∃c,(a++b).lookup x=some c:=by
 induction a with
 | nil=>cases h
 | cons y r ih=>
   rw[List.cons_append,List.lookup_cons];rw[List.lookup_cons] at h;cases hx:x==y.1 with
   | true=>exact⟨_,rfl⟩
   | false=>rw [hx] at h;exact ih h
theorem t_{M:Model}{A:Around}{E:YC}{s:Shared}{scope:Scope}{cl:List (Str × Addr)}{qual:Str}{env:Env}{Q:Env->Shared->Prop}(hQ:∀h',h'.Ns s.heap.objs.size (fun _=>none)->(∀b o,s.heap.get? b=some o->h'.get? b=some o)->CellsOk h' (s.heap.objs.size+1) (cellsFrom (s.heap.objs.size+1) scope.names [])->
 Q (newEnv scope s.heap.objs.size env.globals (cellsFrom (s.heap.objs.size+1) scope.names cl) qual none .none (some env) builtinsNs) {s with heap:=h'}) :
 wpAny M A (newFunctionEnv scope env.globals cl [] qual none .none (some env)) Q E s:=by
 simp only[newFunctionEnv,Option.isSome_some,if_true];refine wpAny_bind (wpAny_alloc ?_);refine wpAny_bind (wpAny_layCells _ (fun name kind cells=>by cases hkc:kind==NameKind.cell <;> simp [hkc]) _ _ _ _ ?_)
 have ok:=cellsFrom_ok scope.names (s.heap.push {cls:= .type "dict",data:= .dict #[]}) (s.heap.objs.size+1) [] ⟨fun _ _ hm=>(nomatch hm),List.Pairwise.nil⟩ (by rw[Heap.size_push];exact Nat.le_refl _)
 rw[Heap.size_push] at ok;rw[show({s with heap:=s.heap.push {cls:= .type "dict",data:= .dict #[]}}:Shared).heap.objs.size=s.heap.objs.size+1 from Heap.size_push ..]
 rw[List.forIn_nil];refine wpAny_bind (wpAny_pure (wpAny_pure ?_));exact hQ _ ((Heap.Ns.new s.heap (.type "dict")).keeps (pushCells_keeps _ _)) (fun b o e=>pushCells_keeps _ _ b o (Heap.get?_push_of_some _ e)) ok
def br(X:Cx)(scope:Scope)(N':List Str)(fp:List Addr)(s:Shared)(H:Hp):Cx where
 prog:=X.prog
 w:=X.w
 K:=X.K
 mg:=X.mg
 base:=X.base
 A:=X.A
 N:=N'
 s₀:=s
 H₀:=H
 env:=compEnvC scope (cellsFrom (s.heap.objs.size+1) scope.names (mT X.env.cells scope.names [])) s.heap.objs.size X.env
 outer:=X.stack
 stack:=X.stack
 ex:=fp
 fn:=fun x=>scope.names.lookup x==some .cell
 calm:=X.calm
 pn:=[]
 xe:=fun _ _=>False
structure cx (X:Cx) (scope:Scope) (own:List Str) (kp:List Nat) (kn:List Str):Prop where
 kind:scope.kind= .function
 cel:∀y∈scope.names,y.2= .cell->scope.names.lookup y.1=some .cell
 nd:∀y∈scope.names,y.2= .local->scope.names.lookup y.1=some .local
 free:∀y∈scope.names,y.2= .free->X.env.kindOf y.1=some .cell\/X.env.kindOf y.1=some .free
 frl:∀y∈scope.names,y.2= .free->scope.names.lookup y.1=some .free
 names:kn.length=kp.length
 at_:∀(j i:Nat) (x:Str),kp[j]? =some i->kn[j]? =some x->X.N[i]? =some x
 isfree:∀x∈kn,scope.names.lookup x=some .free
def c_(own:List Str)(kp:List Nat)(σ:St):St:=List.replicate own.length none++kp.map fun i=>(σ[i]?).getD none
section
variable {X:Cx} {scope:Scope} {own:List Str} {kp:List Nat} {kn:List Str}
theorem d8{env:Env}:∀{names:List (Str × NameKind)} {x:Str} {k:NameKind},
 (names.map fun(n,k)=>if(k==NameKind.free && env.scope.kind== .function && env.kindOf n==some .cell) then(n,NameKind.cell) else(n,k)).lookup x=some k->
 names.lookup x=some k\/(k= .cell/\names.lookup x=some .free)
 | [],_,_,h=>by simp at h
 | (n,k) ::r,x,k',h=>by
   have ih:=@d8 env r x k';have h:List.lookup x ((if(k==NameKind.free && env.scope.kind== .function && env.kindOf n==some .cell)=true then(n,NameKind.cell) else(n,k)) ::_)=some k':=h
   by_cases hc:(k==NameKind.free && env.scope.kind== .function && env.kindOf n==some .cell)=true
   .rw [if_pos hc] at h;have hkf:k= .free:=by
     simp only[Bool.and_eq_true,beq_iff_eq] at hc;exact hc.1.1
    cases hx:x==n with
    | true=>
      rw[List.lookup_cons,hx] at h;cases h;exact .inr ⟨rfl,by rw[List.lookup_cons,hx,hkf]⟩
    | false=>
      rw[List.lookup_cons,hx] at h;rw[List.lookup_cons,hx];exact ih h
   .rw [if_neg hc] at h;cases hx:x==n with
    | true=>
      rw[List.lookup_cons,hx] at h;rw[List.lookup_cons,hx];exact .inl h
    | false=>
      rw[List.lookup_cons,hx] at h;rw[List.lookup_cons,hx];exact ih h
theorem ng{pins:YB}{s:Shared}(C:cx X scope own kp kn)(I:Inv X pins σ H s):∀y∈scope.names,y.2= .free->∃c,X.env.cells.lookup y.1=some c:=fun y hy hf=>
 I.ok.has y.1 (C.free y hy hf)
theorem EA{pins:YB}{σ:St}{H:Hp}{s:Shared}{fp:List Addr}{lh:Heap}{tk:Nat}(C:cx X scope own kp kn)(I:Inv X pins σ H s)(hf:∀b∈fp,qw X pins H b)(hb:∀b∈fp,b < s.heap.objs.size)
 (hn:lh.Ns s.heap.objs.size (fun _=>none)) (hk:∀b o,s.heap.get? b=some o->lh.get? b=some o) (hC:CellsOk lh (s.heap.objs.size+1) (cellsFrom (s.heap.objs.size+1) scope.names [])):Inv (br X scope (own++kn) fp s H) [] (c_ own kp σ) H {s with heap:=lh,toks:=tk}:=by
 have cl:∀x c,(mT X.env.cells scope.names []).lookup x=some c->X.env.cells.lookup x=some c:=fun x c e=>by
  rcases jJ scope.names [] e with q | ⟨q1,q2⟩
  .simp at q
  .obtain⟨c',CA⟩:=ng C I (x, .free) q1 rfl;have CA:X.env.cells.lookup x=some c':=CA;rw[CA] at q2;rw[CA,q2];rfl
 have clA:∀x c,(cellsFrom (s.heap.objs.size+1) scope.names (mT X.env.cells scope.names [])).lookup x=some c->(x,c)∈cellsFrom (s.heap.objs.size+1) scope.names []\/(mT X.env.cells scope.names []).lookup x=some c:=fun x c e=>by
  rw[nJ] at e;exact yZ e
 have old:∀x c,(mT X.env.cells scope.names []).lookup x=some c->c < s.heap.objs.size:=fun x c e=>by
  obtain⟨v,h⟩:=I.cell x c (cl x c e);exact h.lt
 have new:∀x c,(x,c)∈cellsFrom (s.heap.objs.size+1) scope.names []->s.heap.objs.size<=c:=fun x c e=>Nat.le_of_lt (hC.empty x c e).2
 have clh:∀x,scope.names.lookup x=some .free->∃c,(mT X.env.cells scope.names []).lookup x=some c:=fun x hx=>xi scope.names [] (.inl (PySem.mem_of_lookup hx))
 refine⟨⟨I.ok.mod,C.kind,I.ok.glob,I.ok.blt,Nat.le_refl _,fun x y c h1 h2=>?inj,fun x hx=>?_,fun x c hn h=>?cab,I.ok.hd,I.ok.frames, .inl rfl,fun b qX=>⟨Nat.ne_of_lt (hb b qX),fun x c e z=>?exf⟩,
  fun b o e=>I.bs b o e,Nat.le_trans I.ok.bsz I.sz,fun b o e qX=>?_,fun b qX hs=>?_,I.stack,I.qO⟩,
  rfl,I.bare,Un.kept hk,⟨_,hn,fun i x v h1 h2 h3=>?_⟩,fun x c e=>?_,I.hok.fresh (Nat.le_refl _),fun x c e=>?frc,fun p hp=>(by cases hp),I.hok.kept hk,?_⟩
 case inj=>
  rcases clA x c h1 with a | a <;> rcases clA y c h2 with b | b
  .exact name_of_addr hC.apart a b
  .exact absurd (Nat.lt_of_lt_of_le (old y c b) (new x c a)) (Nat.lt_irrefl _)
  .exact absurd (Nat.lt_of_lt_of_le (old x c a) (new y c b)) (Nat.lt_irrefl _)
  .exact I.ok.inj x y c (cl x c a) (cl y c b)
 case cab=>
  have hn:(scope.names.lookup x==some .cell)=true:=hn;rcases clA x c h with a | a
  .exact new x c a
  .rcases jJ scope.names [] a with q | ⟨q1,q2⟩
   .simp at q
   .have hx:scope.names.lookup x=some .cell:=by simpa using hn
    have h7:scope.names.lookup x=some .free:=C.frl _ q1 rfl;rw[hx] at h7;cases h7
 case exf=>
  rcases clA x c e with a | a
  .subst z;exact absurd (Nat.lt_of_lt_of_le (hb _ qX) (new x _ a)) (Nat.lt_irrefl _)
  .exact(hf b qX).2.2.2.2.1 x c (cl x c a) z
 case frc=>
  rcases clA x c e with a | a
  .exact I.hok.fresh (new x c a)
  .exact I.freeC x c (cl x c a)
 .have hx:(relabel scope X.env).names.lookup x=some .cell\/(relabel scope X.env).names.lookup x=some .free:=hx;show ∃c,(cellsFrom (s.heap.objs.size+1) scope.names (mT X.env.cells scope.names [])).lookup x=some c;rcases hx with hx | hx
  .rcases d8 hx with q | ⟨_,q⟩
   .rw [nJ];obtain⟨c,hc⟩:=rV (n:=s.heap.objs.size+1) q;exact vk hc
   .rw [nJ];exact lD (clh x q)
  .rcases d8 hx with q | ⟨q,_⟩
   .rw [nJ];exact lD (clh x q)
   .cases q
 .rcases(hf b qX).2.2.2.1 with z | z
  .exact I.ok.noex b o e z
  .exact absurd (Nat.lt_of_lt_of_le (Heap.lt_size (I.ok.bs b o e).1) z) (Nat.lt_irrefl _)
 .rcases List.mem_cons.mp (I.yX b hs) with z | z
  .exact(hf b qX).2.1 z
  .exact(hf b qX).2.2.1 z
 .-- a kept name
  have h1:(own++kn)[i]? =some x:=h1;have h2:(c_ own kp σ)[i]? =some (some v):=h2;unfold c_ at h2;by_cases hi:i < own.length
  .rw [List.getElem?_append_left (by simpa using hi),List.getElem?_replicate] at h2
   split at h2 <;> cases h2
  .rw [List.getElem?_append_right (by simpa using hi),List.length_replicate,List.getElem?_map] at h2
   rw[List.getElem?_append_right (by simpa using hi)] at h1
   cases e:kp[i - own.length]? with
   | none=>rw [e] at h2;cases h2
   | some j=>
     rw[e] at h2;have h2:(σ[j]?).getD none=some v:=Option.some.inj h2;have hj:X.N[j]? =some x:=C.at_ _ j x e h1;have Iv:σ[j]? =some (some v):=by
      cases q:σ[j]? with
      | none=>rw [q] at h2;cases h2
      | some y=>rw [q] at h2;exact congrArg some h2
     have hfree:scope.names.lookup x=some .free:=C.isfree x (List.mem_of_getElem? h1);have hkind:=C.free (x, .free) (PySem.mem_of_lookup hfree) rfl;obtain⟨m,hm,hl⟩:=I.loc;obtain⟨u,r,l⟩:=hl j x v hj Iv (hkind.elim (fun q=>Or.inr (Or.inl q)) fun q=>Or.inr (Or.inr q))
     refine⟨u,r, .inr ⟨?_,?_⟩⟩
     .have h3:(relabel scope X.env).names.lookup x=some .local\/(relabel scope X.env).names.lookup x=some .cell\/(relabel scope X.env).names.lookup x=some .free:=h3;rcases h3 with q | q | q
      .rcases d8 q with z | ⟨z,_⟩
       .rw [hfree] at z;cases z
       .cases z
      .exact .inl q
      .exact .inr q
     .rcases l with⟨k,_⟩ | ⟨_,c,hc,hcell⟩
      .rcases hkind with q | q
       .rw [show X.env.kindOf x=some .cell from q] at k;cases k
       .rw [show X.env.kindOf x=some .free from q] at k;cases k
      .obtain⟨c',CA⟩:=clh x hfree;have:=cl x c' CA;rw[hc] at this;cases this;obtain⟨o,ho,hd⟩:=hcell;exact⟨c,(vx _ _ _ fun z=>by have:=C.cel _ z rfl;rw [hfree] at this;cases this).trans CA,o,hk c o ho,hd⟩
 .rcases clA x c e with a | a
  .exact⟨_,(hC.empty x c a).1⟩
  obtain⟨v,o,ho,hd⟩:=I.cell x c (cl x c a);exact⟨v,o,hk c o ho,hd⟩
 .show(c_ own kp σ).length=(own++kn).length;unfold c_;rw[List.length_append,List.length_replicate,List.length_map,List.length_append,C.names]
theorem sd{pins:YB}{s s':Shared}{fp:List Addr}{N':List Str}(I:Inv X pins σ H s)(hf:∀b∈fp,qw X pins H b)(J:Inv (br X scope N' fp s H) [] cA H' s'):Inv X pins σ H' s':=
 I.Ov (ch:=fp) J.os J.base J.hok J.bare fun b hb=>⟨(hf b hb).2.2.2.1,(hf b hb).2.1,(hf b hb).2.2.2.2.1,(hf b hb).2.2.2.2.2⟩
end
def qF(X:Cx)(ifs:List Expr)(t:TT):Prop:=
 ∀(pins:YB) (s:Shared) (σ:St) (H:Hp) (Q:Bool->Hp->Prop),Inv X pins σ H s->t σ H Q->
  wpAny (model X.prog X.w) X.A (forIn ifs true fun c r=>if r=true then do let ok <-isTrue c X.env (eval c X.env);pure (ForInStep.yield ok) else pure (ForInStep.yield r)) (TP X pins σ Q) X.xe s
def QT:TT:=fun _ H Q=>Q true H
theorem wQ{X:Cx}:qF X [] QT:=fun _ _ _ H _ I h=>wpAny_tests_nil ⟨H,I,h⟩
theorem Ed{X:Cx}{t:TT}(h:PT X c t):qF X [c] t:=fun pins s σ H Q I hq=>wpAny_tests_one (h pins s σ H Q I hq)
def AQ(wi:TI)(g:TG)(tc:TT)(te:TE)(own:List Str)(kp:List Nat):TE:=fun σ H Q=>wi σ H fun J H1=>∀D,H1 D=none->
 ∃W:Nat->Nat->List V->Hp->Prop,(∃m,W 0 m [] (upd H1 D (.lst [])))/\∀i m ys H,W i m ys H->
  (J.stop i H/\Q (.ref D) H)\/(J.go i H/\∀x H',J.yld i H x H'->g x (c_ own kp σ) H' fun qr H2=>tc qr H2 fun c H3=>
    if c=true then te qr H3 fun y H4=>H4 D=some (.lst ys)/\ys.length < sizeLine/\∃m',m' < m/\W (i+1) m' (ys++[y]) (upd H4 D (.lst (ys++[y])))
    else ∃m',m' < m/\W (i+1) m' ys H3)
section
variable {X:Cx} {scope:Scope} {own:List Str} {kp:List Nat} {kn:List Str} {tg iter elt:Expr} {ifs:List Expr} {wi:TI} {g:TG} {tc:TT} {te:TE} {pos:Pos}
theorem wM{pins:YB}{σ:St}{H:Hp}{s:Shared}{fp:List Addr}{it D:Addr}{tn:Nat->Heap->Prop}{J:It}{Q:VK}{lh:Heap}{tk:Nat}{R:Result->Shared->Prop}
 (hc:X.calm=true) (C:cx X scope own kp kn) (I:Inv X pins σ H s) (hf:∀b∈fp,qw X pins H b) (hb:∀b∈fp,b < s.heap.objs.size) (T:Turn X.prog X.w X.K tg J fp it tn)
 (hg:PG (br X scope (own++kn) fp s H) tg g) (hi:qF (br X scope (own++kn) fp s H) ifs tc) (he:PE (br X scope (own++kn) fp s H) elt te)
 (hn:lh.Ns s.heap.objs.size (fun _=>none)) (hk:∀b o,s.heap.get? b=some o->lh.get? b=some o) (hC:CellsOk lh (s.heap.objs.size+1) (cellsFrom (s.heap.objs.size+1) scope.names [])) (st:tn 0 s.heap)
 (W:Nat->Nat->List V->Hp->Prop) (w0:∃m,W 0 m [] H)
 (turn:∀i m ys H,W i m ys H->
   (J.stop i H/\Q (.ref D) H)\/(J.go i H/\∀x H',J.yld i H x H'->g x (c_ own kp σ) H' fun qr H2=>tc qr H2 fun c H3=>
     if c=true then te qr H3 fun y H4=>H4 D=some (.lst ys)/\ys.length < sizeLine/\∃m',m' < m/\W (i+1) m' (ys++[y]) (upd H4 D (.lst (ys++[y])))
     else ∃m',m' < m/\W (i+1) m' ys H3))
 (hR:∀H' s' cA,Inv (br X scope (own++kn) fp s H) [] cA H' s'->Q (.ref D) H'->R (.ok .next) s') :
 codeAny (model X.prog X.w) X.A (.compStart (.ListComp elt [⟨tg,iter,ifs,0⟩] scope pos) 0 (.ref it) (.ref D) (br X scope (own++kn) fp s H).env) R {s with heap:=lh,toks:=tk}:=by
 have I1:Inv (br X scope (own++kn) fp s H) [] (c_ own kp σ) H {s with heap:=lh,toks:=tk}:=EA C I hf hb hn hk hC
 have Ux:tn 0 lh:=T.keep _ _ _ st fun b _ o e=>hk b o e
 have fp1:∀{H':Hp} {p:YB},(∀b∈fp,H' b=none)->(∀b∈fp,∀q∈p,q.1≠b)->∀b∈fp,qw (br X scope (own++kn) fp s H) p H' b:=fun {H' p} hn hp b qX=>
  ⟨hn b qX,(I1.ok.exf b qX).1,I1.ok.exfs b qX, .inl qX,fun x c e=>(I1.ok.exf b qX).2 x c e,fun q hq=>hp b qX q hq⟩
 obtain⟨m0,w0⟩:=w0;have loop:codeAny (model X.prog X.w) X.A (.compLoop (.ListComp elt [⟨tg,iter,ifs,0⟩] scope pos) 0 (.ref it) (.ref D) (br X scope (own++kn) fp s H).env) R {s with heap:=lh,toks:=tk}:=by
  refine codeAny_loop rfl (fun n s'=>∃i ys H',Inv (br X scope (own++kn) fp s H) [] (c_ own kp σ) H' s'/\tn i s'.heap/\(∀b∈fp,H' b=none)/\W i n ys H') (fun n s' hI=>?_) m0 ⟨0,[],H,I1,Ux,fun b qX=>(hf b qX).1,w0⟩
  obtain⟨i,ys,H3,I3,Ip,OQ,w3⟩:=hI;show wpAny _ _ ((compTurn (.ListComp elt [⟨tg,iter,ifs,0⟩] scope pos) 0 (.ref it) (.ref D) (br X scope (own++kn) fp s H).env).onRaise (fun x=>do noteFrame x (br X scope (own++kn) fp s H).env;theTreesLotGoes x)) _ _ s'
  refine wpAny_noted (wpAny_noRaise ?_);rw[compTurn_list];refine wpAny_bind (wpAny_standAt (wpAny_bind ?_));rcases turn i n ys H3 w3 with⟨stop,q⟩ | ⟨go,step⟩
  .refine cE (T.done (br X scope (own++kn) fp s H) rfl rfl rfl hc i [] s' _ H3 _ I3 (fp1 OQ (fun _ _ q hq=>by cases hq)) Ip stop) fun r s4 ⟨hr,I4⟩=>?_
   subst hr;exact wpAny_pure (hR H3 s4 _ I4 q)
  .refine cE (T.item (br X scope (own++kn) fp s H) rfl rfl rfl hc i [] s' _ H3 _ I3 (fp1 OQ (fun _ _ q hq=>by cases hq)) Ip go) fun r s4 ⟨u,hr,h4⟩=>?_
   subst hr;refine wpAny_bind (cE h4 fun _ s5 ⟨x,H5,I5,r5,y5,L4,RT⟩=>?_)
   have I5':=I5.pinned (fp1 RT (fun _ _ q hq=>by cases hq)) (T.obj _ _ L4)
   have keepIt:∀{x9:St} {H7:Hp} {s7:Shared},Inv (br X scope (own++kn) fp s H) ([]++nM fp s5.heap) x9 H7 s7->tn (i+1) s7.heap/\∀b∈fp,H7 b=none:=fun {x9 H7 s7} I7=>by
    refine⟨T.keep _ _ _ L4 fun b hb o e=>(I7.pin (b,o) (List.mem_append_right _ (List.mem_append_right _ (kA hb e)))).1,fun b hb=>?_⟩
    obtain⟨o,e,d⟩:=T.obj _ _ L4 b hb;exact(I7.pin (b,o) (List.mem_append_right _ (List.mem_append_right _ (kA hb e)))).2.1
   have reset:∀{x9:St} {H7:Hp} {s7:Shared},Inv (br X scope (own++kn) fp s H) ([]++nM fp s5.heap) x9 H7 s7->Inv (br X scope (own++kn) fp s H) [] (c_ own kp σ) H7 s7:=fun {x9 H7 s7} I7=>by
    have I8:=I7.n9;have hun:Un (qG X.stack) fp H H7 s.heap s7.heap:=I8.base;have I9:Inv X pins σ H7 s7:=sd I hf I8;refine⟨I8.ok,I8.os,I8.bare,I8.base,?_,I8.cell,I8.free,I8.freeC,I8.pin,I8.hok,I1.len⟩;obtain⟨m,hm,_⟩:=I8.loc;refine⟨m,hm,fun i x v h1 h2 h3=>?_⟩
    obtain⟨m1,Yu,OS⟩:=I1.loc;obtain⟨u1,r1,l1⟩:=OS i x v h1 h2 h3;have h1:(own++kn)[i]? =some x:=h1;have h2:(c_ own kp σ)[i]? =some (some v):=h2;unfold c_ at h2;by_cases hi:i < own.length
    .rw [List.getElem?_append_left (by simpa using hi),List.getElem?_replicate] at h2
     split at h2 <;> cases h2
    .rw [List.getElem?_append_right (by simpa using hi),List.length_replicate,List.getElem?_map] at h2
     rw[List.getElem?_append_right (by simpa using hi)] at h1
     cases e:kp[i - own.length]? with
     | none=>rw [e] at h2;cases h2
     | some j=>
       rw[e] at h2;have h2:(σ[j]?).getD none=some v:=Option.some.inj h2;have hj:X.N[j]? =some x:=C.at_ _ j x e h1;have Iv:σ[j]? =some (some v):=by
        cases q:σ[j]? with
        | none=>rw [q] at h2;cases h2
        | some y=>rw [q] at h2;exact congrArg some h2
       have hfree:scope.names.lookup x=some .free:=C.isfree x (List.mem_of_getElem? h1);have hkind:=C.free (x, .free) (PySem.mem_of_lookup hfree) rfl;obtain⟨m9,Yr,WH⟩:=I9.loc;obtain⟨u,r,l⟩:=WH j x v hj Iv (hkind.elim (fun q=>Or.inr (Or.inl q)) fun q=>Or.inr (Or.inr q))
       refine⟨u,r, .inr ?_⟩;rcases l1 with⟨k,k2⟩ | ⟨k,c,hc,hcell⟩
       .have k:(relabel scope X.env).names.lookup x=some .local:=k;rcases d8 k with z | ⟨z,_⟩
        .rw [hfree] at z;cases z
        .cases z
       .refine⟨k,c,hc,?_⟩;rcases l with⟨k',_⟩ | ⟨_,c',CA,Me⟩
        .rcases hkind with q | q
         .rw [show X.env.kindOf x=some .cell from q] at k';cases k'
         .rw [show X.env.kindOf x=some .free from q] at k';cases k'
        .have hcl:(mT X.env.cells scope.names []).lookup x=some c:=(vx _ _ _ fun z=>by have:=C.cel _ z rfl;rw [hfree] at this;cases this).symm.trans hc
         rcases jJ scope.names [] hcl with q | ⟨q1,q2⟩
         .simp at q
         .rw [CA] at q2;have q2:c=c':=q2;rw[q2];exact Me
   have hmm:=hg ([]++nM fp s5.heap) s5 (c_ own kp σ) H5 x u _ I5' r5 (step x H5 y5);refine wpAny_bind (cE hmm fun _ s6 ⟨OI,H6,I6,q6⟩=>?_)
   refine wpAny_bind (cE (hi _ s6 OI H6 _ I6 q6) fun ok s7 ⟨H7,I7,q7⟩=>?_)
   cases ok with
   | false=>
     simp only[Bool.false_eq_true,if_false] at q7 ⊢;obtain⟨m',L7,w7⟩:=q7;obtain⟨a1,a2⟩:=keepIt I7;exact wpAny_pure ⟨rfl,m',L7,i+1,ys,H7,reset I7,a1,a2,w7⟩
   | true=>
     simp only[if_true] at q7 ⊢;refine wpAny_bind (wpAny_bind (cE (he _ s7 OI H7 _ I7 q7) fun yv s8 ⟨y,H8,I8,r8,hD,hlt,m',L7,w8⟩=>wpAny_bind ?_))
     obtain⟨a1,a2⟩:=keepIt I8;refine cE (mG _ s8 OI H8 (.ref D) [y] (.ref D) [yv] (fun v H9=>v= .cJ/\H9=upd H8 D (.lst (ys++[y]))) I8 rfl (.cons r8 .nil) ⟨D,ys,y,rfl,rfl,hD,hlt,rfl,rfl⟩) fun _ s9 ⟨v9,H9,I9,_,_,e9⟩=>?_
     subst e9;obtain⟨b1,b2⟩:=keepIt I9;exact wpAny_pure (wpAny_pure ⟨rfl,m',L7,i+1,ys++[y],_,reset I9,b1,b2,w8⟩)
 exact codeAny_compStart_list loop (T.self _ _ _ _ _ Ux loop)
theorem Aw(hc:X.calm=true)(C:cx X scope own kp kn)(hi:PI X tg iter wi)(hg:∀fp s H,PG (br X scope (own++kn) fp s H) tg g)(Ci:∀fp s H,qF (br X scope (own++kn) fp s H) ifs tc)
 (he:∀fp s H,PE (br X scope (own++kn) fp s H) elt te) (hs:∀x,foldedSetIterable iter X.env x=pure x:=by intro _;rfl):PE X (.ListComp elt [⟨tg,iter,ifs,0⟩] scope pos) (AQ wi g tc te own kp):=by
 intro pins s σ H Q I h;rw[eval_ListComp];refine wpAny_comprehension_free (use:=none) rfl hs (kT (ng C I)) C.kind C.nd (cE (hi pins s σ H _ I h) fun v s1 h1=>cE h1 fun Po s2 h2=>?_)
 obtain⟨it,fp,tn,J,H2,e,I2,T,L9,f2,q⟩:=h2;subst e;refine wpAny_newObj_type ?_;have I3:Inv X pins σ (upd H2 s2.heap.objs.size (.lst [])) {s2 with heap:=s2.heap.push {cls:= .type "list",dict:=none,data:= .seq ([]:List Value).toArray}}:=I2.JN (its:=[]) (t':=s2.toks) .nil (Nat.zero_le _)
 obtain⟨W,w0,turn⟩:=q s2.heap.objs.size I2.fresh;have fne:∀b∈fp,b < s2.heap.objs.size:=fun b hb=>let⟨o,e,_⟩:=T.obj _ _ L9 b hb;Heap.lt_size e
 have f3:∀b∈fp,qw X pins (upd H2 s2.heap.objs.size (.lst [])) b:=fun b hb=>⟨by rw[bj (Nat.ne_of_lt (fne b hb))];exact(f2 b hb).1,(f2 b hb).2⟩
 generalize hs3:({s2 with heap:=s2.heap.push {cls:= .type "list",dict:=none,data:= .seq ([]:List Value).toArray}}:Shared)=s3 at I3 ⊢
 have Ip:tn 0 s3.heap:=by rw[<-hs3];exact T.keep _ _ _ L9 fun b _ o e=>Heap.get?_push_of_some _ e
 have fne3:∀b∈fp,b < s3.heap.objs.size:=fun b hb=>by rw[<-hs3];exact Nat.lt_of_lt_of_le (fne b hb) (by rw[Heap.size_push];exact Nat.le_succ _)
 refine t_ fun lh zL hk hC=>?_
 refine wM (D:=s2.heap.objs.size) hc C I3 f3 fne3 T (hg fp s3 _) (Ci fp s3 _) (he fp s3 _) zL hk hC Ip W w0 turn fun H' s' cA J' hq=>?_
 have B:=sd I3 f3 J';obtain⟨m',L7,_⟩:=J'.loc;refine⟨m',L7,fun h' sb=>⟨.ref s2.heap.objs.size,H',?_,rfl,hq⟩⟩
 have fC:=I3.yg (H':=H') (b:=s3.heap.objs.size) (Nat.le_refl _) J'.free;exact B.turned (it:=s3.heap.objs.size) (t':=s'.toks) (fun b o hb e=>(sb.2 b hb).trans e) fC.1 fC.2.1 fC.2.2.2.1 fC.2.2.2.2.1 fC.2.2.2.2.2
theorem zG{i:Nat}{x:Str}{pos' n4:Pos}(hc:X.calm=true)(hN:X.N.Nodup)(hx:X.N[i]? =some x)(Cz:X.env.scope.names.lookup x=some .local)(C:cx X scope own kp kn)(hi:PI X tg iter wi)
 (hg:∀fp s H,PG (br X scope (own++kn) fp s H) tg g) (Ci:∀fp s H,qF (br X scope (own++kn) fp s H) ifs tc)
 (he:∀fp s H,PE (br X scope (own++kn) fp s H) elt te)
 (sU:swapsWith (.ListComp elt [⟨tg,iter,ifs,0⟩] scope pos) (some (.Name x pos')) n4.line X.env=pure true:=by rfl)
 (hs:∀x,foldedSetIterable iter X.env x=pure x:=by intro _;rfl) :
 PS X (.Assign [.Name x pos'] (.ListComp elt [⟨tg,iter,ifs,0⟩] scope pos) n4) (Dg (AQ wi g tc te own kp) (tQ i)):=by
 intro pins s σ H D I h;rw[exec_Assign_Name_used _ _ _ _ sU];refine wpAny_bind (wpAny_standAt (wpAny_bind ?_));show wpAny _ X.A (do let _ <-comprehension (.ListComp elt [⟨tg,iter,ifs,0⟩] scope pos) scope X.env _ (newList []) false (eval iter X.env) (some (assign (.Name x pos') X.env))) _ _ s
 refine wpAny_bind (wpAny_mono (wpAny_comprehension_free (use:=some (assign (.Name x pos') X.env)) (Q:=fun _ s'=>SP X pins D .next s') rfl hs (kT (ng C I)) C.kind C.nd
  (cE (hi pins s σ H _ I h) fun v s1 h1=>cE h1 fun Po s2 h2=>?_)) (fun _ s' hq=>wpAny_pure (wpAny_pure hq)) fun _ _ e=>e)
 obtain⟨it,fp,tn,J,H2,e,I2,T,L9,f2,q⟩:=h2;subst e;refine wpAny_newObj_type ?_;have I3:Inv X pins σ (upd H2 s2.heap.objs.size (.lst [])) {s2 with heap:=s2.heap.push {cls:= .type "list",dict:=none,data:= .seq ([]:List Value).toArray}}:=I2.JN (its:=[]) (t':=s2.toks) .nil (Nat.zero_le _)
 obtain⟨W,w0,turn⟩:=q s2.heap.objs.size I2.fresh;have fne:∀b∈fp,b < s2.heap.objs.size:=fun b hb=>let⟨o,e,_⟩:=T.obj _ _ L9 b hb;Heap.lt_size e
 have f3:∀b∈fp,qw X pins (upd H2 s2.heap.objs.size (.lst [])) b:=fun b hb=>⟨by rw[bj (Nat.ne_of_lt (fne b hb))];exact(f2 b hb).1,(f2 b hb).2⟩
 generalize hs3:({s2 with heap:=s2.heap.push {cls:= .type "list",dict:=none,data:= .seq ([]:List Value).toArray}}:Shared)=s3 at I3 ⊢
 have Ip:tn 0 s3.heap:=by rw[<-hs3];exact T.keep _ _ _ L9 fun b _ o e=>Heap.get?_push_of_some _ e
 have fne3:∀b∈fp,b < s3.heap.objs.size:=fun b hb=>by rw[<-hs3];exact Nat.lt_of_lt_of_le (fne b hb) (by rw[Heap.size_push];exact Nat.le_succ _)
 refine t_ fun lh zL hk hC=>?_
 refine wM (Q:=fun x H1=>tQ i x σ H1 D.nx) (D:=s2.heap.objs.size) hc C I3 f3 fne3 T (hg fp s3 _) (Ci fp s3 _) (he fp s3 _) zL hk hC Ip W w0 turn fun H' s' cA J' hq=>?_
 have B:=sd I3 f3 J';obtain⟨m',L7,_⟩:=J'.loc;have fC:=I3.yg (H':=H') (b:=s3.heap.objs.size) (Nat.le_refl _) J'.free;show wpAny _ X.A (assign (.Name x pos') X.env (.ref s2.heap.objs.size)) _ _ s';refine wpAny_assign_Name (um B hN hx (.inl Cz) (v:= .ref s2.heap.objs.size) rfl (fun s4 I4 ⟨a,sb,ha⟩=>?_) (.inr Cz))
 have ha':s3.heap.objs.size≠a:=by
  rcases ha with rfl | z
  .exact fC.2.1
  .exact fun e=>fC.2.2.2.2.1 x a z e.symm
 refine⟨m',L7.sameBut sb ha',fun h' WG=>⟨_,H',?_,hq⟩⟩
 exact I4.turned (it:=s3.heap.objs.size) (t':=s4.toks) (fun b o hb e=>(WG.2 b hb).trans e) fC.1 fC.2.1 fC.2.2.2.1 fC.2.2.2.2.1 fC.2.2.2.2.2
end
end L2
end
section
namespace L2
open PySem PySem.Spec PyProof.Rows
inductive D where
 | cJ | bl (b:Bool) | int (i:Int) | str (x:Str) | lst (ds:List D) | tup (ds:List D) | dct (ks:List Key) (ds:List D)
inductive R (α:Type) where
 | ok (a:α) | ex (c:Nat) | no
def R.bind{α β:Type}:R α->(α->R β)->R β
 | .ok a,f=>f a
 | .ex c,_=> .ex c
 | .no,_=> .no
theorem R.af{α β:Type}{r:R α}{f:α->R β}{b:β}(h:r.bind f= .ok b):∃a,r= .ok a/\f a= .ok b:=by
 cases r with
 | ok a=>exact⟨a,rfl,h⟩
 | ex c=>cases h
 | no=>cases h
@[simp] theorem R.aH{α β:Type}(a:α)(f:α->R β):(R.ok a).bind f=f a:=rfl
def R.aS{α:Type}(c:Bool)(r:R α):R α:=if c then r else .no
theorem R.aN{α:Type}{c:Bool}{r:R α}{a:α}(h:R.aS c r= .ok a):c=true/\r= .ok a:=by
 cases c with
 | true=>exact⟨rfl,h⟩
 | false=>cases h
@[simp] theorem R.Mm{α:Type}(r:R α):R.aS true r=r:=rfl
def tW(K:W.Frag)(B:List Addr)(H:Hp)(a:Addr)(xs:List V):Prop:=
 (a ∉ B/\Rd H a (.lst xs))\/∃(its:List Value) (n:Nat),K.lookup a=some {cls:= .type "list",data:= .seq its.toArray n}/\xs.length<=sizeLine/\Vals xs its
def vY(K:W.Frag)(B:List Addr)(H:Hp)(a:Addr)(xs:List V):Prop:=
 (a ∉ B/\Rd H a (.tup xs))\/∃(o:Obj) (its:Array Value) (n:Nat),K.lookup a=some o/\o.cls= .type "tuple"/\o.data= .seq its n/\its.size<=sizeLine/\Vals xs its.toList
theorem tW.sq{K:W.Frag}{B:List Addr}{a:Addr}{xs:List V}(h:tW K B H a xs):lj K H a xs:=by
 rcases h with z | ⟨its,n,hk,hz,r⟩
 .exact .inl z.2
 .exact .inr ⟨_,its.toArray,n,hk,rfl,rfl,rfl,by rw[List.size_toArray,<-r.length];exact hz,by simpa using r⟩
theorem vY.sq{K:W.Frag}{B:List Addr}{a:Addr}{xs:List V}(h:vY K B H a xs):oT K H a xs:=h.elim (fun z=> .inl z.2) .inr
mutual
def Rep(K:W.Frag)(B:List Addr)(H:Hp):D->V->Prop
 | .cJ,v=>v= .cJ
 | .bl b,v=>v= .bl b
 | .int i,v=>v= .int i
 | .str x,v=>v= .str x
 | .lst ds,v=>∃a xs,v= .ref a/\tW K B H a xs/\az K B H ds xs
 | .tup ds,v=>∃a xs,v= .ref a/\vY K B H a xs/\az K B H ds xs
 | .dct ks ds,v=>∃(a:Addr) (ay:List (Key × V)),v= .ref a/\(a ∉ B/\H a=some (.dK ay))/\ay.map (·.1)=ks/\az K B H ds (ay.map (·.2))
def az(K:W.Frag)(B:List Addr)(H:Hp):List D->List V->Prop
 | [],xs=>xs=[]
 | d ::ds,xs=>∃x r,xs=x ::r/\Rep K B H d x/\az K B H ds r
end
def dr(B:List Addr)(H:Hp)(B':List Addr)(H':Hp):Prop:=∀b o,H b=some o->b ∉ B->H' b=some o/\b ∉ B'
theorem dr.rd{B B':List Addr}(p:dr B H B' H'){a:Addr}{u:HO}(h:Rd H a u)(n:a ∉ B):Rd H' a u/\a ∉ B':=by
 rcases h with e | ⟨o,e⟩
 .exact⟨.inl (p a _ e n).1,(p a _ e n).2⟩
 .exact⟨.inr ⟨o,(p a _ e n).1⟩,(p a _ e n).2⟩
theorem dr.trans{B B' OV:List Addr}(p:dr B H B' H')(q:dr B' H' OV nc):dr B H OV nc:=fun b o e n=>
 let⟨e1,n1⟩:=p b o e n;q b o e1 n1
theorem dr.same{B:List Addr}(s:aM H H'):dr B H B H':=fun b o e n=>⟨s b o e,n⟩
theorem dr.refl(B:List Addr)(H:Hp):dr B H B H:=dr.same (aM.refl H)
theorem tW.bc{K:W.Frag}{B B':List Addr}(p:dr B H B' H'){a:Addr}{xs:List V}(l:tW K B H a xs):tW K B' H' a xs:=
 l.elim (fun z=> .inl ⟨(p.rd z.2 z.1).2,(p.rd z.2 z.1).1⟩) .inr
mutual
theorem Rep.bc{K:W.Frag}{B B':List Addr}(p:dr B H B' H'):∀{d:D} {v:V},Rep K B H d v->Rep K B' H' d v
 | .cJ,_,h=>h
 | .bl _,_,h=>h
 | .int _,_,h=>h
 | .str _,_,h=>h
 | .lst ds,v,h=>by
   unfold Rep at h ⊢;obtain⟨a,xs,e,l,r⟩:=h;exact⟨a,xs,e,l.bc p,az.bc p r⟩
 | .tup ds,v,h=>by
   unfold Rep at h ⊢;obtain⟨a,xs,e,l,r⟩:=h;exact⟨a,xs,e,l.elim (fun z=> .inl ⟨(p.rd z.2 z.1).2,(p.rd z.2 z.1).1⟩) .inr,az.bc p r⟩
 | .dct ks ds,v,h=>by
   unfold Rep at h ⊢;obtain⟨a,ay,e,⟨n,l⟩,k,r⟩:=h;exact⟨a,ay,e,⟨(p a _ l n).2,(p a _ l n).1⟩,k,az.bc p r⟩
theorem az.bc{K:W.Frag}{B B':List Addr}(p:dr B H B' H'):∀{ds:List D} {xs:List V},az K B H ds xs->az K B' H' ds xs
 | [],_,h=>h
 | d ::ds,xs,h=>by
   unfold az at h ⊢;obtain⟨x,r,e,h1,h2⟩:=h;exact⟨x,r,e,Rep.bc p h1,az.bc p h2⟩
end
theorem Rep.same{K:W.Frag}{B:List Addr}{d:D}{v:V}(h:Rep K B H d v)(s:aM H H'):Rep K B H' d v:=h.bc (dr.same s)
theorem az.same{K:W.Frag}{B:List Addr}{d:List D}{v:List V}(h:az K B H d v)(s:aM H H'):az K B H' d v:=h.bc (dr.same s)
theorem az.nil{K:W.Frag}{B:List Addr}:az K B H [] []:=by unfold az;rfl
theorem az.cons{K:W.Frag}{B:List Addr}{d:D}{ds:List D}{x:V}{xs:List V}(h:Rep K B H d x)(t:az K B H ds xs):az K B H (d ::ds) (x ::xs):=by
 unfold az;exact⟨x,xs,rfl,h,t⟩
theorem az.bR{K:W.Frag}{B:List Addr}{d:D}{ds:List D}{xs:List V}(h:az K B H (d ::ds) xs):∃x r,xs=x ::r/\Rep K B H d x/\az K B H ds r:=by
 unfold az at h;exact h
theorem az.length{K:W.Frag}{B:List Addr}:∀{ds:List D} {xs:List V},az K B H ds xs->ds.length=xs.length
 | [],_,h=>by unfold az at h;rw [h];rfl
 | d ::ds,xs,h=>by
   obtain⟨x,r,rfl,_,h2⟩:=h.bR;simp [h2.length]
theorem az.get{K:W.Frag}{B:List Addr}:∀{ds:List D} {xs:List V} {i:Nat} {d:D},az K B H ds xs->ds[i]? =some d->∃x,xs[i]? =some x/\Rep K B H d x
 | [],_,_,_,_,e=>by simp at e
 | d ::ds,xs,0,d',h,e=>by
   obtain⟨x,r,rfl,h1,h2⟩:=h.bR;simp at e;subst e;exact⟨x,rfl,h1⟩
 | d ::ds,xs,i+1,d',h,e=>by
   obtain⟨x,r,rfl,h1,h2⟩:=h.bR;obtain⟨y,e1,e2⟩:=az.get (i:=i) h2 (by simpa using e)
   exact⟨y,by simpa using e1,e2⟩
theorem az.append{K:W.Frag}{B:List Addr}:∀{ds es:List D} {xs ys:List V},az K B H ds xs->az K B H es ys->az K B H (ds++es) (xs++ys)
 | [],_,_,_,h,t=>by unfold az at h;subst h;exact t
 | d ::ds,es,xs,ys,h,t=>by
   obtain⟨x,r,rfl,h1,h2⟩:=h.bR;exact az.cons h1 (az.append h2 t)
theorem az.drop{K:W.Frag}{B:List Addr}:∀{ds:List D} {xs:List V} (n:Nat),az K B H ds xs->az K B H (ds.drop n) (xs.drop n)
 | _,_,0,h=>h
 | [],_,n+1,h=>by unfold az at h;subst h;exact az.nil
 | d ::ds,xs,n+1,h=>by
   obtain⟨x,r,rfl,h1,h2⟩:=h.bR;exact az.drop n h2
theorem az.take{K:W.Frag}{B:List Addr}:∀{ds:List D} {xs:List V} (n:Nat),az K B H ds xs->az K B H (ds.take n) (xs.take n)
 | _,_,0,h=>az.nil
 | [],_,n+1,h=>by unfold az at h;subst h;exact az.nil
 | d ::ds,xs,n+1,h=>by
   obtain⟨x,r,rfl,h1,h2⟩:=h.bR;exact az.cons h1 (az.take n h2)
def D.atom:D->Bool
 | .cJ=>true | .bl _=>true | .int _=>true | .str _=>true | _=>false
theorem Rep.atom{K:W.Frag}{B B':List Addr}{d:D}{v:V}(a:d.atom=true)(h:Rep K B H d v):Rep K B' H' d v:=by
 cases d <;> first | exact h | cases a
inductive Sl where
 | un | val (d:D) | bld (ds:List D)
abbrev ao:=List Sl
structure c6 (K:W.Frag) (Z B:List Addr) (H:Hp) (σ:St) (δ:ao):Prop where
 len:δ.length=σ.length
 bs:∀a∈B,∃o,H a=some o
 zb:∀a∈Z,a∈B
 val:∀(i:Nat) (d:D),δ[i]? =some (.val d)->∃v,σ[i]? =some (some v)/\Rep K B H d v
 bld:∀(i:Nat) (ds:List D),δ[i]? =some (.bld ds)->∃a xs,σ[i]? =some (some (.ref a))/\a∈B/\a ∉ Z/\H a=some (.lst xs)/\az K B H ds xs
 dis:∀(i j:Nat) (a:Addr) (ds es:List D),δ[i]? =some (.bld ds)->δ[j]? =some (.bld es)->σ[i]? =some (some (.ref a))->σ[j]? =some (some (.ref a))->i=j
theorem c6.same{K:W.Frag}{Z B:List Addr}{δ:ao}(E:c6 K Z B H σ δ)(s:aM H H'):c6 K Z B H' σ δ where
 len:=E.len
 bs:=fun a ha=>let⟨o,e⟩:=E.bs a ha;⟨o,s a o e⟩
 zb:=E.zb
 val:=fun i d e=>let⟨v,h1,h2⟩:=E.val i d e;⟨v,h1,h2.same s⟩
 bld:=fun i ds e=>let⟨a,xs,h1,h2,h3,h4,h5⟩:=E.bld i ds e;⟨a,xs,h1,h2,h3,s a _ h4,h5.same s⟩
 dis:=E.dis
def lH(δ:ao):ao:=δ.map fun x=>match x with | .bld ds=> .val (.lst ds) | y=>y
theorem c6.lH{K:W.Frag}{Z B:List Addr}{δ:ao}(E:c6 K Z B H σ δ):c6 K [] [] H σ (lH δ) where
 len:=by unfold L2.lH;rw [List.length_map];exact E.len
 bs:=fun a ha=>by cases ha
 zb:=fun a ha=>by cases ha
 val:=fun i d e=>by
  unfold L2.lH at e;rw[List.getElem?_map] at e;have p:dr B H [] H:=fun b o e _=>⟨e,by simp⟩
  cases q:δ[i]? with
  | none=>rw [q] at e;cases e
  | some x=>
    rw[q] at e;cases x with
    | un=>cases e
    | val d'=>cases e;obtain⟨v,h1,h2⟩:=E.val i d q;exact⟨v,h1,h2.bc p⟩
    | bld ds=>
      cases e;obtain⟨a,xs,h1,_,_,h4,h5⟩:=E.bld i ds q;refine⟨.ref a,h1,?_⟩;unfold Rep;exact⟨a,xs,rfl, .inl ⟨by simp, .inl h4⟩,h5.bc p⟩
 bld:=fun i ds e=>by
  unfold L2.lH at e;rw[List.getElem?_map] at e;cases q:δ[i]? with
  | none=>rw [q] at e;cases e
  | some x=>rw [q] at e;cases x <;> cases e
 dis:=fun i j a ds es e=>by
  unfold L2.lH at e;rw[List.getElem?_map] at e;cases q:δ[i]? with
  | none=>rw [q] at e;cases e
  | some x=>rw [q] at e;cases x <;> cases e
theorem PE.imp{X:Cx}{t t':TE}(h:PE X e t)(w:∀σ H Q,t' σ H Q->t σ H Q):PE X e t':=fun pins s σ H Q I hq=>h pins s σ H Q I (w σ H Q hq)
theorem PT.imp{X:Cx}{t t':TT}(h:PT X e t)(w:∀σ H Q,t' σ H Q->t σ H Q):PT X e t':=fun pins s σ H Q I hq=>h pins s σ H Q I (w σ H Q hq)
theorem PA.imp{X:Cx}{t t':TA}(h:PA X e t)(w:∀σ H Q,t' σ H Q->t σ H Q):PA X e t':=fun pos pins s σ H Q I hq=>h pos pins s σ H Q I (w σ H Q hq)
theorem PS.imp{X:Cx}{t t':TS}(h:PS X e t)(w:∀D σ H,t' D σ H->t D σ H):PS X e t':=fun pins s σ H D I hq=>h pins s σ H D I (w D σ H hq)
theorem ue.imp{X:Cx}{t t':TS}(h:ue X e t)(w:∀D σ H,t' D σ H->t D σ H):ue X e t':=fun pins s σ H D I hq=>h pins s σ H D I (w D σ H hq)
theorem PG.imp{X:Cx}{t t':TG}(h:PG X e t)(w:∀v σ H Q,t' v σ H Q->t v σ H Q):PG X e t':=fun pins s σ H v u Q I r hq=>h pins s σ H v u Q I r (w v σ H Q hq)
theorem PI.imp{X:Cx}{t t':TI}(h:PI X tg e t)(w:∀σ H Q,t' σ H Q->t σ H Q):PI X tg e t':=fun pins s σ H Q I hq=>h pins s σ H Q I (w σ H Q hq)
abbrev FD:=ao->R D
def tD(K:W.Frag)(f:FD):TE:=fun σ H Q=>∃Z B δ d,c6 K Z B H σ δ/\f δ= .ok d/\∀v H',aM H H'->Rep K B H' d v->Q v H'
def tN(K:W.Frag)(f:ao->R (List D)):TE:=fun σ H Q=>∃Z B δ ds,c6 K Z B H σ δ/\f δ= .ok ds/\∀a xs H',aM H H'->H a=none->H' a=some (.lst xs)->az K (a ::B) H' ds xs->Q (.ref a) H'
def Jf(K:W.Frag)(f:ao->R Bool):TT:=fun σ H Q=>∃Z B δ b,c6 K Z B H σ δ/\f δ= .ok b/\∀H',aM H H'->Q b H'
def Um(K:W.Frag)(f:ao->R (List D)):TA:=fun σ H Q=>∃Z B δ ds,c6 K Z B H σ δ/\f δ= .ok ds/\∀vs H',aM H H'->az K B H' ds vs->Q vs H'
abbrev PD(X:Cx)(e:Expr)(f:FD):Prop:=PE X e (tD X.K f)
abbrev PN(X:Cx)(e:Expr)(f:ao->R (List D)):Prop:=PE X e (tN X.K f)
abbrev PB(X:Cx)(e:Expr)(f:ao->R Bool):Prop:=PT X e (Jf X.K f)
abbrev Cv(X:Cx)(es:List Expr)(f:ao->R (List D)):Prop:=PA X es (Um X.K f)
section
variable {X:Cx}
def eNew(f:ao->R (List D)):FD:=fun δ=>(f δ).bind fun ds=> .ok (.lst ds)
theorem Ke{f:ao->R (List D)}(h:PN X e f):PD X e (eNew f):=h.imp fun σ H Q ⟨Z,B,δ,d,E,hf,q⟩=>by
 obtain⟨ds,h1,h2⟩:=R.af hf;cases h2;refine⟨Z,B,δ,ds,E,h1,fun a xs H' s n e r=>q _ H' s ?_⟩
 unfold Rep;refine⟨a,xs,rfl, .inl ⟨fun ha=>?_, .inl e⟩,r.bc fun b o e nb=>⟨e,fun hb=>nb (List.mem_cons_of_mem _ hb)⟩⟩
 obtain⟨o,ho⟩:=E.bs a ha;rw[n] at ho;cases ho
theorem n_{B:List Addr}{H:Hp}{p:Addr}{o:HO}(h:H p=none):dr B H (p ::B) (upd H p o):=fun b u e nb=>
 ⟨by rw[bj (cc e h)];exact e,fun hb=>by
   rcases List.mem_cons.mp hb with z | z
   .exact cc e h z
   .exact nb z⟩
def mX(f:FD):FD:=fun δ=>(f (lH δ)).bind fun d=>R.aS d.atom (.ok d)
theorem Ie(h:PD X e f):PD X e (mX f):=h.imp fun σ H Q ⟨Z,B,δ,d,E,hf,q⟩=>by
 obtain⟨d',h1,h2⟩:=R.af hf;obtain⟨ha,h3⟩:=R.aN h2;cases h3;exact⟨[],[],L2.lH δ,d,E.lH,h1,fun v H' s r=>q v H' s (r.atom ha)⟩
def rN(f:ao->R Bool):ao->R Bool:=fun δ=>f (lH δ)
theorem Gz{f:ao->R Bool}(h:PB X e f):PB X e (rN f):=h.imp fun σ H Q ⟨Z,B,δ,d,E,hf,q⟩=>⟨[],[],L2.lH δ,d,E.lH,hf,q⟩
def ag(i:Nat):FD:=fun δ=>match δ[i]? with | some (.val d)=> .ok d | _=> .no
def eC(d:D):FD:=fun _=> .ok d
theorem Kb(i:Nat){x:Str}{pos:Pos}(hN:X.N[i]? =some x:=by rfl)(hv:Gp X.env.scope x:=by first | exact Or.inl rfl | exact Or.inr (Or.inl rfl) | exact Or.inr (Or.inr rfl))(hd:(x==("__debug__":Str))=false:=by decide)
 (qI:(x==("__classdict__":Str))=false:=by decide):PD X (.Name x pos) (ag i):=(uQ hN hv hd qI).imp fun σ H Q ⟨Z,B,δ,d,E,hf,q⟩=>by
 unfold ag at hf;split at hf
 .rename_i d' e;cases hf;obtain⟨v,h1,h2⟩:=E.val i d e;exact⟨v,h1,q v H (aM.refl H) h2⟩
 .cases hf
theorem oV{v:V}{d:D}(h:PE X e (tC v))(r:∀B H,Rep X.K B H d v):PD X e (eC d):=h.imp fun σ H Q ⟨Z,B,δ,d',E,hf,q⟩=>by
 cases hf;exact q v H (aM.refl H) (r B H)
theorem Lf{i j pos}:PD X (.Constant (.int i) j pos) (eC (.int i)):=oV q_ fun _ _=>by unfold Rep;rfl
theorem N4{b j pos}:PD X (.Constant (.bool b) j pos) (eC (.bl b)):=oV MX fun _ _=>by unfold Rep;rfl
theorem J4{x j pos}:PD X (.Constant (.str x) j pos) (eC (.str x)):=oV ft fun _ _=>by unfold Rep;rfl
def Glob(K:W.Frag)(mg:YG)(x:Str)(d:D):Prop:=∃(u:Value) (v:V),mg x=some u/\RelV v u/\∀B H,Rep K B H d v
theorem HA{d:D}{pos:Pos}(g:Glob X.K X.mg x d)(hg:Gl X x)(hd:(x==("__debug__":Str))=false:=by decide):PD X (.Name x pos) (eC d):=by
 obtain⟨u,v,hm,r,h⟩:=g;exact oV (z_ hg hm r hd) h
def aI:ao->R (List D):=fun _=> .ok []
def ai(f:FD)(g:ao->R (List D)):ao->R (List D):=fun δ=>(f δ).bind fun d=>(g δ).bind fun ds=> .ok (d ::ds)
theorem Gf:Cv X [] aI:=i9.imp fun σ H Q ⟨Z,B,δ,d,E,hf,q⟩=>by
 cases hf;exact q [] H (aM.refl H) az.nil
theorem E8{g:ao->R (List D)}(h:PD X e f)(t:Cv X es g)(hs:starEach (e ::es) X.env=(false,eval e X.env) ::starEach es X.env:=by rfl):Cv X (e ::es) (ai f g):=
 (f_ h t hs).imp fun σ H Q ⟨Z,B,δ,d,E,hf,q⟩=>by
   obtain⟨d1,h1,h2⟩:=R.af hf;obtain⟨ds,h3,h4⟩:=R.af h2;cases h4;exact⟨Z,B,δ,d1,E,h1,fun v H1 s1 r1=>⟨Z,B,δ,ds,E.same s1,h3,fun vs H2 s2 r2=>q _ H2 (s1.trans s2) (az.cons (r1.same s2) r2)⟩⟩
def k9(g:ao->R (List D)):FD:=fun δ=>(g δ).bind fun ds=>R.aS (decide (ds.length<=sizeLine)) (.ok (.tup ds))
def eS(g:ao->R (List D)):ao->R (List D):=fun δ=>(g δ).bind fun ds=>R.aS (decide (ds.length<=sizeLine)) (.ok ds)
theorem ba{H:Hp}{p:Addr}{o:HO}(h:H p=none):aM H (upd H p o):=fun b u e=>by rw[bj (cc e h)];exact e
theorem JP{g:ao->R (List D)}{x1 pos}(h:Cv X es g):PD X (.Tuple es x1 pos) (k9 g):=(zw h).imp fun σ H Q ⟨Z,B,δ,d,E,hf,q⟩=>by
 obtain⟨ds,h1,h2⟩:=R.af hf;obtain⟨hl,h3⟩:=R.aN h2;cases h3;refine⟨Z,B,δ,ds,E,h1,fun vs H1 s1 r1=>⟨by rw[<-r1.length];exact of_decide_eq_true hl,fun p hp=>q _ _ (s1.trans (ba hp)) ?_⟩⟩
 unfold Rep;refine⟨p,vs,rfl, .inl ⟨fun ha=>?_, .inl aX⟩,r1.same (ba hp)⟩
 obtain⟨o,ho⟩:=(E.same s1).bs p ha;rw[hp] at ho;cases ho
theorem KU{g:ao->R (List D)}{pos}(h:Cv X es g):PN X (.List es pos) (eS g):=(LU h).imp fun σ H Q ⟨Z,B,δ,d,E,hf,q⟩=>by
 obtain⟨ds,h1,h2⟩:=R.af hf;obtain⟨hl,h3⟩:=R.aN h2;cases h3;exact⟨Z,B,δ,_,E,h1,fun vs H1 s1 r1=>⟨by rw[<-r1.length];exact of_decide_eq_true hl,fun p hp=>q p vs _ (s1.trans (ba hp)) (s1.free hp) aX (r1.bc (n_ hp))⟩⟩
def lA(X:Cx)(f:Value->Value->Sem Value)(g:D->D->R D):Prop:=
 ∀(pins:YB) (s:Shared) (σ:St) (H:Hp) (B:List Addr) (da db d:D) (x y:V) (v u:Value),Inv X pins σ H s->(∀a∈B,∃o,H a=some o)->RelV x v->RelV y u->Rep X.K B H da x->Rep X.K B H db y->g da db= .ok d->
  wpAny (model X.prog X.w) X.A (f v u) (EP X pins σ fun z H'=>aM H H'/\Rep X.K B H' d z) X.xe s
def e2(g:D->D->R D)(fa fb:FD):FD:=fun δ=>(fa δ).bind fun a=>(fb δ).bind fun b=>g a b
theorem lA.r{f:Value->Value->Sem Value}{g:D->D->R D}(h:lA X f g):mR X f (fun x y H Q=>∃B da db d,(∀a∈B,∃o,H a=some o)/\Rep X.K B H da x/\Rep X.K B H db y/\g da db= .ok d/\∀z H',aM H H'->Rep X.K B H' d z->Q z H'):=by
 intro pins s σ H x y v u Q I rx ry ⟨B,da,db,d,hb,ha,qX,hg,q⟩;exact cE (h pins s σ H B da db d x y v u I hb rx ry ha qX hg) fun z s' ⟨zv,H',I',r',s1,r1⟩=>⟨zv,H',I',r',q zv H' s1 r1⟩
theorem Li{K:W.Frag}{g:D->D->R D}{Q:VK}(h:tD K (e2 g fa fb) σ H Q) :
 Mv (fun x y H Q=>∃B da db d,(∀a∈B,∃o,H a=some o)/\Rep K B H da x/\Rep K B H db y/\g da db= .ok d/\∀z H',aM H H'->Rep K B H' d z->Q z H') (tD K fa) (tD K fb) σ H Q:=by
 obtain⟨Z,B,δ,d,E,hf,q⟩:=h;obtain⟨d1,h1,h2⟩:=R.af hf;obtain⟨d2,h3,h4⟩:=R.af h2;exact⟨Z,B,δ,d1,E,h1,fun v1 H1 s1 r1=>⟨Z,B,δ,d2,E.same s1,h3,fun v2 H2 s2 r2=>⟨B,d1,d2,d,(E.same (s1.trans s2)).bs,r1.same s2,r2,h4,fun z H' s3 r3=>q z H' (s1.trans (s2.trans s3)) r3⟩⟩⟩
theorem NM{op:Operator}{g:D->D->R D}(ho:lA X (binaryOp op) g)(ha:PD X a fa)(hb:PD X b fb):PD X (.BinOp a op b pos) (e2 g fa fb):=
 (Og ho.r ha hb).imp fun σ H Q h=>Li h
theorem Kr{op:CmpOp}{g:D->D->R D}(ho:lA X (compareOp op) g)(ha:PD X a fa)(hb:PD X b fb)(hm:behindInMarks op b=false):PD X (.Compare a [op] [b] pos) (e2 g fa fb):=
 (Aj ho.r ha hb hm).imp fun σ H Q h=>Li h
def b2(g:D->D->R D)(fa fb:FD):ao->R Bool:=fun δ=>(e2 g fa fb δ).bind fun d=>match d with | .bl b=> .ok b | _=> .no
theorem LK{op:CmpOp}{g:D->D->R D}(ho:lA X (compareOp op) g)(ha:PD X a fa)(hb:PD X b fb)(hm:behindInMarks op b=false):PB X (.Compare a [op] [b] pos) (b2 g fa fb):=
 (A4 ho.r ha hb hm).imp fun σ H Q ⟨Z,B,δ,b,E,hf,q⟩=>by
   obtain⟨d,h1,h2⟩:=R.af hf;cases d with
   | bl k=>
     cases h2;exact Li (g:=g) (Q:=fun x H'=>∃k,x= .bl k/\Q k H') ⟨Z,B,δ, .bl b,E,h1,fun v H' s r=>⟨b,by unfold Rep at r;exact r,q H' s⟩⟩
   | _=>cases h2
def Pw(g g':D->D->R D)(fa fb fc:FD):FD:=fun δ=>(fa δ).bind fun a=>(fb δ).bind fun b=>(g a b).bind fun r=>match r with
 | .bl true=>(fc δ).bind fun c=>g' b c
 | .bl false=> .ok (.bl false)
 | _=> .no
def JD:D->R Bool
 | .cJ=> .ok false
 | .bl b=> .ok b
 | .int i=> .ok (i !=0)
 | .str x=>R.aS (decide (x.length<=sizeLine)) (.ok ((x.length:Int) !=0))
 | .lst ds=> .ok (!ds.isEmpty)
 | .tup ds=> .ok (!ds.isEmpty)
 | .dct _ _=> .no
def qy(f:FD):ao->R Bool:=fun δ=>(f δ).bind JD
theorem az.isEmpty{K:W.Frag}{B:List Addr}{ds:List D}{xs:List V}(h:az K B H ds xs):ds.isEmpty=xs.isEmpty:=by
 have:=h.length;cases ds <;> cases xs <;> simp_all
theorem Kc{K:W.Frag}{B:List Addr}{d:D}{v:V}{b:Bool}(r:Rep K B H d v)(h:JD d= .ok b):KO K v H b:=by
 cases d with
 | cJ=>unfold Rep at r;subst r;cases h;exact rfl
 | bl k=>unfold Rep at r;subst r;cases h;exact rfl
 | int i=>unfold Rep at r;subst r;cases h;exact rfl
 | str x=>unfold Rep at r;subst r;obtain⟨h1,h2⟩:=R.aN h;cases h2;exact⟨of_decide_eq_true h1,rfl⟩
 | lst ds=>unfold Rep at r;obtain⟨a,xs,rfl,l,r⟩:=r;cases h;exact .inl ⟨xs,l.sq,by rw[r.isEmpty]⟩
 | tup ds=>unfold Rep at r;obtain⟨a,xs,rfl,l,r⟩:=r;cases h;exact .inr (.inl ⟨xs,l.sq,by rw[r.isEmpty]⟩)
 | dct _ _=>cases h
theorem J0{a:Expr}(ha:PD X a f)(he:∀whole,isTrue a X.env whole=(do let v <-whole;standAt a.pos;holding [v] (truthy v)):=by intro _;rfl):PB X a (qy f):=
 (xq ha he).imp fun σ H Q ⟨Z,B,δ,b,E,hf,q⟩=>by
   obtain⟨d,h1,h2⟩:=R.af hf;exact⟨Z,B,δ,d,E,h1,fun v H' s r=>⟨b,Kc r h2,q H' s⟩⟩
def wo(f g:ao->R Bool):ao->R Bool:=fun δ=>(f δ).bind fun b=>if b then g δ else .ok false
def wO(f g:ao->R Bool):ao->R Bool:=fun δ=>(f δ).bind fun b=>if b then .ok true else g δ
def Bz(f:ao->R Bool):ao->R Bool:=fun δ=>(f δ).bind fun b=> .ok (!b)
def FY(X:Cx)(e:Expr)(f:ao->R Bool):Prop:=PW X e (Jf X.K f)
theorem FY.pb{f:ao->R Bool}(h:FY X e f):PB X e f:=PW.pt h
theorem Dq{f:ao->R Bool}(h:PB X a f):FY X (.BoolOp .And [a] pos) f:=Ib h
theorem Gj{f:ao->R Bool}(h:PB X a f):FY X (.BoolOp .Or [a] pos) f:=Fc h
theorem Gi{rest:List Expr}{f g:ao->R Bool}(ha:PB X a f)(hb:FY X (.BoolOp .And (b ::rest) pos) g):FY X (.BoolOp .And (a ::b ::rest) pos) (wo f g):=by
 intro wh pins s σ H Q I ⟨Z,B,δ,k,E,hf,q⟩;refine LY ha hb wh pins s σ H Q I ?_;obtain⟨c,h1,h2⟩:=R.af hf;refine⟨Z,B,δ,c,E,h1,fun H1 s1=>?_⟩
 cases c with
 | true=>rw [if_pos rfl] at h2 ⊢;exact⟨Z,B,δ,k,E.same s1,h2,fun H' s2=>q H' (s1.trans s2)⟩
 | false=>rw [if_neg (by decide)] at h2 ⊢;cases h2;exact q H1 s1
theorem K6{rest:List Expr}{f g:ao->R Bool}(ha:PB X a f)(hb:FY X (.BoolOp .Or (b ::rest) pos) g):FY X (.BoolOp .Or (a ::b ::rest) pos) (wO f g):=by
 intro wh pins s σ H Q I ⟨Z,B,δ,k,E,hf,q⟩;refine ID ha hb wh pins s σ H Q I ?_;obtain⟨c,h1,h2⟩:=R.af hf;refine⟨Z,B,δ,c,E,h1,fun H1 s1=>?_⟩
 cases c with
 | true=>rw [if_pos rfl] at h2 ⊢;cases h2;exact q H1 s1
 | false=>rw [if_neg (by decide)] at h2 ⊢;exact⟨Z,B,δ,k,E.same s1,h2,fun H' s2=>q H' (s1.trans s2)⟩
theorem LL{f:ao->R Bool}(ha:PB X a f):PB X (.UnaryOp .Not a pos) (Bz f):=(DG ha).imp fun σ H Q ⟨Z,B,δ,k,E,hf,q⟩=>by
 obtain⟨c,h1,h2⟩:=R.af hf;cases h2;exact⟨Z,B,δ,c,E,h1,fun H1 s1=>q H1 s1⟩
def Mo(f:FD):ao->R Bool:=fun δ=>(f δ).bind fun d=>match d with | .bl b=> .ok b | _=> .no
def tF(f g:FD):FD:=fun δ=>(Mo f δ).bind fun b=>if b then g δ else .ok (.bl false)
def M3(f g:FD):FD:=fun δ=>(Mo f δ).bind fun b=>if b then .ok (.bl true) else g δ
def J1(f:FD):FD:=fun δ=>(Mo f δ).bind fun b=> .ok (.bl (!b))
theorem yl{f:FD}{δ:ao}{b:Bool}(h:Mo f δ= .ok b):f δ= .ok (.bl b):=by
 obtain⟨d,h1,h2⟩:=R.af h;cases d with
 | bl k=>cases h2;exact h1
 | _=>cases h2
theorem Kq{op}(h:PD X a f):PD X (.BoolOp op [a] pos) f:=CG h
theorem Kn{rest:List Expr}(ha:PD X a f)(hb:PD X (.BoolOp .And (b ::rest) pos) g):PD X (.BoolOp .And (a ::b ::rest) pos) (tF f g):=(DC ha hb).imp fun σ H Q ⟨Z,B,δ,k,E,hf,q⟩=>by
 obtain⟨c,h1,h2⟩:=R.af hf;refine⟨Z,B,δ, .bl c,E,yl h1,fun v H1 s1 r1=>⟨c,by unfold Rep at r1;exact r1,?_⟩⟩
 cases c with
 | true=>rw [if_pos rfl] at h2 ⊢;exact⟨Z,B,δ,k,E.same s1,h2,fun v H' s2 r2=>q v H' (s1.trans s2) r2⟩
 | false=>rw [if_neg (by decide)] at h2 ⊢;cases h2;exact q _ H1 s1 (by unfold Rep;rfl)
theorem Od{rest:List Expr}(ha:PD X a f)(hb:PD X (.BoolOp .Or (b ::rest) pos) g):PD X (.BoolOp .Or (a ::b ::rest) pos) (M3 f g):=(N8 ha hb).imp fun σ H Q ⟨Z,B,δ,k,E,hf,q⟩=>by
 obtain⟨c,h1,h2⟩:=R.af hf;refine⟨Z,B,δ, .bl c,E,yl h1,fun v H1 s1 r1=>⟨c,by unfold Rep at r1;exact r1,?_⟩⟩
 cases c with
 | true=>rw [if_pos rfl] at h2 ⊢;cases h2;exact q _ H1 s1 (by unfold Rep;rfl)
 | false=>rw [if_neg (by decide)] at h2 ⊢;exact⟨Z,B,δ,k,E.same s1,h2,fun v H' s2 r2=>q v H' (s1.trans s2) r2⟩
theorem J_(ha:PD X a f):PD X (.UnaryOp .Not a pos) (J1 f):=(JF ha).imp fun σ H Q ⟨Z,B,δ,k,E,hf,q⟩=>by
 obtain⟨c,h1,h2⟩:=R.af hf;cases h2;exact⟨Z,B,δ, .bl c,E,yl h1,fun v H1 s1 r1=>⟨c,by unfold Rep at r1;exact r1,q _ H1 s1 (by unfold Rep;rfl)⟩⟩
def MG(c:ao->R Bool)(f g:FD):FD:=fun δ=>(c δ).bind fun b=>if b then f δ else g δ
theorem Nw{fc:ao->R Bool}(hc:PB X c fc)(ha:PD X a f)(hb:PD X b g):PD X (.IfExp c a b pos) (MG fc f g):=(Dy hc ha hb).imp fun σ H Q ⟨Z,B,δ,k,E,hf,q⟩=>by
 obtain⟨c,h1,h2⟩:=R.af hf;refine⟨Z,B,δ,c,E,h1,fun H1 s1=>?_⟩
 cases c with
 | true=>rw [if_pos rfl] at h2 ⊢;exact⟨Z,B,δ,k,E.same s1,h2,fun v H' s2 r2=>q v H' (s1.trans s2) r2⟩
 | false=>rw [if_neg (by decide)] at h2 ⊢;exact⟨Z,B,δ,k,E.same s1,h2,fun v H' s2 r2=>q v H' (s1.trans s2) r2⟩
def cX(X:Cx)(f:Value)(g:List D->R D):Prop:=
 ∀(pins:YB) (s:Shared) (σ:St) (H:Hp) (B:List Addr) (ds:List D) (d:D) (xs:List V) (us:List Value),Inv X pins σ H s->(∀a∈B,∃o,H a=some o)->Vals xs us->az X.K B H ds xs->g ds= .ok d->
  wpAny (model X.prog X.w) X.A (call f us) (EP X pins σ fun z H'=>aM H H'/\Rep X.K B H' d z) X.xe s
def aK(g:List D->R D)(fs:ao->R (List D)):FD:=fun δ=>(fs δ).bind g
theorem cX.r{f:Value}{g:List D->R D}(h:cX X f g):jY X f (fun xs H Q=>∃B ds d,(∀a∈B,∃o,H a=some o)/\az X.K B H ds xs/\g ds= .ok d/\∀z H',aM H H'->Rep X.K B H' d z->Q z H'):=by
 intro pins s σ H xs us Q I rx ⟨B,ds,d,hb,hr,hg,q⟩;exact cE (h pins s σ H B ds d xs us I hb rx hr hg) fun z s' ⟨zv,H',I',r',s1,r1⟩=>⟨zv,H',I',r',q zv H' s1 r1⟩
theorem AH{K:W.Frag}{g:List D->R D}{fs:ao->R (List D)}{Q:VK}(h:tD K (aK g fs) σ H Q) :
 Um K fs σ H fun vs H1=>∃B ds d,(∀a∈B,∃o,H1 a=some o)/\az K B H1 ds vs/\g ds= .ok d/\∀z H',aM H1 H'->Rep K B H' d z->Q z H':=by
 obtain⟨Z,B,δ,d,E,hf,q⟩:=h;obtain⟨ds,h1,h2⟩:=R.af hf;exact⟨Z,B,δ,ds,E,h1,fun vs H1 s1 r1=>⟨B,ds,d,(E.same s1).bs,r1,h2,fun z H' s2 r2=>q z H' (s1.trans s2) r2⟩⟩
theorem CZ{g:List D->R D}{x:Str}{id:String}{p pos:Pos}{e:Expr}{es:List Expr}{fs:ao->R (List D)}(hc:cX X (.builtin id) g)(hg:Gl X x)(hm:X.mg x=none)(hv:bootBuiltins x=some (.builtin id))(ha:Cv X (e ::es) fs)(hn:x≠"__name__":=by decide)(jz:(x==("__debug__":Str))=false:=by decide)
 (he:starEach (e ::es) X.env=(false,eval e X.env) ::starEach es X.env:=by rfl) (ko:(backTo pos (starEach es X.env)).any (·.1)=false:=by rfl):PD X (.Call (.Name x p) (e ::es) [] pos) (aK g fs):=
 (xO hc.r hg hm hv ha hn jz he ko).imp fun σ H Q h=>AH h
theorem Bs{g:List D->R D}{x:Str}{T:String}{p pos:Pos}{e:Expr}{es:List Expr}{fs:ao->R (List D)}(hc:cX X (.type T) g)(hg:Gl X x)(hm:X.mg x=none)(hv:bootBuiltins x=some (.type T))(ha:Cv X (e ::es) fs)(hn:x≠"__name__":=by decide)(jz:(x==("__debug__":Str))=false:=by decide)
 (he:starEach (e ::es) X.env=(false,eval e X.env) ::starEach es X.env:=by rfl) (ko:(backTo pos (starEach es X.env)).any (·.1)=false:=by rfl):PD X (.Call (.Name x p) (e ::es) [] pos) (aK g fs):=
 (pA hc.r hg hm hv ha hn jz he ko).imp fun σ H Q h=>AH h
def F1(K:W.Frag)(n:Nat)(g:List D->R D):Sp:=fun vs H Q _=>vs.length=n/\∃B ds d,(∀a∈B,∃o,H a=some o)/\az K B H ds vs/\g ds= .ok d/\∀z H',aM H H'->Rep K B H' d z->Q z H'
theorem Gu{g:List D->R D}{k n:Nat}{f:Addr}{fd:FuncData}{ps:List Str}{x:Str}{p pos:Pos}{e:Expr}{es:List Expr}{fs:ao->R (List D)}
 (F:ig X.prog X.w X.K X.mg X.base ur k f fd ps (F1 X.K n g)) (hr:dA k X.A) (hg:Gl X x) (hm:X.mg x=some (.ref f)) (hk:PySem.W.keepIn X.K (.ref f)=true) (hb:Binds X.K fd ps []) (ha:Cv X (e ::es) fs)
 (hn:∀δ ds,fs δ= .ok ds->ds.length=n) (jz:(x==("__debug__":Str))=false:=by decide) (he:starEach (e ::es) X.env=(false,eval e X.env) ::starEach es X.env:=by rfl) (ko:(backTo pos (starEach es X.env)).any (·.1)=false:=by rfl) :
 PD X (.Call (.Name x p) (e ::es) [] pos) (aK g fs):=
 (qN F hr hg hm hk hb .nil z0 ha jz he ko).imp fun σ H Q ⟨Z,B,δ,d,E,hf,q⟩=>by
   obtain⟨ds,h1,h2⟩:=R.af hf;refine⟨Z,B,δ,ds,E,h1,fun vs H1 s1 r1=>?_⟩
   show F1 X.K n g (vs++[]) H1 Q E0;rw[List.append_nil];exact⟨by rw[<-r1.length];exact hn δ ds h1,B,ds,d,(E.same s1).bs,r1,h2,fun z H' s2 r2=>q z H' (s1.trans s2) r2⟩
end
end L2
end
section
namespace L2
open PySem PySem.Spec PyProof.Rows
inductive Out where
 | nx (δ:ao) | rt (d:D)
abbrev FS:=ao->R Out
structure Ev (Z B:List Addr) (H:Hp) (B':List Addr) (H':Hp):Prop where
 bc:dr B H B' H'
 zs:∀b o,H b=some o->b∈Z->H' b=some o/\b∈B'
theorem Ev.refl(Z B:List Addr)(H:Hp)(zb:∀a∈Z,a∈B):Ev Z B H B H:=⟨dr.refl B H,fun b o e z=>⟨e,zb b z⟩⟩
theorem Ev.trans{Z B B' OV:List Addr}(a:Ev Z B H B' H')(b:Ev Z B' H' OV nc):Ev Z B H OV nc:=
 ⟨a.bc.trans b.bc,fun c o e z=>let⟨e1,_⟩:=a.zs c o e z;b.zs c o e1 z⟩
theorem Ev.same{Z B:List Addr}(zb:∀a∈Z,a∈B)(s:aM H H'):Ev Z B H B H':=⟨dr.same s,fun b o e z=>⟨s b o e,zb b z⟩⟩
def zT(K:W.Frag)(Z B:List Addr)(H:Hp)(D:Ends):Out->Prop
 | .nx cz=>∀cA B' H',Ev Z B H B' H'->c6 K Z B' H' cA cz->D.nx cA H'
 | .rt d=>∀v B' H',Ev Z B H B' H'->(∀a∈Z,a∈B')->Rep K B' H' d v->D.rt v H'
theorem zT.ev{K:W.Frag}{Z B B1:List Addr}{D:Ends}{o:Out}(q:zT K Z B H D o)(ev:Ev Z B H B1 H1):zT K Z B1 H1 D o:=by
 cases o with
 | nx cz=>exact fun cA B' H' FL E'=>q cA B' H' (ev.trans FL) E'
 | rt d=>exact fun v B' H' FL z r=>q v B' H' (ev.trans FL) z r
def sD(K:W.Frag)(F:FS):TS:=fun D σ H=>∃Z B δ o,c6 K Z B H σ δ/\F δ= .ok o/\zT K Z B H D o
abbrev Cs(X:Cx)(st:Stmt)(F:FS):Prop:=PS X st (sD X.K F)
abbrev pR(X:Cx)(st:List Stmt)(F:FS):Prop:=ue X st (sD X.K F)
section
variable {X:Cx}
def om:FS:=fun δ=> .ok (.nx δ)
def bB(F G:FS):FS:=fun δ=>(F δ).bind fun o=>match o with | .nx cz=>G cz | .rt d=> .ok (.rt d)
theorem GG:pR X [] om:=vB.imp fun D σ H ⟨Z,B,δ,o,E,hf,q⟩=>by
 cases hf;exact q σ B H (Ev.refl Z B H E.zb) E
theorem Ki{K:W.Frag}{F G:FS}{D:Ends}(h:sD K (bB F G) D σ H):Nt (sD K F) (sD K G) D σ H:=by
 obtain⟨Z,B,δ,o,E,hf,q⟩:=h;obtain⟨o1,h1,h2⟩:=R.af hf;refine⟨Z,B,δ,o1,E,h1,?_⟩;cases o1 with
 | nx δ1=>
   intro Cy B1 H1 ev E1;refine⟨Z,B1,δ1,o,E1,h2,?_⟩;cases o with
   | nx iB=>exact fun cA B' H' FL E'=>q cA B' H' (ev.trans FL) E'
   | rt d=>exact fun v B' H' FL z r=>q v B' H' (ev.trans FL) z r
 | rt d=>
   cases h2;exact q
theorem DH{st:Stmt}{rest:List Stmt}{F G:FS}(h1:Cs X st F)(h2:pR X rest G):pR X (st ::rest) (bB F G):=(rT h1 h2).imp fun D σ H h=>Ki h
theorem Ht{st:Stmt}{F:FS}(h1:Cs X st F):pR X [st] F:=vh h1
theorem c6.set{K:W.Frag}{Z B:List Addr}{σ:St}{δ:ao}(E:c6 K Z B H σ δ){i:Nat}{d:D}{v:V}(hi:i < σ.length)(r:Rep K B H d v):c6 K Z B H (σ.set i (some v)) (δ.set i (.val d)) where
 len:=by rw[List.length_set,List.length_set];exact E.len
 bs:=E.bs
 zb:=E.zb
 val:=fun j d' e=>by
  by_cases h:i=j
  .subst h;rw[List.getElem?_set_self (by rw[E.len];exact hi)] at e
   cases e;exact⟨v,List.getElem?_set_self hi,r⟩
  .rw [List.getElem?_set_ne h] at e ⊢;exact E.val j d' e
 bld:=fun j ds e=>by
  by_cases h:i=j
  .subst h;rw[List.getElem?_set_self (by rw[E.len];exact hi)] at e
   cases e
  .rw [List.getElem?_set_ne h] at e ⊢;exact E.bld j ds e
 dis:=fun j k a ds es e1 e2 e3 e4=>by
  by_cases h:i=j
  .subst h;rw[List.getElem?_set_self (by rw[E.len];exact hi)] at e1
   cases e1
  .by_cases h':i=k
   .subst h';rw[List.getElem?_set_self (by rw[E.len];exact hi)] at e2
    cases e2
   .rw [List.getElem?_set_ne h] at e1 e3;rw[List.getElem?_set_ne h'] at e2 e4;exact E.dis j k a ds es e1 e2 e3 e4
theorem c6.setB{K:W.Frag}{Z B:List Addr}{H:Hp}{σ:St}{δ:ao}(E:c6 K Z B H σ δ){i:Nat}{ds:List D}{a:Addr}{xs:List V}(hi:i < σ.length)(hB:a∈B)(hZ:a ∉ Z)(hH:H a=some (.lst xs))(r:az K B H ds xs)
 (new:∀j es,j≠i->δ[j]? =some (.bld es)->σ[j]?≠some (some (.ref a))):c6 K Z B H (σ.set i (some (.ref a))) (δ.set i (.bld ds)) where
 len:=by rw[List.length_set,List.length_set];exact E.len
 bs:=E.bs
 zb:=E.zb
 val:=fun j d' e=>by
  by_cases h:i=j
  .subst h;rw[List.getElem?_set_self (by rw[E.len];exact hi)] at e
   cases e
  .rw [List.getElem?_set_ne h] at e ⊢;exact E.val j d' e
 bld:=fun j es e=>by
  by_cases h:i=j
  .subst h;rw[List.getElem?_set_self (by rw[E.len];exact hi)] at e
   cases e;exact⟨a,xs,List.getElem?_set_self hi,hB,hZ,hH,r⟩
  .rw [List.getElem?_set_ne h] at e ⊢;exact E.bld j es e
 dis:=fun j k b OF OH e1 e2 e3 e4=>by
  by_cases h:i=j
  .subst h;by_cases h':i=k
   .exact h'
   .rw [List.getElem?_set_self hi] at e3;cases e3;rw[List.getElem?_set_ne h'] at e2 e4;exact absurd e4 (new k OH (Ne.symm h') e2)
  .by_cases h':i=k
   .subst h';rw[List.getElem?_set_self hi] at e4;cases e4;rw[List.getElem?_set_ne h] at e1 e3;exact absurd e3 (new j OF (Ne.symm h) e1)
   .rw [List.getElem?_set_ne h] at e1 e3;rw[List.getElem?_set_ne h'] at e2 e4;exact E.dis j k b OF OH e1 e2 e3 e4
def cG(i:Nat)(f:FD):FS:=fun δ=>(f δ).bind fun d=>R.aS (decide (i < δ.length)) (.ok (.nx (δ.set i (.val d))))
theorem CS{K:W.Frag}{i:Nat}{D:Ends}(h:sD K (cG i f) D σ H):Dg (tD K f) (tQ i) D σ H:=by
 obtain⟨Z,B,δ,o,E,hf,q⟩:=h;obtain⟨d,h1,h2⟩:=R.af hf;obtain⟨hi,h3⟩:=R.aN h2;cases h3;refine⟨Z,B,δ,d,E,h1,fun v H1 s1 r1=>?_⟩
 exact q _ B H1 (Ev.same E.zb s1) ((E.same s1).set (by rw[<-E.len];exact of_decide_eq_true hi) r1)
theorem GF{i:Nat}{pos pos':Pos}(hN:X.N.Nodup)(hi:X.N[i]? =some x)(hx:Loc X.env.scope x)(he:PD X e f)(hs:swapsWith e (some (.Name x pos')) pos.line X.env=pure false:=by rfl)(hf:X.fn x=true\/X.env.scope.names.lookup x=some .local:=by first | exact .inl rfl | exact .inr rfl | assumption) :
 Cs X (.Assign [.Name x pos'] e pos) (cG i f):=(zf hN hi hx he hs hf).imp fun D σ H h=>CS h
def ph(i:Nat)(f:ao->R (List D)):FS:=fun δ=>(f δ).bind fun ds=>R.aS (decide (i < δ.length)) (.ok (.nx (δ.set i (.bld ds))))
theorem KQ{K:W.Frag}{i:Nat}{f:ao->R (List D)}{D:Ends}(h:sD K (ph i f) D σ H):Dg (tN K f) (tQ i) D σ H:=by
 obtain⟨Z,B,δ,o,E,hf,q⟩:=h;obtain⟨ds,h1,h2⟩:=R.af hf;obtain⟨hi,h3⟩:=R.aN h2;cases h3;refine⟨Z,B,δ,ds,E,h1,fun a xs H1 s1 n e r=>?_⟩
 have E1:=E.same s1;have aB:a ∉ B:=fun ha=>by obtain⟨o,ho⟩:=E.bs a ha;rw [n] at ho;cases ho
 have nZ:a ∉ Z:=fun ha=>aB (E.zb a ha)
 have p0:dr B H (a ::B) H1:=fun b o e' nb=>⟨s1 b o e',fun hb=>by
  rcases List.mem_cons.mp hb with z | z
  .subst z;rw [n] at e';cases e'
  .exact nb z⟩
 have E2:c6 K Z (a ::B) H1 σ δ:={
  len:=E.len
  bs:=fun b hb=>by
   rcases List.mem_cons.mp hb with z | z
   .subst z;exact⟨_,e⟩
   .exact E1.bs b z
  zb:=fun b hb=>List.mem_cons_of_mem _ (E.zb b hb)
  val:=fun j d e=>let⟨v,q1,q2⟩:=E.val j d e;⟨v,q1,q2.bc p0⟩
  bld:=fun j es e=>let⟨b,ys,q1,q2,q3,q4,q5⟩:=E.bld j es e;⟨b,ys,q1,List.mem_cons_of_mem _ q2,q3,s1 b _ q4,q5.bc p0⟩
  dis:=E.dis}
 refine q _ (a ::B) H1 ⟨p0,fun b o e' hb=>⟨s1 b o e',List.mem_cons_of_mem _ (E.zb b hb)⟩⟩ (E2.setB (by rw[<-E.len];exact of_decide_eq_true hi) List.mem_cons_self nZ e r fun j es hj ej Iv=>?_)
 obtain⟨b,ys,q1,_,_,q4,_⟩:=E.bld j es ej;rw[Iv] at q1;cases q1;rw[n] at q4;cases q4
theorem Gv{i:Nat}{f:ao->R (List D)}{pos pos':Pos}(hN:X.N.Nodup)(hi:X.N[i]? =some x)(hx:Loc X.env.scope x)(he:PN X e f)(hs:swapsWith e (some (.Name x pos')) pos.line X.env=pure false:=by rfl)(hf:X.fn x=true\/X.env.scope.names.lookup x=some .local:=by first | exact .inl rfl | exact .inr rfl | assumption) :
 Cs X (.Assign [.Name x pos'] e pos) (ph i f):=(zf hN hi hx he hs hf).imp fun D σ H h=>KQ h
theorem c6.grow{K:W.Frag}{Z B:List Addr}{H:Hp}{σ:St}{δ:ao}(E:c6 K Z B H σ δ){i:Nat}{ds es:List D}{a:Addr}{xs ys:List V}(hd:δ[i]? =some (.bld ds))(Iv:σ[i]? =some (some (.ref a)))(hB:a∈B)(hH:H a=some (.lst xs))(r:az K B H es ys) :
 c6 K Z B (upd H a (.lst ys)) σ (δ.set i (.bld es))/\dr B H B (upd H a (.lst ys)):=by
 have p:dr B H B (upd H a (.lst ys)):=fun b o e nb=>⟨by rw[bj (fun(z:b=a)=>nb (by rw[z];exact hB))];exact e,nb⟩
 have hi:i < δ.length:=(List.getElem?_eq_some_iff.mp hd).1;refine⟨{
  len:=by rw[List.length_set];exact E.len
  bs:=fun b hb=>by
   by_cases z:b=a
   .subst z;exact⟨_,aX⟩
   .rw [bj z];exact E.bs b hb
  zb:=E.zb
  val:=fun j d e=>by
   by_cases h:i=j
   .subst h;rw [List.getElem?_set_self hi] at e;cases e
   .rw [List.getElem?_set_ne h] at e;obtain⟨v,q1,q2⟩:=E.val j d e;exact⟨v,q1,q2.bc p⟩
  bld:=fun j fs e=>by
   by_cases h:i=j
   .subst h;rw [List.getElem?_set_self hi] at e;cases e;obtain⟨b,zs,q1,q2,q3,_,_⟩:=E.bld i ds hd;rw[Iv] at q1;cases q1;exact⟨a,ys,Iv,hB,q3,aX,r.bc p⟩
   .rw [List.getElem?_set_ne h] at e;obtain⟨b,zs,q1,q2,q3,q4,q5⟩:=E.bld j fs e;have ne:b≠a:=fun z=>by subst z;exact h (E.dis i j b ds fs hd e Iv q1)
    exact⟨b,zs,q1,q2,q3,by rw[bj ne];exact q4,q5.bc p⟩
  dis:=fun j k b OF OH e1 e2 e3 e4=>by
   have f1:∃fs,δ[j]? =some (.bld fs):=by
    by_cases h:i=j
    .subst h;exact⟨ds,hd⟩
    .rw [List.getElem?_set_ne h] at e1;exact⟨_,e1⟩
   have f2:∃fs,δ[k]? =some (.bld fs):=by
    by_cases h:i=k
    .subst h;exact⟨ds,hd⟩
    .rw [List.getElem?_set_ne h] at e2;exact⟨_,e2⟩
   obtain⟨_,f1⟩:=f1;obtain⟨_,f2⟩:=f2;exact E.dis j k b _ _ f1 f2 e3 e4},p⟩
theorem Ev.grow{Z B:List Addr}{a:Addr}{o:HO}(zb:∀a∈Z,a∈B)(hZ:a ∉ Z)(p:dr B H B (upd H a o)):Ev Z B H B (upd H a o):=
 ⟨p,fun b u e hb=>⟨by rw[bj (fun(z:b=a)=>hZ (by rw[<-z];exact hb))];exact e,zb b hb⟩⟩
def qm(δ:ao)(i:Nat):R (List D):=match δ[i]? with | some (.bld ds)=> .ok ds | _=> .no
theorem xp{δ:ao}{i:Nat}{ds:List D}(h:qm δ i= .ok ds):δ[i]? =some (.bld ds):=by
 unfold qm at h;split at h
 .rename_i q;cases h;exact q
 .cases h
def nB(i:Nat)(f:FD):FS:=fun δ=>(f δ).bind fun d=>(qm δ i).bind fun ds=>R.aS (decide (ds.length < sizeLine)) (.ok (.nx (δ.set i (.bld (ds++[d])))))
theorem GJ{i:Nat}{x:Str}{e:Expr}{f:FD}{ju apos a_ pos:Pos}(hN:X.N[i]? =some x)(hv:Gp X.env.scope x)(he:PD X e f)
 (hd:(x==("__debug__":Str))=false:=by decide) (qI:(x==("__classdict__":Str))=false:=by decide)
 (hs:starEach [e] X.env=(false,eval e X.env) ::starEach [] X.env:=by rfl) (eh:(apos.endLine==a_.line)=true:=by rfl)
 (jo:((backTo a_ (starEach [e] X.env)).all (fun x=>!x.1) && (backToKw a_ (keywordEach [] X.env)).all (fun x=>x.1.isSome)
   && decide (([e]:List Expr).length+([]:List Keyword).length+(if([]:List Keyword).isEmpty then 0 else 1) < 30))=true:=by rfl)
 (sU:swapsWith (.Call (.Attribute (.Name x ju) "append" apos) [e] [] a_) none pos.line X.env=pure false:=by rfl)
 (en:attributeBase (.Name x ju) "append" X.env (eval (.Name x ju) X.env)=eval (.Name x ju) X.env:=by rfl) :
 Cs X (.Expr (.Call (.Attribute (.Name x ju) "append" apos) [e] [] a_) pos) (nB i f):=by
 refine(o5 (wR (X:=X) PySem.F.plainAttrs_list PySem.F.slot_list_append PySem.F.type_list_append mG (uQ hN hv hd qI) (f_ he i9 hs) en jo eh hs) sU).imp fun D σ H ⟨Z,B,δ,o,E,hf,q⟩=>?_
 obtain⟨d,h1,h2⟩:=R.af hf;obtain⟨ds,h3,h4⟩:=R.af h2;obtain⟨hl,h5⟩:=R.aN h4;cases h5;have hb:=xp h3;obtain⟨a,xs,q1,q2,q3,q4,q5⟩:=E.bld i ds hb;refine⟨.ref a,q1, .inl ⟨rfl,xs,lj.of q4⟩,⟨Z,B,δ,d,E,h1,fun v H1 s1 r1=>?_⟩⟩
 have E1:=E.same s1;refine⟨a,xs,v,rfl,rfl,s1 a _ q4,by rw[<-q5.length];exact of_decide_eq_true hl,?_⟩
 obtain⟨E2,p2⟩:=E1.grow (es:=ds++[d]) (ys:=xs++[v]) hb q1 q2 (s1 a _ q4) ((q5.same s1).append (az.cons r1 az.nil));exact q σ B _ ((Ev.same E.zb s1).trans (Ev.grow E.zb q3 p2)) E2
def Wk(i:Nat)(f:ao->R (List D)):FS:=fun δ=>(f δ).bind fun es=>(qm δ i).bind fun ds=>R.aS (decide (ds.length+es.length<=sizeLine)) (.ok (.nx (δ.set i (.bld (ds++es)))))
def ky(i:Nat)(δ:ao):ao:=match δ[i]? with | some (.bld ds)=>δ.set i (.val (.lst ds)) | _=>δ
theorem c6.ky{K:W.Frag}{Z B:List Addr}{δ:ao}(E:c6 K Z B H σ δ)(i:Nat):∃B',Ev Z B H B' H/\c6 K Z B' H σ (ky i δ):=by
 unfold L2.ky;cases hd:δ[i]? with
 | none=>exact⟨B,Ev.refl Z B H E.zb,E⟩
 | some x=>
   cases x with
   | un=>exact⟨B,Ev.refl Z B H E.zb,E⟩
   | val d=>exact⟨B,Ev.refl Z B H E.zb,E⟩
   | bld ds=>
     obtain⟨a,xs,q1,q2,q3,q4,q5⟩:=E.bld i ds hd;have hi:i < δ.length:=(List.getElem?_eq_some_iff.mp hd).1;have p:dr B H (B.filter fun b=>decide (b≠a)) H:=fun b o e nb=>⟨e,fun hb=>nb (List.mem_filter.mp hb).1⟩
     have zb:∀b∈Z,b∈B.filter fun b=>decide (b≠a):=fun b hb=>List.mem_filter.mpr ⟨E.zb b hb,decide_eq_true fun z=>q3 (z▸hb)⟩
     refine⟨B.filter fun b=>decide (b≠a),⟨p,fun b o e hb=>⟨e,zb b hb⟩⟩,{
      len:=by rw[List.length_set];exact E.len
      bs:=fun b hb=>E.bs b (List.mem_filter.mp hb).1
      zb:=zb
      val:=fun j d e=>by
       by_cases h:i=j
       .subst h;rw [List.getElem?_set_self hi] at e;cases e;refine⟨.ref a,q1,?_⟩;unfold Rep;exact⟨a,xs,rfl, .inl ⟨fun hb=>by simpa using(List.mem_filter.mp hb).2, .inl q4⟩,q5.bc p⟩
       .rw [List.getElem?_set_ne h] at e;obtain⟨v,z1,z2⟩:=E.val j d e;exact⟨v,z1,z2.bc p⟩
      bld:=fun j fs e=>by
       by_cases h:i=j
       .subst h;rw [List.getElem?_set_self hi] at e;cases e
       .rw [List.getElem?_set_ne h] at e;obtain⟨b,zs,z1,z2,z3,z4,z5⟩:=E.bld j fs e;exact⟨b,zs,z1,List.mem_filter.mpr ⟨z2,decide_eq_true fun z=>by subst z;exact h (E.dis i j b ds fs hd e q1 z1)⟩,z3,z4,z5.bc p⟩
      dis:=fun j k b OF OH e1 e2 e3 e4=>by
       by_cases h:i=j
       .subst h;rw [List.getElem?_set_self hi] at e1;cases e1
       .by_cases h':i=k
        .subst h';rw [List.getElem?_set_self hi] at e2;cases e2
        .rw [List.getElem?_set_ne h] at e1;rw[List.getElem?_set_ne h'] at e2;exact E.dis j k b OF OH e1 e2 e3 e4}⟩
def pP(i:Nat)(F:FS):FS:=fun δ=>F (ky i δ)
theorem J2{K:W.Frag}{i:Nat}{F:FS}{D:Ends}(h:sD K (pP i F) D σ H):sD K F D σ H:=by
 obtain⟨Z,B,δ,o,E,hf,q⟩:=h;obtain⟨B1,ev,E1⟩:=E.ky i;refine⟨Z,B1,L2.ky i δ,o,E1,hf,?_⟩;cases o with
 | nx cz=>exact fun cA B' H' FL E'=>q cA B' H' (ev.trans FL) E'
 | rt d=>exact fun v B' H' FL z r=>q v B' H' (ev.trans FL) z r
theorem GX(i:Nat){F:FS}(h:pR X ON F):pR X ON (pP i F):=h.imp fun D σ H h=>J2 h
def fu(f:FD):FS:=fun δ=>(f δ).bind fun d=> .ok (.rt d)
theorem HM(he:PD X e f):Cs X (.Return (some e) pos) (fu f):=(Fi he).imp fun D σ H ⟨Z,B,δ,o,E,hf,q⟩=>by
 obtain⟨d,h1,h2⟩:=R.af hf;cases h2;exact⟨Z,B,δ,d,E,h1,fun v H1 s1 r1=>q v B H1 (Ev.same E.zb s1) E.zb r1⟩
def vV(c:ao->R Bool)(F G:FS):FS:=fun δ=>(c δ).bind fun b=>if b then F δ else G δ
theorem Kg{fc:ao->R Bool}{F G:FS}(hc:PB X c fc)(ha:pR X a F)(hb:pR X b G):Cs X (.If c a b pos) (vV fc F G):=(Ff hc ha hb).imp fun D σ H ⟨Z,B,δ,o,E,hf,q⟩=>by
 obtain⟨k,h1,h2⟩:=R.af hf;refine⟨Z,B,δ,k,E,h1,fun H1 s1=>?_⟩
 have q':=q.ev (Ev.same E.zb s1);cases k with
 | true=>rw [if_pos rfl] at h2;exact BS ⟨Z,B,δ,o,E.same s1,h2,q'⟩
 | false=>rw [if_neg (by decide)] at h2;exact B7 ⟨Z,B,δ,o,E.same s1,h2,q'⟩
abbrev FT:=D->ao->R ao
def gD(K:W.Frag)(t:FT):TG:=fun v σ H Q=>∃Z B δ d cz,c6 K Z B H σ δ/\Rep K B H d v/\t d δ= .ok cz/\∀cA H',aM H H'->c6 K Z B H' cA cz->cA.length=σ.length->Q cA H'
abbrev K0(X:Cx)(tg:Expr)(t:FT):Prop:=PG X tg (gD X.K t)
def aR(i:Nat):FT:=fun d δ=>R.aS (decide (i < δ.length)) (.ok (δ.set i (.val d)))
theorem ET{i:Nat}{pos:Pos}(hN:X.N.Nodup)(hi:X.N[i]? =some x)(hx:Loc X.env.scope x)(hf:X.fn x=true\/X.env.scope.names.lookup x=some .local:=by first | exact .inl rfl | exact .inr rfl | assumption):K0 X (.Name x pos) (aR i):=
 (AZ hN hi hx hf).imp fun v σ H Q ⟨Z,B,δ,d,cz,E,r,ht,q⟩=>by
   obtain⟨hi,h⟩:=R.aN ht;cases h;exact q _ H (aM.refl H) (E.set (by rw[<-E.len];exact of_decide_eq_true hi) r) (List.length_set ..)
abbrev Co:=List D->ao->R ao
def U1(K:W.Frag)(t:Co):Ct:=fun vs σ H Q=>∃Z B δ ds cz,c6 K Z B H σ δ/\az K B H ds vs/\t ds δ= .ok cz/\∀cA H',aM H H'->c6 K Z B H' cA cz->cA.length=σ.length->Q cA H'
abbrev EN(X:Cx)(ts:List Expr)(t:Co):Prop:=F0 X ts (U1 X.K t)
theorem F0.imp{X:Cx}{t t':Ct}(h:F0 X e t)(w:∀v σ H Q,t' v σ H Q->t v σ H Q):F0 X e t':=fun pins s σ H v u Q I r hq=>h pins s σ H v u Q I r (w v σ H Q hq)
def iT:Co:=fun ds δ=>match ds with | []=> .ok δ | _=> .no
def bX(t:FT)(u:Co):Co:=fun ds δ=>match ds with | d ::r=>(t d δ).bind fun cz=>u r cz | []=> .no
theorem EI:EN X [] iT:=Ag.imp fun vs σ H Q ⟨Z,B,δ,ds,cz,E,r,ht,q⟩=>by
 cases ds with
 | nil=>unfold az at r;cases ht;exact⟨r,q σ H (aM.refl H) E rfl⟩
 | cons=>cases ht
theorem Bw{u:Co}(h1:K0 X e t)(h2:EN X es u)(hs:(assignEach (e ::es) X.env).map (·.2)=assign e X.env ::(assignEach es X.env).map (·.2):=by rfl):EN X (e ::es) (bX t u):=
 (xI h1 h2 hs).imp fun vs σ H Q ⟨Z,B,δ,ds,cz,E,r,ht,q⟩=>by
   cases ds with
   | nil=>cases ht
   | cons d ds=>
     obtain⟨x,xs,rfl,r1,r2⟩:=r.bR;obtain⟨δ1,h1,h2⟩:=R.af ht;exact⟨x,xs,rfl,Z,B,δ,d,δ1,E,r1,h1,fun Cy H1 s1 E1 l1=>⟨Z,B,δ1,ds,cz,E1,r2.same s1,h2,fun qr H2 s2 E2 l2=>q qr H2 (s1.trans s2) E2 (l2.trans l1)⟩⟩
def iR(n:Nat)(t:Co):FT:=fun d δ=>match d with | .tup ds=>R.aS (decide (ds.length=n)) (t ds δ) | _=> .no
theorem Hz{k:Nat}{t:Co}{n:Nat}{pos:Pos}(hc:X.calm=true)(h:EN X es t)(hn:(assignEach es X.env).length=n:=by rfl)(xZ:(assignEach es X.env).findIdx? (·.1)=none:=by rfl):K0 X (.Tuple es k pos) (iR n t):=
 (D8 hc h hn xZ).imp fun v σ H Q ⟨Z,B,δ,d,cz,E,r,ht,q⟩=>by
   cases d with
   | tup ds=>
     unfold Rep at r;obtain⟨a,xs,rfl,l,r⟩:=r;obtain⟨hl,h⟩:=R.aN ht;exact⟨a,xs,rfl,l.sq,by rw[<-r.length];exact of_decide_eq_true hl,Z,B,δ,ds,cz,E,r,h,q⟩
   | _=>cases ht
def Wc(f:FD)(t:FT):FS:=fun δ=>(f δ).bind fun d=>(t d δ).bind fun cz=> .ok (.nx cz)
def Fu(K:W.Frag)(B:List Addr)(H:Hp)(J:It)(ds:List D):Prop:=∀B' H',dr B H B' H'->(∀(i:Nat) (d:D),ds[i]? =some d->J.go i H'/\∀x nc,J.yld i H' x nc->(∀a∈B',∃o,H' a=some o)->aM H' nc/\Rep K B' nc d x)/\J.stop ds.length H'
def iD(K:W.Frag)(f:ao->R (List D)):TI:=fun σ H R=>∃Z B δ ds,c6 K Z B H σ δ/\f δ= .ok ds/\∀J H1,aM H H1->Fu K B H1 J ds->R J H1
abbrev IE(X:Cx)(tg e:Expr)(f:ao->R (List D)):Prop:=PI X tg e (iD X.K f)
def dy(f:FD):ao->R (List D):=fun δ=>(f δ).bind fun d=>match d with | .lst ds=> .ok ds | .tup ds=> .ok ds | _=> .no
theorem Hv(h:PD X e f):IE X tg e (dy f):=by
 intro pins s σ H RR I ⟨Z,B,δ,ds,E,hf,q⟩;obtain⟨d,h1,h2⟩:=R.af hf;refine cE (h pins s σ H (fun v H1=>aM H H1/\Rep X.K B H1 d v) I ⟨Z,B,δ,d,E,h1,fun v H1 s1 r1=>⟨s1,r1⟩⟩) fun v s1 ⟨x,H1,I1,r1,ss,rr⟩=>?_
 cases d with
 | lst es=>
   cases h2;unfold Rep at rr;obtain⟨a,xs,rfl,l,rr⟩:=rr;cases r1;obtain⟨its,rv,p,hz⟩:=I1.list l.sq;refine wpAny_pyIter_list p.isList ?_;refine⟨s1.heap.objs.size,[s1.heap.objs.size],_,_,H1,rfl,I1.kept (t':=s1.toks) fun b o e=>Heap.get?_push_of_some _ e,BO a _,⟨_,Heap.get?_push_size _ rfl,rfl,rfl⟩,fun b hb=>?_,q _ H1 ss fun B' H' pr=>?_⟩
   .have e:b=s1.heap.objs.size:=by simpa using hb
    subst e;exact I1.yg (Nat.le_refl _) (I1.hok.fresh (Nat.le_refl _))
   .have l':tW X.K B' H' a xs:=l.bc pr;have rr':=rr.bc pr;refine⟨fun i d hd=>?_,⟨xs,l'.sq,by rw[rr.length];exact Nat.le_refl _⟩⟩
    obtain⟨x,hx,rx⟩:=rr'.get hd;exact⟨⟨xs,x,l'.sq,hx⟩,fun y nc ⟨e1,e2⟩ _=>by
     subst e1;have:=e2 xs l'.sq;rw[hx] at this;cases this;exact⟨aM.refl _,rx⟩⟩
 | tup es=>
   cases h2;unfold Rep at rr;obtain⟨a,xs,rfl,l,rr⟩:=rr;cases r1;obtain⟨its,rv,p,hz⟩:=I1.tuple l.sq;refine wpAny_pyIter_tuple (show s1.heap.IsTuple a its.toArray from p) ?_
   refine⟨s1.heap.objs.size,[s1.heap.objs.size],_,_,H1,rfl,I1.kept (t':=s1.toks) fun b o e=>Heap.get?_push_of_some _ e,zF a _,⟨_,Heap.get?_push_size _ rfl,rfl,rfl⟩,fun b hb=>?_,q _ H1 ss fun B' H' pr=>?_⟩
   .have e:b=s1.heap.objs.size:=by simpa using hb
    subst e;exact I1.yg (Nat.le_refl _) (I1.hok.fresh (Nat.le_refl _))
   .have l':vY X.K B' H' a xs:=l.elim (fun z=> .inl ⟨(pr.rd z.2 z.1).2,(pr.rd z.2 z.1).1⟩) .inr
    have rr':=rr.bc pr;refine⟨fun i d hd=>?_,⟨xs,l'.sq,by rw[rr.length];exact Nat.le_refl _⟩⟩
    obtain⟨x,hx,rx⟩:=rr'.get hd;exact⟨⟨xs,x,l'.sq,hx⟩,fun y nc ⟨e1,e2⟩ _=>by
     subst e1;have:=e2 xs l'.sq;rw[hx] at this;cases this;exact⟨aM.refl _,rx⟩⟩
 | _=>cases h2
def qD(lo:Int)(n:Nat):List D:=(List.range n).map fun(i:Nat)=>D.int (lo+i)
theorem LN{K:W.Frag}{B:List Addr}(lo:Int)(n:Nat):Fu K B H (NH lo n) (qD lo n):=fun B' H' _=>by
 refine⟨fun i d hd=>?_,?_⟩
 .unfold qD at hd;rw[List.getElem?_map] at hd;cases e:(List.range n)[i]? with
  | none=>rw [e] at hd;cases hd
  | some j=>
    rw[e] at hd;cases hd;obtain⟨hi,ej⟩:=List.getElem?_eq_some_iff.mp e;rw[List.getElem_range] at ej;subst ej;rw[List.length_range] at hi;exact⟨hi,fun x nc ⟨e1,e2⟩ _=>by subst e1 e2;exact⟨aM.refl _,by unfold Rep;rfl⟩⟩
 .show n<=(qD lo n).length;unfold qD;rw[List.length_map,List.length_range];exact Nat.le_refl _
def iJ(f:FD):ao->R (List D):=fun δ=>(f δ).bind fun d=>match d with | .int j=>R.aS (decide (-(2 ^ 62)<=j/\j < 2 ^ 62)) (.ok (qD 0 j.toNat)) | _=> .no
theorem y4{tg a:Expr}{p pos:Pos}(h:PD X a f)(hg:Gl X "range")(hm:X.mg "range"=none)(hs:starEach [a] X.env=[(false,eval a X.env)]:=by rfl):IE X tg (.Call (.Name "range" p) [a] [] pos) (iJ f):=
 (Bg hg hm (f_ h i9 hs) hs).imp fun σ H RR ⟨Z,B,δ,ds,E,hf,q⟩=>by
   obtain⟨d,h1,h2⟩:=R.af hf;cases d with
   | int j=>
     obtain⟨hb,h3⟩:=R.aN h2;cases h3;have hb:=of_decide_eq_true hb;refine⟨Z,B,δ, .int j,E,h1,fun v H1 s1 r1=>⟨j,?_,hb.1,hb.2,q _ H1 s1 (LN 0 _)⟩⟩
     unfold Rep at r1;rw[r1]
   | _=>cases h2
def Q1(f g:FD):ao->R (List D):=fun δ=>(f δ).bind fun d=>(g δ).bind fun e=>match d,e with
 | .int i, .int j=>R.aS (decide (-(2 ^ 62)<=i/\i < 2 ^ 62/\ -(2 ^ 62)<=j/\j < 2 ^ 62)) (.ok (qD i (j - i).toNat)) | _,_=> .no
def qa(t:FT)(body:FS):List D->FS
 | [],δ=> .ok (.nx δ)
 | d ::ds,δ=>(t d δ).bind fun δ1=>(body δ1).bind fun o=>match o with | .nx iB=>qa t body ds iB | .rt r=> .ok (.rt r)
def pN(it:ao->R (List D))(t:FT)(body:FS):FS:=fun δ=>(it δ).bind fun ds=>qa t body ds δ
theorem HY{tg iter:Expr}{body:List Stmt}{it:ao->R (List D)}{t:FT}{F:FS}{pos:Pos}(hp:PassesOwn (model X.prog X.w) X.A X.env X.xe)(hc:X.calm=true)(hi:IE X tg iter it)(hg:K0 X tg t)(hb:pR X body F)
 (hs:∀x,foldedSetIterable iter X.env x=pure x:=by intro _;rfl):Cs X (.For tg iter body [] pos) (pN it t F):=(yz hp hc hi hg hb hs).imp fun D σ H ⟨Z,B,δ,o,E,hf,q⟩=>by
 obtain⟨ds,h1,h2⟩:=R.af hf;refine⟨Z,B,δ,ds,E,h1,fun J H1 s1 ir=>?_⟩
 refine⟨fun i m cA H'=>m=ds.length - i/\i<=ds.length/\∃B' cz,Ev Z B H1 B' H'/\c6 X.K Z B' H' cA cz/\qa t F (ds.drop i) cz= .ok o,⟨ds.length,rfl,Nat.zero_le _,B,δ,Ev.refl Z B H1 E.zb,E.same s1,by simpa using h2⟩,?_⟩
 rintro i m cA H' ⟨rfl,hi,B',cz,ev,E',hl⟩;obtain⟨go,stop⟩:=ir B' H' ev.bc;by_cases hlt:i < ds.length
 .have hd:ds[i]? =some ds[i]:=List.getElem?_eq_getElem hlt;have hdrop:ds.drop i=ds[i] ::ds.drop (i+1):=List.drop_eq_getElem_cons hlt;rw[hdrop] at hl;obtain⟨δ1,h3,h4⟩:=R.af hl;obtain⟨o1,h5,h6⟩:=R.af h4;obtain⟨g1,g2⟩:=go i _ hd;refine .inr ⟨g1,fun qr H2=>∃B2 iB,Ev Z B H1 B2 H2/\c6 X.K Z B2 H2 qr iB/\qa t F (ds.drop (i+1)) iB= .ok o,fun qr H2 n=>⟨ds.length - (i+1),by omega,rfl,hlt,n⟩,fun x nc y=>?_⟩
  obtain⟨ss,rr⟩:=g2 x nc y E'.bs;refine⟨Z,B',cz,ds[i],δ1,E'.same ss,rr,h3,fun qr H2 s2 E2 l2=>⟨Z,B',δ1,o1,E2,h5,?_⟩⟩
  have ev2:Ev Z B H1 B' H2:=ev.trans (Ev.same E'.zb (ss.trans s2));cases o1 with
  | nx iB=>exact fun yd B3 H3 Ma E3=>⟨B3,iB,ev2.trans Ma,E3,h6⟩
  | rt d=>
    cases h6;exact fun v B3 H3 Ma z r=>q v B3 H3 ((Ev.same E.zb s1).trans (ev2.trans Ma)) z r
 .have e:i=ds.length:=by omega
  subst e;rw[List.drop_length] at hl;cases hl;exact .inl ⟨stop,q cA B' H' ((Ev.same E.zb s1).trans ev) E'⟩
def pJ(c:ao->R Bool)(body:FS):Nat->FS
 | 0,_=> .no
 | n+1,δ=>(c δ).bind fun b=>if b then(body δ).bind fun o=>match o with | .nx iB=>pJ c body n iB | .rt r=> .ok (.rt r) else .ok (.nx δ)
def nj(n:Nat)(c:ao->R Bool)(body:FS):FS:=fun δ=>pJ c body n δ
theorem Bh(n:Nat){fc:ao->R Bool}{F:FS}(hp:PassesOwn (model X.prog X.w) X.A X.env X.xe)(hc:PB X c fc)(hb:pR X body F):Cs X (.While c body [] pos) (nj n fc F):=
 (Ej hp hc hb).imp fun D σ H ⟨Z,B,δ,o,E,hf,q⟩=>by
   refine⟨fun m cA H'=>∃B' cz,Ev Z B H B' H'/\c6 X.K Z B' H' cA cz/\pJ fc F m cz= .ok o,⟨n,B,δ,Ev.refl Z B H E.zb,E,hf⟩,?_⟩
   rintro m cA H' ⟨B',cz,ev,E',hw⟩;cases m with
   | zero=>cases hw
   | succ m=>
     obtain⟨b,h1,h2⟩:=R.af hw;refine⟨Z,B',cz,b,E',h1,fun H1 s1=>?_⟩
     have ev1:Ev Z B H B' H1:=ev.trans (Ev.same E'.zb s1);cases b with
     | false=>
       rw[if_neg (by decide)] at h2
       cases h2;exact B7 (q cA B' H1 ev1 (E'.same s1))
     | true=>
       rw[if_pos rfl] at h2;obtain⟨o1,h3,h4⟩:=R.af h2;refine BS ⟨fun qr H2=>∃B2 iB,Ev Z B H B2 H2/\c6 X.K Z B2 H2 qr iB/\pJ fc F m iB= .ok o,fun qr H2 n=>⟨m,Nat.lt_succ_self _,n⟩,Z,B',cz,o1,E'.same s1,h3,?_⟩
       cases o1 with
       | nx iB=>exact fun yd B3 H3 Ma E3=>⟨B3,iB,ev1.trans Ma,E3,h4⟩
       | rt d=>
         cases h4;exact fun v B3 H3 Ma z r=>q v B3 H3 (ev1.trans Ma) z r
def rL(δ:ao)(i:Nat):Sl:=match δ[i]? with | some (.val d)=> .val d | _=> .un
def qx(own:List Str)(kp:List Nat)(δ:ao):ao:=List.replicate own.length .un++kp.map (rL δ)
def oB(t:FT)(c:ao->R Bool)(f:FD)(δ:ao):List D->R (List D)
 | []=> .ok []
 | d ::ds=>(t d δ).bind fun δ1=>(c δ1).bind fun b=>if b then(f δ1).bind fun y=>(oB t c f δ ds).bind fun ys=> .ok (y ::ys) else oB t c f δ ds
def eN(it:ao->R (List D))(t:FT)(c:ao->R Bool)(f:FD)(own:List Str)(kp:List Nat):ao->R (List D):=fun δ=>(it δ).bind fun ds=>R.aS (decide (ds.length<=sizeLine)) (oB t c f (qx own kp δ) ds)
theorem LA{K:W.Frag}{Z B B':List Addr}{H H':Hp}{δ:ao}{own:List Str}{kp:List Nat}(E:c6 K Z B H σ δ)(p:dr B H B' H')(hB:∀a∈B',∃o,H' a=some o):c6 K [] B' H' (c_ own kp σ) (qx own kp δ) where
 len:=by unfold c_ qx;simp
 bs:=hB
 zb:=fun a ha=>by cases ha
 val:=fun i d e=>by
  unfold qx at e;unfold c_;by_cases hi:i < own.length
  .rw [List.getElem?_append_left (by simpa using hi),List.getElem?_replicate] at e
   split at e <;> cases e
  .rw [List.getElem?_append_right (by simpa using hi),List.length_replicate,List.getElem?_map] at e ⊢
   cases q:kp[i - own.length]? with
   | none=>rw [q] at e;cases e
   | some j=>
     rw[q] at e;have e:rL δ j= .val d:=Option.some.inj e;unfold rL at e;split at e
     .rename_i d' ed;cases e;obtain⟨v,h1,h2⟩:=E.val j d ed;exact⟨v,by simp [h1],h2.bc p⟩
     .cases e
 bld:=fun i ds e=>by
  unfold qx at e;by_cases hi:i < own.length
  .rw [List.getElem?_append_left (by simpa using hi),List.getElem?_replicate] at e
   split at e <;> cases e
  .rw [List.getElem?_append_right (by simpa using hi),List.length_replicate,List.getElem?_map] at e
   cases q:kp[i - own.length]? with
   | none=>rw [q] at e;cases e
   | some j=>
     rw[q] at e;have e:rL δ j= .bld ds:=Option.some.inj e;unfold rL at e;split at e <;> cases e
 dis:=fun i j a ds es e=>by
  unfold qx at e;by_cases hi:i < own.length
  .rw [List.getElem?_append_left (by simpa using hi),List.getElem?_replicate] at e
   split at e <;> cases e
  .rw [List.getElem?_append_right (by simpa using hi),List.length_replicate,List.getElem?_map] at e
   cases q:kp[i - own.length]? with
   | none=>rw [q] at e;cases e
   | some j=>
     rw[q] at e;have e:rL δ j= .bld ds:=Option.some.inj e;unfold rL at e;split at e <;> cases e
theorem AF{K:W.Frag}{it:ao->R (List D)}{c:ao->R Bool}{own:List Str}{kp:List Nat}{Q:VK}(h:tN K (eN it t c f own kp) σ H Q) :
 AQ (iD K it) (gD K t) (Jf K c) (tD K f) own kp σ H Q:=by
 obtain⟨Z,B,δ,ds,E,hf,q⟩:=h;obtain⟨es,h1,h2⟩:=R.af hf;obtain⟨hl,h3⟩:=R.aN h2;have hl:=of_decide_eq_true hl;refine⟨Z,B,δ,es,E,h1,fun J H1 s1 ir Dd hD=>?_⟩
 have E1:=E.same s1;have pD:dr B H1 (Dd ::B) (upd H1 Dd (.lst [])):=n_ hD;refine⟨fun i m ys H'=>m=es.length - i/\i<=es.length/\ys.length<=i/\H' Dd=some (.lst ys)/\aM H1 H'/\∃done rest,ds=done++rest/\az K (Dd ::B) H' done ys/\oB t c f (qx own kp δ) (es.drop i)= .ok rest,
  ⟨es.length,rfl,Nat.zero_le _,Nat.le_refl _,aX,ba hD,[],ds,rfl,az.nil,by simpa using h3⟩,?_⟩
 rintro i m ys H' ⟨rfl,hi,hy,hDl,ss,done,rest,rfl,rd,hc⟩;have dB:Dd ∉ B:=fun hb=>by obtain⟨o,ho⟩:=E1.bs Dd hb;rw [hD] at ho;cases ho
 have p':dr B H1 (Dd ::B) H':=fun b o e nb=>⟨ss b o e,fun hb=>by
  rcases List.mem_cons.mp hb with z | z
  .exact cc e hD z
  .exact nb z⟩
 have Pm:∀a∈Dd ::B,∃o,H' a=some o:=fun a ha=>by
  rcases List.mem_cons.mp ha with z | z
  .subst z;exact⟨_,hDl⟩
  .obtain⟨o,ho⟩:=E1.bs a z;exact⟨o,ss a o ho⟩
 obtain⟨go,stop⟩:=ir (Dd ::B) H' p';by_cases hlt:i < es.length
 .have hd:es[i]? =some es[i]:=List.getElem?_eq_getElem hlt;have hdrop:es.drop i=es[i] ::es.drop (i+1):=List.drop_eq_getElem_cons hlt;rw[hdrop] at hc;obtain⟨δ1,h4,h5⟩:=R.af hc;obtain⟨b,h6,h7⟩:=R.af h5;obtain⟨g1,g2⟩:=go i _ hd;refine .inr ⟨g1,fun x H2 y=>?_⟩
  obtain⟨sy,ry⟩:=g2 x H2 y Pm;have Ec:c6 K [] (Dd ::B) H2 (c_ own kp σ) (qx own kp δ):=LA E1 (p'.trans (dr.same sy)) fun a ha=>let⟨o,ho⟩:=Pm a ha;⟨o,sy a o ho⟩
  refine⟨[],Dd ::B,qx own kp δ,es[i],δ1,Ec,ry,h4,fun yd H3 s3 E3 _=>⟨[],Dd ::B,δ1,b,E3,h6,fun H4 s4=>?_⟩⟩
  have sAll:aM H' H4:=sy.trans (s3.trans s4);cases b with
  | true=>
    rw[if_pos rfl] at h7;refine BS ?_;obtain⟨yv,h8,h9⟩:=R.af h7;obtain⟨rs,Su,SS⟩:=R.af h9;cases SS;refine⟨[],Dd ::B,δ1,yv,E3.same s4,h8,fun v H5 s5 r5=>?_⟩
    have s':aM H' H5:=sAll.trans s5;have R7:H5 Dd=some (.lst ys):=s' Dd _ hDl;have pu:dr (Dd ::B) H5 (Dd ::B) (upd H5 Dd (.lst (ys++[v]))):=fun b o e nb=>⟨by rw[bj (fun(z:b=Dd)=>nb (by rw[z];exact List.mem_cons_self))];exact e,nb⟩
    refine⟨R7,by omega,es.length - (i+1),by omega,rfl,hlt,by rw[List.length_append,List.length_singleton];omega,aX,fun b o e=>?_,done++[yv],rs,by simp,((rd.same s').append (az.cons r5 az.nil)).bc pu,Su⟩
    rw[bj (cc e hD)];exact s' b o (ss b o e)
  | false=>
    rw[if_neg (by decide)] at h7
    refine B7 ?_;exact⟨es.length - (i+1),by omega,rfl,hlt,by omega,sAll Dd _ hDl,ss.trans sAll,done,rest,rfl,rd.same sAll,h7⟩
 .have e:i=es.length:=by omega
  subst e;rw[List.drop_length] at hc;cases hc;rw[List.append_nil] at q;exact .inl ⟨stop,q Dd ys H' (s1.trans ss) (s1.free hD) hDl rd⟩
theorem Hs{scope:Scope}{own:List Str}{kp:List Nat}{kn:List Str}{tg iter elt:Expr}{ifs:List Expr}{it:ao->R (List D)}{t:FT}{c:ao->R Bool}{f:FD}{pos:Pos}(hc:X.calm=true)(C:cx X scope own kp kn)(hi:IE X tg iter it)
 (hg:∀fp s H,K0 (br X scope (own++kn) fp s H) tg t) (Ci:∀fp s H,qF (br X scope (own++kn) fp s H) ifs (Jf X.K c)) (he:∀fp s H,PD (br X scope (own++kn) fp s H) elt f)
 (hs:∀x,foldedSetIterable iter X.env x=pure x:=by intro _;rfl):PN X (.ListComp elt [⟨tg,iter,ifs,0⟩] scope pos) (eN it t c f own kp):=
 (Aw hc C hi hg Ci he hs).imp fun σ H Q h=>AF h
def oS:ao->R Bool:=fun _=> .ok true
theorem Ei:qF X [] (Jf X.K oS):=fun pins s σ H Q I ⟨Z,B,δ,b,E,hf,q⟩=>wQ pins s σ H Q I (by cases hf;exact q H (aM.refl H))
theorem GA{c:ao->R Bool}(h:PB X e c):qF X [e] (Jf X.K c):=Ed h
theorem xg{i:Nat}{x:Str}{pos' n4:Pos}{scope:Scope}{own:List Str}{kp:List Nat}{kn:List Str}{tg iter elt:Expr}{ifs:List Expr}{it:ao->R (List D)}{t:FT}{c:ao->R Bool}{f:FD}{pos:Pos}(hc:X.calm=true)
 (hN:X.N.Nodup) (hx:X.N[i]? =some x) (Cz:X.env.scope.names.lookup x=some .local) (C:cx X scope own kp kn) (hi:IE X tg iter it)
 (hg:∀fp s H,K0 (br X scope (own++kn) fp s H) tg t) (Ci:∀fp s H,qF (br X scope (own++kn) fp s H) ifs (Jf X.K c)) (he:∀fp s H,PD (br X scope (own++kn) fp s H) elt f)
 (sU:swapsWith (.ListComp elt [⟨tg,iter,ifs,0⟩] scope pos) (some (.Name x pos')) n4.line X.env=pure true:=by rfl)
 (hs:∀x,foldedSetIterable iter X.env x=pure x:=by intro _;rfl):Cs X (.Assign [.Name x pos'] (.ListComp elt [⟨tg,iter,ifs,0⟩] scope pos) n4) (cG i (eNew (eN it t c f own kp))):=
 (zG hc hN hx Cz C hi hg Ci he sU hs).imp fun D σ H h=>by
   have h1:=CS h;obtain⟨Z,B,δ,d,E,hf,q⟩:=h1;obtain⟨ds,h2,h3⟩:=R.af hf;cases h3;refine AF ⟨Z,B,δ,ds,E,h2,fun a xs H' s n e r=>q _ H' s ?_⟩
   unfold Rep;refine⟨a,xs,rfl, .inl ⟨fun ha=>?_, .inl e⟩,r.bc fun b o e nb=>⟨e,fun hb=>nb (List.mem_cons_of_mem _ hb)⟩⟩
   obtain⟨o,ho⟩:=E.bs a ha;rw[n] at ho;cases ho
end
def bW(N:List Str)(ds:List D):ao:=ds.map .val++List.replicate (N.length - ds.length) .un
def qS(N:List Str)(F:FS):List D->R D:=fun ds=>(F (bW N ds)).bind fun o=>match o with | .rt d=> .ok d | .nx _=> .ok .cJ
theorem HB{K:W.Frag}{B:List Addr}{H:Hp}{N:List Str}{ds:List D}{vs:List V}(hB:∀a∈B,∃o,H a=some o)(r:az K B H ds vs):c6 K B B H (start N vs) (bW N ds) where
 len:=by unfold start bW;simp [r.length]
 bs:=hB
 zb:=fun a ha=>ha
 val:=fun i d e=>by
  unfold bW at e;unfold start;by_cases hi:i < ds.length
  .rw [List.getElem?_append_left (by simpa using hi),List.getElem?_map] at e
   cases q:ds[i]? with
   | none=>rw [q] at e;cases e
   | some d'=>
     rw[q] at e;cases e;obtain⟨x,h1,h2⟩:=r.get q;exact⟨x,by rw[List.getElem?_append_left (by rw[List.length_map,<-r.length];exact hi),List.getElem?_map,h1];rfl,h2⟩
  .rw [List.getElem?_append_right (by simpa using hi),List.getElem?_replicate] at e
   split at e <;> cases e
 bld:=fun i es e=>by
  unfold bW at e;by_cases hi:i < ds.length
  .rw [List.getElem?_append_left (by simpa using hi),List.getElem?_map] at e
   cases q:ds[i]? with
   | none=>rw [q] at e;cases e
   | some d'=>rw [q] at e;cases e
  .rw [List.getElem?_append_right (by simpa using hi),List.getElem?_replicate] at e
   split at e <;> cases e
 dis:=fun i j a es fs e=>by
  unfold bW at e;by_cases hi:i < ds.length
  .rw [List.getElem?_append_left (by simpa using hi),List.getElem?_map] at e
   cases q:ds[i]? with
   | none=>rw [q] at e;cases e
   | some d'=>rw [q] at e;cases e
  .rw [List.getElem?_append_right (by simpa using hi),List.getElem?_replicate] at e
   split at e <;> cases e
theorem HR{P:Program}{w:World}{K:W.Frag}{mg:YG}{base:Heap}{x qual:Str}{st:Stmt}{f:Addr}{fd:FuncData}{N ps:List Str}{k:Nat}{F:FS}(Fn:yt K x qual st f fd)(S:bb N ps (aF st))
 (jr:∀(dt:Value) (A:Around) (outer:List Env) (s:Shared) (H:Hp) (E:XK),dA k (A.deeper (envOfC qual (aF st) s.heap.objs.size f dt))->
   pR (km ur P w K mg base N qual (aF st) f dt A outer s H E).HV (aO st) F):ig P w K mg base ur (k+1) f fd ps (F1 K ps.length (qS N F)):=by
 refine Fn.ok S (fun vs H Q E h=>h.1) (fun dt A outer s H vs Q E hr h=>⟨_,jr dt A outer s H E hr,?_⟩)
 obtain⟨_,B,ds,d,hB,r,hg,q⟩:=h;obtain⟨o,h1,h2⟩:=R.af hg;refine⟨B,B,bW N ds,o,HB hB r,h1,?_⟩;have sm:∀{B':List Addr} {H':Hp},Ev B B H B' H'->aM H H':=fun {B' H'} ev b u e=>by
  by_cases hb:b∈B
  .exact(ev.zs b u e hb).1
  .exact(ev.bc b u e hb).1
 cases o with
 | nx cz=>
   cases h2;exact fun cA B' H' ev _=>q _ H' (sm ev) (by unfold Rep;rfl)
 | rt d'=>
   cases h2;exact fun v B' H' ev z rr=>q v H' (sm ev) (rr.bc fun b o e nb=>⟨e,fun hb=>nb (z b hb)⟩)
end L2
end
section
namespace L2
open PySem PySem.Spec PyProof.Rows
theorem Rep.int{K:W.Frag}{B:List Addr}{i:Int}{v:V}:Rep K B H (.int i) v↔v= .int i:=by unfold Rep;exact Iff.rfl
theorem Rep.bl{K:W.Frag}{B:List Addr}{i:Bool}{v:V}:Rep K B H (.bl i) v↔v= .bl i:=by unfold Rep;exact Iff.rfl
theorem Rep.str{K:W.Frag}{B:List Addr}{v:V}:Rep K B H (.str i) v↔v= .str i:=by unfold Rep;exact Iff.rfl
theorem Rep.cJ{K:W.Frag}{B:List Addr}{v:V}:Rep K B H .cJ v↔v= .cJ:=by unfold Rep;exact Iff.rfl
theorem Rep.lst{K:W.Frag}{B:List Addr}{ds:List D}{v:V}:Rep K B H (.lst ds) v↔∃a xs,v= .ref a/\tW K B H a xs/\az K B H ds xs:=by rw[Rep]
theorem Rep.tup{K:W.Frag}{B:List Addr}{ds:List D}{v:V}:Rep K B H (.tup ds) v↔∃a xs,v= .ref a/\vY K B H a xs/\az K B H ds xs:=by rw[Rep]
section
variable {X:Cx}
theorem lA.of{f:Value->Value->Sem Value}{r:R2}{g:D->D->R D}(h:mR X f r)
 (w:∀(B:List Addr) (H:Hp) (da db d:D) (x y:V) (Q:VK),(∀a∈B,∃o,H a=some o)->Rep X.K B H da x->Rep X.K B H db y->g da db= .ok d->(∀z H',aM H H'->Rep X.K B H' d z->Q z H')->r x y H Q):lA X f g:=by
 intro pins s σ H B da db d x y v u I hb rx ry ra rb hg;exact h pins s σ H x y v u _ I rx ry (w B H da db d x y _ hb ra rb hg fun z H' s1 r1=>⟨s1,r1⟩)
theorem cX.of{f:Value}{r:List V->Hp->VK->Prop}{g:List D->R D}(h:jY X f r)
 (w:∀(B:List Addr) (H:Hp) (ds:List D) (d:D) (xs:List V) (Q:VK),(∀a∈B,∃o,H a=some o)->az X.K B H ds xs->g ds= .ok d->(∀z H',aM H H'->Rep X.K B H' d z->Q z H')->r xs H Q):cX X f g:=by
 intro pins s σ H B ds d xs us I hb rx rs hg;exact h pins s σ H xs us _ I rx (w B H ds d xs _ hb rs hg fun z H' s1 r1=>⟨s1,r1⟩)
theorem cX.or{f:Value}{g g1 g2:List D->R D}(h1:cX X f g1)(h2:cX X f g2)(e:∀a d,g a= .ok d->g1 a= .ok d\/g2 a= .ok d):cX X f g:=by
 intro pins s σ H B ds d xs us I hb rx rs hg;rcases e ds d hg with q | q
 .exact h1 pins s σ H B ds d xs us I hb rx rs q
 .exact h2 pins s σ H B ds d xs us I hb rx rs q
def FW(C:Int->Int->Bool)(g:Int->Int->Int):D->D->R D
 | .int i, .int j=>R.aS (C i j) (.ok (.int (g i j)))
 | _,_=> .no
theorem A6{f:Value->Value->Sem Value}{C:Int->Int->Bool}{Cp:Int->Int->Prop}{g:Int->Int->Int}(h:mR X f (rI Cp fun i j=> .int (g i j)))(hc:∀i j,C i j=true->Cp i j):lA X f (FW C g):=
 lA.of h fun B H da db d x y Q _ ra rb hg q=>by
  unfold FW at hg;split at hg
  .obtain⟨h1,h2⟩:=R.aN hg;cases h2;exact⟨_,_,Rep.int.mp ra,Rep.int.mp rb,hc _ _ h1,q _ H (aM.refl H) (Rep.int.mpr rfl)⟩
  .cases hg
def Ba(g:Int->Int->Int):D->D->R D
 | .int i, .int j=> .ok (.int (g i j))
 | _,_=> .no
theorem KR{f:Value->Value->Sem Value}{g:Int->Int->Int}(h:mR X f (FU fun i j=> .int (g i j))):lA X f (Ba g):=
 lA.of h fun B H da db d x y Q _ ra rb hg q=>by
  unfold Ba at hg;split at hg
  .cases hg;exact⟨_,_,Rep.int.mp ra,Rep.int.mp rb,q _ H (aM.refl H) (Rep.int.mpr rfl)⟩
  .cases hg
def Mu(g:Int->Int->Bool):D->D->R D
 | .int i, .int j=> .ok (.bl (g i j))
 | _,_=> .no
theorem Aq{f:Value->Value->Sem Value}{g:Int->Int->Bool}(h:mR X f (FU fun i j=> .bl (g i j))):lA X f (Mu g):=
 lA.of h fun B H da db d x y Q _ ra rb hg q=>by
  unfold Mu at hg;split at hg
  .cases hg;exact⟨_,_,Rep.int.mp ra,Rep.int.mp rb,q _ H (aM.refl H) (Rep.bl.mpr rfl)⟩
  .cases hg
abbrev Bx:D->D->R D:=Ba fun i j=>i - j
theorem An:lA X (binaryOp .Sub) Bx:=KR L0
abbrev dh:D->D->R D:=FW (fun _ j=>decide (0 < j/\j < 1073741824)) fun i j=>i / j
theorem gy:lA X (binaryOp .FloorDiv) dh:=A6 GY fun i j h=>(of_decide_eq_true h:0 < j/\j < 1073741824)
abbrev cR:D->D->R D:=FW (fun _ j=>decide (0 < j)) fun i j=>i % j
theorem cY:lA X (binaryOp .Mod) cR:=A6 Kv fun i j h=>of_decide_eq_true h
abbrev BD:D->D->R D:=FW (fun i j=>decide (0<=j/\j<=1000000/\i.natAbs < 2 ^ 64)) fun i j=>i ^ j.toNat
theorem EL:lA X (binaryOp .Pow) BD:=A6 Lm fun i j h=>(of_decide_eq_true h:0<=j/\j<=1000000/\i.natAbs < 2 ^ 64)
abbrev ND:D->D->R D:=FW (fun _ j=>decide (0<=j)) fun i j=>i / 2 ^ j.toNat
theorem Oq:lA X (binaryOp .RShift) ND:=A6 Kk fun i j h=>of_decide_eq_true h
abbrev Ye:D->D->R D:=Ba fun i j=>Builtin.bitAnd i j
abbrev Yg:D->D->R D:=Ba fun i j=>Builtin.bitOr i j
abbrev X4:D->D->R D:=Ba fun i j=>Builtin.bitXor i j
abbrev Lh:D->D->R D:=Mu fun i j=>decide (i < j)
theorem EX:lA X (compareOp .Lt) Lh:=Aq NJ
abbrev Px:D->D->R D:=Mu fun i j=>decide (i<=j)
theorem P5:lA X (compareOp .LtE) Px:=Aq Oa
abbrev Mt:D->D->R D:=Mu fun i j=>decide (j < i)
theorem GU:lA X (compareOp .Gt) Mt:=Aq M6
abbrev Ld:D->D->R D:=Mu fun i j=>decide (j<=i)
theorem Gm:lA X (compareOp .GtE) Ld:=Aq Nn
theorem tW.CM{K:W.Frag}{B:List Addr}{H:Hp}{a:Addr}{xs:List V}(h:H a=some (.lst xs))(n:a ∉ B):tW K B H a xs:= .inl ⟨n, .inl h⟩
theorem Inv.Jd{pins:YB}{s:Shared}{a:Addr}{xs:List V}{B:List Addr}(I:Inv X pins σ H s)(h:tW X.K B H a xs):∃(its:List Value) (n:Nat),Vals xs its/\s.heap.get? a=some {cls:= .type "list",data:= .seq its.toArray n}/\xs.length<=sizeLine:=by
 rcases h with⟨_,h⟩ | ⟨its,n,hk,hz,r⟩
 .obtain⟨z,its,n,r,e⟩:=h.ok I.hok;exact⟨its,n,r,e,z⟩
 .exact⟨its,n,r,I.w_ a _ hk,hz⟩
theorem Hn:mR X (binaryOp .Add) (fun x y H Q=>∃B l b xs zs,x= .ref l/\y= .ref b/\tW X.K B H l xs/\tW X.K B H b zs/\xs.length+zs.length<=sizeLine/\∀p,H p=none->Q (.ref p) (upd H p (.lst (xs++zs)))):=by
 intro pins s σ H x y v u Q I rx ry h;obtain⟨B,l,b,xs,zs,rfl,rfl,hH,hB,hz,q⟩:=h;cases rx;cases ry;obtain⟨its,n,r,e,_⟩:=I.Jd hH;obtain⟨xX,n2,r2,e2,_⟩:=I.Jd hB;have l1:=r.length;have l2:=r2.length;refine PySem.P.add_list e e2 ?_ (by rw[List.size_toArray,List.size_toArray];omega)
 have ea:its.toArray++xX.toArray=(its++xX).toArray:=by simp
 rw[ea];exact⟨.ref _,_,I.JN (t':=s.toks) (r.append r2) (by rw[List.length_append];omega),rfl,q _ I.fresh⟩
def eu:D->D->R D
 | .int i, .int j=> .ok (.int (i+j))
 | .str a, .str b=>R.aS (decide (a.length+b.length<=sizeLine)) (.ok (.str (a++b)))
 | .lst a, .lst b=>R.aS (decide (a.length+b.length<=sizeLine)) (.ok (.lst (a++b)))
 | _,_=> .no
theorem eP:lA X (binaryOp .Add) eu:=by
 intro pins s σ H B da db d x y v u I hb rx ry ra rb hg;unfold eu at hg;split at hg
 .cases hg;exact JJ pins s σ H x y v u _ I rx ry ⟨_,_,Rep.int.mp ra,Rep.int.mp rb,aM.refl H,Rep.int.mpr rfl⟩
 .obtain⟨h1,h2⟩:=R.aN hg;cases h2;exact ze pins s σ H x y v u _ I rx ry ⟨_,_,Rep.str.mp ra,Rep.str.mp rb,of_decide_eq_true h1,aM.refl H,Rep.str.mpr rfl⟩
 .obtain⟨h1,h2⟩:=R.aN hg;cases h2;obtain⟨a1,Sf,rfl,l1,r1⟩:=Rep.lst.mp ra;obtain⟨a2,Rb,rfl,l2,r2⟩:=Rep.lst.mp rb;refine Hn pins s σ H _ _ v u _ I rx ry ⟨B,a1,a2,Sf,Rb,rfl,rfl,l1,l2,by rw[<-r1.length,<-r2.length];exact of_decide_eq_true h1,fun p hp=>⟨ba hp,Rep.lst.mpr ⟨p,_,rfl, .CM aX fun ha=>?_,(r1.append r2).same (ba hp)⟩⟩⟩
  obtain⟨o,ho⟩:=hb p ha;rw[hp] at ho;cases ho
 .cases hg
theorem G2:mR X (binaryOp .Mult) (fun x y H Q=>∃z n,x= .str z/\y= .int n/\MulOk z n/\Q (.str (Txt.mul z n)) H):=by
 intro pins s σ H x y v u Q I rx ry h;obtain⟨z,n,rfl,rfl,hm,q⟩:=h;obtain⟨t,rfl⟩:=rx;obtain⟨t',rfl⟩:=ry;exact SB.mul hm fun t2 k=>⟨.str _,H,I.tok _,⟨_,rfl⟩,q⟩
end
end L2
end
section
namespace L2
open PySem PySem.Spec PyProof.Rows
section
variable {X:Cx}
theorem mulOk_of{x:Str}{n:Int}(h1: -(2 ^ 63)<=n)(h2:n < 2 ^ 63)(h3:x.length*n.toNat<=sizeLine):MulOk x n:=by
 refine⟨by simp only[Bool.or_eq_false_iff,decide_eq_false_iff_not];omega,fun hn _=>?_,fun hn _=>?_⟩
 .have hz:sizeLine=16777216:=sizeLine_eq;have e:(n.toNat:Int)=n:=by omega
  have h4:(x.length:Int)*n<=16777216:=by
   have:((x.length*n.toNat:Nat):Int)<=((16777216:Nat):Int):=Int.ofNat_le.mpr (by omega)
   rw[Int.natCast_mul,e] at this;exact this
  have:(x.length:Int)<=(2 ^ 63 - 1) / n:=(Int.le_ediv_iff_mul_le (by omega)).mpr (by omega)
  omega
 .unfold Builtin.Str.tooLong;exact decide_eq_false (by omega)
def k_:D->D->R D
 | .int i, .int j=>R.aS (decide ((-(2 ^ 64) < i/\i < 2 ^ 64)\/(-(2 ^ 64) < j/\j < 2 ^ 64))) (.ok (.int (i*j)))
 | .str x, .int n=>R.aS (decide (-(2 ^ 63)<=n/\n < 2 ^ 63/\x.length*n.toNat<=sizeLine)) (.ok (.str (Txt.mul x n)))
 | _,_=> .no
theorem qh:lA X (binaryOp .Mult) k_:=by
 intro pins s σ H B da db d x y v u I hb rx ry ra rb hg;unfold k_ at hg;split at hg
 .obtain⟨h1,h2⟩:=R.aN hg;cases h2;have h1:=of_decide_eq_true h1;exact K2 pins s σ H x y v u _ I rx ry ⟨_,_,Rep.int.mp ra,Rep.int.mp rb,h1,aM.refl H,Rep.int.mpr rfl⟩
 .obtain⟨h1,h2⟩:=R.aN hg;cases h2;have h1:=of_decide_eq_true h1;exact G2 pins s σ H x y v u _ I rx ry ⟨_,_,Rep.str.mp ra,Rep.int.mp rb,mulOk_of h1.1 h1.2.1 h1.2.2,aM.refl H,Rep.str.mpr rfl⟩
 .cases hg
mutual
def toPy:D->PyData
 | .cJ=> .none
 | .bl b=> .bool b
 | .int i=> .int i
 | .str x=> .str x
 | .lst ds=> .list (dY ds)
 | .tup ds=> .tuple (dY ds)
 | .dct _ _=> .dict []
def dY:List D->List PyData
 | []=>[]
 | d ::ds=>toPy d ::dY ds
end
mutual
def cq:D->Bool
 | .dct _ _=>false
 | .lst ds=>fV ds
 | .tup ds=>fV ds
 | _=>true
def fV:List D->Bool
 | []=>true
 | d ::ds=>cq d && fV ds
end
mutual
theorem Rep.reads{pins:YB}{s:Shared}{B:List Addr}(I:Inv X pins σ H s):∀{d:D} {v:V} {u:Value},cq d=true->Rep X.K B H d v->RelV v u->∃as,Reads s.heap u (toPy d) as
 | .cJ,v,u,_,r,q=>by rw[Rep.cJ.mp r] at q;cases q;unfold toPy;exact⟨_, .none⟩
 | .bl b,v,u,_,r,q=>by rw[Rep.bl.mp r] at q;cases q;unfold toPy;exact⟨_, .bool b⟩
 | .int i,v,u,_,r,q=>by rw[Rep.int.mp r] at q;obtain⟨t,rfl⟩:=q;unfold toPy;exact⟨_, .int i t⟩
 | .str x,v,u,_,r,q=>by rw[Rep.str.mp r] at q;obtain⟨t,rfl⟩:=q;unfold toPy;exact⟨_, .str x t⟩
 | .lst ds,v,u,hp,r,q=>by
   obtain⟨a,xs,rfl,l,rs⟩:=Rep.lst.mp r;cases q;obtain⟨its,rv,⟨o,n,e,hc,hd,he⟩,_⟩:=I.list l.sq;obtain⟨as,ra⟩:=az.reads I (by unfold cq at hp;exact hp) rs rv
   unfold toPy;exact⟨_, .list e hc he (by simpa using ra)⟩
 | .tup ds,v,u,hp,r,q=>by
   obtain⟨a,xs,rfl,l,rs⟩:=Rep.tup.mp r;cases q;obtain⟨its,rv,⟨o,e,hc,n,hd⟩,_⟩:=I.tuple l.sq;obtain⟨as,ra⟩:=az.reads I (by unfold cq at hp;exact hp) rs rv
   unfold toPy;exact⟨_, .tuple e hc hd (by simpa using ra)⟩
 | .dct _ _,v,u,hp,r,q=>by unfold cq at hp;cases hp
theorem az.reads{pins:YB}{s:Shared}{B:List Addr}(I:Inv X pins σ H s):∀{ds:List D} {vs:List V} {us:List Value},fV ds=true->az X.K B H ds vs->Vals vs us->∃as,ReadsAll s.heap us (dY ds) as
 | [],vs,us,_,r,q=>by unfold az at r;subst r;cases q;unfold dY;exact⟨_, .nil⟩
 | d ::ds,vs,us,hp,r,q=>by
   obtain⟨x,xs,rfl,r1,r2⟩:=r.bR;cases q with
   | cons q1 q2=>
     unfold fV at hp;obtain⟨h1,h2⟩:=Bool.and_eq_true_iff.mp hp;obtain⟨as,a1⟩:=Rep.reads I h1 r1 q1;obtain⟨bs,a2⟩:=az.reads I h2 r2 q2;unfold dY;exact⟨_, .cons a1 a2⟩
end
def Cu:D->D->R Bool
 | .int i, .int j=> .ok (decide (i=j))
 | .str x, .str y=> .ok (decide (x=y))
 | .bl a, .bl b=> .ok (decide (a=b))
 | d,e=>R.aS (cq d && cq e && SeqAt.shaped (toPy d) && SeqAt.shaped (toPy e)) (.ok (PyData.eqv (toPy d) (toPy e)))
def qB(d e:D):R D:=(Cu d e).bind fun b=> .ok (.bl b)
def A2(d e:D):R D:=(Cu d e).bind fun b=> .ok (.bl (!b))
theorem ni(hu:X.A.units+64 < cLine):lA X (compareOp .Eq) qB:=by
 intro pins s σ H B da db d x y v u I hb rx ry ra rb hg;obtain⟨b,h1,h2⟩:=R.af hg;cases h2;unfold Cu at h1;split at h1
 .cases h1;rename_i i j;have:=Dt pins s σ H x y v u (fun z H'=>aM H H'/\Rep X.K B H' (.bl (decide (i=j))) z) I rx ry
  rw[Rep.int.mp ra,Rep.int.mp rb] at this;refine this ⟨rfl,aM.refl H,Rep.bl.mpr ?_⟩;simp [V.int.injEq]
 .cases h1;rename_i i j;have:=Dt pins s σ H x y v u (fun z H'=>aM H H'/\Rep X.K B H' (.bl (decide (i=j))) z) I rx ry
  rw[Rep.str.mp ra,Rep.str.mp rb] at this;refine this ⟨rfl,aM.refl H,Rep.bl.mpr ?_⟩;simp [V.str.injEq]
 .cases h1;rename_i i j;have:=Dt pins s σ H x y v u (fun z H'=>aM H H'/\Rep X.K B H' (.bl (decide (i=j))) z) I rx ry
  rw[Rep.bl.mp ra,Rep.bl.mp rb] at this;refine this ⟨rfl,aM.refl H,Rep.bl.mpr ?_⟩;simp [V.bl.injEq]
 .obtain⟨h3,h4⟩:=R.aN h1;cases h4;simp only[Bool.and_eq_true] at h3;obtain⟨⟨⟨p1,p2⟩,s1⟩,s2⟩:=h3;obtain⟨as,r1⟩:=ra.reads I p1 rx;obtain⟨bs,r2⟩:=rb.reads I p2 ry;exact eq_dataH r1 r2 s1 s2 hu ⟨.bl _,H,I,rfl,aM.refl H,Rep.bl.mpr rfl⟩
theorem DU(hu:X.A.units+64 < cLine):lA X (compareOp .NotEq) A2:=by
 intro pins s σ H B da db d x y v u I hb rx ry ra rb hg;obtain⟨b,h1,h2⟩:=R.af hg;cases h2;unfold Cu at h1;split at h1
 .cases h1;rename_i i j;have:=ES pins s σ H x y v u (fun z H'=>aM H H'/\Rep X.K B H' (.bl (!decide (i=j))) z) I rx ry
  rw[Rep.int.mp ra,Rep.int.mp rb] at this;refine this ⟨rfl,aM.refl H,Rep.bl.mpr ?_⟩;simp [V.int.injEq]
 .cases h1;rename_i i j;have:=ES pins s σ H x y v u (fun z H'=>aM H H'/\Rep X.K B H' (.bl (!decide (i=j))) z) I rx ry
  rw[Rep.str.mp ra,Rep.str.mp rb] at this;refine this ⟨rfl,aM.refl H,Rep.bl.mpr ?_⟩;simp [V.str.injEq]
 .cases h1;rename_i i j;have:=ES pins s σ H x y v u (fun z H'=>aM H H'/\Rep X.K B H' (.bl (!decide (i=j))) z) I rx ry
  rw[Rep.bl.mp ra,Rep.bl.mp rb] at this;refine this ⟨rfl,aM.refl H,Rep.bl.mpr ?_⟩;simp [V.bl.injEq]
 .obtain⟨h3,h4⟩:=R.aN h1;cases h4;simp only[Bool.and_eq_true] at h3;obtain⟨⟨⟨p1,p2⟩,s1⟩,s2⟩:=h3;obtain⟨as,r1⟩:=ra.reads I p1 rx;obtain⟨bs,r2⟩:=rb.reads I p2 ry;exact ne_dataH r1 r2 s1 s2 hu ⟨.bl _,H,I,rfl,aM.refl H,Rep.bl.mpr rfl⟩
def strs?:List D->Option (List Str)
 | []=>some []
 | .str x ::ds=>(strs? ds).map (x ::·)
 | _ ::_=>none
theorem i3{K:W.Frag}{B:List Addr}:∀{ds:List D} {xs:List V} {ss:List Str},az K B H ds xs->strs? ds=some ss->xs=ss.map V.str
 | [],xs,ss,r,h=>by unfold az at r;subst r;cases h;rfl
 | d ::ds,xs,ss,r,h=>by
   obtain⟨x,r',rfl,r1,r2⟩:=r.bR;cases d with
   | str z=>
     unfold strs? at h;cases e:strs? ds with
     | none=>rw [e] at h;cases h
     | some tt=>
       rw[e] at h;cases h;rw[Rep.str.mp r1,i3 r2 e];rfl
   | _=>cases h
def ints?:List D->Option (List Int)
 | []=>some []
 | .int x ::ds=>(ints? ds).map (x ::·)
 | _ ::_=>none
theorem fB{K:W.Frag}{B:List Addr}:∀{ds:List D} {xs:List V} {ss:List Int},az K B H ds xs->ints? ds=some ss->xs=ss.map V.int
 | [],xs,ss,r,h=>by unfold az at r;subst r;cases h;rfl
 | d ::ds,xs,ss,r,h=>by
   obtain⟨x,r',rfl,r1,r2⟩:=r.bR;cases d with
   | int z=>
     unfold ints? at h;cases e:ints? ds with
     | none=>rw [e] at h;cases h
     | some tt=>
       rw[e] at h;cases h;rw[Rep.int.mp r1,fB r2 e];rfl
   | _=>cases h
def inD(d e:D):R Bool:=match d,e with
 | .str x, .lst ds=>(match strs? ds with | some ss=> .ok (ss.contains x) | none=> .no)
 | .str x, .tup ds=>(match strs? ds with | some ss=> .ok (ss.contains x) | none=> .no)
 | .str x, .str y=> .ok (!(Builtin.Str.occurrences y x 0 y.length 1).isEmpty)
 | .int x, .lst ds=>(match ints? ds with | some ss=> .ok (ss.contains x) | none=> .no)
 | .int x, .tup ds=>(match ints? ds with | some ss=> .ok (ss.contains x) | none=> .no)
 | _,_=> .no
def yK(d e:D):R D:=(inD d e).bind fun b=> .ok (.bl b)
def ny(d e:D):R D:=(inD d e).bind fun b=> .ok (.bl (!b))
theorem rG(x:Str):∀ss:List Str,Jb (.str x) (ss.map V.str)=ss.contains x
 | []=>rfl
 | y ::ss=>by
   unfold Jb;rw[List.map_cons,List.any_cons];have ih:=rG x ss;unfold Jb at ih;rw[ih];show(y==x || ss.contains x)=_
   rw[List.contains_cons];congr 1;exact Bool.eq_iff_iff.mpr ⟨fun h=>by simpa using(beq_iff_eq.mp h).symm,fun h=>by simpa using(beq_iff_eq.mp h).symm⟩
theorem rX(x:Int):∀ss:List Int,Jb (.int x) (ss.map V.int)=ss.contains x
 | []=>rfl
 | y ::ss=>by
   unfold Jb;rw[List.map_cons,List.any_cons];have ih:=rX x ss;unfold Jb at ih;rw[ih];show(y==x || ss.contains x)=_
   rw[List.contains_cons];congr 1;exact Bool.eq_iff_iff.mpr ⟨fun h=>by simpa using(beq_iff_eq.mp h).symm,fun h=>by simpa using(beq_iff_eq.mp h).symm⟩
theorem uf(ss:List Int):(ss.map V.int).all kW=true:=by
 rw[List.all_map];simp [List.all_eq_true,kW]
theorem tO(ss:List Str):(ss.map V.str).all kW=true:=by
 rw[List.all_map];simp [List.all_eq_true,kW]
theorem Dw{neg:Bool}{op:CmpOp}{g:D->D->R D}(h1:mR X (compareOp op) (Pr X.K neg))(h2:mR X (compareOp op) (fun x y H Q=>∃i j,x= .str i/\y= .str j/\Q (.bl (if neg then !(!(Builtin.Str.occurrences j i 0 j.length 1).isEmpty) else(!(Builtin.Str.occurrences j i 0 j.length 1).isEmpty))) H))
 (hg:∀d e r,g d e= .ok r->∃b,inD d e= .ok b/\r= .bl (if neg then !b else b)):lA X (compareOp op) g:=by
 intro pins s σ H B da db d x y v u I hb rx ry ra rb hg';obtain⟨b,hi,rfl⟩:=hg da db d hg';unfold inD at hi;split at hi
 .rename_i z ds;split at hi
  .rename_i ss e;cases hi;obtain⟨a,xs,rfl,l,rs⟩:=Rep.lst.mp rb;refine h1 pins s σ H x _ v u _ I rx ry ⟨a,xs,rfl, .inl l.sq,by rw[Rep.str.mp ra];rfl,by rw[i3 rs e];exact tO _,aM.refl H,Rep.bl.mpr ?_⟩
   rw[i3 rs e,Rep.str.mp ra,rG]
  .cases hi
 .rename_i z ds;split at hi
  .rename_i ss e;cases hi;obtain⟨a,xs,rfl,l,rs⟩:=Rep.tup.mp rb;refine h1 pins s σ H x _ v u _ I rx ry ⟨a,xs,rfl, .inr l.sq,by rw[Rep.str.mp ra];rfl,by rw[i3 rs e];exact tO _,aM.refl H,Rep.bl.mpr ?_⟩
   rw[i3 rs e,Rep.str.mp ra,rG]
  .cases hi
 .cases hi;exact h2 pins s σ H x y v u _ I rx ry ⟨_,_,Rep.str.mp ra,Rep.str.mp rb,aM.refl H,Rep.bl.mpr rfl⟩
 .rename_i z ds;split at hi
  .rename_i ss e;cases hi;obtain⟨a,xs,rfl,l,rs⟩:=Rep.lst.mp rb;refine h1 pins s σ H x _ v u _ I rx ry ⟨a,xs,rfl, .inl l.sq,by rw[Rep.int.mp ra];rfl,by rw[fB rs e];exact uf _,aM.refl H,Rep.bl.mpr ?_⟩
   rw[fB rs e,Rep.int.mp ra,rX]
  .cases hi
 .rename_i z ds;split at hi
  .rename_i ss e;cases hi;obtain⟨a,xs,rfl,l,rs⟩:=Rep.tup.mp rb;refine h1 pins s σ H x _ v u _ I rx ry ⟨a,xs,rfl, .inr l.sq,by rw[Rep.int.mp ra];rfl,by rw[fB rs e];exact uf _,aM.refl H,Rep.bl.mpr ?_⟩
   rw[fB rs e,Rep.int.mp ra,rX]
  .cases hi
 .cases hi
theorem yi:lA X (compareOp .In) yK:=Dw (neg:=false) BI Bb fun d e r h=>by
 obtain⟨b,h1,h2⟩:=R.af h;cases h2;exact⟨b,h1,rfl⟩
theorem vt:lA X (compareOp .NotIn) ny:=Dw (neg:=true) vK vy fun d e r h=>by
 obtain⟨b,h1,h2⟩:=R.af h;cases h2;exact⟨b,h1,rfl⟩
def cW(d e:D):R D:=match d,e with
 | .lst ds, .int i=>(match uF ds i with | some x=> .ok x | none=> .no)
 | .tup ds, .int i=>(match uF ds i with | some x=> .ok x | none=> .no)
 | .str x, .int i=>R.aS (decide (x.length<=sizeLine)) (match uF x.cps.toList i with | some c=> .ok (.str ⟨#[c]⟩) | none=> .no)
 | _,_=> .no
theorem xl{K:W.Frag}{B:List Addr}{ds:List D}{xs:List V}{i:Int}{d:D}(r:az K B H ds xs)(h:uF ds i=some d):∃x,uF xs i=some x/\Rep K B H d x:=by
 unfold uF at h ⊢;rw[<-r.length];cases e:Bk ds.length i with
 | none=>rw [e] at h;cases h
 | some j=>
   rw[e] at h;exact r.get h
theorem Nd(ha:PD X a fa)(hb:PD X b fb)(hs:uV b):PD X (.Subscript a b pos) (e2 cW fa fb):=by
 refine(Ni (r:=Tz X.K) Lj ha hb hs).imp fun σ H Q ⟨Z,B,δ,d,E,hf,q⟩=>?_
 obtain⟨d1,h1,h2⟩:=R.af hf;obtain⟨d2,h3,h4⟩:=R.af h2;refine⟨Z,B,δ,d1,E,h1,fun v1 H1 s1 r1=>⟨Z,B,δ,d2,E.same s1,h3,fun v2 H2 s2 r2=>?_⟩⟩
 have sQ:=r1.same s2;unfold cW at h4;split at h4
 .split at h4
  .rename_i e;cases h4;obtain⟨p,xs,rfl,l,rs⟩:=Rep.lst.mp sQ;obtain⟨y,e1,e2⟩:=xl rs e;exact .inl ⟨p,xs,_,y,rfl,Rep.int.mp r2,l.sq,e1,q y H2 (s1.trans s2) e2⟩
  .cases h4
 .split at h4
  .rename_i e;cases h4;obtain⟨p,xs,rfl,l,rs⟩:=Rep.tup.mp sQ;obtain⟨y,e1,e2⟩:=xl rs e;exact .inr (.inl ⟨p,xs,_,y,rfl,Rep.int.mp r2,l.sq,e1,q y H2 (s1.trans s2) e2⟩)
  .cases h4
 .obtain⟨hl,h5⟩:=R.aN h4;split at h5
  .rename_i e;cases h5;exact .inr (.inr ⟨_,_,_,Rep.str.mp sQ,Rep.int.mp r2,of_decide_eq_true hl,e,q _ H2 (s1.trans s2) (Rep.str.mpr rfl)⟩)
  .cases h5
 .cases h4
abbrev FO:=ao->R (Option Int)
def Wq(K:W.Frag)(f:FO):TO:=fun σ H Q=>∃Z B δ o,c6 K Z B H σ δ/\f δ= .ok o/\∀H',aM H H'->Q o H'
theorem PO.imp{X:Cx}{e:Option Expr}{t t':TO}(h:PO X e t)(w:∀σ H Q,t' σ H Q->t σ H Q):PO X e t':=fun pins s σ H Q I hq=>h pins s σ H Q I (w σ H Q hq)
abbrev PP(X:Cx)(e:Option Expr)(f:FO):Prop:=PO X e (Wq X.K f)
def kf:FO:=fun _=> .ok none
def ie(f:FD):FO:=fun δ=>(f δ).bind fun d=>match d with | .int i=> .ok (some i) | _=> .no
theorem G3:PP X none kf:=Gn.imp fun σ H Q ⟨Z,B,δ,o,E,hf,q⟩=>by cases hf;exact q H (aM.refl H)
theorem Hm(h:PD X e f):PP X (some e) (ie f):=(Hu h).imp fun σ H Q ⟨Z,B,δ,o,E,hf,q⟩=>by
 obtain⟨d,h1,h2⟩:=R.af hf;cases d with
 | int i=>cases h2;exact⟨Z,B,δ, .int i,E,h1,fun v H1 s1 r1=>⟨i,Rep.int.mp r1,q H1 s1⟩⟩
 | _=>cases h2
theorem Lu:HP X (fun x lo hi H Q=>∃z,x= .str z/\z.length<=sizeLine/\Q (.str (Txt.slice z lo hi)) H):=by
 intro pins s σ H x v vl vu lo hi sl Q I rx hs pl pu h;obtain⟨z,rfl,hz,q⟩:=h;obtain⟨t,rfl⟩:=rx;refine⟨"str",_,F.slot_str_getitem.lookup,typeIs_str _ _ _,?_⟩;have fin:∀t' k,EP X pins σ Q (.str (Txt.slice z lo hi) t') {s with toks:=k}:=fun t' k=>⟨.str _,H,I.tok _,⟨_,rfl⟩,q⟩
 obtain⟨o,ho,hc,hd⟩:=hs;cases pl with
 | none=>
   cases pu with
   | none=>exact wpAny_getItem_str_slice (l:=none) (u:=none) (st:=none) ⟨o,ho,hc,hd⟩ rfl (post_val_or_str ⟨Nat.le_trans (Txt.slice_le z _ _) hz,fin⟩)
   | int j u=>exact wpAny_getItem_str_slice (l:=none) (u:=some (j,u)) (st:=none) ⟨o,ho,hc,hd⟩ rfl (post_val_or_str ⟨Nat.le_trans (Txt.slice_le z _ _) hz,fin⟩)
 | int i t1=>
   cases pu with
   | none=>exact wpAny_getItem_str_slice (l:=some (i,t1)) (u:=none) (st:=none) ⟨o,ho,hc,hd⟩ rfl (post_val_or_str ⟨Nat.le_trans (Txt.slice_le z _ _) hz,fin⟩)
   | int j u=>exact wpAny_getItem_str_slice (l:=some (i,t1)) (u:=some (j,u)) (st:=none) ⟨o,ho,hc,hd⟩ rfl (post_val_or_str ⟨Nat.le_trans (Txt.slice_le z _ _) hz,fin⟩)
def cutD{α:Type}(xs:List α)(lo hi:Option Int):List α:=(xs.drop (HT.et xs.length 0 lo)).take (HT.et xs.length xs.length hi - HT.et xs.length 0 lo)
def IA(d:D)(lo hi:Option Int):R D:=match d with
 | .str x=>R.aS (decide (x.length<=sizeLine)) (.ok (.str (Txt.slice x lo hi)))
 | .lst ds=> .ok (.lst (cutD ds lo hi))
 | _=> .no
theorem wL{K:W.Frag}{B:List Addr}{ds:List D}{xs:List V}(r:az K B H ds xs)(lo hi:Option Int):az K B H (cutD ds lo hi) (xy xs lo hi):=by
 unfold cutD xy;rw[<-r.length];exact(r.drop _).take _
def BF(f:FD)(fl fh:FO):FD:=fun δ=>(f δ).bind fun d=>(fl δ).bind fun lo=>(fh δ).bind fun hi=>IA d lo hi
theorem Ob{lo hi:Option Expr}{fl fh:FO}(he:PD X e f)(hl:PP X lo fl)(hh:PP X hi fh):PD X (.Subscript e (.Slice lo hi none p2) pos) (BF f fl fh):=by
 refine(xN (Lu.or H_) he hl hh).imp fun σ H Q ⟨Z,B,δ,d,E,hf,q⟩=>?_
 obtain⟨d1,h1,h2⟩:=R.af hf;obtain⟨l,h3,h4⟩:=R.af h2;obtain⟨h,h5,h6⟩:=R.af h4;refine⟨Z,B,δ,d1,E,h1,fun v1 H1 s1 r1=>⟨Z,B,δ,l,E.same s1,h3,fun H2 s2=>⟨Z,B,δ,h,(E.same s1).same s2,h5,fun H3 s3=>?_⟩⟩⟩
 have sA:aM H H3:=s1.trans (s2.trans s3);have sQ:=r1.same (s2.trans s3);unfold IA at h6;split at h6
 .obtain⟨hz,h7⟩:=R.aN h6;cases h7;exact .inl ⟨_,Rep.str.mp sQ,of_decide_eq_true hz,q _ H3 sA (Rep.str.mpr rfl)⟩
 .cases h6;obtain⟨a,xs,rfl,ls,rs⟩:=Rep.lst.mp sQ;refine .inr ⟨a,xs,rfl,ls.sq,fun p hp=>q _ _ (sA.trans (ba hp)) (Rep.lst.mpr ⟨p,_,rfl, .CM aX fun ha=>?_,(wL rs l h).same (ba hp)⟩)⟩
  obtain⟨o,ho⟩:=(E.same sA).bs p ha;rw[hp] at ho;cases ho
 .cases h6
end
end L2
end
section
namespace L2
open PySem PySem.Spec PyProof.Rows
section
variable {X:Cx}
theorem az.one{K:W.Frag}{B:List Addr}{d:D}{xs:List V}(h:az K B H [d] xs):∃x,xs=[x]/\Rep K B H d x:=by
 obtain⟨x,r,rfl,h1,h2⟩:=h.bR;unfold az at h2;subst h2;exact⟨x,rfl,h1⟩
theorem az.two{K:W.Frag}{B:List Addr}{d e:D}{xs:List V}(h:az K B H [d,e] xs):∃x y,xs=[x,y]/\Rep K B H d x/\Rep K B H e y:=by
 obtain⟨x,r,rfl,h1,h2⟩:=h.bR;obtain⟨y,rfl,h3⟩:=h2.one;exact⟨x,y,rfl,h1,h3⟩
def gr:List D->R D
 | [.str x]=>R.aS (decide (x.length<=sizeLine)) (.ok (.int x.length))
 | [.lst ds]=> .ok (.int ds.length)
 | [.tup ds]=> .ok (.int ds.length)
 | _=> .no
theorem fP:cX X (.builtin "len") gr:=cX.of Dk fun B H ds d xs Q _ rs hg q=>by
 unfold gr at hg;split at hg
 .obtain⟨h1,h2⟩:=R.aN hg;cases h2;obtain⟨x,rfl,r⟩:=rs.one;exact⟨x,_,rfl,by rw[Rep.str.mp r];exact⟨of_decide_eq_true h1,rfl⟩,q _ H (aM.refl H) (Rep.int.mpr rfl)⟩
 .cases hg;obtain⟨x,rfl,r⟩:=rs.one;obtain⟨a,ys,rfl,l,r⟩:=Rep.lst.mp r;exact⟨_,_,rfl, .inl ⟨ys,l.sq,rfl⟩,q _ H (aM.refl H) (Rep.int.mpr (by rw[r.length]))⟩
 .cases hg;obtain⟨x,rfl,r⟩:=rs.one;obtain⟨a,ys,rfl,l,r⟩:=Rep.tup.mp r;exact⟨_,_,rfl, .inr ⟨ys,l.sq,rfl⟩,q _ H (aM.refl H) (Rep.int.mpr (by rw[r.length]))⟩
 .cases hg
def cInt:List D->R D
 | [.int i]=> .ok (.int i)
 | [.bl b]=> .ok (.int (if b then 1 else 0))
 | _=> .no
theorem MI:cX X (.type "int") cInt:=cX.of BM fun B H ds d xs Q _ rs hg q=>by
 unfold cInt at hg;split at hg
 .cases hg;obtain⟨x,rfl,r⟩:=rs.one;exact .inl ⟨_,by rw[Rep.int.mp r],q _ H (aM.refl H) (Rep.int.mpr rfl)⟩
 .cases hg;obtain⟨x,rfl,r⟩:=rs.one;exact .inr ⟨_,by rw[Rep.bl.mp r],q _ H (aM.refl H) (Rep.int.mpr rfl)⟩
 .cases hg
def cStr:List D->R D
 | [.int i]=>R.aS (decide (i.natAbs.log2 < 1920)) (.ok (.str (toString i)))
 | _=> .no
def Dx:List D->R D
 | [.int i, .int j]=> .ok (.int (if j < i then j else i))
 | _=> .no
theorem NN(hc:X.calm=true):cX X (.builtin "min") Dx:=cX.of (Bi hc) fun B H ds d xs Q _ rs hg q=>by
 unfold Dx at hg;split at hg
 .cases hg;obtain⟨x,y,rfl,r1,r2⟩:=rs.two;exact⟨_,_,by rw[Rep.int.mp r1,Rep.int.mp r2],q _ H (aM.refl H) (Rep.int.mpr rfl)⟩
 .cases hg
def Qy:List D->R D
 | [.int i, .int j]=> .ok (.int (if j > i then j else i))
 | _=> .no
def uP:List D->R D
 | [.lst ds]=> .ok (.tup ds)
 | [.tup ds]=> .ok (.tup ds)
 | _=> .no
theorem Am:cX X (.type "tuple") uP:=cX.of tq fun B H ds d xs Q hb rs hg q=>by
 unfold uP at hg;split at hg
 .cases hg;obtain⟨x,rfl,r⟩:=rs.one;obtain⟨a,ys,rfl,l,r⟩:=Rep.lst.mp r;refine⟨a,ys,rfl, .inl ⟨l.sq,fun p hp=>q _ _ (ba hp) (Rep.tup.mpr ⟨p,ys,rfl, .inl ⟨fun ha=>?_, .inl aX⟩,r.same (ba hp)⟩)⟩⟩
  obtain⟨o,ho⟩:=hb p ha;rw[hp] at ho;cases ho
 .cases hg;obtain⟨x,rfl,r⟩:=rs.one;have r0:=r;obtain⟨a,ys,rfl,l,r⟩:=Rep.tup.mp r;exact⟨a,ys,rfl, .inr ⟨l.sq,q _ H (aM.refl H) r0⟩⟩
 .cases hg
def Tj:List D->R D
 | [.lst ds]=> .ok (.lst ds)
 | [.tup ds]=> .ok (.lst ds)
 | _=> .no
def cAbs:List D->R D
 | [.int i]=> .ok (.int (if i < 0 then -i else i))
 | _=> .no
def Kw:List D->R D
 | [.lst ds]=>(match ints? ds with | some ns=> .ok (.int ns.sum) | none=> .no)
 | _=> .no
theorem hU:∀{ns:List Int} {us:List Value},Vals (ns.map V.int) us->∃l:List (Int × Tok),us=l.map (fun p=>Value.int p.1 p.2)/\l.map (·.1)=ns
 | [],_, .nil=>⟨[],rfl,rfl⟩
 | n ::ns,_, .cons r t=>by
   obtain⟨l,rfl,e⟩:=hU t;obtain⟨tk,rfl⟩:=r;exact⟨(n,tk) ::l,rfl,by rw[List.map_cons,e]⟩
theorem M0(hc:X.calm=true):cX X (.builtin "sum") Kw:=by
 intro pins s σ H B ds d xs us I hb rx rs hg;unfold Kw at hg;split at hg
 .split at hg
  .rename_i es ns e;cases hg;obtain⟨x,rfl,r⟩:=rs.one;obtain⟨a,ys,rfl,l,r⟩:=Rep.lst.mp r;obtain⟨u,rfl,ru⟩:=vals1 rx;cases ru;obtain⟨its,n,rv,e1,hz⟩:=I.Jd l;rw[fB r e] at rv;obtain⟨ps,rfl,rfl⟩:=hU rv;have hl:s.heap.IsList a (intItems ps.toArray):=⟨_,e1,rfl,n,by simp [intItems]⟩
   refine sum_intListG (I.ok.hd hc) hl fun h' tk t' k=>⟨.int _,H,I.kept k,⟨t',rfl⟩,aM.refl H,Rep.int.mpr ?_⟩
   rw[preSum_eq,List.take_of_length_le (by simp)]
  .cases hg
 .cases hg
def tyName:D->String
 | .cJ=>"NoneType" | .bl _=>"bool" | .int _=>"int" | .str _=>"str" | .lst _=>"list" | .tup _=>"tuple" | .dct _ _=>"dict"
def Wn(T:String)(f:FD):FD:=fun δ=>(f δ).bind fun d=>R.aS (tyName d==T && d.atom) (.ok (.bl true))
def Mw(X:Cx)(id:String)(g:D->List D->R D):Prop:=
 ∀(pins:YB) (s:Shared) (σ:St) (H:Hp) (B:List Addr) (da d:D) (ds:List D) (x:V) (xs:List V) (v:Value) (us:List Value),Inv X pins σ H s->(∀a∈B,∃o,H a=some o)->RelV x v->Vals xs us->Rep X.K B H da x->az X.K B H ds xs->g da ds= .ok d->
  wpAny (model X.prog X.w) X.A (call (.builtin id) (v ::us)) (EP X pins σ fun z H'=>aM H H'/\Rep X.K B H' d z) X.xe s
def zc(T:String)(g:D->List D->R D)(f:FD)(fs:ao->R (List D)):FD:=fun δ=>(f δ).bind fun d=>R.aS (tyName d==T && (d.atom || T=="list")) ((fs δ).bind fun ds=>g d ds)
theorem Mw.r{id:String}{g:D->List D->R D}(h:Mw X id g):Tt X id (fun x xs H Q=>∃B da ds d,(∀a∈B,∃o,H a=some o)/\Rep X.K B H da x/\az X.K B H ds xs/\g da ds= .ok d/\∀z H',aM H H'->Rep X.K B H' d z->Q z H'):=by
 intro pins s σ H x xs v us Q I rx rxs ⟨B,da,ds,d,hb,ra,rs,hg,q⟩;exact cE (h pins s σ H B da d ds x xs v us I hb rx rxs ra rs hg) fun z s' ⟨zv,H',I',r',s1,r1⟩=>⟨zv,H',I',r',q zv H' s1 r1⟩
theorem DM{T id:String}{name:Str}{g:D->List D->R D}{o e:Expr}{es:List Expr}{f:FD}{fs:ao->R (List D)}{apos a_:Pos}(pa:PlainAttrs T)(slot:Slot T name id)(Ga:typeOf (.builtin id)=pure (.type "method_descriptor"))(hm:Mw X id g)(ho:PD X o f)(ha:Cv X (e ::es) fs)
 (hT:T="str"\/T="int"\/T="list")
 (en:attributeBase o name X.env (eval o X.env)=eval o X.env:=by rfl)
 (jo:((backTo a_ (starEach (e ::es) X.env)).all (fun x=>!x.1) && (backToKw a_ (keywordEach [] X.env)).all (fun x=>x.1.isSome)
   && decide ((e ::es).length+([]:List Keyword).length+(if([]:List Keyword).isEmpty then 0 else 1) < 30))=true:=by rfl)
 (eh:(apos.endLine==a_.line)=true:=by rfl) (hs:starEach (e ::es) X.env=(false,eval e X.env) ::starEach es X.env:=by rfl) (zM:(backTo a_ (starEach es X.env)).any (·.1)=false:=by rfl) :
 PD X (.Call (.Attribute o name apos) (e ::es) [] a_) (zc T g f fs):=by
 refine(wR pa slot Ga hm.r ho ha en jo eh hs zM).imp fun σ H Q ⟨Z,B,δ,d,E,hf,q⟩=>?_
 obtain⟨d1,h1,h2⟩:=R.af hf;obtain⟨h3,h4⟩:=R.aN h2;obtain⟨ds,h5,h6⟩:=R.af h4;obtain⟨h7,h8⟩:=Bool.and_eq_true_iff.mp h3;have h7:tyName d1=T:=by simpa using h7
 refine⟨Z,B,δ,d1,E,h1,fun v1 H1 s1 r1=>⟨?_,Z,B,δ,ds,E.same s1,h5,fun vs H2 s2 r2=>⟨B,d1,ds,d,(E.same (s1.trans s2)).bs,r1.same s2,r2,h6,fun z H' s3 r3=>q z H' (s1.trans (s2.trans s3)) r3⟩⟩⟩
 cases d1 with
 | str z=>rw [Rep.str.mp r1];exact h7.symm
 | int i=>rw [Rep.int.mp r1];exact h7.symm
 | lst es=>obtain⟨a,xs,rfl,l,_⟩:=Rep.lst.mp r1;exact .inl ⟨h7.symm,xs,l.sq⟩
 | cJ=>rcases hT with z | z | z <;> (rw [z] at h7;exact absurd (show("NoneType":String)=_ from h7) (by decide))
 | bl _=>rcases hT with z | z | z <;> (rw [z] at h7;exact absurd (show("bool":String)=_ from h7) (by decide))
 | tup _=>rcases hT with z | z | z <;> (rw [z] at h7;exact absurd (show("tuple":String)=_ from h7) (by decide))
 | dct _ _=>rcases hT with z | z | z <;> (rw [z] at h7;exact absurd (show("dict":String)=_ from h7) (by decide))
theorem t8:∀{ss:List Str} {us:List Value},Vals (ss.map V.str) us->∃l:List (Str × Tok),us=strValues l/\l.map (·.1)=ss
 | [],_, .nil=>⟨[],rfl,rfl⟩
 | n ::ns,_, .cons r t=>by
   obtain⟨l,rfl,e⟩:=t8 t;obtain⟨tk,rfl⟩:=r;exact⟨(n,tk) ::l,rfl,by rw[List.map_cons,e]⟩
def j0(d:D)(ds:List D):R D:=match d,ds with
 | .str sep,[.lst es]=>(match strs? es with | some ss=>R.aS (JoinOk sep ss) (.ok (.str (Str.join sep ss))) | none=> .no)
 | _,_=> .no
theorem Lb:Mw X "str.join" j0:=by
 intro pins s σ H B da d ds x xs v us I hb rx rxs ra rs hg;unfold j0 at hg;split at hg
 .split at hg
  .rename_i sep es ss e;obtain⟨h1,h2⟩:=R.aN hg;cases h2;rw[Rep.str.mp ra] at rx;obtain⟨t,rfl⟩:=rx;obtain⟨y,rfl,r⟩:=rs.one;obtain⟨a,ys,rfl,l,r⟩:=Rep.lst.mp r;obtain⟨u,rfl,ru⟩:=vals1 rxs;cases ru;obtain⟨its,n,rv,e1,hz⟩:=I.Jd l;rw[i3 r e] at rv;obtain⟨ps,rfl,rfl⟩:=t8 rv;refine SC.join (D:=a) (l:=ps) ⟨_,e1,rfl,n,rfl⟩ rfl h1 fun t' k=>⟨.str _,H,I.tok _,⟨t',rfl⟩,aM.refl H,Rep.str.mpr ?_⟩
   rw[<-StrLaws.glued_eq_join];rfl
  .cases hg
 .cases hg
theorem Hw{o e:Expr}{f:FD}{fs:ao->R (List D)}{apos a_:Pos}(ho:PD X o f)(ha:Cv X [e] fs)
 (en:attributeBase o "join" X.env (eval o X.env)=eval o X.env:=by rfl)
 (jo:((backTo a_ (starEach [e] X.env)).all (fun x=>!x.1) && (backToKw a_ (keywordEach [] X.env)).all (fun x=>x.1.isSome)
   && decide (([e]:List Expr).length+([]:List Keyword).length+(if([]:List Keyword).isEmpty then 0 else 1) < 30))=true:=by rfl)
 (eh:(apos.endLine==a_.line)=true:=by rfl) (hs:starEach [e] X.env=(false,eval e X.env) ::starEach [] X.env:=by rfl) :
 PD X (.Call (.Attribute o "join" apos) [e] [] a_) (zc "str" j0 f fs):=DM F.plainAttrs_str F.slot_str_join F.type_str_join Lb ho ha (.inl rfl) en jo eh hs
abbrev PJ(X:Cx)(es:List Expr)(f:ao->R (List Str)):Prop:=
 ∀(pins:YB) (s:Shared) (σ:St) (H:Hp) (Z B:List Addr) (δ:ao) (acc:Str) (ss:List Str) (Q:VK),Inv X pins σ H s->c6 X.K Z B H σ δ->f δ= .ok ss->(ss.foldl (·++·) acc).length<=sizeLine->(∀H',aM H H'->Q (.str (ss.foldl (·++·) acc)) H')->
  wpAny (model X.prog X.w) X.A (joinParts acc (evalEach es X.env)) (EP X pins σ Q) X.xe s
theorem tL:∀(ss:List Str) (acc:Str),acc.length<=(ss.foldl (·++·) acc).length
 | [],acc=>Nat.le_refl _
 | s ::ss,acc=>Nat.le_trans (by rw[Str.length_append];exact Nat.le_add_right _ _) (tL ss (acc++s))
def lE:ao->R (List Str):=fun _=> .ok []
def bu(f:FD)(g:ao->R (List Str)):ao->R (List Str):=fun δ=>(f δ).bind fun d=>match d with | .str x=>(g δ).bind fun ss=> .ok (x ::ss) | _=> .no
theorem JR:PJ X [] lE:=by
 intro pins s σ H Z B δ acc ss Q I E hf hl q;cases hf;exact joinParts_nil ⟨.str _,H,I.tok _,⟨_,rfl⟩,q H (aM.refl H)⟩ hl
theorem G4{g:ao->R (List Str)}(he:PD X e f)(hr:PJ X es g)(Rr:evalEach (e ::es) X.env=eval e X.env ::evalEach es X.env:=by rfl):PJ X (e ::es) (bu f g):=by
 intro pins s σ H Z B δ acc ss Q I E hf hl q;rw[Rr];obtain⟨d,h1,h2⟩:=R.af hf;cases d with
 | str x=>
   obtain⟨UH,h3,h4⟩:=R.af h2;cases h4;refine joinParts_cons (cE (he pins s σ H (fun v H'=>aM H H'/\v= .str x) I ⟨Z,B,δ, .str x,E,h1,fun v H' s1 r1=>⟨s1,Rep.str.mp r1⟩⟩) fun v s1 ⟨xv,H1,I1,r1,L5,e1⟩=>?_)
   subst e1;obtain⟨t,rfl⟩:=r1;exact⟨Nat.le_trans (tL UH (acc++x)) hl,hr pins s1 σ H1 Z B δ (acc++x) UH Q I1 (E.same L5) h3 hl fun H' s2=>q H' (L5.trans s2)⟩
 | _=>cases h2
def cD(g:ao->R (List Str)):FD:=fun δ=>(g δ).bind fun ss=>R.aS (decide ((ss.foldl (·++·) Str.empty).length<=sizeLine)) (.ok (.str (ss.foldl (·++·) Str.empty)))
theorem BY{rest:List Expr}{g:ao->R (List Str)}(h:PJ X (FR ::FI ::rest) g):PD X (.JoinedStr (FR ::FI ::rest) pos) (cD g):=by
 intro pins s σ H Q I ⟨Z,B,δ,d,E,hf,q⟩;obtain⟨ss,h1,h2⟩:=R.af hf;obtain⟨h3,h4⟩:=R.aN h2;cases h4;rw[arm_eval_JoinedStr];exact h pins s σ H Z B δ Str.empty ss Q I E h1 (of_decide_eq_true h3) fun H' s1=>q _ H' s1 (Rep.str.mpr rfl)
def Gy:D->R D
 | .str x=>R.aS (decide (x.length<=sizeLine)) (.ok (.str x))
 | .int i=>R.aS (decide (i.natAbs.log2 < 1920)) (.ok (.str (toString i)))
 | _=> .no
def iV(f:FD):FD:=fun δ=>(f δ).bind Gy
theorem KN(h:PD X e f):PD X (.FormattedValue e (-1) none pos) (iV f):=by
 intro pins s σ H Q I ⟨Z,B,δ,d,E,hf,q⟩;obtain⟨d1,h1,h2⟩:=R.af hf;refine FormattedValue_plain (cE (h pins s σ H (fun v H'=>aM H H'/\Rep X.K B H' d1 v) I ⟨Z,B,δ,d1,E,h1,fun v H' s1 r1=>⟨s1,r1⟩⟩) fun v s1 ⟨xv,H1,I1,r1,L5,e1⟩=>?_)
 unfold Gy at h2;split at h2
 .obtain⟨h3,h4⟩:=R.aN h2;cases h4;rw[Rep.str.mp e1] at r1;obtain⟨t,rfl⟩:=r1;exact formatField_str (fun t' tk=>⟨.str _,H1,I1.tok _,⟨_,rfl⟩,q _ H1 L5 (Rep.str.mpr rfl)⟩) (of_decide_eq_true h3)
 .obtain⟨h3,h4⟩:=R.aN h2;cases h4;rw[Rep.int.mp e1] at r1;obtain⟨t,rfl⟩:=r1;exact formatField_int_small (of_decide_eq_true h3) ⟨.str _,H1,I1.tok _,⟨_,rfl⟩,q _ H1 L5 (Rep.str.mpr rfl)⟩
 .cases h2
def NZ:List (D × D)->Str->R (Option D)
 | [],_=> .ok none
 | (.str y,d) ::r,x=>(NZ r x).bind fun o=> .ok (match o with | some e=>some e | none=>if y=x then some d else none)
 | _ ::_,_=> .no
def AG(x:Str):List D:=x.cps.toList.map fun c=> .str ⟨#[c]⟩
def Vg(x:Str):It:=⟨fun i _=>i < x.cps.size,fun i H v H'=>H'=H/\∃c,x.cps[i]? =some c/\v= .str ⟨#[c]⟩,fun i _=>x.cps.size<=i⟩
theorem Em{K:W.Frag}(it:Addr)(x:Str)(t:Tok)(ty:String)(Ga:ty="str_ascii_iterator"\/ty="str_iterator"):Turn P w K tg (Vg x) [it] it (fun i h=>h.IsStrIter it ty x t i/\i<=x.cps.size) where
 mem:=by simp
 obj:=fun i h st b hb=>by
  have e:b=it:=by simpa using hb
  subst e;obtain⟨o,e,c,d⟩:=st.1;exact⟨o,e,fun v z=>by rw[d] at z;cases z⟩
 keep:=fun i h h' st k=>⟨let⟨o,ho,r⟩:=st.1;⟨o,k it (by simp) o ho,r⟩,st.2⟩
 item:=by
  intro X hP hw hK hc i pins s σ H E I hf st hg;subst hP hw hK;obtain⟨f0,f1,f2,f3,f4,f5⟩:=hf it (by simp)
  have W:Walks X.prog X.w X.A it [it] [it] x.cps.size (SignAt x) (fun i h=>h.IsStrIter it ty x t i):=by
   rcases Ga with rfl | rfl
   .exact Walks.strAscii (I.ok.hd hc) it x t
   .exact Walks.strWide (I.ok.hd hc) it x t
  refine W.item i s _ _ hg st.1 fun v h' tk hv FH kk=>?_
  obtain⟨c,u,e1,rfl⟩:=hv;have I1:Inv X pins σ H {s with heap:=h',toks:=tk}:=I.turned (fun b o hb e=>kk b o (by simpa using hb) e) f0 f1 f3 f4 f5
  obtain⟨o,e,cl,d⟩:=id FH;refine⟨_,rfl,Ar (s:={s with heap:=h',toks:=tk}) (n:=ty) e cl d ?_ ⟨.str ⟨#[c]⟩,H,I1,⟨u,rfl⟩,⟨rfl,c,e1,rfl⟩,⟨FH,hg⟩,fun b hb=>(hf b hb).1⟩⟩
  rcases Ga with rfl | rfl <;> decide
 done:=by
  intro X hP hw hK hc i pins s σ H E I hf st hg;subst hP hw hK;obtain⟨f0,f1,f2,f3,f4,f5⟩:=hf it (by simp)
  have W:Walks X.prog X.w X.A it [it] [it] x.cps.size (SignAt x) (fun i h=>h.IsStrIter it ty x t i):=by
   rcases Ga with rfl | rfl
   .exact Walks.strAscii (I.ok.hd hc) it x t
   .exact Walks.strWide (I.ok.hd hc) it x t
  have e:i=x.cps.size:=Nat.le_antisymm st.2 hg;exact W.done s _ _ (e▸st.1) fun h' tk kk=>⟨rfl,I.turned (fun b o hb e=>kk b o (by simpa using hb) e) f0 f1 f3 f4 f5⟩
 self:=fun A i s Q E st h=>by
  rcases Ga with rfl | rfl
  .exact wpAny_pyIter_striter_ascii st.1 h
  .exact wpAny_pyIter_striter_wide st.1 h
def DN(f:FD):ao->R (List D):=fun δ=>(f δ).bind fun d=>match d with | .str x=> .ok (AG x) | _=> .no
theorem Ic(h:PD X e f):IE X tg e (DN f):=by
 intro pins s σ H RR I ⟨Z,B,δ,ds,E,hf,q⟩;obtain⟨d,h1,h2⟩:=R.af hf;refine cE (h pins s σ H (fun v H1=>aM H H1/\Rep X.K B H1 d v) I ⟨Z,B,δ,d,E,h1,fun v H1 s1 r1=>⟨s1,r1⟩⟩) fun v s1 ⟨x,H1,I1,r1,ss,rr⟩=>?_
 cases d with
 | str z=>
   cases h2;rw[Rep.str.mp rr] at r1;obtain⟨t,rfl⟩:=r1;refine wpAny_pyIter_strU ?_;have Ga:strIterType z="str_ascii_iterator"\/strIterType z="str_iterator":=by
    unfold strIterType;split
    .exact .inl rfl
    .exact .inr rfl
   refine⟨s1.heap.objs.size,[s1.heap.objs.size],_,_,H1,rfl,I1.kept (t':=s1.toks) fun b o e=>Heap.get?_push_of_some _ e,Em _ z t (strIterType z) Ga,⟨⟨_,Heap.get?_push_size _ rfl,rfl,rfl⟩,Nat.zero_le _⟩,fun b hb=>?_,q _ H1 ss fun B' H' pr=>?_⟩
   .have e:b=s1.heap.objs.size:=by simpa using hb
    subst e;exact I1.yg (Nat.le_refl _) (I1.hok.fresh (Nat.le_refl _))
   .refine⟨fun i d hd=>?_,?_⟩
    .unfold AG at hd;rw[List.getElem?_map] at hd;cases e:z.cps.toList[i]? with
     | none=>rw [e] at hd;cases hd
     | some c=>
       rw[e] at hd;cases hd;have e':z.cps[i]? =some c:=by simpa using e
       exact⟨(Array.getElem?_eq_some_iff.mp e').1,fun x nc ⟨e1,c',e2,e3⟩ _=>by
        subst e1;rw[e'] at e2;cases e2;exact⟨aM.refl _,Rep.str.mpr e3⟩⟩
    .show z.cps.size<=(AG z).length;unfold AG;simp
 | _=>cases h2
def U7(K:W.Frag)(a:Addr):It:=
 ⟨fun i H=>∃xs x,lj K H a xs/\xs[i]? =some x,fun i H v H'=>∃p x,H p=none/\v= .ref p/\(∀xs,lj K H a xs->xs[i]? =some x)/\H'=upd H p (.tup [.int i,x]),fun i H=>∃xs,lj K H a xs/\xs.length<=i⟩
theorem BX{K:W.Frag}{k:Nat}(a e it:Addr)(UC:e≠it):Turn P w K (.Tuple elts k pos) (U7 K a) [e,it] e (fun i h=>(∃old,IsEnum h e it ((i:Nat):Int) old)/\h.IsListIter it a i) where
 mem:=by simp
 obj:=fun i h st b hb=>by
  obtain⟨⟨old,he⟩,o,ho,c,d⟩:=st;rcases List.mem_cons.mp hb with rfl | hb
  .exact⟨_,he,fun v z=>by cases z⟩
  .have e:b=it:=by simpa using hb
   subst e;exact⟨o,ho,fun v z=>by rw[d] at z;cases z⟩
 keep:=fun i h h' st k=>by
  obtain⟨⟨old,he⟩,hi⟩:=st;exact⟨⟨old,k e (by simp) _ he⟩,hi.at fun o x=>k it (by simp) o x⟩
 item:=by
  intro X hP hw hK hc i pins s σ H E I hf st hg;subst hP hw hK;obtain⟨xs,x,hq,hx⟩:=hg;obtain⟨its,rv,p,hz⟩:=I.list hq;obtain⟨u,hu,ru⟩:=rv.get hx;obtain⟨⟨old,he⟩,hit⟩:=st;obtain⟨f0,f1,f2,f3,f4,f5⟩:=hf e (by simp)
  obtain⟨g0,g1,g2,g3,g4,g5⟩:=hf it (by simp)
  refine wpAny_pyNext_enum_item he hit p.isList (x:=u) (by simpa using hu) UC fun lh Jv Mf OU UD OK=>⟨_,rfl,?_⟩
  refine wpAny_letOwnedTupleGo_enum Jv fun vL OC ya=>?_
  replace ya:Heap.SameBut e lh vL:=ya
  have hel:e < s.heap.objs.size:=Heap.lt_size he;have OG:vL.get? s.heap.objs.size=some {cls:= .type "tuple",data:= .seq #[.int i s.toks,u]}:=(ya.2 _ (Nat.ne_of_gt hel)).trans OU;have kk:∀b o,b≠e->b≠it->s.heap.get? b=some o->vL.get? b=some o:=fun b o h1 h2 q=>(ya.2 b h1).trans (OK b o h1 h2 q)
  have hn:H s.heap.objs.size=none:=I.fresh;have sm:aM H (upd H s.heap.objs.size (.tup [.int i,x])):=ba hn;have nit:∀b o,H b=some o->b≠e/\b≠it:=fun b o q=>⟨fun z=>(by rw[z,f0] at q;cases q),fun z=>(by rw[z,g0] at q;cases q)⟩
  have hok:mM X.prog X.w (upd H s.heap.objs.size (.tup [.int i,x])) vL:=fun b ob q=>by
   by_cases hb:b=s.heap.objs.size
   .subst hb;rw[aX] at q;cases q;exact⟨by show 2<=sizeLine;decide,[.int i s.toks,u], .cons ⟨_,rfl⟩ (.cons ru .nil),⟨_,OG,rfl,_,rfl⟩⟩
   .rw [bj hb] at q;refine(I.hok b ob q).yj (fun c v hc z=>?_) (fun c z=>sm c _ z) fun c ys z=>sm c _ z
    rcases hc with rfl | hc
    .exact kk c v (nit c _ q).1 (nit c _ q).2 z
    .exact kk c v (nit c _ hc).1 (nit c _ hc).2 z
  have nch:∀b,b ∉ [e,it]->b≠e/\b≠it:=fun b hb=>⟨fun z=>hb (by simp [z]),fun z=>hb (by simp [z])⟩
  have I2:Inv X pins σ (upd H s.heap.objs.size (.tup [.int i,x])) {s with heap:=vL,toks:=s.toks+1}:=by
   refine I.step (g':=s.gens) (d':=s.drawn) (ch:=[e,it]) (fun b hb=>?_) (fun b o _ _ hb q _=>kk b o (nch b hb).1 (nch b hb).2 q) (fun b o _ _ hb q _=>⟨o.slots,kk b o (nch b hb).1 (nch b hb).2 q⟩)
    (fun b o hb q n=>by rw[bj (Nat.ne_of_lt (Heap.lt_size q))];exact n) (fun b o hb q=>⟨o,kk b o (nch b hb).1 (nch b hb).2 q⟩) (fun b ys z=>sm b _ z) (fun b o u z=>sm b _ z) (fun b ps z=>⟨#[],by rw[sm b _ z];simp⟩) (fun m hm=>?_) hok I.bare
   .rcases List.mem_cons.mp hb with rfl | hb
    .exact⟨f3,f1,f4,f5⟩
    .have z:b=it:=by simpa using hb
     subst z;exact⟨g3,g1,g4,g5⟩
   .obtain⟨o,es,ep,ho,r⟩:=hm;exact⟨o,es,ep,kk _ o (Ne.symm f1) (Ne.symm g1) ho,r⟩
  refine⟨.ref s.heap.objs.size,_,I2,rfl,⟨s.heap.objs.size,x,hn,rfl,fun ys hy=>(by rw[I.xQ hy hq];exact hx),rfl⟩,⟨⟨_,by simpa using OC⟩,Mf.at fun o q=>(ya.2 it (Ne.symm UC)).trans q⟩,fun b hb=>?_⟩
  rcases List.mem_cons.mp hb with rfl | hb
  .rw [bj (Nat.ne_of_lt hel)];exact f0
  .have z:b=it:=by simpa using hb
   subst z;obtain⟨o,ho,_⟩:=hit;rw[bj (Nat.ne_of_lt (Heap.lt_size ho))];exact g0
 done:=by
  intro X hP hw hK hc i pins s σ H E I hf st hg;subst hP hw hK;obtain⟨xs,hq,hx⟩:=hg;obtain⟨its,rv,p,hz⟩:=I.list hq;obtain⟨⟨old,he⟩,hit⟩:=st;obtain⟨g0,g1,g2,g3,g4,g5⟩:=hf it (by simp)
  have hl:=rv.length;exact wpAny_pyNext_enum_end (I.ok.hd hc) he hit p.isList (by simp;omega) fun h' eb=>⟨rfl,I.turned (t':=s.toks) (fun b o hb q=>eb b o hb q) g0 g1 g3 g4 g5⟩
 self:=fun A i s Q E st h=>let⟨⟨_,he⟩,_⟩:=st;wpAny_pyIter_enum he h
def gq(ds:List D):List D:=ds.zipIdx.map fun p=> .tup [.int p.2,p.1]
def pF(f:FD):ao->R (List D):=fun δ=>(f δ).bind fun d=>match d with | .lst ds=> .ok (gq ds) | _=> .no
theorem DX{elts:List Expr}{k:Nat}{FK:Pos}{p pos:Pos}(h:PD X a f)(hg:Gl X "enumerate")(hm:X.mg "enumerate"=none)(hs:starEach [a] X.env=[(false,eval a X.env)]:=by rfl):IE X (.Tuple elts k FK) (.Call (.Name "enumerate" p) [a] [] pos) (pF f):=by
 intro pins s σ H RR I ⟨Z,B,δ,ds,E,hf,q⟩;obtain⟨d,h1,h2⟩:=R.af hf;have hA:=f_ h i9 hs pos pins s σ H (fun vs H1=>aM H H1/\∃v,vs=[v]/\Rep X.K B H1 d v) I ⟨Z,B,δ,d,E,h1,fun v H1 s1 r1=>⟨s1,v,rfl,r1⟩⟩
 refine Call_ (vG I hg hm boot_enumerate (PyProof.Rows.callWith_type1 (cE hA fun us s1 ⟨vs,H1,I1,r1,ss,v,ev,rr⟩=>?_) hs rfl))
 subst ev;obtain⟨u,rfl,ru⟩:=vals1 r1;cases d with
 | lst es=>
   cases h2;obtain⟨b,xs,rfl,l,rs⟩:=Rep.lst.mp rr;cases ru;obtain⟨its,n,rv,e1,hz⟩:=I1.Jd l;refine call_enumerate_list (items:=its.toArray) ⟨_,e1,rfl,n,rfl⟩ fun h' he hit hsz kk=>wpAny_pyIter_enum he ?_
   have I2:Inv X pins σ H1 {s1 with heap:=h'}:=I1.kept (t':=s1.toks) kk
   refine⟨s1.heap.objs.size+1,[s1.heap.objs.size+1,s1.heap.objs.size],_,_,H1,rfl,I2,BX b (s1.heap.objs.size+1) s1.heap.objs.size (Nat.succ_ne_self _),⟨⟨_,he⟩,hit⟩,fun c hc=>?_,q _ H1 ss fun B' H' pr=>?_⟩
   .have hle:s1.heap.objs.size<=c:=by
     rcases List.mem_cons.mp hc with z | hc
     .rw [z];exact Nat.le_succ _
     .have z:c=s1.heap.objs.size:=by simpa using hc
      rw[z];exact Nat.le_refl _
    exact I1.yg hle (I1.hok.fresh hle)
   .have l':tW X.K B' H' b xs:=l.bc pr;have rs':=rs.bc pr;refine⟨fun i d hd=>?_,⟨xs,l'.sq,by rw[<-rs.length];unfold gq;simp⟩⟩
    unfold gq at hd;rw[List.getElem?_map,List.getElem?_zipIdx] at hd;cases e:es[i]? with
    | none=>rw [e] at hd;cases hd
    | some d0=>
      rw[e] at hd;have hd:D.tup [.int ((0+i:Nat):Int),d0]=d:=Option.some.inj hd;rw[Nat.zero_add] at hd;obtain⟨x,hx,rx⟩:=rs'.get e;refine⟨⟨xs,x,l'.sq,hx⟩,fun v nc y Pm=>?_⟩
      obtain⟨p,y,hp,rfl,hy,rfl⟩:=y;refine⟨ba hp,?_⟩;subst hd;have hy2:=hy xs l'.sq;rw[hx] at hy2;cases hy2;refine Rep.tup.mpr ⟨p,_,rfl, .inl ⟨fun ha=>?_, .inl aX⟩,az.cons (Rep.int.mpr rfl) (az.cons (rx.same (ba hp)) az.nil)⟩
      obtain⟨o,ho⟩:=Pm p ha;rw[hp] at ho;cases ho
 | _=>cases h2
end
end L2
end
section
namespace L2
open PySem PySem.Spec PyProof.Rows
def Def(K:W.Frag)(mg:YG)(x:Str)(st:Stmt):Prop:=∃f fd,yt K x x st f fd/\mg x=some (.ref f)
def Callee(P:Program)(w:World)(K:W.Frag)(mg:YG)(base:Heap)(k:Nat)(x:Str)(n:Nat)(g:List D->R D):Prop:=
 ∃f fd ps,ig P w K mg base ur k f fd ps (F1 K n g)/\mg x=some (.ref f)/\PySem.W.keepIn K (.ref f)=true/\Binds K fd ps []
theorem aJ:∀(δ:ao) (ds:List D),aI δ= .ok ds->ds.length=0:=fun δ ds h=>by cases h;rfl
theorem ak{g:ao->R (List D)}{n:Nat}(h:∀(δ:ao) (ds:List D),g δ= .ok ds->ds.length=n):∀(δ:ao) (ds:List D),ai f g δ= .ok ds->ds.length=n+1:=fun δ ds e=>by
 obtain⟨d,h1,h2⟩:=R.af e;obtain⟨es,h3,h4⟩:=R.af h2;cases h4;rw[List.length_cons,h δ es h3]
theorem Ew{P:Program}{w:World}{K:W.Frag}{mg:YG}{base:Heap}{x qual:Str}{st:Stmt}{f:Addr}{fd:FuncData}{N ps:List Str}{k:Nat}{F:FS}{b:List Stmt}{sc:Scope}(hb:aO st=b)(hs:aF st=sc)(Fn:yt K x qual st f fd)(S:bb N ps sc)
 (jr:∀(dt:Value) (A:Around) (outer:List Env) (s:Shared) (H:Hp) (E:XK),dA k (A.deeper (envOfC qual sc s.heap.objs.size f dt))->
   pR (km ur P w K mg base N qual sc f dt A outer s H E).HV b F):ig P w K mg base ur (k+1) f fd ps (F1 K ps.length (qS N F)):=by
 subst hb hs;exact HR Fn S jr
section
variable {X:Cx}
theorem DT{g:List D->R D}{k j n:Nat}{x:Str}{p pos:Pos}{e:Expr}{es:List Expr}{fs:ao->R (List D)}(C:Callee X.prog X.w X.K X.mg X.base k x n g)(hr:dA j X.A)(Cj:k<=j)(hg:Gl X x)(ha:Cv X (e ::es) fs)
 (hn:∀δ ds,fs δ= .ok ds->ds.length=n) (jz:(x==("__debug__":Str))=false:=by decide) (he:starEach (e ::es) X.env=(false,eval e X.env) ::starEach es X.env:=by rfl) (ko:(backTo pos (starEach es X.env)).any (·.1)=false:=by rfl) :
 PD X (.Call (.Name x p) (e ::es) [] pos) (aK g fs):=by
 obtain⟨f,fd,ps,F,hm,hk,hb⟩:=C;exact Gu F (hr.mono Cj) hg hm hk hb ha hn jz he ko
def M5(sc:Scope)(N:List Str)(scope:Scope)(kp:List Nat)(kn:List Str):Bool:=
 decide (scope.kind= .function) && scope.names.all (fun y=>decide (y.2= .cell->scope.names.lookup y.1=some .cell)) && scope.names.all (fun y=>decide (y.2= .local->scope.names.lookup y.1=some .local))
  && scope.names.all (fun y=>decide (y.2= .free->(sc.names.lookup y.1=some .cell\/sc.names.lookup y.1=some .free))) && scope.names.all (fun y=>decide (y.2= .free->scope.names.lookup y.1=some .free)) && decide (kn.length=kp.length)
  && (List.range kp.length).all (fun j=>decide ((kp[j]?).bind (N[·]?)=kn[j]?)) && kn.all (fun x=>decide (scope.names.lookup x=some .free))
theorem cx.of{own:List Str}{kp:List Nat}{kn:List Str}{N:List Str}(h1:X.env.scope=sc)(h2:X.N=N)(h:M5 sc N scope kp kn=true):cx X scope own kp kn:=by
 unfold M5 at h;simp only[Bool.and_eq_true,decide_eq_true_eq,List.all_eq_true] at h;obtain⟨⟨⟨⟨⟨⟨⟨a1,a2⟩,a3⟩,a4⟩,a8⟩,a5⟩,a6⟩,a7⟩:=h;refine⟨a1,a2,a3,fun y hy hf=>?_,a8,a5,fun j i x hj hx=>?_,a7⟩
 .have:=a4 y hy hf;unfold Env.kindOf;rw[h1];exact this
 .have hlt:j < kp.length:=(List.getElem?_eq_some_iff.mp hj).1;have:=a6 j (List.mem_range.mpr hlt);rw[hj] at this;rw[h2];exact this.trans hx
def Eu(ay:List (Key × V))(f g:FD):FD:=fun δ=>(f δ).bind fun k=>(g δ).bind fun d=>match k with
 | .str x=>(match iI (jP [] ay) (Sum.inr x) with | some (.int i)=> .ok (.int i) | none=> .ok d | _=> .no)
 | _=> .no
theorem LH{keys:List (Option Expr)}{values:List Expr}{sR:List (TE × TE)}{vM apos a_:Pos}{e f:Expr}{fe ff:FD}{ay:List (Key × V)}(hu:X.A.units+1 < cLine)(h:Iy X vM keys values sR)(yb:keys.all (·.isSome)=true)(hl:keys.length=values.length)(h0:keys≠[])
 (hc:∀σ H Q,Q (ay.map fun kv=>(kV kv.1,kv.2)) H->nv sR σ H Q) (hlen:ay.length<=15) (he:PD X e fe) (hf:PD X f ff) (m:M2 X (.Dict keys values vM) "get" apos e f a_)
 (hd:PE X (.Dict keys values vM) (C_ sR)):PD X (.Call (.Attribute (.Dict keys values vM) "get" apos) [e,f] [] a_) (Eu ay fe ff):=by
 refine(Fh hu hd he hf m).imp fun σ H Q ⟨Z,B,δ,d,E,hfd,q⟩=>?_
 obtain⟨k,h1,h2⟩:=R.af hfd;obtain⟨dd,h3,h4⟩:=R.af h2;intro p hp;refine hc σ _ _ ⟨aX,ay,rfl,hlen,p,rfl, .inl ⟨_, .inl aX⟩,?_⟩;rw[A7];have s0:aM H (upd H p (.dK (jP [] ay))):=ba hp;refine⟨Z,B,δ,k,E.same s0,h1,fun v1 H1 s1 r1=>⟨Z,B,δ,dd,(E.same s0).same s1,h3,fun v2 H2 s2 r2=>?_⟩⟩
 have hH2:H2 p=some (.dK (jP [] ay)):=s2 p _ (s1 p _ aX);have sA:aM H H2:=s0.trans (s1.trans s2);split at h4
 .rename_i x;refine⟨iI (jP [] ay) (Sum.inr x),?_,?_⟩
  .rw [Rep.str.mp r1];exact lC.k (k:=Sum.inr x) hH2
  .split at h4
   .rename_i i e1;cases h4;rw[e1];exact q _ H2 sA (Rep.int.mpr rfl)
   .rename_i e1;cases h4;rw[e1];exact q _ H2 sA r2
   .cases h4
 .cases h4
theorem yL:Tw X "list.extend" (fun x vs H Q=>∃l b xs zs,x= .ref l/\vs=[.ref b]/\H l=some (.lst xs)/\(∃B,tW X.K B H b zs)/\xs.length+zs.length<=sizeLine/\Q .cJ (upd H l (.lst (xs++zs)))):=by
 intro pins s σ H x vs v us Q I rx rv h;obtain⟨l,b,xs,zs,rfl,rfl,hH,⟨_,hB⟩,hz,q⟩:=h;cases rx;obtain⟨u,rfl,ru⟩:=rv.one;cases ru;obtain⟨z,its,n,r,hl,e⟩:=I.Nc hH;obtain⟨xX,n2,r2,e2,z2⟩:=I.Jd hB;have OE:=r2.length;have hsz:its.toArray.size+xX.toArray.size<=sizeLine:=by rw[List.size_toArray,List.size_toArray];omega
 have hlong:¬(!its.toArray.isEmpty && Builtin.List.listTooLong (its.toArray.size+xX.toArray.size))=true:=by
  rw[CQ hsz,Bool.and_false];exact Bool.false_ne_true
 refine call_meets F.slot_list_extend ⟨_,e,rfl⟩ F.entry_list_extend (F.args_list_extend_2 _ _)
  (AutoSeq1.list_extend_list_list_0 l its.toArray n b xX.toArray n2 hlong (by rw[List.size_toArray];omega) (by omega)) ⟨e,e2,?_⟩
 refine⟨.cJ,_,I.M7 (its':=its++xX) hH e (by simp) (r.append r2) ?_,rfl,q⟩
 rw[List.length_append];omega
def xM(i:Nat)(f:FD):FS:=fun δ=>(f δ).bind fun d=>match d with
 | .lst es=>(qm δ i).bind fun ds=>R.aS (decide (ds.length+es.length<=sizeLine)) (.ok (.nx (δ.set i (.bld (ds++es)))))
 | _=> .no
theorem CP{i:Nat}{x:Str}{e:Expr}{f:FD}{ju apos a_ pos:Pos}(hN:X.N[i]? =some x)(hv:Gp X.env.scope x)(he:PD X e f)
 (hd:(x==("__debug__":Str))=false:=by decide) (qI:(x==("__classdict__":Str))=false:=by decide)
 (hs:starEach [e] X.env=(false,eval e X.env) ::starEach [] X.env:=by rfl) (eh:(apos.endLine==a_.line)=true:=by rfl)
 (jo:((backTo a_ (starEach [e] X.env)).all (fun x=>!x.1) && (backToKw a_ (keywordEach [] X.env)).all (fun x=>x.1.isSome)
   && decide (([e]:List Expr).length+([]:List Keyword).length+(if([]:List Keyword).isEmpty then 0 else 1) < 30))=true:=by rfl)
 (sU:swapsWith (.Call (.Attribute (.Name x ju) "extend" apos) [e] [] a_) none pos.line X.env=pure false:=by rfl)
 (en:attributeBase (.Name x ju) "extend" X.env (eval (.Name x ju) X.env)=eval (.Name x ju) X.env:=by rfl) :
 Cs X (.Expr (.Call (.Attribute (.Name x ju) "extend" apos) [e] [] a_) pos) (xM i f):=by
 refine(o5 (wR (X:=X) PySem.F.plainAttrs_list PySem.F.slot_list_extend PySem.F.type_list_extend yL (uQ hN hv hd qI) (f_ he i9 hs) en jo eh hs) sU).imp fun D σ H ⟨Z,B,δ,o,E,hf,q⟩=>?_
 obtain⟨d,h1,h2⟩:=R.af hf;cases d with
 | lst es=>
   obtain⟨ds,h3,h4⟩:=R.af h2;obtain⟨hl,h5⟩:=R.aN h4;cases h5;have hb:=xp h3;obtain⟨a,xs,q1,q2,q3,q4,q5⟩:=E.bld i ds hb;refine⟨.ref a,q1, .inl ⟨rfl,xs,lj.of q4⟩,⟨Z,B,δ, .lst es,E,h1,fun v H1 s1 r1=>?_⟩⟩
   have E1:=E.same s1;obtain⟨b,ys,rfl,l,r'⟩:=Rep.lst.mp r1;refine⟨a,b,xs,ys,rfl,rfl,s1 a _ q4,⟨_,l⟩,by rw[<-q5.length,<-r'.length];exact of_decide_eq_true hl,?_⟩
   obtain⟨E2,p2⟩:=E1.grow (es:=ds++es) (ys:=xs++ys) hb q1 q2 (s1 a _ q4) ((q5.same s1).append r');exact q σ B _ ((Ev.same E.zb s1).trans (Ev.grow E.zb q3 p2)) E2
 | _=>cases h2
end
end L2
end
section
namespace L2
open PySem PySem.Spec PyProof.Rows
structure QD (X:Cx) (e:Expr) (f:FD):Prop where
 h:PD X e f
structure QN (X:Cx) (e:Expr) (f:ao->R (List D)):Prop where
 h:PN X e f
structure QB (X:Cx) (e:Expr) (f:ao->R Bool):Prop where
 h:PB X e f
structure Ly (X:Cx) (e:Expr) (f:ao->R Bool):Prop where
 h:FY X e f
structure Eg (X:Cx) (e:List Expr) (f:ao->R (List D)):Prop where
 h:Cv X e f
structure CB (X:Cx) (e:Stmt) (f:FS):Prop where
 h:Cs X e f
structure sr (X:Cx) (e:List Stmt) (f:FS):Prop where
 h:pR X e f
structure Mr (X:Cx) (e:Expr) (f:FT):Prop where
 h:K0 X e f
structure Hk (X:Cx) (e:List Expr) (f:Co):Prop where
 h:EN X e f
structure Jt (X:Cx) (tg e:Expr) (f:ao->R (List D)):Prop where
 h:IE X tg e f
structure QP (X:Cx) (e:Option Expr) (f:FO):Prop where
 h:PP X e f
structure QJ (X:Cx) (e:List Expr) (f:ao->R (List Str)):Prop where
 h:PJ X e f
structure Gx (X:Cx) (e:List Expr) (c:ao->R Bool):Prop where
 h:qF X e (Jf X.K c)
section
variable {X:Cx}
theorem b9{f:ao->R (List D)}(h:QN X e f):QD X e (eNew f):=⟨Ke h.1⟩
theorem pf(h:QD X e f):QD X e (mX f):=⟨Ie h.1⟩
theorem xF{f:ao->R Bool}(h:QB X e f):QB X e (rN f):=⟨Gz h.1⟩
theorem aa(i:Nat){pos:Pos}(hN:X.N[i]? =some x:=by rfl)(hv:Gp X.env.scope x:=by first | exact Or.inl rfl | exact Or.inr (Or.inl rfl) | exact Or.inr (Or.inr rfl))(hd:(x==("__debug__":Str))=false:=by decide)(qI:(x==("__classdict__":Str))=false:=by decide):QD X (.Name x pos) (ag i):=⟨Kb i hN hv hd qI⟩
theorem aj{i j pos}:QD X (.Constant (.int i) j pos) (eC (.int i)):=⟨Lf⟩
theorem lZ{b j pos}:QD X (.Constant (.bool b) j pos) (eC (.bl b)):=⟨N4⟩
theorem au{x j pos}:QD X (.Constant (.str x) j pos) (eC (.str x)):=⟨J4⟩
theorem cC{d:D}{pos:Pos}(g:Glob X.K X.mg x d)(hg:Gl X x)(hd:(x==("__debug__":Str))=false:=by decide):QD X (.Name x pos) (eC d):=⟨HA g hg hd⟩
theorem ah:Eg X [] aI:=⟨Gf⟩
theorem ae{g:ao->R (List D)}(h:QD X e f)(t:Eg X es g)(hs:starEach (e ::es) X.env=(false,eval e X.env) ::starEach es X.env:=by rfl):Eg X (e ::es) (ai f g):=⟨E8 h.1 t.1 hs⟩
theorem dG{g:ao->R (List D)}{x1 pos}(h:Eg X es g):QD X (.Tuple es x1 pos) (k9 g):=⟨JP h.1⟩
theorem bN{g:ao->R (List D)}{pos}(h:Eg X es g):QN X (.List es pos) (eS g):=⟨KU h.1⟩
theorem aA{op:Operator}{g:D->D->R D}(ho:lA X (binaryOp op) g)(ha:QD X a fa)(hb:QD X b fb):QD X (.BinOp a op b pos) (e2 g fa fb):=⟨NM ho ha.1 hb.1⟩
theorem eK{op:CmpOp}{g:D->D->R D}(ho:lA X (compareOp op) g)(ha:QD X a fa)(hb:QD X b fb)(hm:behindInMarks op b=false):QD X (.Compare a [op] [b] pos) (e2 g fa fb):=⟨Kr ho ha.1 hb.1 hm⟩
theorem bO{op:CmpOp}{g:D->D->R D}(ho:lA X (compareOp op) g)(ha:QD X a fa)(hb:QD X b fb)(hm:behindInMarks op b=false):QB X (.Compare a [op] [b] pos) (b2 g fa fb):=⟨LK ho ha.1 hb.1 hm⟩
theorem mw{a:Expr}(ha:QD X a f)(he:∀whole,isTrue a X.env whole=(do let v <-whole;standAt a.pos;holding [v] (truthy v)):=by intro _;rfl):QB X a (qy f):=⟨J0 ha.1 he⟩
theorem jK{f:ao->R Bool}(h:Ly X e f):QB X e f:=⟨FY.pb h.1⟩
theorem tS{f:ao->R Bool}(h:QB X a f):Ly X (.BoolOp .And [a] pos) f:=⟨Dq h.1⟩
theorem kj{f:ao->R Bool}(h:QB X a f):Ly X (.BoolOp .Or [a] pos) f:=⟨Gj h.1⟩
theorem xb{rest:List Expr}{f g:ao->R Bool}(ha:QB X a f)(hb:Ly X (.BoolOp .And (b ::rest) pos) g):Ly X (.BoolOp .And (a ::b ::rest) pos) (wo f g):=⟨Gi ha.1 hb.1⟩
theorem iW{rest:List Expr}{f g:ao->R Bool}(ha:QB X a f)(hb:Ly X (.BoolOp .Or (b ::rest) pos) g):Ly X (.BoolOp .Or (a ::b ::rest) pos) (wO f g):=⟨K6 ha.1 hb.1⟩
theorem AI{f:ao->R Bool}(ha:QB X a f):QB X (.UnaryOp .Not a pos) (Bz f):=⟨LL ha.1⟩
theorem oF{op}(h:QD X a f):QD X (.BoolOp op [a] pos) f:=⟨Kq h.1⟩
theorem mB{rest:List Expr}(ha:QD X a f)(hb:QD X (.BoolOp .And (b ::rest) pos) g):QD X (.BoolOp .And (a ::b ::rest) pos) (tF f g):=⟨Kn ha.1 hb.1⟩
theorem K5{rest:List Expr}(ha:QD X a f)(hb:QD X (.BoolOp .Or (b ::rest) pos) g):QD X (.BoolOp .Or (a ::b ::rest) pos) (M3 f g):=⟨Od ha.1 hb.1⟩
theorem HL(ha:QD X a f):QD X (.UnaryOp .Not a pos) (J1 f):=⟨J_ ha.1⟩
theorem KZ{fc:ao->R Bool}(hc:QB X c fc)(ha:QD X a f)(hb:QD X b g):QD X (.IfExp c a b pos) (MG fc f g):=⟨Nw hc.1 ha.1 hb.1⟩
theorem bp{g:List D->R D}{id:String}{p pos:Pos}{fs:ao->R (List D)}(hc:cX X (.builtin id) g)(hg:Gl X x)(hm:X.mg x=none)(hv:bootBuiltins x=some (.builtin id))(ha:Eg X (e ::es) fs)(hn:x≠"__name__":=by decide)(jz:(x==("__debug__":Str))=false:=by decide)(he:starEach (e ::es) X.env=(false,eval e X.env) ::starEach es X.env:=by rfl)(ko:(backTo pos (starEach es X.env)).any (·.1)=false:=by rfl):QD X (.Call (.Name x p) (e ::es) [] pos) (aK g fs):=⟨CZ hc hg hm hv ha.1 hn jz he ko⟩
theorem sg{g:List D->R D}{T:String}{p pos:Pos}{fs:ao->R (List D)}(hc:cX X (.type T) g)(hg:Gl X x)(hm:X.mg x=none)(hv:bootBuiltins x=some (.type T))(ha:Eg X (e ::es) fs)(hn:x≠"__name__":=by decide)(jz:(x==("__debug__":Str))=false:=by decide)(he:starEach (e ::es) X.env=(false,eval e X.env) ::starEach es X.env:=by rfl)(ko:(backTo pos (starEach es X.env)).any (·.1)=false:=by rfl):QD X (.Call (.Name x p) (e ::es) [] pos) (aK g fs):=⟨Bs hc hg hm hv ha.1 hn jz he ko⟩
theorem eW:sr X [] om:=⟨GG⟩
theorem aq{st:Stmt}{rest:List Stmt}{F G:FS}(h1:CB X st F)(h2:sr X rest G):sr X (st ::rest) (bB F G):=⟨DH h1.1 h2.1⟩
theorem aL{st:Stmt}{F:FS}(h1:CB X st F):sr X [st] F:=⟨Ht h1.1⟩
theorem aZ{i:Nat}{pos pos':Pos}(hN:X.N.Nodup)(hi:X.N[i]? =some x)(hx:Loc X.env.scope x)(he:QD X e f)(hs:swapsWith e (some (.Name x pos')) pos.line X.env=pure false:=by rfl)(hf:X.fn x=true\/X.env.scope.names.lookup x=some .local:=by first | exact .inl rfl | exact .inr rfl | assumption):CB X (.Assign [.Name x pos'] e pos) (cG i f):=⟨GF hN hi hx he.1 hs hf⟩
theorem ia{i:Nat}{f:ao->R (List D)}{pos pos':Pos}(hN:X.N.Nodup)(hi:X.N[i]? =some x)(hx:Loc X.env.scope x)(he:QN X e f)(hs:swapsWith e (some (.Name x pos')) pos.line X.env=pure false:=by rfl)(hf:X.fn x=true\/X.env.scope.names.lookup x=some .local:=by first | exact .inl rfl | exact .inr rfl | assumption):CB X (.Assign [.Name x pos'] e pos) (ph i f):=⟨Gv hN hi hx he.1 hs hf⟩
theorem eU{i:Nat}{x:Str}{e:Expr}{f:FD}{ju apos a_ pos:Pos}(hN:X.N[i]? =some x)(hv:Gp X.env.scope x)(he:QD X e f)(hd:(x==("__debug__":Str))=false:=by decide)(qI:(x==("__classdict__":Str))=false:=by decide)(hs:starEach [e] X.env=(false,eval e X.env) ::starEach [] X.env:=by rfl)(eh:(apos.endLine==a_.line)=true:=by rfl)(jo:((backTo a_ (starEach [e] X.env)).all (fun x=>!x.1) && (backToKw a_ (keywordEach [] X.env)).all (fun x=>x.1.isSome)
 && decide (([e]:List Expr).length+([]:List Keyword).length+(if([]:List Keyword).isEmpty then 0 else 1) < 30))=true:=by rfl) (sU:swapsWith (.Call (.Attribute (.Name x ju) "append" apos) [e] [] a_) none pos.line X.env=pure false:=by rfl) (en:attributeBase (.Name x ju) "append" X.env (eval (.Name x ju) X.env)=eval (.Name x ju) X.env:=by rfl):CB X (.Expr (.Call (.Attribute (.Name x ju) "append" apos) [e] [] a_) pos) (nB i f):=⟨GJ hN hv he.1 hd qI hs eh jo sU en⟩
theorem ik(i:Nat){F:FS}(h:sr X ON F):sr X ON (pP i F):=⟨GX i h.1⟩
theorem bq(he:QD X e f):CB X (.Return (some e) pos) (fu f):=⟨HM he.1⟩
theorem g8{fc:ao->R Bool}{F G:FS}(hc:QB X c fc)(ha:sr X a F)(hb:sr X b G):CB X (.If c a b pos) (vV fc F G):=⟨Kg hc.1 ha.1 hb.1⟩
theorem a9{i:Nat}{pos:Pos}(hN:X.N.Nodup)(hi:X.N[i]? =some x)(hx:Loc X.env.scope x)(hf:X.fn x=true\/X.env.scope.names.lookup x=some .local:=by first | exact .inl rfl | exact .inr rfl | assumption):Mr X (.Name x pos) (aR i):=⟨ET hN hi hx hf⟩
theorem gH:Hk X [] iT:=⟨EI⟩
theorem bZ{u:Co}(h1:Mr X e t)(h2:Hk X es u)(hs:(assignEach (e ::es) X.env).map (·.2)=assign e X.env ::(assignEach es X.env).map (·.2):=by rfl):Hk X (e ::es) (bX t u):=⟨Bw h1.1 h2.1 hs⟩
theorem jd{k:Nat}{t:Co}{n:Nat}{pos:Pos}(hc:X.calm=true)(h:Hk X es t)(hn:(assignEach es X.env).length=n:=by rfl)(xZ:(assignEach es X.env).findIdx? (·.1)=none:=by rfl):Mr X (.Tuple es k pos) (iR n t):=⟨Hz hc h.1 hn xZ⟩
theorem cB(h:QD X e f):Jt X tg e (dy f):=⟨Hv h.1⟩
theorem fG{tg a:Expr}{p pos:Pos}(h:QD X a f)(hg:Gl X "range")(hm:X.mg "range"=none)(hs:starEach [a] X.env=[(false,eval a X.env)]:=by rfl):Jt X tg (.Call (.Name "range" p) [a] [] pos) (iJ f):=⟨y4 h.1 hg hm hs⟩
theorem fZ{it:ao->R (List D)}{F:FS}{pos:Pos}(hp:PassesOwn (model X.prog X.w) X.A X.env X.xe)(hc:X.calm=true)(hi:Jt X tg iter it)(hg:Mr X tg t)(hb:sr X body F)(hs:∀x,foldedSetIterable iter X.env x=pure x:=by intro _;rfl):CB X (.For tg iter body [] pos) (pN it t F):=⟨HY hp hc hi.1 hg.1 hb.1 hs⟩
theorem rq(n:Nat){fc:ao->R Bool}{F:FS}(hp:PassesOwn (model X.prog X.w) X.A X.env X.xe)(hc:QB X c fc)(hb:sr X body F):CB X (.While c body [] pos) (nj n fc F):=⟨Bh n hp hc.1 hb.1⟩
theorem fJ{own:List Str}{kp:List Nat}{kn:List Str}{it:ao->R (List D)}{c:ao->R Bool}{pos:Pos}(hc:X.calm=true)(C:cx X scope own kp kn)(hi:Jt X tg iter it)(hg:∀fp s H,Mr (br X scope (own++kn) fp s H) tg t)(Ci:∀fp s H,Gx (br X scope (own++kn) fp s H) ifs c)(he:∀fp s H,QD (br X scope (own++kn) fp s H) elt f)(hs:∀x,foldedSetIterable iter X.env x=pure x:=by intro _;rfl):QN X (.ListComp elt [⟨tg,iter,ifs,0⟩] scope pos) (eN it t c f own kp):=⟨Hs hc C hi.1 (fun fp s H=>(hg fp s H).1) (fun fp s H=>(Ci fp s H).1) (fun fp s H=>(he fp s H).1) hs⟩
theorem eG:Gx X [] oS:=⟨Ei⟩
theorem wa{c:ao->R Bool}(h:QB X e c):Gx X [e] c:=⟨GA h.1⟩
theorem o_{i:Nat}{pos' n4:Pos}{own:List Str}{kp:List Nat}{kn:List Str}{it:ao->R (List D)}{c:ao->R Bool}(hc:X.calm=true)(hN:X.N.Nodup)(hx:X.N[i]? =some x)(Cz:X.env.scope.names.lookup x=some .local)(C:cx X scope own kp kn)(hi:Jt X tg iter it)(hg:∀fp s H,Mr (br X scope (own++kn) fp s H) tg t)(Ci:∀fp s H,Gx (br X scope (own++kn) fp s H) ifs c)(he:∀fp s H,QD (br X scope (own++kn) fp s H) elt f)(sU:swapsWith (.ListComp elt [⟨tg,iter,ifs,0⟩] scope pos) (some (.Name x pos')) n4.line X.env=pure true:=by rfl)(hs:∀x,foldedSetIterable iter X.env x=pure x:=by intro _;rfl):CB X (.Assign [.Name x pos'] (.ListComp elt [⟨tg,iter,ifs,0⟩] scope pos) n4) (cG i (eNew (eN it t c f own kp))):=⟨xg hc hN hx Cz C hi.1 (fun fp s H=>(hg fp s H).1) (fun fp s H=>(Ci fp s H).1) (fun fp s H=>(he fp s H).1) sU hs⟩
theorem aU(ha:QD X a fa)(hb:QD X b fb)(hs:uV b):QD X (.Subscript a b pos) (e2 cW fa fb):=⟨Nd ha.1 hb.1 hs⟩
theorem fK:QP X none kf:=⟨G3⟩
theorem d_(h:QD X e f):QP X (some e) (ie f):=⟨Hm h.1⟩
theorem nC{lo hi:Option Expr}{fl fh:FO}(he:QD X e f)(hl:QP X lo fl)(hh:QP X hi fh):QD X (.Subscript e (.Slice lo hi none p2) pos) (BF f fl fh):=⟨Ob he.1 hl.1 hh.1⟩
theorem ot{o e:Expr}{f:FD}{fs:ao->R (List D)}{apos a_:Pos}(ho:QD X o f)(ha:Eg X [e] fs)(en:attributeBase o "join" X.env (eval o X.env)=eval o X.env:=by rfl)(jo:((backTo a_ (starEach [e] X.env)).all (fun x=>!x.1) && (backToKw a_ (keywordEach [] X.env)).all (fun x=>x.1.isSome)
 && decide (([e]:List Expr).length+([]:List Keyword).length+(if([]:List Keyword).isEmpty then 0 else 1) < 30))=true:=by rfl) (eh:(apos.endLine==a_.line)=true:=by rfl) (hs:starEach [e] X.env=(false,eval e X.env) ::starEach [] X.env:=by rfl):QD X (.Call (.Attribute o "join" apos) [e] [] a_) (zc "str" j0 f fs):=⟨Hw ho.1 ha.1 en jo eh hs⟩
theorem fj:QJ X [] lE:=⟨JR⟩
theorem aV{g:ao->R (List Str)}(he:QD X e f)(hr:QJ X es g)(Rr:evalEach (e ::es) X.env=eval e X.env ::evalEach es X.env:=by rfl):QJ X (e ::es) (bu f g):=⟨G4 he.1 hr.1 Rr⟩
theorem cy{rest:List Expr}{g:ao->R (List Str)}(h:QJ X (FR ::FI ::rest) g):QD X (.JoinedStr (FR ::FI ::rest) pos) (cD g):=⟨BY h.1⟩
theorem eI(h:QD X e f):QD X (.FormattedValue e (-1) none pos) (iV f):=⟨KN h.1⟩
theorem Fe(h:QD X e f):Jt X tg e (DN f):=⟨Ic h.1⟩
theorem tY{elts:List Expr}{k:Nat}{FK:Pos}{p pos:Pos}(h:QD X a f)(hg:Gl X "enumerate")(hm:X.mg "enumerate"=none)(hs:starEach [a] X.env=[(false,eval a X.env)]:=by rfl):Jt X (.Tuple elts k FK) (.Call (.Name "enumerate" p) [a] [] pos) (pF f):=⟨DX h.1 hg hm hs⟩
theorem bD{P:Program}{w:World}{K:W.Frag}{mg:YG}{base:Heap}{x qual:Str}{st:Stmt}{f:Addr}{fd:FuncData}{N ps:List Str}{k:Nat}{F:FS}{b:List Stmt}{sc:Scope}(hb:aO st=b)(hs:aF st=sc)(Fn:yt K x qual st f fd)(S:bb N ps sc)(jr:∀(dt:Value) (A:Around) (outer:List Env) (s:Shared) (H:Hp) (E:XK),dA k (A.deeper (envOfC qual sc s.heap.objs.size f dt))->
 sr (km ur P w K mg base N qual sc f dt A outer s H E).HV b F):ig P w K mg base ur (k+1) f fd ps (F1 K ps.length (qS N F)):=Ew hb hs Fn S (fun dt A outer s H E hr=>(jr dt A outer s H E hr).1)
theorem aG{g:List D->R D}{k j n:Nat}{p pos:Pos}{fs:ao->R (List D)}(C:Callee X.prog X.w X.K X.mg X.base k x n g)(hr:dA j X.A)(Cj:k<=j)(hg:Gl X x)(ha:Eg X (e ::es) fs)(hn:∀δ ds,fs δ= .ok ds->ds.length=n)(jz:(x==("__debug__":Str))=false:=by decide)(he:starEach (e ::es) X.env=(false,eval e X.env) ::starEach es X.env:=by rfl)(ko:(backTo pos (starEach es X.env)).any (·.1)=false:=by rfl):QD X (.Call (.Name x p) (e ::es) [] pos) (aK g fs):=⟨DT C hr Cj hg ha.1 hn jz he ko⟩
theorem Ho{keys:List (Option Expr)}{values:List Expr}{sR:List (TE × TE)}{ay:List (Key × V)}(hu:X.A.units+1 < cLine)(h:Iy X vM keys values sR)(yb:keys.all (·.isSome)=true)(hl:keys.length=values.length)(h0:keys≠[])(hc:∀σ H Q,Q (ay.map fun kv=>(kV kv.1,kv.2)) H->nv sR σ H Q)(hlen:ay.length<=15)(he:QD X e fe)(hf:QD X f ff)(m:M2 X (.Dict keys values vM) "get" apos e f a_)(hd:PE X (.Dict keys values vM) (C_ sR)):QD X (.Call (.Attribute (.Dict keys values vM) "get" apos) [e,f] [] a_) (Eu ay fe ff):=⟨LH hu h yb hl h0 hc hlen he.1 hf.1 m hd⟩
theorem By{i:Nat}{x:Str}{e:Expr}{f:FD}{ju apos a_ pos:Pos}(hN:X.N[i]? =some x)(hv:Gp X.env.scope x)(he:QD X e f)(hd:(x==("__debug__":Str))=false:=by decide)(qI:(x==("__classdict__":Str))=false:=by decide)(hs:starEach [e] X.env=(false,eval e X.env) ::starEach [] X.env:=by rfl)(eh:(apos.endLine==a_.line)=true:=by rfl)(jo:((backTo a_ (starEach [e] X.env)).all (fun x=>!x.1) && (backToKw a_ (keywordEach [] X.env)).all (fun x=>x.1.isSome)
 && decide (([e]:List Expr).length+([]:List Keyword).length+(if([]:List Keyword).isEmpty then 0 else 1) < 30))=true:=by rfl) (sU:swapsWith (.Call (.Attribute (.Name x ju) "extend" apos) [e] [] a_) none pos.line X.env=pure false:=by rfl) (en:attributeBase (.Name x ju) "extend" X.env (eval (.Name x ju) X.env)=eval (.Name x ju) X.env:=by rfl):CB X (.Expr (.Call (.Attribute (.Name x ju) "extend" apos) [e] [] a_) pos) (xM i f):=⟨CP hN hv he.1 hd qI hs eh jo sU en⟩
end
end L2
end
section
namespace L2
open PySem PySem.Spec PyProof.Rows
theorem B6{P:Program}{w:World}{K:W.Frag}{mg mb:YG}{CX:Cq}{k:Nat}{fa a:Addr}{fd:FuncData}{x:Str}{sp:Sp}{s₁:Shared}{vs:List Value}{ns:List Int}
 (KX:K.In s₁.heap) (UA:s₁.heap.Ns mainGlobals mg) (hb:s₁.heap.Ns builtinsNs mb) (Xq:∀x:Str,x≠"__name__"->mb x=bootBuiltins x) (Rp:s₁.heap.NoLimit) (hg:s₁.gens=#[])
 (ha:s₁.heap.get? a=some {cls:= .type "list",data:= .seq vs.toArray}) (hi:IntsAre vs ns) (hl:ns.length<=sizeLine) (hr:dA k callerA)
 (F:∀base:Heap,K.In base->base.Ns mainGlobals mg->ig P w K mg base CX k fa fd [x] sp) (OJ:∀(s:Shared) (u:Value),BindsTo s fd ⟨[u],[]⟩ [(x,u)])
 (Jy:∀H:Hp,Nz H->tW K [] H a (ns.map V.int)->sp [.ref a] H (fun v _=>v= .bl true) fun _ _ _=>False)
 (W5:∀H e s',CX [] H s₁ (fun _ _ _=>False) e s'->False) :
 codeAny (model P w) callerA (.call (.ref fa) ⟨[.ref a],[]⟩) (fun r s'=>r= .ok (.ret (.bool true))/\OldK s₁.heap s'.heap/\s'.os=s₁.os/\AllBare s'.gens) s₁:=by
 have rv:=ux hi;have lenV:=hi.length;have core:∀H:Hp,Nz H->tW K [] H a (ns.map V.int)->mM P w H s₁.heap->(∀b,H b≠none->b=a)->(H a≠none->K.lookup a=none)->
  codeAny (model P w) callerA (.call (.ref fa) ⟨[.ref a],[]⟩) (fun r s'=>r= .ok (.ret (.bool true))/\OldK s₁.heap s'.heap/\s'.os=s₁.os/\AllBare s'.gens) s₁:=by
  intro H hO hS hok hA hK;have A9:∀{b:Addr} {o:Obj},s₁.heap.get? b=some o->H b=none->(vf s₁.heap H).get? b=some o:=fun e n=>Fo e n
  have noA:∀{b:Addr} {o:Obj} {es:Array DictEntry} {ep:Nat},s₁.heap.get? b=some o->o.data= .dict es ep->H b=none:=fun {b o es ep} e d=>by
   cases q:H b with
   | none=>rfl
   | some u=>
     have e':b=a:=hA b (by rw[q];simp)
     subst e';rw[ha] at e;cases e;have d':Data.seq vs.toArray _=Data.dict es ep:=d;cases d'
  have nsK:∀{b:Addr} {m:YG},s₁.heap.Ns b m->(vf s₁.heap H).Ns b m:=fun {b m} ⟨o,es,ep,e,d,r⟩=>⟨o,es,ep,A9 e (noA e d),d,r⟩
  have hKb:K.In (vf s₁.heap H):=fun b o e=>A9 (KX b o e) (by
   cases q:H b with
   | none=>rfl
   | some u=>
     have e':b=a:=hA b (by rw[q];simp)
     subst e';rw[hK (by rw[q];simp)] at e;cases e)
  have hM:Mod K mg (vf s₁.heap H):=⟨hKb,nsK UA,⟨mb,nsK hb,Xq⟩,let⟨mc,h1,h2⟩:=Rp;⟨mc,nsK h1,h2⟩⟩
  have e0:yD P w K mg (vf s₁.heap H) callerA [] s₁ H:=⟨rfl,hM,fun b o e=>Hb e,Nat.le_of_eq (Bq _ _),trivial,fun b hb=>absurd (show b∈([]:List Addr) from hb) (by simp),hok, .of_eq hg⟩
  refine codeAny_mono ((F _ hKb (nsK UA)).run callerA [] s₁ H ⟨[.ref a],[]⟩ [.ref a] [.ref a] _ _ hr e0 (OJ s₁ (.ref a)) (.cons rfl .nil) (Jy H hO hS)) fun r s' h=>?_
  cases r with
  | error e=>exact(W5 H e s' h).elim
  | ok fl=>
    cases fl with
    | next=>exact False.elim h
    | brk=>exact False.elim h
    | cont=>exact False.elim h
    | ret u=>
      obtain⟨v,H',os,bare,un,S_,r',q⟩:=h;have q':v= .bl true:=q;subst q';obtain rfl:u=Value.bool true:=r';refine⟨rfl,OldK.of_keep fun b o e=>?_,os,bare⟩
      cases q:H b with
      | none=>exact un.keep b o e q (by intro z;exact absurd (show b∈([]:List Addr) from z) (by simp)) (by simp)
      | some u=>
        rcases hO b with z | ⟨ob,xs,z⟩
        .rw [q] at z;cases z
        .have z2:=un.frzs b ob _ z;obtain⟨e1,_⟩:=hok b _ z;obtain⟨e2,_⟩:=S_ b _ z2;rw[e] at e1;cases e1;exact e2
 cases hk:K.lookup a with
 | some o=>
   have e:=KX a o hk;rw[ha] at e;cases e;refine core (fun _=>none) (fun _=> .inl rfl) (.inr ⟨vs,_,hk,by rw[List.length_map];exact hl,rv⟩) (fun b u z=>by have z':(none:Option HO)=some u:=z;cases z') (fun b z=>absurd rfl z) fun z=>absurd rfl z
 | none=>
   refine core (fun b=>if b=a then some (.ky {cls:= .type "list",data:= .seq vs.toArray} (.lst (ns.map V.int))) else none) (fun b=>?_) (.inl ⟨by simp, .inr ⟨{cls:= .type "list",data:= .seq vs.toArray},if_pos rfl⟩⟩) (fun b u z=>?_) (fun b z=>?_) fun _=>hk
   .by_cases hb:b=a
    .exact .inr ⟨_,_,if_pos hb⟩
    .exact .inl (if_neg hb)
   .by_cases hb:b=a
    .have z':=(if_pos hb).symm.trans z;cases z';subst hb;exact⟨ha,by rw[List.length_map];exact hl,vs,_,rv,ha⟩
    .have z':=(if_neg hb).symm.trans z;cases z'
   .by_cases hb:b=a
    .exact hb
    .exact absurd (if_neg hb) z
theorem ints_rep{K:W.Frag}{B:List Addr}:∀ns:List Int,az K B H (ns.map D.int) (ns.map V.int)
 | []=>az.nil
 | n ::ns=>az.cons (Rep.int.mpr rfl) (ints_rep ns)
theorem Nh{l:PySem.W.OpenLaw}{n k:Nat}{q:Program}{loose:List Str}{XP:(Str->Option Value)->Heap->Prop}{YP:World->Heap->Prop}{d:DefRec}{K:Params->W.Frag}{x:Str}{g:List D->R D}
 (hn:l.most=some n) (Pg:n<=sizeLine) (SE:d.params.defaults=[]) (hr:dA k callerA) (hY:∀(w:World) (h:Heap),YP w h->(K w.params).In h)
 (F:∀(w:World) (mg:YG) (fa:Addr) (h:Heap),(K w.params).In h->h.Ns mainGlobals mg->mg d.name=some (.ref fa)->
   ∃fd:FuncData,(∀(s:Shared) (u:Value),BindsTo s fd ⟨[u],[]⟩ [(x,u)])/\∀base:Heap,(K w.params).In base->base.Ns mainGlobals mg->ig l.prog w (K w.params) mg base ur k fa fd [x] (F1 (K w.params) 1 g))
 (hg:∀ns:List Int,ns.length<=n->g [.lst (ns.map D.int)]= .ok (.bl true)):PySem.W.WalkO q loose XP YP l.row.toRowW d [] (fun f vs=>PySem.call f vs):=by
 refine Att.wZ hn SE fun w s₀ s₁ mg mb fa o pm cd doc a vs ns G Y ho hd qI OD Mc hints hlen SI=>?_
 have KX:=hY w _ Y;obtain⟨fd,hb,hF⟩:=F w mg fa _ KX G.T.g OD;refine B6 KX G.T.g G.T.b G.T.builtins G.T.nolimit SI Mc hints (Nat.le_trans hlen Pg) hr hF hb (fun H hO hS=>?_) fun H e s' h=>h
 refine⟨rfl,[],[.lst (ns.map D.int)], .bl true,fun b hb=>(by cases hb),az.cons (Rep.lst.mpr ⟨_,_,rfl,hS,ints_rep ns⟩) az.nil,hg ns hlen,fun z H' _ r=>Rep.bl.mp r⟩
theorem cL{K:W.Frag}{h:Heap}{mg:YG}{x:Str}{st:Stmt}{f:Addr}{oc:Value}{od an:Option Addr}{FJ:Array (Option Value)}{kV doc pm dt ct:Value}(X:K.In h)(G:h.Ns mainGlobals mg)(a:PySem.W.nsIn K mainGlobals x=some (some (.ref f)))
 (l:K.lookup f=some ⟨oc,od, .func (PySem.W.fnOf x x (g_ st) (aO st) (aF st) .none kV doc pm an dt ct),FJ⟩) (c:PySem.W.codeIn K dt x=true) (k:PySem.W.keepIn K (.ref f)=true):Def K mg x st:=
 ⟨f,_,pT l c k,PySem.W.mg_of X G a⟩
theorem Dj{K:W.Frag}{h:Heap}{mg:YG}(X:K.In h)(G:h.Ns mainGlobals mg){t:Tok}(a:PySem.W.nsIn K mainGlobals x=some (some (.str y t))):Glob K mg x (.str y):=
 ⟨_, .str y,PySem.W.mg_of X G a,⟨t,rfl⟩,fun _ _=>Rep.str.mpr rfl⟩
theorem j_{K:W.Frag}{h:Heap}{mg:YG}(X:K.In h)(G:h.Ns mainGlobals mg){i:Int}{t:Tok}(a:PySem.W.nsIn K mainGlobals x=some (some (.int i t))):Glob K mg x (.int i):=
 ⟨_, .int i,PySem.W.mg_of X G a,⟨t,rfl⟩,fun _ _=>Rep.int.mpr rfl⟩
theorem oQ{K:W.Frag}{B:List Addr}:∀ss:List Str,az K B H (ss.map D.str) (ss.map V.str)
 | []=>az.nil
 | n ::ns=>az.cons (Rep.str.mpr rfl) (oQ ns)
theorem xr{K:W.Frag}{h:Heap}{mg:YG}(X:K.In h)(G:h.Ns mainGlobals mg){x:Str}{a:Addr}{o:Obj}{its:Array Value}{n:Nat}(ss:List Str)(e:PySem.W.nsIn K mainGlobals x=some (some (.ref a)))(l:K.lookup a=some o)(hc:o.cls= .type "tuple")(hd:o.data= .seq its n)
 (hz:its.size<=sizeLine) (r:Vals (ss.map V.str) its.toList):Glob K mg x (.tup (ss.map D.str)):=
 ⟨_, .ref a,PySem.W.mg_of X G e,rfl,fun B H=>Rep.tup.mpr ⟨a,_,rfl, .inr ⟨o,its,n,l,hc,hd,hz,r⟩,oQ ss⟩⟩
end L2
end
section
namespace L2
open PySem PySem.Spec PyProof.Rows
theorem rB{t:FT}{body:FS}:∀(ds:List D) (n:Nat) (P:Nat->ao->Prop) {δ:ao},P n δ->
 (∀i d δ,ds[i]? =some d->P (n+i) δ->∃cz,((t d δ).bind body)= .ok (.nx cz)/\P (n+i+1) cz)->∃cz,qa t body ds δ= .ok (.nx cz)/\P (n+ds.length) cz
 | [],n,P,δ,h0,_=>⟨δ,rfl,h0⟩
 | d ::ds,n,P,δ,h0,hs=>by
   obtain⟨δ1,e1,p1⟩:=hs 0 d δ rfl h0;obtain⟨iB,e2,p2⟩:=rB ds (n+1) P p1 (fun i d' cz hi hp=>by
    have:=hs (i+1) d' cz (by simpa using hi) (by rw[show n+(i+1)=n+1+i by omega];exact hp)
    rw[show n+(i+1)+1=n+1+i+1 by omega] at this
    exact this)
   refine⟨iB,?_,by rw[List.length_cons,show n+(ds.length+1)=n+1+ds.length by omega];exact p2⟩
   obtain⟨Yw,h1,h2⟩:=R.af e1;show(t d δ).bind (fun δ1=>(body δ1).bind fun o=>match o with | .nx iB=>qa t body ds iB | .rt r=> .ok (.rt r))=_
   rw[h1,R.aH,h2,R.aH];exact e2
theorem eA{t:FT}{body:FS}{ds:List D}(P:Nat->ao->Prop){δ:ao}(h0:P 0 δ)
 (hs:∀i d δ,ds[i]? =some d->P i δ->∃cz,((t d δ).bind body)= .ok (.nx cz)/\P (i+1) cz):∃cz,qa t body ds δ= .ok (.nx cz)/\P ds.length cz:=by
 have:=rB (t:=t) (body:=body) ds 0 P h0 (fun i d δ hi hp=>by simpa using hs i d δ hi (by simpa using hp))
 simpa using this
theorem Ez{α:Type} [DecidableEq α]:∀(L F:List α),L.Nodup->(∀x∈L,x∈F)->L.length<=F.length
 | [],_,_,_=>Nat.zero_le _
 | x ::L,F,hn,hs=>by
   obtain⟨h1,h2⟩:=List.nodup_cons.mp hn;have hx:x∈F:=hs x List.mem_cons_self;have ih:=Ez L (F.erase x) h2 (fun y hy=>(List.mem_erase_of_ne (fun(e:y=x)=>h1 (by rw[<-e];exact hy))).mpr (hs y (List.mem_cons_of_mem _ hy)))
   rw[List.length_erase_of_mem hx] at ih;have:0 < F.length:=List.length_pos_of_mem hx;rw[List.length_cons];omega
theorem KD{α:Type}{xs:List α}{i:Int}(h0:0<=i)(h:i.toNat < xs.length):uF xs i=some xs[i.toNat]:=by
 unfold uF Bk;rw[if_pos h0,if_pos (by omega)]
 simp [h]
theorem strs_map:∀ss:List Str,strs? (ss.map D.str)=some ss
 | []=>rfl
 | s ::ss=>by show(strs? (ss.map D.str)).map (s ::·)=_;rw [strs_map ss];rfl
theorem ints_map:∀ss:List Int,ints? (ss.map D.int)=some ss
 | []=>rfl
 | s ::ss=>by show(ints? (ss.map D.int)).map (s ::·)=_;rw [ints_map ss];rfl
theorem jI{a b:Str}(h:a.cps.toList=b.cps.toList):a=b:=by
 obtain⟨a⟩:=a;obtain⟨b⟩:=b;congr 1;exact Array.toList_inj.mp h
theorem fm(a b:Str):(a++b).cps.toList=a.cps.toList++b.cps.toList:=by
 show(a.cps++b.cps).toList=_;simp
theorem empty_app(a:Str):Str.empty++a=a:=jI (by rw[fm];rfl)
theorem aC{F G:FS}{δ δ1:ao}{r:R Out}(h:F δ= .ok (.nx δ1))(h2:G δ1=r):bB F G δ=r:=by unfold bB;rw [h,R.aH];exact h2
theorem b8{f:ao->R (List D)}{δ:ao}{ds:List D}(h:f δ= .ok ds):eNew f δ= .ok (.lst ds):=by unfold eNew;rw [h];rfl
theorem rF{c:ao->R Bool}{F G:FS}{δ:ao}{r:R Out}(h:c δ= .ok true)(h2:F δ=r):vV c F G δ=r:=by unfold vV;rw [h,R.aH,if_pos rfl];exact h2
theorem rW{c:ao->R Bool}{F G:FS}{δ:ao}{r:R Out}(h:c δ= .ok false)(h2:G δ=r):vV c F G δ=r:=by unfold vV;rw [h,R.aH,if_neg (by decide)];exact h2
theorem iY{it:ao->R (List D)}{F:FS}{δ:ao}{ds:List D}{r:R Out}(h:it δ= .ok ds)(h2:qa t F ds δ=r):pN it t F δ=r:=by unfold pN;rw [h,R.aH];exact h2
theorem b_{f:FD}{δ:ao}{d:D}(h:f δ= .ok d):fu f δ= .ok (.rt d):=by unfold fu;rw [h];rfl
theorem cQ{N:List Str}{F:FS}{ds:List D}{d:D}(h:F (bW N ds)= .ok (.rt d)):qS N F ds= .ok d:=by unfold qS;rw [h];rfl
theorem bx{α:Type}{p:Prop} [Decidable p](r:R α)(h:p):R.aS (decide p) r=r:=by rw[decide_eq_true h];rfl
theorem bf{i:Nat}{f:FD}{δ:ao}{d:D}(h:f δ= .ok d)(hi:i < δ.length):cG i f δ= .ok (.nx (δ.set i (.val d))):=by unfold cG;rw [h,R.aH,bx _ hi]
theorem jD{i:Nat}{f:ao->R (List D)}{δ:ao}{ds:List D}(h:f δ= .ok ds)(hi:i < δ.length):ph i f δ= .ok (.nx (δ.set i (.bld ds))):=by unfold ph;rw [h,R.aH,bx _ hi]
theorem g7{i:Nat}{f:FD}{δ:ao}{d:D}{ds:List D}(h:f δ= .ok d)(hb:δ[i]? =some (.bld ds))(hl:ds.length < sizeLine):nB i f δ= .ok (.nx (δ.set i (.bld (ds++[d])))):=by unfold nB qm;rw [h,R.aH,hb];show R.aS _ _=_;rw [bx _ hl]
theorem eX{it:ao->R (List D)}{c:ao->R Bool}{own:List Str}{kp:List Nat}{δ:ao}{ds ys:List D}(h1:it δ= .ok ds)(h2:ds.length<=sizeLine)(h3:oB t c f (qx own kp δ) ds= .ok ys):eN it t c f own kp δ= .ok ys:=by unfold eN;rw [h1,R.aH,bx _ h2,h3]
theorem LF{ds:List D}{i:Int}{d:D}(h:uF ds i=some d):cW (.lst ds) (.int i)= .ok d:=by unfold cW;simp only[h]
theorem KL{x:Str}{i:Int}{c:Nat}(hz:x.length<=sizeLine)(h:uF x.cps.toList i=some c):cW (.str x) (.int i)= .ok (.str ⟨#[c]⟩):=by unfold cW;simp only[h,bx _ hz]
end L2
end
section
namespace L2
open PySem PySem.Spec PyProof.Rows
theorem ax{g:D->D->R D}{fa fb:FD}{δ:ao}{a b:D}{r:R D}(ha:fa δ= .ok a)(hb:fb δ= .ok b)(h:g a b=r):e2 g fa fb δ=r:=by unfold e2;rw [ha,R.aH,hb,R.aH];exact h
theorem dc{g:D->D->R D}{fa fb:FD}{δ:ao}{a b:D}{k:Bool}(ha:fa δ= .ok a)(hb:fb δ= .ok b)(h:g a b= .ok (.bl k)):b2 g fa fb δ= .ok k:=by unfold b2;rw [ax ha hb h];rfl
theorem av{f:FD}{g:ao->R (List D)}{δ:ao}{d:D}{ds:List D}(h:f δ= .ok d)(h2:g δ= .ok ds):ai f g δ= .ok (d ::ds):=by unfold ai;rw [h,R.aH,h2];rfl
theorem aw{g:List D->R D}{fs:ao->R (List D)}{δ:ao}{ds:List D}{r:R D}(h:fs δ= .ok ds)(h2:g ds=r):aK g fs δ=r:=by unfold aK;rw [h,R.aH];exact h2
theorem o4{f:FD}{δ:ao}{d:D}(h:f (lH δ)= .ok d)(ha:d.atom=true):mX f δ= .ok d:=by unfold mX;rw [h,R.aH,ha];rfl
theorem eF{g:ao->R (List D)}{δ:ao}{ds:List D}(h:g δ= .ok ds)(hl:ds.length<=sizeLine):k9 g δ= .ok (.tup ds):=by unfold k9;rw [h,R.aH,bx _ hl]
theorem cF{g:ao->R (List D)}{δ:ao}{ds:List D}(h:g δ= .ok ds)(hl:ds.length<=sizeLine):eS g δ= .ok ds:=by unfold eS;rw [h,R.aH,bx _ hl]
theorem kE{g:D->List D->R D}{f:FD}{fs:ao->R (List D)}{δ:ao}{ds:List D}{r:R D}(h:f δ= .ok (.str x))(h2:fs δ= .ok ds)(h3:g (.str x) ds=r):zc "str" g f fs δ=r:=by
 unfold zc;rw [h,R.aH,h2,R.aH];exact h3
theorem nq{f:FD}{fl fh:FO}{δ:ao}{d:D}{lo hi:Option Int}{r:R D}(h:f δ= .ok d)(h1:fl δ= .ok lo)(h2:fh δ= .ok hi)(h3:IA d lo hi=r):BF f fl fh δ=r:=by unfold BF;rw [h,R.aH,h1,R.aH,h2,R.aH];exact h3
theorem iu{f:FD}{δ:ao}{i:Int}(h:f δ= .ok (.int i)):ie f δ= .ok (some i):=by unfold ie;rw [h];rfl
theorem CV{x:Str}{lo hi:Option Int}(h:x.length<=sizeLine):IA (.str x) lo hi= .ok (.str (Txt.slice x lo hi)):=by unfold IA;exact bx _ h
theorem mO{a b:Str}(h:a.length+b.length<=sizeLine):eu (.str a) (.str b)= .ok (.str (a++b)):=by unfold eu;exact bx _ h
theorem AU{a b:List D}(h:a.length+b.length<=sizeLine):eu (.lst a) (.lst b)= .ok (.lst (a++b)):=by unfold eu;exact bx _ h
theorem rR{a b:Int}(h:0 < b):cR (.int a) (.int b)= .ok (.int (a % b)):=by unfold cR FW;exact bx _ h
theorem A5{a b:Int}(h:0 < b)(h2:b < 1073741824):dh (.int a) (.int b)= .ok (.int (a / b)):=by unfold dh FW;exact bx _ ⟨h,h2⟩
theorem HW{a:Str}{n:Int}(h0:0<=n)(h1:n < 1000)(hl:a.length*n.toNat<=sizeLine):k_ (.str a) (.int n)= .ok (.str (Txt.mul a n)):=by unfold k_;exact bx _ ⟨by omega,by omega,hl⟩
theorem HQ{f:FD}{δ:ao}{n:Nat}(h:f δ= .ok (.int n))(hn:n < 1000000):iJ f δ= .ok (qD 0 n):=by
 unfold iJ;rw [h,R.aH];show R.aS (decide (-(2 ^ 62)<=(n:Int)/\(n:Int) < 2 ^ 62)) _=_;rw[bx _ ⟨by omega,by omega⟩,Int.toNat_natCast]
theorem gM{f:FD}{δ:ao}{ds:List D}(h:f δ= .ok (.lst ds)):dy f δ= .ok ds:=by unfold dy;rw [h];rfl
theorem El{f:FD}{δ:ao}{ds:List D}(h:f δ= .ok (.tup ds)):dy f δ= .ok ds:=by unfold dy;rw [h];rfl
theorem DS{f:FD}{δ:ao}{ds:List D}(h:f δ= .ok (.lst ds)):pF f δ= .ok (gq ds):=by unfold pF;rw [h];rfl
theorem Es{f:FD}{δ:ao}{b:Bool}(h:f δ= .ok (.bl b)):Mo f δ= .ok b:=by unfold Mo;rw [h];rfl
theorem dC{f:FD}{g:ao->R (List Str)}{δ:ao}{ss:List Str}(h:f δ= .ok (.str x))(h2:g δ= .ok ss):bu f g δ= .ok (x ::ss):=by unfold bu;rw [h,R.aH];show(g δ).bind _=_;rw [h2];rfl
theorem sf{f:FD}{δ:ao}{x:Str}(h:f δ= .ok (.str x))(hl:x.length<=sizeLine):iV f δ= .ok (.str x):=by unfold iV;rw [h,R.aH];unfold Gy;exact bx _ hl
theorem oC{f:FD}{δ:ao}{i:Int}(h:f δ= .ok (.int i))(hl:i.natAbs.log2 < 1920):iV f δ= .ok (.str (toString i)):=by unfold iV;rw [h,R.aH];unfold Gy;exact bx _ hl
theorem kI{g:ao->R (List Str)}{δ:ao}{ss:List Str}(h:g δ= .ok ss)(hl:(ss.foldl (·++·) Str.empty).length<=sizeLine):cD g δ= .ok (.str (ss.foldl (·++·) Str.empty)):=by unfold cD;rw [h,R.aH,bx _ hl]
theorem G7{i:Nat}{f:FD}{δ:ao}{ds es:List D}(h:f δ= .ok (.lst es))(hb:δ[i]? =some (.bld ds))(hl:ds.length+es.length<=sizeLine):xM i f δ= .ok (.nx (δ.set i (.bld (ds++es)))):=by
 unfold xM qm;rw [h,R.aH,hb];show R.aS _ _=_;rw [bx _ hl]
theorem NF(ds:List D):gr [.lst ds]= .ok (.int ds.length):=rfl
end L2
end
section
namespace L3
open PySem PySem.Spec PyProof.Rows L2
inductive V3 where
 | d (x:D) | loc (k:Nat) | lst (vs:List V3) | tup (vs:List V3) | fn (x:Str)
inductive SO where
 | lst (ds:List D) | dct (ay:List (Key × D)) | ins (c:Nat) (fs:List (Str × V3)) | ky | exc (c:Nat)
abbrev aP:=List SO
inductive R3 (α:Type) where
 | ok (a:α) (S:aP) | ex (c:Nat) (S:aP) | no
def R3.bind{α β:Type}:R3 α->(α->aP->R3 β)->R3 β
 | .ok a S,f=>f a S
 | .ex c S,_=> .ex c S
 | .no,_=> .no
theorem R3.af{α β:Type}{r:R3 α}{f:α->aP->R3 β}{b:β}{S':aP}(h:r.bind f= .ok b S'):∃a S,r= .ok a S/\f a S= .ok b S':=by
 cases r with
 | ok a S=>exact⟨a,S,rfl,h⟩
 | ex c S=>cases h
 | no=>cases h
@[simp] theorem R3.aH{α β:Type}(a:α)(S:aP)(f:α->aP->R3 β):(R3.ok a S).bind f=f a S:=rfl
def R3.aS{α:Type}(c:Bool)(r:R3 α):R3 α:=if c then r else .no
theorem R3.aN{α:Type}{c:Bool}{r:R3 α}{a:α}{S:aP}(h:R3.aS c r= .ok a S):c=true/\r= .ok a S:=by
 cases c with
 | true=>exact⟨rfl,h⟩
 | false=>cases h
def R3.of{α:Type}(r:R α)(S:aP):R3 α:=match r with | .ok a=> .ok a S | _=> .no
theorem R3.of_ok{α:Type}{r:R α}{S S':aP}{a:α}(h:R3.of r S= .ok a S'):r= .ok a/\S'=S:=by
 cases r with
 | ok b=>cases h;exact⟨rfl,rfl⟩
 | ex c=>cases h
 | no=>cases h
structure P3 where
 r:List Addr
 z:List Addr
 f:List Addr
def P3.b(ρ:P3):List Addr:=ρ.r.filter (fun a=>!ρ.f.contains a)++ρ.z
theorem P3.dZ{ρ:P3}{a:Addr}:a∈ρ.b↔(a∈ρ.r/\a ∉ ρ.f)\/a∈ρ.z:=by
 unfold P3.b;rw[List.mem_append,List.mem_filter];simp
def P3.push(ρ:P3)(a:Addr):P3:=⟨ρ.r++[a],ρ.z,ρ.f⟩
def P3.cut(ρ:P3)(n:Nat):P3:=⟨ρ.r.take n,ρ.z,ρ.f⟩
mutual
def aW(K:W.Frag)(ρ:P3)(H:Hp):V3->V->Prop
 | .d x,v=>Rep K ρ.b H x v
 | .loc k,v=>∃a,ρ.r[k]? =some a/\v= .ref a
 | .lst vs,v=>∃a xs,v= .ref a/\tW K ρ.b H a xs/\aE K ρ H vs xs
 | .tup vs,v=>∃a xs,v= .ref a/\vY K ρ.b H a xs/\aE K ρ H vs xs
 | .fn x,v=>∃a,PySem.W.nsIn K mainGlobals x=some (some (.ref a))/\v= .ref a
def aE(K:W.Frag)(ρ:P3)(H:Hp):List V3->List V->Prop
 | [],xs=>xs=[]
 | d ::ds,xs=>∃x r,xs=x ::r/\aW K ρ H d x/\aE K ρ H ds r
end
structure Pre (ρ:P3) (H:Hp) (bF:P3) (H':Hp):Prop where
 bc:dr ρ.b H bF.b H'
 zz:bF.z=ρ.z
 zs:∀(b:Addr) (o:HO),b∈ρ.z->H b=some o->H' b=some o
 ext:∀(k:Nat) (a:Addr),ρ.r[k]? =some a->bF.r[k]? =some a
theorem Pre.refl(ρ:P3)(H:Hp):Pre ρ H ρ H:=⟨dr.refl ρ.b H,rfl,fun _ _ _ h=>h,fun _ _ h=>h⟩
theorem Pre.trans(a:Pre ρ H bF H')(b:Pre bF H' FQ nc):Pre ρ H FQ nc:=⟨a.bc.trans b.bc,b.zz.trans a.zz,fun c o hc h=>b.zs c o (by rw[a.zz];exact hc) (a.zs c o hc h),fun k x h=>b.ext k x (a.ext k x h)⟩
theorem Pre.same(s:aM H H'):Pre ρ H ρ H':=⟨dr.same s,rfl,fun b o _ h=>s b o h,fun _ _ h=>h⟩
theorem vY.bc{K:W.Frag}{B B':List Addr}(p:dr B H B' H'){a:Addr}{xs:List V}(l:vY K B H a xs):vY K B' H' a xs:=
 l.elim (fun z=> .inl ⟨(p.rd z.2 z.1).2,(p.rd z.2 z.1).1⟩) .inr
mutual
theorem aW.pre{K:W.Frag}(p:Pre ρ H bF H'):∀{d:V3} {v:V},aW K ρ H d v->aW K bF H' d v
 | .d x,v,h=>by unfold aW at h ⊢;exact h.bc p.bc
 | .loc k,v,h=>by unfold aW at h ⊢;obtain⟨a,h1,h2⟩:=h;exact⟨a,p.ext k a h1,h2⟩
 | .lst vs,v,h=>by unfold aW at h ⊢;obtain⟨a,xs,e,l,r⟩:=h;exact⟨a,xs,e,l.bc p.bc,aE.pre p r⟩
 | .tup vs,v,h=>by unfold aW at h ⊢;obtain⟨a,xs,e,l,r⟩:=h;exact⟨a,xs,e,vY.bc p.bc l,aE.pre p r⟩
 | .fn x,v,h=>by unfold aW at h ⊢;exact h
theorem aE.pre{K:W.Frag}(p:Pre ρ H bF H'):∀{ds:List V3} {xs:List V},aE K ρ H ds xs->aE K bF H' ds xs
 | [],_,h=>by unfold aE at h ⊢;exact h
 | d ::ds,xs,h=>by
   unfold aE at h ⊢;obtain⟨x,r,e,h1,h2⟩:=h;exact⟨x,r,e,aW.pre p h1,aE.pre p h2⟩
end
structure PW (ρ:P3) (H:Hp) (bF:P3) (H':Hp):Prop where
 bc:dr ρ.b H bF.b H'
 ext:∀(k:Nat) (a:Addr),ρ.r[k]? =some a->bF.r[k]? =some a
theorem Pre.pw(p:Pre ρ H bF H'):PW ρ H bF H':=⟨p.bc,p.ext⟩
theorem PW.trans(a:PW ρ H bF H')(b:PW bF H' FQ nc):PW ρ H FQ nc:=⟨a.bc.trans b.bc,fun k x h=>b.ext k x (a.ext k x h)⟩
mutual
theorem aW.pw{K:W.Frag}(p:PW ρ H bF H'):∀{d:V3} {v:V},aW K ρ H d v->aW K bF H' d v
 | .d x,v,h=>by unfold aW at h ⊢;exact h.bc p.bc
 | .loc k,v,h=>by unfold aW at h ⊢;obtain⟨a,h1,h2⟩:=h;exact⟨a,p.ext k a h1,h2⟩
 | .lst vs,v,h=>by unfold aW at h ⊢;obtain⟨a,xs,e,l,r⟩:=h;exact⟨a,xs,e,l.bc p.bc,aE.pw p r⟩
 | .tup vs,v,h=>by unfold aW at h ⊢;obtain⟨a,xs,e,l,r⟩:=h;exact⟨a,xs,e,vY.bc p.bc l,aE.pw p r⟩
 | .fn x,v,h=>by unfold aW at h ⊢;exact h
theorem aE.pw{K:W.Frag}(p:PW ρ H bF H'):∀{ds:List V3} {xs:List V},aE K ρ H ds xs->aE K bF H' ds xs
 | [],_,h=>by unfold aE at h ⊢;exact h
 | d ::ds,xs,h=>by
   unfold aE at h ⊢;obtain⟨x,r,e,h1,h2⟩:=h;exact⟨x,r,e,aW.pw p h1,aE.pw p h2⟩
end
theorem aE.nil{K:W.Frag}:aE K ρ H [] []:=by unfold aE;rfl
theorem aE.cons{K:W.Frag}{d:V3}{ds:List V3}{x:V}{xs:List V}(h:aW K ρ H d x)(t:aE K ρ H ds xs):aE K ρ H (d ::ds) (x ::xs):=by
 unfold aE;exact⟨x,xs,rfl,h,t⟩
theorem aE.bR{K:W.Frag}{d:V3}{ds:List V3}{xs:List V}(h:aE K ρ H (d ::ds) xs):∃x r,xs=x ::r/\aW K ρ H d x/\aE K ρ H ds r:=by
 unfold aE at h;exact h
theorem aE.length{K:W.Frag}:∀{ds:List V3} {xs:List V},aE K ρ H ds xs->ds.length=xs.length
 | [],_,h=>by unfold aE at h;rw [h];rfl
 | d ::ds,xs,h=>by
   obtain⟨x,r,rfl,_,h2⟩:=h.bR;simp [h2.length]
theorem aE.of{K:W.Frag}{ρ:P3}:∀{ds:List D} {xs:List V},az K ρ.b H ds xs->aE K ρ H (ds.map .d) xs
 | [],_,h=>by unfold az at h;subst h;exact aE.nil
 | d ::ds,xs,h=>by
   obtain⟨x,r,rfl,h1,h2⟩:=h.bR;exact aE.cons (by unfold aW;exact h1) (aE.of h2)
theorem aE.to{K:W.Frag}{ρ:P3}:∀{ds:List D} {xs:List V},aE K ρ H (ds.map .d) xs->az K ρ.b H ds xs
 | [],_,h=>by unfold aE at h;subst h;exact az.nil
 | d ::ds,xs,h=>by
   obtain⟨x,r,rfl,h1,h2⟩:=aE.bR h;unfold aW at h1;exact az.cons h1 (aE.to h2)
def isExc(C b:Addr):Heap->Prop:=fun h=>∃o,h.get? b=some o/\o.cls= .ref C
def Fp(K:W.Frag)(cl:YH)(ρ:P3)(H:Hp):SO->Option HO->Prop
 | .lst ds,h=>∃xs,h=some (.lst xs)/\az K ρ.b H ds xs
 | .dct ay,h=>∃ys,h=some (.dK ys)/\ys.map (·.1)=ay.map (·.1)/\az K ρ.b H (ay.map (·.2)) (ys.map (·.2))
 | .ins c fs,h=>∃dx ys,h=some (.ins (cl c) dx ys)/\ys.map (·.1)=fs.map (·.1)/\aE K ρ H (fs.map (·.2)) (ys.map (·.2))
 | .ky,h=>∃u,h=some u
 | .exc c,h=>∃b,h=some (.ext (isExc (cl c) b))
theorem Fp.pre{K:W.Frag}{cl:YH}(p:Pre ρ H bF H'){o:SO}{h:Option HO}(r:Fp K cl ρ H o h):Fp K cl bF H' o h:=by
 cases o with
 | lst ds=>obtain⟨xs,e,q⟩:=r;exact⟨xs,e,q.bc p.bc⟩
 | dct ay=>obtain⟨ys,e,e2,q⟩:=r;exact⟨ys,e,e2,q.bc p.bc⟩
 | ins c fs=>obtain⟨dx,ys,e,e2,q⟩:=r;exact⟨dx,ys,e,e2,q.pre p⟩
 | ky=>exact r
 | exc c=>exact r
theorem Fp.pw{K:W.Frag}{cl:YH}(p:PW ρ H bF H'){o:SO}{h:Option HO}(r:Fp K cl ρ H o h):Fp K cl bF H' o h:=by
 cases o with
 | lst ds=>obtain⟨xs,e,q⟩:=r;exact⟨xs,e,q.bc p.bc⟩
 | dct ay=>obtain⟨ys,e,e2,q⟩:=r;exact⟨ys,e,e2,q.bc p.bc⟩
 | ins c fs=>obtain⟨dx,ys,e,e2,q⟩:=r;exact⟨dx,ys,e,e2,q.pw p⟩
 | ky=>exact r
 | exc c=>exact r
theorem Fp.some{K:W.Frag}{cl:YH}{o:SO}{h:Option HO}(r:Fp K cl ρ H o h):∃u,h=some u:=by
 cases o with
 | lst ds=>obtain⟨xs,e,q⟩:=r;exact⟨_,e⟩
 | dct ay=>obtain⟨ys,e,e2,q⟩:=r;exact⟨_,e⟩
 | ins c fs=>obtain⟨dx,ys,e,e2,q⟩:=r;exact⟨_,e⟩
 | ky=>exact r
 | exc c=>obtain⟨b,e⟩:=r;exact⟨_,e⟩
structure SW (K:W.Frag) (cl:YH) (ρ:P3) (H:Hp) (S:aP):Prop where
 len:ρ.r.length=S.length
 nd:∀(i j:Nat) (a:Addr),ρ.r[i]? =some a->ρ.r[j]? =some a->i=j
 ob:∀(k:Nat) (a:Addr) (o:SO),ρ.r[k]? =some a->S[k]? =some o->Fp K cl ρ H o (H a)
 zb:∀b∈ρ.z,(∃xs,H b=some (.lst xs))/\b ∉ ρ.r
 fz:∀(k:Nat) (a:Addr),ρ.r[k]? =some a->S[k]?≠some .ky->a ∉ ρ.f
 ff:∀a∈ρ.f,∃o,H a=some o
 fi:∀(k:Nat) (a:Addr),ρ.r[k]? =some a->S[k]? =some .ky->a∈ρ.f
theorem SW.rs{K:W.Frag}{cl:YH}{ρ:P3}{H:Hp}{S:aP}(w:SW K cl ρ H S):∀a∈ρ.r,∃o,H a=some o:=fun a z=>by
 obtain⟨k,hk⟩:=List.getElem?_of_mem z;have hl:=(List.getElem?_eq_some_iff.mp hk).1;exact(w.ob k a _ hk (List.getElem?_eq_getElem (by rw[<-w.len];exact hl))).some
theorem SW.bs{K:W.Frag}{cl:YH}{ρ:P3}{H:Hp}{S:aP}(w:SW K cl ρ H S):∀a∈ρ.b,∃o,H a=some o:=fun a ha=>by
 rcases P3.dZ.mp ha with z | z
 .exact w.rs a z.1
 .obtain⟨xs,h⟩:=(w.zb a z).1;exact⟨_,h⟩
theorem SW.same{K:W.Frag}{cl:YH}{S:aP}(w:SW K cl ρ H S)(s:aM H H'):SW K cl ρ H' S:=
 ⟨w.len,w.nd,fun k a o h1 h2=>by
   have r:=w.ob k a o h1 h2;obtain⟨u,hu⟩:=r.some;rw[s a u hu,<-hu];exact r.pre (Pre.same s),fun b hb=>let⟨⟨o,ho⟩,n⟩:=w.zb b hb;⟨⟨o,s b _ ho⟩,n⟩,w.fz,fun a ha=>let⟨o,ho⟩:=w.ff a ha;⟨o,s a o ho⟩,w.fi⟩
theorem P3.mem_push{ρ:P3}{a b:Addr}(h:b∈(ρ.push a).b):b∈ρ.b\/b=a:=by
 rcases P3.dZ.mp h with⟨z,n⟩ | z
 .rcases List.mem_append.mp z with y | y
  .exact .inl (P3.dZ.mpr (.inl ⟨y,n⟩))
  .exact .inr (List.mem_singleton.mp y)
 .exact .inl (P3.dZ.mpr (.inr z))
theorem SW.new{K:W.Frag}{cl:YH}{ρ:P3}{H H':Hp}{S:aP}(w:SW K cl ρ H S){a:Addr}{o:SO}(s:aM H H')(n:H a=none)(r:Fp K cl (ρ.push a) H' o (H' a))(qY:o≠SO.ky:=by intro h;cases h) :
 SW K cl (ρ.push a) H' (S++[o])/\Pre ρ H (ρ.push a) H':=by
 have na:a ∉ ρ.b:=fun ha=>by obtain⟨o,ho⟩:=w.bs a ha;rw [n] at ho;cases ho
 have nr:a ∉ ρ.r:=fun ha=>by obtain⟨o,ho⟩:=w.rs a ha;rw [n] at ho;cases ho
 have nf:a ∉ ρ.f:=fun ha=>by obtain⟨o,ho⟩:=w.ff a ha;rw [n] at ho;cases ho
 have p:Pre ρ H (ρ.push a) H':=⟨fun b u e nb=>⟨s b u e,fun hb=>by
  rcases P3.mem_push hb with z | z
  .exact nb z
  .subst z;rw [n] at e;cases e⟩,rfl,fun b o _ h=>s b o h,fun k x hx=>by
   show(ρ.r++[a])[k]? =_;rw[List.getElem?_append_left (List.getElem?_eq_some_iff.mp hx).1];exact hx⟩
 have last:∀(i:Nat) (b:Addr),(ρ.push a).r[i]? =some b->(i < ρ.r.length/\ρ.r[i]? =some b)\/(i=ρ.r.length/\b=a):=fun i b h=>by
  have h:(ρ.r++[a])[i]? =some b:=h;by_cases q:i < ρ.r.length
  .rw [List.getElem?_append_left q] at h;exact .inl ⟨q,h⟩
  .rw [List.getElem?_append_right (by omega)] at h
   have h0:i - ρ.r.length=0:=by
    have:=(List.getElem?_eq_some_iff.mp h).1;simp at this;omega
   rw[h0] at h;cases h;exact .inr ⟨by omega,rfl⟩
 refine⟨⟨by show(ρ.r++[a]).length=_;rw [List.length_append,List.length_append,w.len];rfl,fun i j b hi hj=>?_,fun k b u hk hu=>?_,fun b hb=>?_,fun k b hk hu=>?_,fun b hb=>?_,fun k b hk hu=>?_⟩,p⟩
 .rcases last i b hi with⟨q1,q2⟩ | ⟨q1,rfl⟩
  .rcases last j b hj with⟨z1,z2⟩ | ⟨z1,rfl⟩
   .exact w.nd i j b q2 z2
   .exact absurd (List.mem_of_getElem? q2) nr
  .rcases last j b hj with⟨z1,z2⟩ | ⟨z1,z3⟩
   .exact absurd (List.mem_of_getElem? z2) nr
   .omega
 .rcases last k b hk with⟨q1,q2⟩ | ⟨q1,rfl⟩
  .rw [List.getElem?_append_left (by rw[<-w.len];exact q1)] at hu
   have r0:=w.ob k b u q2 hu;obtain⟨x,hx⟩:=r0.some;rw[s b x hx,<-hx];exact r0.pre p
  .rw [List.getElem?_append_right (by rw[<-w.len];omega),q1,w.len,Nat.sub_self] at hu
   cases hu;exact r
 .obtain⟨⟨o,ho⟩,nb⟩:=w.zb b hb;refine⟨⟨o,s b _ ho⟩,fun h=>?_⟩
  rcases List.mem_append.mp h with y | y
  .exact nb y
  .rw [List.mem_singleton] at y;subst y;rw [n] at ho;cases ho
 .rcases last k b hk with⟨q1,q2⟩ | ⟨q1,rfl⟩
  .rw [List.getElem?_append_left (by rw[<-w.len];exact q1)] at hu
   exact w.fz k b q2 hu
  .exact nf
 .obtain⟨o,ho⟩:=w.ff b hb;exact⟨o,s b o ho⟩
 .rcases last k b hk with⟨q1,q2⟩ | ⟨q1,rfl⟩
  .rw [List.getElem?_append_left (by rw[<-w.len];exact q1)] at hu
   exact w.fi k b q2 hu
  .rw [List.getElem?_append_right (by rw[<-w.len];omega),q1,w.len,Nat.sub_self] at hu
   cases hu;exact absurd rfl qY
theorem SW.put{K:W.Frag}{cl:YH}{ρ:P3}{S:aP}(w:SW K cl ρ H S){k:Nat}{a:Addr}{o:SO}{u:HO}(hk:ρ.r[k]? =some a)(hf:a ∉ ρ.f)(r:Fp K cl ρ H o (some u))(qY:o≠SO.ky:=by intro h;cases h) :
 SW K cl ρ (upd H a u) (S.set k o)/\Pre ρ H ρ (upd H a u):=by
 have ha:a∈ρ.r:=List.mem_of_getElem? hk;have hb:a∈ρ.b:=P3.dZ.mpr (.inl ⟨ha,hf⟩);have nz:∀b∈ρ.z,b≠a:=fun b hb z=>(w.zb b hb).2 (by rw[z];exact ha)
 have p:Pre ρ H ρ (upd H a u):=⟨fun b x e nb=>⟨by rw[bj (fun(z:b=a)=>nb (by rw[z];exact hb))];exact e,nb⟩,rfl,fun b o hb h=>by rw[bj (nz b hb)];exact h,fun _ _ h=>h⟩
 have hl:k < S.length:=by rw[<-w.len];exact(List.getElem?_eq_some_iff.mp hk).1
 refine⟨⟨by rw[List.length_set];exact w.len,w.nd,fun j b x hj hx=>?_,fun b hb=>?_,fun j b hj hx=>?_,fun b hb=>?_,fun j b hj hx=>?_⟩,p⟩
 .by_cases q:k=j
  .subst q;rw[hk] at hj;cases hj;rw[List.getElem?_set_self hl] at hx;cases hx;rw[aX];exact r.pre p
  .rw [List.getElem?_set_ne q] at hx;have ne:b≠a:=fun z=>by subst z;exact q (w.nd k j b hk hj)
   rw[bj ne];exact(w.ob j b x hj hx).pre p
 .obtain⟨⟨o,ho⟩,nb⟩:=w.zb b hb;exact⟨⟨o,by rw[bj (nz b hb)];exact ho⟩,nb⟩
 .by_cases q:k=j
  .subst q;rw[hk] at hj;cases hj;exact hf
  .rw [List.getElem?_set_ne q] at hx;exact w.fz j b hj hx
 .obtain⟨o,ho⟩:=w.ff b hb;exact⟨o,by rw[bj (fun z=>hf (by rw[<-z];exact hb))];exact ho⟩
 .by_cases q:k=j
  .subst q;rw[List.getElem?_set_self hl] at hx;cases hx;exact absurd rfl qY
  .rw [List.getElem?_set_ne q] at hx;exact w.fi j b hj hx
mutual
def sV:D->Bool
 | .lst _=>false
 | .dct _ _=>false
 | .tup ds=>j9 ds
 | _=>true
def j9:List D->Bool
 | []=>true
 | d ::ds=>sV d && j9 ds
end
mutual
theorem Rep.uo{K:W.Frag}{B:List Addr}(hB:∀b∈B,∀xs,¬Rd H b (.tup xs)):∀{d:D} {v:V},sV d=true->Rep K [] H d v->Rep K B H d v
 | .cJ,v,_,r=>Rep.cJ.mpr (Rep.cJ.mp r)
 | .bl _,v,_,r=>Rep.bl.mpr (Rep.bl.mp r)
 | .int _,v,_,r=>Rep.int.mpr (Rep.int.mp r)
 | .str _,v,_,r=>Rep.str.mpr (Rep.str.mp r)
 | .lst _,v,h,_=>by unfold sV at h;cases h
 | .dct _ _,v,h,_=>by unfold sV at h;cases h
 | .tup ds,v,h,r=>by
   unfold sV at h;obtain⟨a,xs,rfl,l,rs⟩:=Rep.tup.mp r;exact Rep.tup.mpr ⟨a,xs,rfl,l.elim (fun z=> .inl ⟨fun hb=>hB a hb xs z.2,z.2⟩) .inr,az.uo hB h rs⟩
theorem az.uo{K:W.Frag}{B:List Addr}(hB:∀b∈B,∀xs,¬Rd H b (.tup xs)):∀{ds:List D} {vs:List V},j9 ds=true->az K [] H ds vs->az K B H ds vs
 | [],_,_,r=>by unfold az at r;subst r;exact az.nil
 | d ::ds,vs,h,r=>by
   unfold j9 at h;obtain⟨h1,h2⟩:=Bool.and_eq_true_iff.mp h;obtain⟨x,xs,rfl,r1,r2⟩:=r.bR;exact az.cons (Rep.uo hB h1 r1) (az.uo hB h2 r2)
end
theorem SW.nt{K:W.Frag}{cl:YH}{ρ:P3}{S:aP}(w:SW K cl ρ H S):∀b∈ρ.b,∀xs,¬Rd H b (.tup xs):=fun b hb xs h=>by
 have key:∀o,H b=some o->(∀xs,o≠ .tup xs)->(∀ob xs,o≠ .ky ob (.tup xs))->False:=fun o e h1 h2=>by
  rcases h with z | ⟨ob,z⟩
  .rw [e] at z;cases z;exact h1 _ rfl
  .rw [e] at z;cases z;exact h2 _ _ rfl
 rcases P3.dZ.mp hb with⟨z,n⟩ | z
 .obtain⟨k,hk⟩:=List.getElem?_of_mem z;have hl:=(List.getElem?_eq_some_iff.mp hk).1;have hS:S[k]? =some (S[k]'(by rw[<-w.len];exact hl)):=List.getElem?_eq_getElem (by rw[<-w.len];exact hl)
  have r:=w.ob k b _ hk hS;generalize S[k]'(by rw[<-w.len];exact hl)=o at r hS
  cases o with
  | lst ds=>obtain⟨ys,e,_⟩:=r;exact key _ e (fun _ q=>by cases q) (fun _ _ q=>by cases q)
  | dct ay=>obtain⟨ys,e,_⟩:=r;exact key _ e (fun _ q=>by cases q) (fun _ _ q=>by cases q)
  | ins c fs=>obtain⟨dx,ys,e,_⟩:=r;exact key _ e (fun _ q=>by cases q) (fun _ _ q=>by cases q)
  | ky=>exact n (w.fi k b hk hS)
  | exc c=>obtain⟨b',e⟩:=r;exact key _ e (fun _ q=>by cases q) (fun _ _ q=>by cases q)
 .obtain⟨⟨ys,e⟩,_⟩:=w.zb b z;exact key _ e (fun _ q=>by cases q) (fun _ _ q=>by cases q)
abbrev DE:=List (Option V3)
structure ee (K:W.Frag) (cl:YH) (ρ:P3) (H:Hp) (S:aP) (σ:L2.St) (δ:DE):Prop where
 len:δ.length=σ.length
 sw:SW K cl ρ H S
 val:∀(i:Nat) (d:V3),δ[i]? =some (some d)->∃v,σ[i]? =some (some v)/\aW K ρ H d v
theorem ee.to{K:W.Frag}{cl:YH}{S S':aP}{σ:L2.St}{δ:DE}(E:ee K cl ρ H S σ δ)(p:Pre ρ H bF H')(w:SW K cl bF H' S'):ee K cl bF H' S' σ δ:=
 ⟨E.len,w,fun i d e=>let⟨v,h1,h2⟩:=E.val i d e;⟨v,h1,h2.pre p⟩⟩
theorem ee.set{K:W.Frag}{cl:YH}{S:aP}{σ:L2.St}{δ:DE}(E:ee K cl ρ H S σ δ){i:Nat}{d:V3}{v:V}(hi:i < σ.length)(r:aW K ρ H d v):ee K cl ρ H S (σ.set i (some v)) (δ.set i (some d)):=
 ⟨by rw[List.length_set,List.length_set];exact E.len,E.sw,fun j d' e=>by
   by_cases h:i=j
   .subst h;rw[List.getElem?_set_self (by rw[E.len];exact hi)] at e
    cases e;exact⟨v,List.getElem?_set_self hi,r⟩
   .rw [List.getElem?_set_ne h] at e ⊢;exact E.val j d' e⟩
def down(δ:DE):ao:=δ.map fun x=>match x with | some (.d d)=> .val d | _=> .un
theorem ee.down{K:W.Frag}{cl:YH}{ρ:P3}{S:aP}{σ:L2.St}{δ:DE}(E:ee K cl ρ H S σ δ):c6 K [] ρ.b H σ (down δ) where
 len:=by unfold L3.down;rw [List.length_map];exact E.len
 bs:=E.sw.bs
 zb:=fun a ha=>by cases ha
 val:=fun i d e=>by
  unfold L3.down at e;rw[List.getElem?_map] at e;cases q:δ[i]? with
  | none=>rw [q] at e;cases e
  | some x=>
    rw[q] at e
    match x,e,q with
    | some (.d y),e,q=>
      cases e;obtain⟨v,h1,h2⟩:=E.val i _ q;unfold aW at h2;exact⟨v,h1,h2⟩
    | some (.loc k),e,q=>cases e
    | some (.lst k),e,q=>cases e
    | some (.tup k),e,q=>cases e
    | none,e,q=>cases e
 bld:=fun i ds e=>by
  unfold L3.down at e;rw[List.getElem?_map] at e;cases q:δ[i]? with
  | none=>rw [q] at e;cases e
  | some x=>
    rw[q] at e
    match x,e with
    | some (.d y),e=>cases e
    | some (.loc k),e=>cases e
    | some (.lst k),e=>cases e
    | some (.tup k),e=>cases e
    | none,e=>cases e
 dis:=fun i j a ds es e=>by
  unfold L3.down at e;rw[List.getElem?_map] at e;cases q:δ[i]? with
  | none=>rw [q] at e;cases e
  | some x=>
    rw[q] at e
    match x,e with
    | some (.d y),e=>cases e
    | some (.loc k),e=>cases e
    | some (.lst k),e=>cases e
    | some (.tup k),e=>cases e
    | none,e=>cases e
mutual
def res(S:aP):V3->Option D
 | .d x=>some x
 | .loc k=>(match S[k]? with | some (.lst ds)=>some (.lst ds) | some (.dct ay)=>some (.dct (ay.map (·.1)) (ay.map (·.2))) | _=>none)
 | .lst vs=>(wu S vs).map D.lst
 | .tup vs=>(wu S vs).map D.tup
 | .fn _=>none
def wu(S:aP):List V3->Option (List D)
 | []=>some []
 | v ::vs=>(res S v).bind fun d=>(wu S vs).map (d ::·)
end
def hV(S:aP)(δ:DE):ao:=δ.map fun x=>match x with | some v=>(match res S v with | some d=> .val d | none=> .un) | none=> .un
theorem px{α β:Type}{o:Option α}{f:α->β}{b:β}(h:o.map f=some b):∃a,o=some a/\f a=b:=by
 cases o with
 | none=>cases h
 | some a=>cases h;exact⟨a,rfl,rfl⟩
theorem yJ{α β:Type}{o:Option α}{f:α->Option β}{b:β}(h:o.bind f=some b):∃a,o=some a/\f a=some b:=by
 cases o with
 | none=>cases h
 | some a=>exact⟨a,rfl,h⟩
mutual
def mh(n:Nat):V3->Bool
 | .d _=>true
 | .loc k=>decide (n<=k)
 | .lst vs=>n6 n vs
 | .tup vs=>n6 n vs
 | .fn _=>true
def n6(n:Nat):List V3->Bool
 | []=>true
 | v ::vs=>mh n v && n6 n vs
end
mutual
theorem aW.resB{K:W.Frag}{cl:YH}{ρ:P3}{S:aP}{B':List Addr}{n:Nat}(w:SW K cl ρ H S)(p:dr ρ.b H B' H)(hn:∀(k:Nat) (a:Addr),n<=k->ρ.r[k]? =some a->a ∉ B'):∀{v:V3} {d:D} {x:V},mh n v=true->res S v=some d->aW K ρ H v x->Rep K B' H d x
 | .d y,d,x,_,h,r=>by unfold L3.res at h;cases h;unfold aW at r;exact r.bc p
 | .fn y,d,x,_,h,r=>by unfold L3.res at h;cases h
 | .loc k,d,x,g,h,r=>by
   unfold L3.res at h;unfold aW at r;unfold mh at g;obtain⟨a,h1,rfl⟩:=r;split at h
   .rename_i ds e;cases h;obtain⟨xs,e2,q⟩:=w.ob k a _ h1 e;unfold Rep;exact⟨a,xs,rfl, .inl ⟨hn k a (of_decide_eq_true g) h1, .inl e2⟩,q.bc p⟩
   .rename_i ay e;cases h;obtain⟨ys,e2,e3,q⟩:=w.ob k a _ h1 e;unfold Rep;exact⟨a,ys,rfl,⟨hn k a (of_decide_eq_true g) h1,e2⟩,e3,q.bc p⟩
   .cases h
 | .lst vs,d,x,g,h,r=>by
   unfold L3.res at h;unfold mh at g;obtain⟨ds,e,rfl⟩:=px h;unfold aW at r;obtain⟨a,xs,rfl,l,r⟩:=r;unfold Rep;exact⟨a,xs,rfl,l.bc p,aE.resB w p hn g e r⟩
 | .tup vs,d,x,g,h,r=>by
   unfold L3.res at h;unfold mh at g;obtain⟨ds,e,rfl⟩:=px h;unfold aW at r;obtain⟨a,xs,rfl,l,r⟩:=r;unfold Rep;exact⟨a,xs,rfl,vY.bc p l,aE.resB w p hn g e r⟩
theorem aE.resB{K:W.Frag}{cl:YH}{ρ:P3}{S:aP}{B':List Addr}{n:Nat}(w:SW K cl ρ H S)(p:dr ρ.b H B' H)(hn:∀(k:Nat) (a:Addr),n<=k->ρ.r[k]? =some a->a ∉ B'):∀{vs:List V3} {ds:List D} {xs:List V},n6 n vs=true->wu S vs=some ds->aE K ρ H vs xs->az K B' H ds xs
 | [],ds,xs,_,h,r=>by unfold wu at h;cases h;unfold aE at r;subst r;exact az.nil
 | v ::vs,ds,xs,g,h,r=>by
   unfold wu at h;unfold n6 at g;obtain⟨g1,g2⟩:=Bool.and_eq_true_iff.mp g;obtain⟨d,e1,h2⟩:=yJ h;obtain⟨es,e2,rfl⟩:=px h2;obtain⟨y,ys,rfl,r1,r2⟩:=r.bR;exact az.cons (aW.resB w p hn g1 e1 r1) (aE.resB w p hn g2 e2 r2)
end
mutual
theorem ui:∀v:V3,mh 0 v=true
 | .d _=>by unfold mh;rfl
 | .loc k=>by unfold mh;exact decide_eq_true (Nat.zero_le _)
 | .lst vs=>by unfold mh;exact nH vs
 | .tup vs=>by unfold mh;exact nH vs
 | .fn _=>by unfold mh;rfl
theorem nH:∀vs:List V3,n6 0 vs=true
 | []=>by unfold n6;rfl
 | v ::vs=>by unfold n6;rw [ui v,nH vs];rfl
end
theorem aW.res{K:W.Frag}{cl:YH}{S:aP}(w:SW K cl ρ H S){v:V3}{d:D}{x:V}(h:res S v=some d)(r:aW K ρ H v x):Rep K [] H d x:=
 r.resB w (fun b o e _=>⟨e,by simp⟩) (n:=0) (fun _ _ _ _=>by simp) (ui v) h
theorem pz{S:aP}{δ:DE}{i:Nat}{y:Sl}(e:(hV S δ)[i]? =some y):(∃v d,δ[i]? =some (some v)/\res S v=some d/\y= .val d)\/y= .un:=by
 unfold hV at e;rw[List.getElem?_map] at e;cases q:δ[i]? with
 | none=>rw [q] at e;cases e
 | some x=>
   rw[q] at e;cases x with
   | none=>cases e;exact .inr rfl
   | some v=>
     cases z:res S v with
     | none=>
       have e:some (match res S v with | some d=>Sl.val d | none=> .un)=some y:=e
       rw[z] at e;cases e;exact .inr rfl
     | some d=>
       have e:some (match res S v with | some d=>Sl.val d | none=> .un)=some y:=e
       rw[z] at e;cases e;exact .inl ⟨v,d,rfl,z,rfl⟩
theorem ee.hV{K:W.Frag}{cl:YH}{S:aP}{σ:L2.St}{δ:DE}(E:ee K cl ρ H S σ δ):c6 K [] [] H σ (hV S δ) where
 len:=by unfold L3.hV;rw [List.length_map];exact E.len
 bs:=fun a ha=>by cases ha
 zb:=fun a ha=>by cases ha
 val:=fun i d e=>by
  rcases pz e with⟨v,d',h1,h2,h3⟩ | h
  .cases h3;obtain⟨x,q1,q2⟩:=E.val i v h1;exact⟨x,q1,q2.res E.sw h2⟩
  .cases h
 bld:=fun i ds e=>by
  rcases pz e with⟨v,d',h1,h2,h3⟩ | h
  .cases h3
  .cases h
 dis:=fun i j a ds es e=>by
  rcases pz e with⟨v,d',h1,h2,h3⟩ | h
  .cases h3
  .cases h
abbrev FX:=DE->aP->R3 V3
abbrev FB:=DE->aP->R3 Bool
abbrev FA:=DE->aP->R3 (List V3)
def tX(K:W.Frag)(cl:YH)(f:FX):TE:=fun σ H Q=>∃ρ S δ v S',ee K cl ρ H S σ δ/\f δ S= .ok v S'/\∀u bF H',Pre ρ H bF H'->SW K cl bF H' S'->aW K bF H' v u->Q u H'
def Mi(K:W.Frag)(cl:YH)(f:FB):TT:=fun σ H Q=>∃ρ S δ b S',ee K cl ρ H S σ δ/\f δ S= .ok b S'/\∀bF H',Pre ρ H bF H'->SW K cl bF H' S'->Q b H'
def Ui(K:W.Frag)(cl:YH)(f:FA):TA:=fun σ H Q=>∃ρ S δ vs S',ee K cl ρ H S σ δ/\f δ S= .ok vs S'/\∀us bF H',Pre ρ H bF H'->SW K cl bF H' S'->aE K bF H' vs us->Q us H'
structure PX (X:Cx) (cl:YH) (e:Expr) (f:FX):Prop where
 go:PE X e (tX X.K cl f)
structure BR (X:Cx) (cl:YH) (e:Expr) (f:FB):Prop where
 go:PT X e (Mi X.K cl f)
structure HE (X:Cx) (cl:YH) (es:List Expr) (f:FA):Prop where
 go:PA X es (Ui X.K cl f)
section
variable {X:Cx} {cl:YH}
def xP(f:FD):FX:=fun δ S=>(R3.of (f (down δ)) S).bind fun d S=> .ok (.d d) S
theorem aD(h:QD X e f):PX X cl e (xP f):=⟨h.1.imp fun σ H Q ⟨ρ,S,δ,v,S',E,hf,q⟩=>by
 obtain⟨d,S1,h1,h2⟩:=R3.af hf;obtain⟨h3,e3⟩:=R3.of_ok h1;cases h2;subst e3;exact⟨[],ρ.b,down δ,d,E.down,h3,fun v H' s r=>q v ρ H' (Pre.same s) (E.sw.same s) (by unfold aW;exact r)⟩⟩
def xT(f:FD):FX:=fun δ S=>(R3.of (f (hV S δ)) S).bind fun d S=>R3.aS (sV d) (.ok (.d d) S)
theorem mE(h:QD X e f):PX X cl e (xT f):=⟨h.1.imp fun σ H Q ⟨ρ,S,δ,v,S',E,hf,q⟩=>by
 obtain⟨d,S1,h1,h2⟩:=R3.af hf;obtain⟨h4,e3⟩:=R3.of_ok h1;obtain⟨ha,h3⟩:=R3.aN h2;cases h3;subst e3;exact⟨[],[],hV _ δ,d,E.hV,h4,fun v H' s r=>q v ρ H' (Pre.same s) (E.sw.same s) (by unfold aW;exact Rep.uo (E.sw.same s).nt ha r)⟩⟩
def bP(f:ao->R Bool):FB:=fun δ S=>R3.of (f (down δ)) S
theorem me{f:ao->R Bool}(h:QB X e f):BR X cl e (bP f):=⟨h.1.imp fun σ H Q ⟨ρ,S,δ,v,S',E,hf,q⟩=>by
 obtain⟨h1,e3⟩:=R3.of_ok hf;subst e3;exact⟨[],ρ.b,down δ,v,E.down,h1,fun H' s=>q ρ H' (Pre.same s) (E.sw.same s)⟩⟩
def bT(f:ao->R Bool):FB:=fun δ S=>R3.of (f (hV S δ)) S
theorem DR{f:ao->R Bool}(h:QB X e f):BR X cl e (bT f):=⟨h.1.imp fun σ H Q ⟨ρ,S,δ,v,S',E,hf,q⟩=>by
 obtain⟨h1,e3⟩:=R3.of_ok hf;subst e3;exact⟨[],[],hV _ δ,v,E.hV,h1,fun H' s=>q ρ H' (Pre.same s) (E.sw.same s)⟩⟩
def cn(i:Nat):FX:=fun δ S=>match δ[i]? with | some (some v)=> .ok v S | _=> .no
theorem bg(i:Nat){x:Str}{pos:Pos}(hN:X.N[i]? =some x:=by rfl)(hv:Gp X.env.scope x:=by first | exact Or.inl rfl | exact Or.inr (Or.inl rfl) | exact Or.inr (Or.inr rfl))(hd:(x==("__debug__":Str))=false:=by decide)
 (qI:(x==("__classdict__":Str))=false:=by decide):PX X cl (.Name x pos) (cn i):=⟨(uQ hN hv hd qI).imp fun σ H Q ⟨ρ,S,δ,v,S',E,hf,q⟩=>by
 unfold cn at hf;split at hf
 .rename_i d' e;cases hf;obtain⟨u,h1,h2⟩:=E.val i _ e;exact⟨u,h1,q u ρ H (Pre.refl ρ H) E.sw h2⟩
 .cases hf⟩
def BP(f:ao->R (List D)):FX:=fun δ S=>(R3.of (f (down δ)) S).bind fun ds S=> .ok (.loc S.length) (S++[.lst ds])
theorem u6{f:ao->R (List D)}(h:QN X e f):PX X cl e (BP f):=⟨h.1.imp fun σ H Q ⟨ρ,S,δ,v,S',E,hf,q⟩=>by
 obtain⟨ds,S1,h1,h2⟩:=R3.af hf;obtain⟨h3,e3⟩:=R3.of_ok h1;cases h2;subst e3;refine⟨[],ρ.b,down δ,ds,E.down,h3,fun a xs H' s n e r=>?_⟩
 have r':az X.K (ρ.push a).b H' ds xs:=r.bc fun b o e nb=>⟨e,fun hb=>nb (by
  rcases P3.mem_push hb with z | z
  .exact List.mem_cons_of_mem _ z
  .subst z;exact List.mem_cons_self)⟩
 obtain⟨w,p⟩:=E.sw.new (o:= .lst ds) s n ⟨xs,e,r'⟩;exact q _ _ H' p w (by unfold aW;exact⟨a,by show(ρ.r++[a])[_]? =_;rw [<-E.sw.len,List.getElem?_append_right (by omega),Nat.sub_self];rfl,rfl⟩)⟩
end
end L3
end
section
namespace L3
open PySem PySem.Spec PyProof.Rows L2
section
variable {X:Cx} {cl:YH}
def dw:FA:=fun _ S=> .ok [] S
def bt(f:FX)(g:FA):FA:=fun δ S=>(f δ S).bind fun v S1=>(g δ S1).bind fun vs S2=> .ok (v ::vs) S2
theorem bH:HE X cl [] dw:=⟨i9.imp fun σ H Q ⟨ρ,S,δ,v,S',E,hf,q⟩=>by
 cases hf;exact q [] ρ H (Pre.refl ρ H) E.sw aE.nil⟩
theorem aQ(h:PX X cl e f)(t:HE X cl es g)(hs:starEach (e ::es) X.env=(false,eval e X.env) ::starEach es X.env:=by rfl):HE X cl (e ::es) (bt f g):=
 ⟨(f_ h.1 t.1 hs).imp fun σ H Q ⟨ρ,S,δ,v,S',E,hf,q⟩=>by
   obtain⟨v1,S1,h1,h2⟩:=R3.af hf;obtain⟨vs,S2,h3,h4⟩:=R3.af h2;cases h4;exact⟨ρ,S,δ,v1,S1,E,h1,fun u bz H1 p1 w1 r1=>⟨bz,S1,δ,vs,_,E.to p1 w1,h3,fun us mP H2 p2 w2 r2=>q _ mP H2 (p1.trans p2) w2 (aE.cons (r1.pre p2) r2)⟩⟩⟩
def pG:List V3->Option (List D)
 | []=>some []
 | .d x ::r=>(pG r).map (x ::·)
 | _ ::_=>none
theorem iZ:∀{vs:List V3} {ds:List D},pG vs=some ds->vs=ds.map .d
 | [],ds,h=>by cases h;rfl
 | .d x ::r,ds,h=>by
   cases e:pG r with
   | none=>have h:(pG r).map (x ::·)=some ds:=h;rw [e] at h;cases h
   | some es=>
     have h:(pG r).map (x ::·)=some ds:=h
     rw[e] at h;cases h;rw[iZ e];rfl
 | .loc _ ::_,_,h=>by cases h
 | .lst _ ::_,_,h=>by cases h
 | .tup _ ::_,_,h=>by cases h
 | .fn _ ::_,_,h=>by cases h
theorem rH:∀ds:List D,pG (ds.map .d)=some ds
 | []=>rfl
 | d ::ds=>by show(pG (ds.map .d)).map (d ::·)=_;rw [rH ds];rfl
def xH(vs:List V3):V3:=match pG vs with | some ds=> .d (.tup ds) | none=> .tup vs
def ug(vs:List V3):V3:=match pG vs with | some ds=> .d (.lst ds) | none=> .lst vs
def wK(g:FA):FX:=fun δ S=>(g δ S).bind fun vs S=>R3.aS (decide (vs.length<=sizeLine)) (.ok (xH vs) S)
theorem qM{H:Hp}{p:Addr}{o:HO}(hp:H p=none):Pre ρ H ρ (upd H p o):=Pre.same (ba hp)
theorem ud{K:W.Frag}{ρ:P3}{vs:List V3}{xs:List V}{a:Addr}(l:vY K ρ.b H a xs)(r:aE K ρ H vs xs):aW K ρ H (xH vs) (.ref a):=by
 unfold xH;split
 .rename_i ds e;rw[iZ e] at r;unfold aW Rep;exact⟨a,xs,rfl,l,r.to⟩
 .unfold aW;exact⟨a,xs,rfl,l,r⟩
theorem Cc{K:W.Frag}{ρ:P3}{vs:List V3}{xs:List V}{a:Addr}(l:tW K ρ.b H a xs)(r:aE K ρ H vs xs):aW K ρ H (ug vs) (.ref a):=by
 unfold ug;split
 .rename_i ds e;rw[iZ e] at r;unfold aW Rep;exact⟨a,xs,rfl,l,r.to⟩
 .unfold aW;exact⟨a,xs,rfl,l,r⟩
theorem Ef{x1 pos}(h:HE X cl es g):PX X cl (.Tuple es x1 pos) (wK g):=⟨(zw h.1).imp fun σ H Q ⟨ρ,S,δ,v,S',E,hf,q⟩=>by
 obtain⟨vs,S1,h1,h2⟩:=R3.af hf;obtain⟨hl,h3⟩:=R3.aN h2;cases h3;refine⟨ρ,S,δ,vs,_,E,h1,fun us bz H1 p1 w1 r1=>⟨by rw[<-r1.length];exact of_decide_eq_true hl,fun p hp=>q _ bz _ (p1.trans (qM hp)) (w1.same (ba hp)) ?_⟩⟩
 refine ud (.inl ⟨fun ha=>?_, .inl aX⟩) (r1.pre (qM hp))
 obtain⟨o,ho⟩:=w1.bs p ha;rw[hp] at ho;cases ho⟩
def VT(g:FA):FX:=fun δ S=>(g δ S).bind fun vs S=>R3.aS (decide (vs.length<=sizeLine)) (.ok (ug vs) S)
def x2(g:D->D->R D)(fa fb:FX):FX:=fun δ S=>(fa δ S).bind fun a S1=>(fb δ S1).bind fun b S2=>match a,b with
 | .d x, .d y=>(R3.of (g x y) S2).bind fun d S=> .ok (.d d) S
 | _,_=> .no
theorem Nb{K:W.Frag}{g:D->D->R D}{σ:L2.St}{Q:VK}(h:tX K cl (x2 g fa fb) σ H Q) :
 Mv (fun x y H Q=>∃B da db d,(∀a∈B,∃o,H a=some o)/\Rep K B H da x/\Rep K B H db y/\g da db= .ok d/\∀z H',aM H H'->Rep K B H' d z->Q z H') (tX K cl fa) (tX K cl fb) σ H Q:=by
 obtain⟨ρ,S,δ,v,S',E,hf,q⟩:=h;obtain⟨a,S1,h1,h2⟩:=R3.af hf;obtain⟨b,S2,h3,h4⟩:=R3.af h2
 match a,b,h1,h3,h4 with
 | .d x, .d y,h1,h3,h4=>
   obtain⟨d,S3,h5,h6⟩:=R3.af h4;obtain⟨h7,e⟩:=R3.of_ok h5;cases h6;subst e;refine⟨ρ,S,δ, .d x,S1,E,h1,fun u1 bz H1 p1 w1 r1=>⟨bz,S1,δ, .d y,_,E.to p1 w1,h3,fun u2 mP H2 p2 w2 r2=>?_⟩⟩
   have sQ:=r1.pre p2;unfold aW at sQ r2;exact⟨mP.b,x,y,d,w2.bs,sQ,r2,h7,fun z H' s r=>q z mP H' (p1.trans (p2.trans (Pre.same s))) (w2.same s) (by unfold aW;exact r)⟩
 | .d x, .loc _,_,_,h4=>cases h4
 | .d x, .lst _,_,_,h4=>cases h4
 | .d x, .tup _,_,_,h4=>cases h4
 | .d x, .fn _,_,_,h4=>cases h4
 | .loc _,_,_,_,h4=>cases h4
 | .lst _,_,_,_,h4=>cases h4
 | .tup _,_,_,_,h4=>cases h4
 | .fn _,_,_,_,h4=>cases h4
theorem L1{op:CmpOp}{g:D->D->R D}(ho:lA X (compareOp op) g)(ha:PX X cl a fa)(hb:PX X cl b fb)(hm:behindInMarks op b=false):PX X cl (.Compare a [op] [b] pos) (x2 g fa fb):=
 ⟨(Aj ho.r ha.1 hb.1 hm).imp fun σ H Q h=>Nb h⟩
def JE(g:D->D->R D)(fa fb:FX):FB:=fun δ S=>(x2 g fa fb δ S).bind fun v S=>match v with | .d (.bl b)=> .ok b S | _=> .no
theorem oH{op:CmpOp}{g:D->D->R D}(ho:lA X (compareOp op) g)(ha:PX X cl a fa)(hb:PX X cl b fb)(hm:behindInMarks op b=false):BR X cl (.Compare a [op] [b] pos) (JE g fa fb):=
 ⟨(A4 ho.r ha.1 hb.1 hm).imp fun σ H Q ⟨ρ,S,δ,b,S',E,hf,q⟩=>by
   obtain⟨v,S1,h1,h2⟩:=R3.af hf;have hv:v= .d (.bl b)/\S1=S':=by
    match v,h2 with
    | .d (.bl k),h2=>cases h2;exact⟨rfl,rfl⟩
    | .d .cJ,h2=>cases h2
    | .d (.int _),h2=>cases h2
    | .d (.str _),h2=>cases h2
    | .d (.lst _),h2=>cases h2
    | .d (.tup _),h2=>cases h2
    | .d (.dct _ _),h2=>cases h2
    | .loc _,h2=>cases h2
    | .lst _,h2=>cases h2
    | .tup _,h2=>cases h2
    | .fn _,h2=>cases h2
   obtain⟨rfl,rfl⟩:=hv;exact Nb (g:=g) (Q:=fun x H'=>∃k,x= .bl k/\Q k H') ⟨ρ,S,δ,_,_,E,h1,fun u bF H' p w r=>⟨b,by unfold aW Rep at r;exact r,q bF H' p w⟩⟩⟩
inductive Ou where
 | nx (δ:DE) | rt (v:V3)
abbrev FZ:=DE->aP->R3 Ou
def xS(K:W.Frag)(cl:YH)(ρ:P3)(H:Hp)(D:Ends)(S':aP):Ou->Prop
 | .nx cz=>∀cA bF H',Pre ρ H bF H'->ee K cl bF H' S' cA cz->D.nx cA H'
 | .rt v=>∀u bF H',Pre ρ H bF H'->SW K cl bF H' S'->aW K bF H' v u->D.rt u H'
theorem xS.pre{K:W.Frag}{D:Ends}{S':aP}{o:Ou}(q:xS K cl ρ H D S' o)(p:Pre ρ H bz H1):xS K cl bz H1 D S' o:=by
 cases o with
 | nx cz=>exact fun cA bF H' p' E'=>q cA bF H' (p.trans p') E'
 | rt d=>exact fun v bF H' p' w r=>q v bF H' (p.trans p') w r
def sX(K:W.Frag)(cl:YH)(F:FZ):TS:=fun D σ H=>∃ρ S δ o S',ee K cl ρ H S σ δ/\F δ S= .ok o S'/\xS K cl ρ H D S' o
structure PZ (X:Cx) (cl:YH) (st:Stmt) (F:FZ):Prop where
 go:PS X st (sX X.K cl F)
structure F5 (X:Cx) (cl:YH) (st:List Stmt) (F:FZ):Prop where
 go:ue X st (sX X.K cl F)
def mU:FZ:=fun δ S=> .ok (.nx δ) S
def cO(F G:FZ):FZ:=fun δ S=>(F δ S).bind fun o S1=>match o with | .nx cz=>G cz S1 | .rt d=> .ok (.rt d) S1
theorem Hx:F5 X cl [] mU:=⟨vB.imp fun D σ H ⟨ρ,S,δ,o,S',E,hf,q⟩=>by
 cases hf;exact q σ ρ H (Pre.refl ρ H) E⟩
theorem bG{st:Stmt}{rest:List Stmt}(h1:PZ X cl st F)(h2:F5 X cl rest G):F5 X cl (st ::rest) (cO F G):=⟨(rT h1.1 h2.1).imp fun D σ H ⟨ρ,S,δ,o,S',E,hf,q⟩=>by
 obtain⟨o1,S1,h1,h2⟩:=R3.af hf;refine⟨ρ,S,δ,o1,S1,E,h1,?_⟩;cases o1 with
 | nx δ1=>
   intro Cy bz H1 p1 E1;exact⟨bz,S1,δ1,o,S',E1,h2,q.pre p1⟩
 | rt d=>
   cases h2;exact q⟩
theorem dI{st:Stmt}(h1:PZ X cl st F):F5 X cl [st] F:=⟨vh h1.1⟩
def oK(i:Nat)(f:FX):FZ:=fun δ S=>(f δ S).bind fun v S=>R3.aS (decide (i < δ.length)) (.ok (.nx (δ.set i (some v))) S)
theorem iK{i:Nat}{pos pos':Pos}(hN:X.N.Nodup)(hi:X.N[i]? =some x)(hx:Loc X.env.scope x)(he:PX X cl e f)(hs:swapsWith e (some (.Name x pos')) pos.line X.env=pure false:=by rfl)(hf:X.fn x=true\/X.env.scope.names.lookup x=some .local:=by first | exact .inl rfl | exact .inr rfl | assumption) :
 PZ X cl (.Assign [.Name x pos'] e pos) (oK i f):=⟨(zf hN hi hx he.1 hs hf).imp fun D σ H ⟨ρ,S,δ,o,S',E,hf,q⟩=>by
 obtain⟨v,S1,h1,h2⟩:=R3.af hf;obtain⟨hi,h3⟩:=R3.aN h2;cases h3;refine⟨ρ,S,δ,v,_,E,h1,fun u bz H1 p1 w1 r1=>?_⟩
 exact q _ bz H1 p1 ((E.to p1 w1).set (by rw[<-E.len];exact of_decide_eq_true hi) r1)⟩
def zI(f:FX):FZ:=fun δ S=>(f δ S).bind fun v S=> .ok (.rt v) S
theorem rJ(he:PX X cl e f):PZ X cl (.Return (some e) pos) (zI f):=⟨(Fi he.1).imp fun D σ H ⟨ρ,S,δ,o,S',E,hf,q⟩=>by
 obtain⟨v,S1,h1,h2⟩:=R3.af hf;cases h2;exact⟨ρ,S,δ,v,_,E,h1,fun u bz H1 p1 w1 r1=>q u bz H1 p1 w1 r1⟩⟩
def tJ(c:FB)(F G:FZ):FZ:=fun δ S=>(c δ S).bind fun b S=>if b then F δ S else G δ S
theorem EW(hc:BR X cl c fc)(ha:F5 X cl a F)(hb:F5 X cl b G):PZ X cl (.If c a b pos) (tJ fc F G):=⟨(Ff hc.1 ha.1 hb.1).imp fun D σ H ⟨ρ,S,δ,o,S',E,hf,q⟩=>by
 obtain⟨k,S1,h1,h2⟩:=R3.af hf;refine⟨ρ,S,δ,k,S1,E,h1,fun bz H1 p1 w1=>?_⟩
 cases k with
 | true=>rw [if_pos rfl] at h2;exact BS ⟨bz,S1,δ,o,S',E.to p1 w1,h2,q.pre p1⟩
 | false=>rw [if_neg (by decide)] at h2;exact B7 ⟨bz,S1,δ,o,S',E.to p1 w1,h2,q.pre p1⟩⟩
def tZ(f:FX):FZ:=fun δ S=>(f δ S).bind fun _ S=> .ok (.nx δ) S
def Az(c:FB)(body:FZ):Nat->FZ
 | 0,_,_=> .no
 | n+1,δ,S=>(c δ S).bind fun b S=>if b then(body δ S).bind fun o S=>match o with | .nx iB=>Az c body n iB S | .rt r=> .ok (.rt r) S else .ok (.nx δ) S
def QM(n:Nat)(c:FB)(body:FZ):FZ:=fun δ S=>Az c body n δ S
end
end L3
end
section
namespace L3
open PySem PySem.Spec PyProof.Rows L2
theorem aE.get{K:W.Frag}:∀{ds:List V3} {xs:List V} {i:Nat} {d:V3},aE K ρ H ds xs->ds[i]? =some d->∃x,xs[i]? =some x/\aW K ρ H d x
 | [],_,_,_,_,e=>by simp at e
 | d ::ds,xs,0,d',h,e=>by
   obtain⟨x,r,rfl,h1,h2⟩:=h.bR;simp at e;subst e;exact⟨x,rfl,h1⟩
 | d ::ds,xs,i+1,d',h,e=>by
   obtain⟨x,r,rfl,h1,h2⟩:=h.bR;obtain⟨y,e1,e2⟩:=aE.get (i:=i) h2 (by simpa using e)
   exact⟨y,by simpa using e1,e2⟩
def OZ(K:W.Frag)(ρ:P3)(H:Hp)(J:It)(vs:List V3):Prop:=∀bF H',PW ρ H bF H'->(∀a∈bF.b,∃o,H' a=some o)->(∀(i:Nat) (d:V3),vs[i]? =some d->J.go i H'/\∀x nc,J.yld i H' x nc->aM H' nc/\aW K bF nc d x)/\J.stop vs.length H'
theorem OZ.of{K:W.Frag}{ρ:P3}{J:It}{ds:List D}(h:Fu K ρ.b H J ds):OZ K ρ H J (ds.map .d):=fun bF H' p bs=>by
 obtain⟨h1,h2⟩:=h bF.b H' p.bc;refine⟨fun i v hv=>?_,by rw[List.length_map];exact h2⟩
 rw[List.getElem?_map] at hv;cases e:ds[i]? with
 | none=>rw [e] at hv;cases hv
 | some d=>
   rw[e] at hv;cases hv;obtain⟨g1,g2⟩:=h1 i d e;exact⟨g1,fun x nc y=>let⟨s,r⟩:=g2 x nc y bs;⟨s,by unfold aW;exact r⟩⟩
def TF(K:W.Frag)(cl:YH)(f:FA):TI:=fun σ H R=>∃ρ S δ vs S',ee K cl ρ H S σ δ/\f δ S= .ok vs S'/\∀J bz H1,Pre ρ H bz H1->SW K cl bz H1 S'->OZ K bz H1 J vs->R J H1
structure O1 (X:Cx) (cl:YH) (tg e:Expr) (f:FA):Prop where
 go:PI X tg e (TF X.K cl f)
section
variable {X:Cx} {cl:YH}
def iP(f:ao->R (List D)):FA:=fun δ S=>(R3.of (f (down δ)) S).bind fun ds S=> .ok (ds.map .d) S
theorem lG{f:ao->R (List D)}(h:Jt X tg e f):O1 X cl tg e (iP f):=⟨h.1.imp fun σ H Q ⟨ρ,S,δ,vs,S',E,hf,q⟩=>by
 obtain⟨ds,S1,h1,h2⟩:=R3.af hf;obtain⟨h3,e3⟩:=R3.of_ok h1;cases h2;subst e3;exact⟨[],ρ.b,down δ,ds,E.down,h3,fun J H1 s r=>q J ρ H1 (Pre.same s) (E.sw.same s) (OZ.of r)⟩⟩
def IQ(f:FX):FA:=fun δ S=>(f δ S).bind fun v S=>match v with | .d (.int j)=>R3.aS (decide (-(2 ^ 62)<=j/\j < 2 ^ 62)) (.ok ((qD 0 j.toNat).map .d) S) | _=> .no
def UZ(f:FX):FA:=fun δ S=>(f δ S).bind fun v S=>match v with | .d (.lst ds)=> .ok (ds.map .d) S | .lst vs=> .ok vs S | _=> .no
abbrev FG:=V3->DE->Option DE
abbrev F3:=List V3->DE->Option DE
def gX(K:W.Frag)(cl:YH)(t:FG):TG:=fun v σ H Q=>∃ρ S δ x cz,ee K cl ρ H S σ δ/\aW K ρ H x v/\t x δ=some cz/\∀cA H',aM H H'->ee K cl ρ H' S cA cz->Q cA H'
def UU(K:W.Frag)(cl:YH)(t:F3):Ct:=fun v σ H Q=>∃ρ S δ x cz,ee K cl ρ H S σ δ/\aE K ρ H x v/\t x δ=some cz/\∀cA H',aM H H'->ee K cl ρ H' S cA cz->Q cA H'
structure I0 (X:Cx) (cl:YH) (tg:Expr) (t:FG):Prop where
 go:PG X tg (gX X.K cl t)
structure E9 (X:Cx) (cl:YH) (tg:List Expr) (t:F3):Prop where
 go:F0 X tg (UU X.K cl t)
theorem ee.same{K:W.Frag}{S:aP}{σ:L2.St}{δ:DE}(E:ee K cl ρ H S σ δ)(s:aM H H'):ee K cl ρ H' S σ δ:=E.to (Pre.same s) (E.sw.same s)
def wx(i:Nat):FG:=fun d δ=>if i < δ.length then some (δ.set i (some d)) else none
theorem c3{i:Nat}{pos:Pos}(hN:X.N.Nodup)(hi:X.N[i]? =some x)(hx:Loc X.env.scope x)(hf:X.fn x=true\/X.env.scope.names.lookup x=some .local:=by first | exact .inl rfl | exact .inr rfl | assumption):I0 X cl (.Name x pos) (wx i):=
 ⟨(AZ hN hi hx hf).imp fun v σ H Q ⟨ρ,S,δ,d,cz,E,r,ht,q⟩=>by
   unfold wx at ht;split at ht
   .rename_i hi;cases ht;exact q _ H (aM.refl H) (E.set (by rw[<-E.len];exact hi) r)
   .cases ht⟩
def O5:F3:=fun ds δ=>match ds with | []=>some δ | _=>none
def F4(t:FG)(u:F3):F3:=fun ds δ=>match ds with | d ::r=>(t d δ).bind fun cz=>u r cz | []=>none
theorem se:E9 X cl [] O5:=⟨Ag.imp fun vs σ H Q ⟨ρ,S,δ,ds,cz,E,r,ht,q⟩=>by
 cases ds with
 | nil=>unfold aE at r;cases ht;exact⟨r,q σ H (aM.refl H) E⟩
 | cons=>cases ht⟩
theorem eJ{u:F3}(h1:I0 X cl e t)(h2:E9 X cl es u)(hs:(assignEach (e ::es) X.env).map (·.2)=assign e X.env ::(assignEach es X.env).map (·.2):=by rfl):E9 X cl (e ::es) (F4 t u):=
 ⟨(xI h1.1 h2.1 hs).imp fun vs σ H Q ⟨ρ,S,δ,ds,cz,E,r,ht,q⟩=>by
   cases ds with
   | nil=>cases ht
   | cons d ds=>
     obtain⟨x,xs,rfl,r1,r2⟩:=r.bR;have ht:(t d δ).bind (fun cz=>u ds cz)=some cz:=ht
     cases e1:t d δ with
     | none=>rw [e1] at ht;cases ht
     | some δ1=>
       rw[e1] at ht;exact⟨x,xs,rfl,ρ,S,δ,d,δ1,E,r1,e1,fun Cy H1 s1 E1=>⟨ρ,S,δ1,ds,cz,E1,r2.pre (Pre.same s1),ht,fun qr H2 s2 E2=>q qr H2 (s1.trans s2) E2⟩⟩⟩
def O_(n:Nat)(t:F3):FG:=fun d δ=>match d with
 | .d (.tup ds)=>if ds.length=n then t (ds.map .d) δ else none
 | .tup vs=>if vs.length=n then t vs δ else none
 | _=>none
theorem AD{k:Nat}{t:F3}{n:Nat}{pos:Pos}(hc:X.calm=true)(h:E9 X cl es t)(hn:(assignEach es X.env).length=n:=by rfl)(xZ:(assignEach es X.env).findIdx? (·.1)=none:=by rfl):I0 X cl (.Tuple es k pos) (O_ n t):=
 ⟨(D8 hc h.1 hn xZ).imp fun v σ H Q ⟨ρ,S,δ,d,cz,E,r,ht,q⟩=>by
   have key:∃vs a xs,v= .ref a/\vY X.K ρ.b H a xs/\aE X.K ρ H vs xs/\vs.length=n/\t vs δ=some cz:=by
    unfold O_ at ht;split at ht
    .rename_i ds;split at ht
     .rename_i hl;unfold aW Rep at r;obtain⟨a,xs,e,l,r⟩:=r;exact⟨ds.map .d,a,xs,e,l,aE.of r,by rw[List.length_map];exact hl,ht⟩
     .cases ht
    .rename_i vs;split at ht
     .rename_i hl;unfold aW at r;obtain⟨a,xs,e,l,r⟩:=r;exact⟨vs,a,xs,e,l,r,hl,ht⟩
     .cases ht
    .cases ht
   obtain⟨vs,a,xs,rfl,l,r,hl,ht⟩:=key;exact⟨a,xs,rfl,l.sq,by rw[<-r.length];exact hl,ρ,S,δ,vs,cz,E,r,ht,q⟩⟩
def Ex(f:FX)(t:FG):FZ:=fun δ S=>(f δ S).bind fun d S=>match t d δ with | some cz=> .ok (.nx cz) S | none=> .no
theorem yW{tg e:Expr}{f:FX}{t:FG}{pos:Pos}(he:PX X cl e f)(hg:I0 X cl tg t)(hs:swapsWithSole [tg] e pos.line X.env=pure false:=by rfl)(hw:swappedStores [tg] e X.env=pure none:=by rfl)
 (h1:(assignEach [tg] X.env).map (·.2)=[assign tg X.env]:=by rfl):PZ X cl (.Assign [tg] e pos) (Ex f t):=⟨(EJ he.1 hg.1 hs hw h1).imp fun D σ H ⟨ρ,S,δ,o,S',E,hf,q⟩=>by
 obtain⟨d,S1,h1,h2⟩:=R3.af hf;split at h2
 .rename_i δ1 e1;cases h2;exact⟨ρ,S,δ,d,_,E,h1,fun v bz H1 p1 w1 r1=>⟨bz,_,δ,d,δ1,E.to p1 w1,r1,e1,fun cA H2 s2 E2=>q cA bz H2 (p1.trans (Pre.same s2)) E2⟩⟩
 .cases h2⟩
def gg(t:FG)(body:FZ):List V3->FZ
 | [],δ,S=> .ok (.nx δ) S
 | d ::ds,δ,S=>match t d δ with
   | none=> .no
   | some δ1=>(body δ1 S).bind fun o S=>match o with | .nx iB=>gg t body ds iB S | .rt r=> .ok (.rt r) S
def zg(it:FA)(t:FG)(body:FZ):FZ:=fun δ S=>(it δ S).bind fun vs S=>gg t body vs δ S
theorem J3{tg iter:Expr}{body:List Stmt}{it:FA}{t:FG}{F:FZ}{pos:Pos}(hp:PassesOwn (model X.prog X.w) X.A X.env X.xe)(hc:X.calm=true)(hi:O1 X cl tg iter it)(hg:I0 X cl tg t)(hb:F5 X cl body F)
 (hs:∀x,foldedSetIterable iter X.env x=pure x:=by intro _;rfl):PZ X cl (.For tg iter body [] pos) (zg it t F):=⟨(yz hp hc hi.1 hg.1 hb.1 hs).imp fun D σ H ⟨ρ,S,δ,o,S',E,hf,q⟩=>by
 obtain⟨ds,S0,h1,h2⟩:=R3.af hf;refine⟨ρ,S,δ,ds,S0,E,h1,fun J bz H1 p1 w1 ir=>?_⟩
 refine⟨fun i m cA H'=>m=ds.length - i/\i<=ds.length/\∃bF S1 cz,Pre bz H1 bF H'/\ee X.K cl bF H' S1 cA cz/\gg t F (ds.drop i) cz S1= .ok o S',⟨ds.length,rfl,Nat.zero_le _,bz,S0,δ,Pre.refl bz H1,E.to p1 w1,by simpa using h2⟩,?_⟩
 rintro i m cA H' ⟨rfl,hi,bF,S1,cz,pv,E',hl⟩;obtain⟨go,stop⟩:=ir bF H' pv.pw E'.sw.bs;by_cases hlt:i < ds.length
 .have hd:ds[i]? =some ds[i]:=List.getElem?_eq_getElem hlt;have hdrop:ds.drop i=ds[i] ::ds.drop (i+1):=List.drop_eq_getElem_cons hlt;rw[hdrop] at hl;unfold gg at hl;split at hl
  .cases hl
  .rename_i δ1 h3;obtain⟨o1,S2,h5,h6⟩:=R3.af hl;obtain⟨g1,g2⟩:=go i _ hd;refine .inr ⟨g1,fun qr H2=>∃mP S2 iB,Pre bz H1 mP H2/\ee X.K cl mP H2 S2 qr iB/\gg t F (ds.drop (i+1)) iB S2= .ok o S',fun qr H2 n=>⟨ds.length - (i+1),by omega,rfl,hlt,n⟩,fun x nc y=>?_⟩
   obtain⟨ss,rr⟩:=g2 x nc y;refine⟨bF,S1,cz,ds[i],δ1,E'.same ss,rr,h3,fun qr H2 s2 E2=>⟨bF,S1,δ1,o1,S2,E2,h5,?_⟩⟩
   have pv2:Pre bz H1 bF H2:=pv.trans (Pre.same (ss.trans s2));cases o1 with
   | nx iB=>exact fun yd zO H3 p3 E3=>⟨zO,S2,iB,pv2.trans p3,E3,h6⟩
   | rt d=>
     cases h6;exact fun v zO H3 p3 w r=>q v zO H3 (p1.trans (pv2.trans p3)) w r
 .have e:i=ds.length:=by omega
  subst e;rw[List.drop_length] at hl;cases hl;exact .inl ⟨stop,q cA bF H' (p1.trans pv) E'⟩⟩
end
end L3
end
section
namespace L3
open PySem PySem.Spec PyProof.Rows L2
mutual
def wb(n:Nat):V3->Bool
 | .d _=>true
 | .loc k=>decide (k < n)
 | .lst vs=>pj n vs
 | .tup vs=>pj n vs
 | .fn _=>true
def pj(n:Nat):List V3->Bool
 | []=>true
 | v ::vs=>wb n v && pj n vs
end
def wH(n:Nat):SO->Bool
 | .ins _ fs=>pj n (fs.map (·.2))
 | _=>true
theorem Hy{ρ:P3}{n:Nat}{b:Addr}(h:b∈(ρ.cut n).b):b∈ρ.b:=by
 rcases P3.dZ.mp h with z | z
 .exact P3.dZ.mpr (.inl ⟨List.mem_of_mem_take z.1,z.2⟩)
 .exact P3.dZ.mpr (.inr z)
theorem ip{ρ:P3}(n:Nat):dr ρ.b H (ρ.cut n).b H:=fun b o e nb=>⟨e,fun hb=>nb (Hy hb)⟩
mutual
theorem aW.cut{K:W.Frag}{ρ:P3}{n:Nat}:∀{v:V3} {x:V},wb n v=true->aW K ρ H v x->aW K (ρ.cut n) H v x
 | .fn y,x,_,h=>by unfold aW at h ⊢;exact h
 | .d y,x,_,h=>by unfold aW at h ⊢;exact h.bc (ip n)
 | .loc k,x,o,h=>by
   unfold aW at h ⊢;unfold wb at o;obtain⟨a,h1,h2⟩:=h;exact⟨a,by show(ρ.r.take n)[k]? =_;rw [List.getElem?_take_of_lt (of_decide_eq_true o)];exact h1,h2⟩
 | .lst vs,x,o,h=>by
   unfold aW at h ⊢;unfold wb at o;obtain⟨a,xs,e,l,r⟩:=h;exact⟨a,xs,e,l.bc (ip n),aE.cut o r⟩
 | .tup vs,x,o,h=>by
   unfold aW at h ⊢;unfold wb at o;obtain⟨a,xs,e,l,r⟩:=h;exact⟨a,xs,e,vY.bc (ip n) l,aE.cut o r⟩
theorem aE.cut{K:W.Frag}{ρ:P3}{n:Nat}:∀{vs:List V3} {xs:List V},pj n vs=true->aE K ρ H vs xs->aE K (ρ.cut n) H vs xs
 | [],_,_,h=>by unfold aE at h ⊢;exact h
 | v ::vs,xs,o,h=>by
   unfold pj at o;obtain⟨o1,o2⟩:=Bool.and_eq_true_iff.mp o;obtain⟨x,r,rfl,h1,h2⟩:=h.bR;exact aE.cons (aW.cut o1 h1) (aE.cut o2 h2)
end
theorem SW.cut{K:W.Frag}{cl:YH}{ρ:P3}{S:aP}(w:SW K cl ρ H S){n:Nat}(ok:(S.take n).all (wH n)=true):SW K cl (ρ.cut n) H (S.take n):=
 ⟨by show(ρ.r.take n).length=_;rw [List.length_take,List.length_take,w.len],fun i j a hi hj=>by
   have hi:(ρ.r.take n)[i]? =some a:=hi;have hj:(ρ.r.take n)[j]? =some a:=hj;have gi:ρ.r[i]? =some a:=by
    rw[List.getElem?_take] at hi;split at hi
    .exact hi
    .cases hi
   have gj:ρ.r[j]? =some a:=by
    rw[List.getElem?_take] at hj;split at hj
    .exact hj
    .cases hj
   exact w.nd i j a gi gj,fun k a o hk ho=>by
   have hk:(ρ.r.take n)[k]? =some a:=hk;have gk:ρ.r[k]? =some a:=by
    rw[List.getElem?_take] at hk;split at hk
    .exact hk
    .cases hk
   have go:S[k]? =some o:=by
    rw[List.getElem?_take] at ho;split at ho
    .exact ho
    .cases ho
   have r:=w.ob k a o gk go;have oo:wH n o=true:=List.all_eq_true.mp ok o (List.mem_of_getElem? ho);cases o with
   | lst ds=>obtain⟨xs,e,q⟩:=r;exact⟨xs,e,q.bc (ip n)⟩
   | dct ay=>obtain⟨ys,e,e2,q⟩:=r;exact⟨ys,e,e2,q.bc (ip n)⟩
   | ins c fs=>obtain⟨dx,ys,e,e2,q⟩:=r;exact⟨dx,ys,e,e2,q.cut oo⟩
   | exc c=>exact r
   | ky=>exact r,fun b hb=>let⟨h1,h2⟩:=w.zb b hb;⟨h1,fun h=>h2 (List.mem_of_mem_take h)⟩,(fun k a hk ho=>by
   have hk:(ρ.r.take n)[k]? =some a:=hk;rw[List.getElem?_take] at hk;split at hk
   .rename_i hlt;rw[List.getElem?_take_of_lt hlt] at ho;exact w.fz k a hk ho
   .cases hk),w.ff,(fun k a hk ho=>by
   have hk:(ρ.r.take n)[k]? =some a:=hk;rw[List.getElem?_take] at hk;split at hk
   .rename_i hlt;rw[List.getElem?_take_of_lt hlt] at ho;exact w.fi k a hk ho
   .cases hk)⟩
theorem SW.DA{K:W.Frag}{cl:YH}{ρ bF:P3}{n:Nat}(hn:ρ.r.length<=n)(p:Pre ρ H bF H'):Pre ρ H (bF.cut n) H':=
 ⟨p.bc.trans (ip n),p.zz,p.zs,fun k a h=>by show(bF.r.take n)[k]? =_;rw [List.getElem?_take_of_lt (Nat.lt_of_lt_of_le (List.getElem?_eq_some_iff.mp h).1 hn)];exact p.ext k a h⟩
section
variable {X:Cx} {cl:YH}
def cM(S:aP)(k:Nat):Option (List D):=match S[k]? with | some (.lst ds)=>some ds | _=>none
theorem ef{S:aP}{k:Nat}{ds:List D}(h:cM S k=some ds):S[k]? =some (.lst ds):=by
 unfold cM at h;split at h
 .rename_i e;cases h;exact e
 .cases h
def pe(δ:DE)(i:Nat):Option Nat:=match δ[i]? with | some (some (.loc k))=>some k | _=>none
def Vq(i:Nat)(f:FX):FZ:=fun δ S=>match pe δ i with
 | none=> .no
 | some k=>match cM S k with
   | none=> .no
   | some _=>(f δ S).bind fun v S1=>match v with
     | .d d=>(match cM S1 k with | some ds=>R3.aS (decide (ds.length < sizeLine)) (.ok (.nx δ) (S1.set k (.lst (ds++[d])))) | none=> .no)
     | _=> .no
def CW(fo fi fe:FX):FZ:=fun δ S=>(fe δ S).bind fun v S1=>(fo δ S1).bind fun o S2=>(fi δ S2).bind fun j S3=>match v,o,j with
 | .d d, .loc k, .d (.int n)=>(match cM S3 k with
   | some ds=>(match Bk ds.length n with | some m=> .ok (.nx δ) (S3.set k (.lst (ds.set m d))) | none=> .no)
   | none=> .no)
 | _,_,_=> .no
def G6(K:W.Frag)(cl:YH)(n:Nat)(g:List V3->aP->R3 V3):Sp:=fun vs H Q _=>vs.length=n/\∃ρ S xs v S',SW K cl ρ H S/\aE K ρ H xs vs/\g xs S= .ok v S'/\∀u bF H',Pre ρ H bF H'->SW K cl bF H' S'->aW K bF H' v u->Q u H'
def oa(g:List V3->aP->R3 V3)(fs:FA):FX:=fun δ S=>(fs δ S).bind g
def o9(P:Program)(w:World)(K:W.Frag)(mg:YG)(base:Heap)(cl:YH)(k:Nat)(x:Str)(n:Nat)(g:List V3->aP->R3 V3):Prop:=
 ∃(f:Addr) (fd:FuncData) (ps:List Str),ig P w K mg base ur k f fd ps (G6 K cl n g)/\mg x=some (.ref f)/\PySem.W.keepIn K (.ref f)=true/\Binds K fd ps []
theorem Ge{g:List V3->aP->R3 V3}{k j n:Nat}{x:Str}{p pos:Pos}{e:Expr}{es:List Expr}{fs:FA}(C:o9 X.prog X.w X.K X.mg X.base cl k x n g)(hr:dA j X.A)(Cj:k<=j)(hg:Gl X x)(ha:HE X cl (e ::es) fs)
 (hn:∀δ S ds S',fs δ S= .ok ds S'->ds.length=n) (jz:(x==("__debug__":Str))=false:=by decide) (he:starEach (e ::es) X.env=(false,eval e X.env) ::starEach es X.env:=by rfl) (ko:(backTo pos (starEach es X.env)).any (·.1)=false:=by rfl) :
 PX X cl (.Call (.Name x p) (e ::es) [] pos) (oa g fs):=by
 obtain⟨f,fd,ps,F,hm,hk,hb⟩:=C;refine⟨(qN F (hr.mono Cj) hg hm hk hb .nil z0 ha.1 jz he ko).imp fun σ H Q ⟨ρ,S,δ,v,S',E,hf,q⟩=>?_⟩
 obtain⟨vs,S1,h1,h2⟩:=R3.af hf;refine⟨ρ,S,δ,vs,S1,E,h1,fun us bz H1 p1 w1 r1=>?_⟩
 show G6 X.K cl n g (us++[]) H1 Q E0;rw[List.append_nil];exact⟨by rw[<-r1.length];exact hn δ S vs S1 h1,bz,S1,vs,v,S',w1,r1,h2,fun z mP H2 p2 w2 r2=>q z mP H2 (p1.trans p2) w2 r2⟩
end
def dE(N:List Str)(vs:List V3):DE:=vs.map some++List.replicate (N.length - vs.length) none
theorem wt{K:W.Frag}{cl:YH}{S:aP}{N:List Str}{ds:List V3}{vs:List V}(w:SW K cl ρ H S)(r:aE K ρ H ds vs):ee K cl ρ H S (L2.start N vs) (dE N ds) where
 len:=by unfold L2.start dE;simp [r.length]
 sw:=w
 val:=fun i d e=>by
  unfold dE at e;unfold L2.start;by_cases hi:i < ds.length
  .rw [List.getElem?_append_left (by simpa using hi),List.getElem?_map] at e
   cases q:ds[i]? with
   | none=>rw [q] at e;cases e
   | some d'=>
     rw[q] at e;cases e;obtain⟨x,h1,h2⟩:=r.get q;exact⟨x,by rw[List.getElem?_append_left (by rw[List.length_map,<-r.length];exact hi),List.getElem?_map,h1];rfl,h2⟩
  .rw [List.getElem?_append_right (by simpa using hi),List.getElem?_replicate] at e
   split at e <;> cases e
def sT(N:List Str)(F:FZ):List V3->aP->R3 V3:=fun vs S=>(F (dE N vs) S).bind fun o S'=>match o with | .rt v=> .ok v S' | .nx _=> .ok (.d .cJ) S'
def ye(N:List Str)(F:FZ):List V3->aP->R3 V3:=fun vs S=>(sT N F vs S).bind fun v S'=>match res S' v with
 | some d=>R3.aS ((S'.take S.length).all (wH S.length) && mh S.length v) (.ok (.d d) (S'.take S.length))
 | none=> .no
theorem HU{P:Program}{w:World}{K:W.Frag}{mg:YG}{base:Heap}{cl:YH}{x qual:Str}{st:Stmt}{f:Addr}{fd:FuncData}{N ps:List Str}{k:Nat}{F:FZ}(Fn:yt K x qual st f fd)(S:bb N ps (aF st))
 (jr:∀(dt:Value) (A:Around) (outer:List Env) (s:Shared) (H:Hp) (E:XK),dA k (A.deeper (envOfC qual (aF st) s.heap.objs.size f dt))->
   F5 (km ur P w K mg base N qual (aF st) f dt A outer s H E).HV cl (aO st) F):ig P w K mg base ur (k+1) f fd ps (G6 K cl ps.length (sT N F)):=by
 refine Fn.ok S (fun vs H Q E h=>h.1) (fun dt A outer s H vs Q E hr h=>⟨_,(jr dt A outer s H E hr).1,?_⟩)
 obtain⟨_,ρ,S,ds,v,S',w,r,hg,q⟩:=h;obtain⟨o,S1,h1,h2⟩:=R3.af hg;refine⟨ρ,S,dE N ds,o,S1,wt w r,h1,?_⟩;cases o with
 | nx cz=>
   cases h2;exact fun cA bF H' p' E'=>q _ bF H' p' E'.sw (by unfold aW Rep;rfl)
 | rt d'=>
   cases h2;exact fun u bF H' p' w' r'=>q u bF H' p' w' r'
theorem D5{K:W.Frag}{cl:YH}{N:List Str}{n:Nat}{vs:List V}{Q:VK}{E:XK}(h:G6 K cl n (ye N F) vs H Q E):G6 K cl n (sT N F) vs H Q E:=by
 obtain⟨hl,ρ,S,xs,v,S',w,r,hg,q⟩:=h;obtain⟨v1,S1,h1,h2⟩:=R3.af hg;refine⟨hl,ρ,S,xs,v1,S1,w,r,h1,fun u bz H1 p1 w1 r1=>?_⟩
 have pc:Pre ρ H (bz.cut S.length) H1:=SW.DA (K:=K) (cl:=cl) (by rw[w.len];exact Nat.le_refl _) p1
 split at h2
 .rename_i d e;obtain⟨ok,h3⟩:=R3.aN h2;obtain⟨ok,hk⟩:=Bool.and_eq_true_iff.mp ok;cases h3;refine q u _ H1 pc (w1.cut ok) ?_;unfold aW;refine r1.resB w1 (ip _) (fun k a hk a1 ha=>?_) hk e
  rcases P3.dZ.mp ha with⟨z,_⟩ | z
  .obtain⟨j,hj⟩:=List.getElem?_of_mem z;have hj:(bz.r.take S.length)[j]? =some a:=hj;rw[List.getElem?_take] at hj;split at hj
   .rename_i hjl;have:=w1.nd j k a hj a1;omega
   .cases hj
  .exact(w1.zb a z).2 (List.mem_of_getElem? a1)
 .cases h2
end L3
end
section
namespace L3
open PySem PySem.Spec PyProof.Rows L2
theorem az.setAt{K:W.Frag}{ρ:P3}:∀{ds:List D} {xs:List V} {m:Nat} {d:D} {v:V},az K ρ.b H ds xs->Rep K ρ.b H d v->az K ρ.b H (ds.set m d) (xs.set m v)
 | [],_,_,_,_,h,_=>by unfold az at h;subst h;exact az.nil
 | e ::ds,xs,0,d,v,h,r=>by
   obtain⟨x,r',rfl,h1,h2⟩:=h.bR;exact az.cons r h2
 | e ::ds,xs,m+1,d,v,h,r=>by
   obtain⟨x,r',rfl,h1,h2⟩:=h.bR;exact az.cons h1 (az.setAt h2 r)
section
variable {X:Cx} {cl:YH}
theorem zD{o i e:Expr}{fo fi fe:FX}{n4 pos:Pos}(he:PX X cl e fe)
 (hg:PG X (.Subscript o i n4) (Ol (tX X.K cl fo) (tX X.K cl fi) IK))
 (hs:swapsWithSole [.Subscript o i n4] e pos.line X.env=pure false:=by rfl) (hw:swappedStores [.Subscript o i n4] e X.env=pure none:=by rfl)
 (h1:(assignEach [.Subscript o i n4] X.env).map (·.2)=[assign (.Subscript o i n4) X.env]:=by rfl):PZ X cl (.Assign [.Subscript o i n4] e pos) (CW fo fi fe):=⟨(EJ he.1 hg hs hw h1).imp fun D σ H ⟨ρ,S,δ,ou,S',E,hf,q⟩=>by
 obtain⟨v,S1,h1,h2⟩:=R3.af hf;obtain⟨vo,S2,h3,h4⟩:=R3.af h2;obtain⟨vi,S3,h5,h6⟩:=R3.af h4;split at h6
 .rename_i d k n;split at h6
  .rename_i ds hds;split at h6
   .rename_i m hm;cases h6;refine⟨ρ,S,δ, .d d,S1,E,h1,fun u bz H1 p1 w1 r1=>⟨bz,S1,δ, .loc k,S2,E.to p1 w1,h3,fun u2 mP H2 p2 w2 r2=>⟨mP,S2,δ, .d (.int n),S3,(E.to p1 w1).to p2 w2,h5,fun u3 zO H3 p3 w3 r3=>?_⟩⟩⟩
    unfold aW at r2;obtain⟨a,a1,rfl⟩:=r2;have a3:=p3.ext k a a1;obtain⟨xs,x1,x2⟩:=w3.ob k a _ a3 (ef hds);unfold aW Rep at r3;have sQ:=r1.pre (p2.trans p3);unfold aW at sQ;obtain⟨w4,p4⟩:=w3.put (o:= .lst (ds.set m d)) (u:= .lst (xs.set m u)) a3 (w3.fz k a a3 (by rw[ef hds];intro h;cases h)) ⟨xs.set m u,rfl,az.setAt x2 sQ⟩
    exact⟨a,xs,n,m,rfl,r3,x1,by rw[<-x2.length];exact hm,q σ zO _ (((p1.trans p2).trans p3).trans p4) (E.to (((p1.trans p2).trans p3).trans p4) w4)⟩
   .cases h6
  .cases h6
 .cases h6⟩
def kX(δ:DE)(i:Nat):Option V3:=match δ[i]? with | some (some v)=>some v | _=>none
def m6(own:List Str)(kp:List Nat)(δ:DE):DE:=List.replicate own.length none++kp.map (kX δ)
theorem G9{K:W.Frag}{S S':aP}{σ:L2.St}{δ:DE}{own:List Str}{kp:List Nat}(E:ee K cl ρ H S σ δ)(p:PW ρ H bF H')(w:SW K cl bF H' S'):ee K cl bF H' S' (c_ own kp σ) (m6 own kp δ) where
 len:=by unfold c_ m6;simp
 sw:=w
 val:=fun i d e=>by
  unfold m6 at e;unfold c_;by_cases hi:i < own.length
  .rw [List.getElem?_append_left (by simpa using hi),List.getElem?_replicate] at e
   split at e <;> cases e
  .rw [List.getElem?_append_right (by simpa using hi),List.length_replicate,List.getElem?_map] at e ⊢
   cases q:kp[i - own.length]? with
   | none=>rw [q] at e;cases e
   | some j=>
     rw[q] at e;have e:kX δ j=some d:=Option.some.inj e;unfold kX at e;split at e
     .rename_i d' ed;cases e;obtain⟨v,h1,h2⟩:=E.val j d ed;exact⟨v,by simp [h1],h2.pw p⟩
     .cases e
def lY(t:FG)(c:FB)(f:FX)(δ:DE):List V3->aP->R3 (List V3)
 | [],S=> .ok [] S
 | v ::vs,S=>match t v δ with
   | none=> .no
   | some δ1=>(c δ1 S).bind fun b S1=>if b then(f δ1 S1).bind fun y S2=>(lY t c f δ vs S2).bind fun ys S3=> .ok (y ::ys) S3 else lY t c f δ vs S1
def tM(it:FA)(t:FG)(c:FB)(f:FX)(own:List Str)(kp:List Nat):FX:=fun δ S=>(it δ S).bind fun vs S1=>R3.aS (decide (vs.length<=sizeLine)) ((lY t c f (m6 own kp δ) vs S1).bind fun ys S2=> .ok (ug ys) S2)
theorem aE.append{K:W.Frag}:∀{ds es:List V3} {xs ys:List V},aE K ρ H ds xs->aE K ρ H es ys->aE K ρ H (ds++es) (xs++ys)
 | [],_,_,_,h,t=>by unfold aE at h;subst h;exact t
 | d ::ds,es,xs,ys,h,t=>by
   obtain⟨x,r,rfl,h1,h2⟩:=h.bR;exact aE.cons h1 (aE.append h2 t)
theorem HD{K:W.Frag}{own:List Str}{kp:List Nat}{σ:L2.St}{Q:VK}(h:tX K cl (tM it t c f own kp) σ H Q) :
 AQ (TF K cl it) (gX K cl t) (Mi K cl c) (tX K cl f) own kp σ H Q:=by
 obtain⟨ρ,S,δ,v,SF,E,hf,q⟩:=h;obtain⟨es,S1,h1,h2⟩:=R3.af hf;obtain⟨hl,h3⟩:=R3.aN h2;have hl:=of_decide_eq_true hl;obtain⟨vs,S2,h4,h5⟩:=R3.af h3;cases h5;refine⟨ρ,S,δ,es,S1,E,h1,fun J bz H1 p1 w1 ir Dd hD=>?_⟩
 have nDz:Dd ∉ bz.b:=fun hb=>by obtain⟨o,ho⟩:=w1.bs Dd hb;rw [hD] at ho;cases ho
 have nDr:Dd ∉ bz.r:=fun hb=>by obtain⟨o,ho⟩:=w1.rs Dd hb;rw [hD] at ho;cases ho
 have toZ:∀{r' f':List Addr} {H':Hp},Pre bz H1 ⟨r',bz.z,f'⟩ H'->PW bz H1 ⟨r',Dd ::bz.z,f'⟩ H':=fun {r' f' H'} p=>⟨fun b o e nb=>⟨(p.bc b o e nb).1,fun hb=>by
  rcases P3.dZ.mp hb with z | z
  .exact(p.bc b o e nb).2 (P3.dZ.mpr (.inl z))
  .rcases List.mem_cons.mp z with y | y
   .exact cc e hD y
   .exact(p.bc b o e nb).2 (P3.dZ.mpr (.inr y))⟩,p.ext⟩
 have w0:SW K cl ⟨bz.r,Dd ::bz.z,bz.f⟩ (upd H1 Dd (.lst [])) S1:=by
  have s0:aM H1 (upd H1 Dd (.lst [])):=ba hD;have ws:=w1.same s0;refine⟨ws.len,ws.nd,fun k a o hk ho=>?_,fun b hb=>?_,ws.fz,ws.ff,ws.fi⟩
  .have r:=w1.ob k a o hk ho;obtain⟨u,hu⟩:=r.some;rw[s0 a u hu,<-hu];exact r.pw (toZ (Pre.same s0))
  .rcases List.mem_cons.mp hb with y | y
   .subst y;exact⟨⟨_,aX⟩,nDr⟩
   .exact ws.zb b y
 refine⟨fun i m ys H'=>m=es.length - i/\i<=es.length/\ys.length<=i/\H' Dd=some (.lst ys)/\∃r' f' S' done rest,Pre bz H1 ⟨r',bz.z,f'⟩ H'/\SW K cl ⟨r',Dd ::bz.z,f'⟩ H' S'/\vs=done++rest/\aE K ⟨r',Dd ::bz.z,f'⟩ H' done ys/\lY t c f (m6 own kp δ) (es.drop i) S'= .ok rest SF,
  ⟨es.length,rfl,Nat.zero_le _,Nat.le_refl _,aX,bz.r,bz.f,S1,[],vs,Pre.same (ba hD),w0,rfl,aE.nil,by simpa using h4⟩,?_⟩
 rintro i m ys H' ⟨rfl,hi,hy,hDl,r',f',S',done,rest,pv,w',rfl,rd,hc⟩;obtain⟨go,stop⟩:=ir ⟨r',Dd ::bz.z,f'⟩ H' (toZ pv) w'.bs;have unZ:∀{Jx:P3} {H4:Hp},Pre ⟨r',Dd ::bz.z,f'⟩ H' Jx H4->Pre bz H1 ⟨Jx.r,bz.z,Jx.f⟩ H4:=fun {Jx H4} p4=>⟨fun b o e nb=>by
  obtain⟨e1,n1⟩:=(toZ pv).bc b o e nb;obtain⟨qt,n2⟩:=p4.bc b o e1 n1;refine⟨qt,fun hb=>n2 ?_⟩
  rcases P3.dZ.mp hb with z | z
  .exact P3.dZ.mpr (.inl z)
  .exact P3.dZ.mpr (.inr (by rw[p4.zz];exact List.mem_cons_of_mem _ z)),rfl,fun b o hb h=>p4.zs b o (List.mem_cons_of_mem _ hb) (pv.zs b o hb h),fun k a h=>p4.ext k a (pv.ext k a h)⟩
 by_cases hlt:i < es.length
 .have hd:es[i]? =some es[i]:=List.getElem?_eq_getElem hlt;have hdrop:es.drop i=es[i] ::es.drop (i+1):=List.drop_eq_getElem_cons hlt;rw[hdrop] at hc;unfold lY at hc;split at hc
  .cases hc
  .rename_i δ1 h6;obtain⟨b,T1,h7,h8⟩:=R3.af hc;obtain⟨g1,g2⟩:=go i _ hd;refine .inr ⟨g1,fun x H2 y=>?_⟩
   obtain⟨sy,ry⟩:=g2 x H2 y;have Ec:ee K cl ⟨r',Dd ::bz.z,f'⟩ H2 S' (c_ own kp σ) (m6 own kp δ):=G9 E (p1.pw.trans ((toZ pv).trans (Pre.same sy).pw)) (w'.same sy);refine⟨⟨r',Dd ::bz.z,f'⟩,S',m6 own kp δ,es[i],δ1,Ec,ry,h6,fun yd H3 s3 E3=>⟨⟨r',Dd ::bz.z,f'⟩,S',δ1,b,T1,E3,h7,fun Jx H4 p4 w4=>?_⟩⟩
   have OL:Pre ⟨r',Dd ::bz.z,f'⟩ H' Jx H4:=(Pre.same (sy.trans s3)).trans p4;cases b with
   | true=>
     rw[if_pos rfl] at h8;refine BS ?_;obtain⟨yv,T2,h9,Su⟩:=R3.af h8;obtain⟨rs,T3,SS,W2⟩:=R3.af Su;cases W2;refine⟨Jx,T1,δ1,yv,T2,E3.to p4 w4,h9,fun v5 Uy H5 p5 w5 r5=>?_⟩
     have pv5:Pre ⟨r',Dd ::bz.z,f'⟩ H' Uy H5:=OL.trans p5;have R7:H5 Dd=some (.lst ys):=pv5.zs Dd _ List.mem_cons_self hDl;have u5:=unZ pv5;obtain⟨Pf,z5,f5⟩:=Uy;have ez:z5=Dd ::bz.z:=pv5.zz;subst ez;have nr:Dd ∉ Pf:=(w5.zb Dd List.mem_cons_self).2;have pw:PW ⟨Pf,Dd ::bz.z,f5⟩ H5 ⟨Pf,Dd ::bz.z,f5⟩ (upd H5 Dd (.lst (ys++[v5]))):=⟨fun b o e nb=>⟨by rw[bj (fun(z:b=Dd)=>nb (by rw[z];exact P3.dZ.mpr (.inr List.mem_cons_self)))];exact e,nb⟩,fun _ _ h=>h⟩
     refine⟨R7,by omega,es.length - (i+1),by omega,rfl,hlt,by rw[List.length_append,List.length_singleton];omega,aX,Pf,f5,T2,done++[yv],rs,?_,?_,by simp,aE.append ((rd.pre pv5).pw pw) (aE.cons (r5.pw pw) aE.nil),SS⟩
     .refine⟨fun b o e nb=>⟨by rw[bj (cc e hD)];exact(u5.bc b o e nb).1,(u5.bc b o e nb).2⟩,rfl,fun b o hb h=>?_,u5.ext⟩
      rw[bj (cc h hD)];exact u5.zs b o hb h
     .refine⟨w5.len,w5.nd,fun k a o hk ho=>?_,fun b hb=>?_,w5.fz,fun b hb=>?_,w5.fi⟩
      .have ne:a≠Dd:=fun z=>nr (by rw[<-z];exact List.mem_of_getElem? hk)
       rw[bj ne];exact(w5.ob k a o hk ho).pw pw
      .obtain⟨⟨o,ho⟩,n⟩:=w5.zb b hb;refine⟨?_,n⟩;by_cases z:b=Dd
       .subst z;exact⟨_,aX⟩
       .rw [bj z];exact⟨o,ho⟩
      .obtain⟨o,ho⟩:=w5.ff b hb;by_cases z:b=Dd
       .subst z;exact⟨_,aX⟩
       .rw [bj z];exact⟨o,ho⟩
   | false=>
     rw[if_neg (by decide)] at h8
     refine B7 ?_;have Xi:H4 Dd=some (.lst ys):=OL.zs Dd _ List.mem_cons_self hDl;have u4:=unZ OL;obtain⟨XF,z4,f4⟩:=Jx;have ez:z4=Dd ::bz.z:=OL.zz;subst ez;exact⟨es.length - (i+1),by omega,rfl,hlt,by omega,Xi,XF,f4,T1,done,rest,u4,w4,rfl,rd.pre OL,h8⟩
 .have e:i=es.length:=by omega
  subst e;rw[List.drop_length] at hc;cases hc;rw[List.append_nil] at q;refine .inl ⟨stop,?_⟩;have back:PW ⟨r',Dd ::bz.z,f'⟩ H' ⟨r',bz.z,f'⟩ H':=⟨fun b o e nb=>⟨e,fun hb=>nb (by
   rcases P3.dZ.mp hb with z | z
   .exact P3.dZ.mpr (.inl z)
   .exact P3.dZ.mpr (.inr (List.mem_cons_of_mem _ z)))⟩,fun _ _ h=>h⟩
  have wB:SW K cl ⟨r',bz.z,f'⟩ H' _:=⟨w'.len,w'.nd,fun k a o hk ho=>(w'.ob k a o hk ho).pw back,fun b hb=>w'.zb b (List.mem_cons_of_mem _ hb),w'.fz,w'.ff,w'.fi⟩
  refine q _ ⟨r',bz.z,f'⟩ H' (p1.trans pv) wB (Cc (.inl ⟨fun hb=>?_, .inl hDl⟩) (rd.pw back))
  rcases P3.dZ.mp hb with z | z
  .exact(w'.zb Dd List.mem_cons_self).2 z.1
  .exact nDz (P3.dZ.mpr (.inr z))
end
end L3
end
section
namespace L3
open PySem PySem.Spec PyProof.Rows L2
section
variable {X:Cx} {cl:YH}
theorem Ap{scope:Scope}{own:List Str}{kp:List Nat}{kn:List Str}{tg iter elt:Expr}{ifs:List Expr}{it:FA}{t:FG}{c:FB}{f:FX}{pos:Pos}(hc:X.calm=true)(C:cx X scope own kp kn)(hi:O1 X cl tg iter it)
 (hg:∀fp s H,I0 (br X scope (own++kn) fp s H) cl tg t) (Ci:∀fp s H,qF (br X scope (own++kn) fp s H) ifs (Mi X.K cl c)) (he:∀fp s H,PX (br X scope (own++kn) fp s H) cl elt f)
 (hs:∀x,foldedSetIterable iter X.env x=pure x:=by intro _;rfl):PX X cl (.ListComp elt [⟨tg,iter,ifs,0⟩] scope pos) (tM it t c f own kp):=
 ⟨(Aw hc C hi.1 (fun fp s H=>(hg fp s H).1) Ci (fun fp s H=>(he fp s H).1) hs).imp fun σ H Q h=>HD h⟩
def Gw:FB:=fun _ S=> .ok true S
theorem uy:qF X [] (Mi X.K cl Gw):=fun pins s σ H Q I ⟨ρ,S,δ,b,S',E,hf,q⟩=>wQ pins s σ H Q I (by cases hf;exact q ρ H (Pre.refl ρ H) E.sw)
def X3(g:FA):FX:=fun δ S=>(g δ S).bind fun vs S1=>match pG vs with
 | some ds=>R3.aS (decide (ds.length<=sizeLine)) (.ok (.loc S1.length) (S1++[.lst ds]))
 | none=> .no
end
end L3
end
section
namespace L3
open PySem PySem.Spec PyProof.Rows L2
section
variable {X:Cx} {cl:YH}
def pX(g:List D->R D)(fs:FA):FX:=fun δ S=>(fs δ S).bind fun vs S1=>match pG vs with
 | some ds=>(R3.of (g ds) S1).bind fun d S=> .ok (.d d) S
 | none=> .no
theorem EV{K:W.Frag}{g:List D->R D}{σ:L2.St}{Q:VK}(h:tX K cl (pX g fs) σ H Q) :
 Ui K cl fs σ H fun vs H1=>∃B ds d,(∀a∈B,∃o,H1 a=some o)/\az K B H1 ds vs/\g ds= .ok d/\∀z H',aM H1 H'->Rep K B H' d z->Q z H':=by
 obtain⟨ρ,S,δ,v,S',E,hf,q⟩:=h;obtain⟨vs,S1,h1,h2⟩:=R3.af hf;split at h2
 .rename_i ds e;obtain⟨d,S2,h3,h4⟩:=R3.af h2;obtain⟨h5,e5⟩:=R3.of_ok h3;cases h4;subst e5;refine⟨ρ,S,δ,vs,_,E,h1,fun us bz H1 p1 w1 r1=>?_⟩
  rw[iZ e] at r1;exact⟨bz.b,ds,d,w1.bs,r1.to,h5,fun z H' s r=>q z bz H' (p1.trans (Pre.same s)) (w1.same s) (by unfold aW;exact r)⟩
 .cases h2
theorem Cb{g:List D->R D}{x:Str}{T:String}{p pos:Pos}{e:Expr}{es:List Expr}{fs:FA}(hc:cX X (.type T) g)(hg:Gl X x)(hm:X.mg x=none)(hv:bootBuiltins x=some (.type T))(ha:HE X cl (e ::es) fs)(hn:x≠"__name__":=by decide)(jz:(x==("__debug__":Str))=false:=by decide)
 (he:starEach (e ::es) X.env=(false,eval e X.env) ::starEach es X.env:=by rfl) (ko:(backTo pos (starEach es X.env)).any (·.1)=false:=by rfl):PX X cl (.Call (.Name x p) (e ::es) [] pos) (pX g fs):=
 ⟨(pA hc.r hg hm hv ha.1 hn jz he ko).imp fun σ H Q h=>EV h⟩
def Yb(c:FB)(f g:FX):FX:=fun δ S=>(c δ S).bind fun b S=>if b then f δ S else g δ S
theorem dS:∀(δ:DE) (S:aP) (ds:List V3) (S':aP),dw δ S= .ok ds S'->ds.length=0:=fun δ S ds S' h=>by cases h;rfl
theorem bK{g:FA}{n:Nat}(h:∀(δ:DE) (S:aP) (ds:List V3) (S':aP),g δ S= .ok ds S'->ds.length=n):∀(δ:DE) (S:aP) (ds:List V3) (S':aP),bt f g δ S= .ok ds S'->ds.length=n+1:=fun δ S ds S' e=>by
 obtain⟨v,S1,h1,h2⟩:=R3.af e;obtain⟨vs,S2,h3,h4⟩:=R3.af h2;cases h4;rw[List.length_cons,h δ S1 vs _ h3]
end
end L3
end
section
namespace L3
open PySem PySem.Spec PyProof.Rows L2
section
variable {X:Cx} {cl:YH}
def X5(fa fb:FX):FX:=fun δ S=>(fa δ S).bind fun a S1=>(fb δ S1).bind fun b S2=>match a,b with
 | .d x, .d y=>(R3.of (cW x y) S2).bind fun d S=> .ok (.d d) S
 | .lst vs, .d (.int i)=>(match uF vs i with | some v=> .ok v S2 | none=> .no)
 | .tup vs, .d (.int i)=>(match uF vs i with | some v=> .ok v S2 | none=> .no)
 | _,_=> .no
end
end L3
end
section
namespace L3
open PySem PySem.Spec PyProof.Rows L2
section
variable {X:Cx} {cl:YH}
structure IF (X:Cx) (cl:YH) (e:Expr) (f:FB):Prop where
 go:L2.PW X e (Mi X.K cl f)
theorem IF.pb(h:IF X cl e f):BR X cl e f:=⟨L2.PW.pt h.1⟩
def Vo(f g:FB):FB:=fun δ S=>(f δ S).bind fun b S=>if b then g δ S else .ok false S
def Ja(f g:FB):FB:=fun δ S=>(f δ S).bind fun b S=>if b then .ok true S else g δ S
def EB(f:FB):FB:=fun δ S=>(f δ S).bind fun b S=> .ok (!b) S
theorem uS(h:BR X cl a f):IF X cl (.BoolOp .Or [a] pos) f:=⟨Fc h.1⟩
theorem y9{rest:List Expr}(ha:BR X cl a f)(hb:IF X cl (.BoolOp .Or (b ::rest) pos) g):IF X cl (.BoolOp .Or (a ::b ::rest) pos) (Ja f g):=⟨by
 intro wh pins s σ H Q I ⟨ρ,S,δ,k,S',E,hf,q⟩;refine ID ha.1 hb.1 wh pins s σ H Q I ?_;obtain⟨c,S1,h1,h2⟩:=R3.af hf;refine⟨ρ,S,δ,c,S1,E,h1,fun bz H1 p1 w1=>?_⟩
 cases c with
 | true=>rw [if_pos rfl] at h2 ⊢;cases h2;exact q bz H1 p1 w1
 | false=>rw [if_neg (by decide)] at h2 ⊢;exact⟨bz,S1,δ,k,S',E.to p1 w1,h2,fun mP H' p2 w2=>q mP H' (p1.trans p2) w2⟩⟩
theorem AA(ha:BR X cl a f):BR X cl (.UnaryOp .Not a pos) (EB f):=⟨(DG ha.1).imp fun σ H Q ⟨ρ,S,δ,k,S',E,hf,q⟩=>by
 obtain⟨c,S1,h1,h2⟩:=R3.af hf;cases h2;exact⟨ρ,S,δ,c,_,E,h1,fun bz H1 p1 w1=>q bz H1 p1 w1⟩⟩
def U5(f:FX):FB:=fun δ S=>(f δ S).bind fun v S=>match v with | .d d=>R3.of (JD d) S | _=> .no
abbrev Mh:=DE->aP->R3 (Option Int)
def Vc(K:W.Frag)(cl:YH)(f:Mh):TO:=fun σ H Q=>∃ρ S δ o S',ee K cl ρ H S σ δ/\f δ S= .ok o S'/\∀bF H',Pre ρ H bF H'->SW K cl bF H' S'->Q o H'
structure XJ (X:Cx) (cl:YH) (e:Option Expr) (f:Mh):Prop where
 go:PO X e (Vc X.K cl f)
def P8:Mh:=fun _ S=> .ok none S
def Q5(f:FX):Mh:=fun δ S=>(f δ S).bind fun v S=>match v with | .d (.int i)=> .ok (some i) S | _=> .no
def XU(f:FX)(fl fh:Mh):FX:=fun δ S=>(f δ S).bind fun v S1=>(fl δ S1).bind fun lo S2=>(fh δ S2).bind fun hi S3=>match v with
 | .d d=>(R3.of (IA d lo hi) S3).bind fun r S=> .ok (.d r) S
 | _=> .no
end
end L3
end
section
namespace L2
open PySem PySem.Spec PyProof.Rows
section
variable {X:Cx}
def Kj(t T:String):Bool:=t==T || (t=="bool" && T=="int")
def VP(T:String)(f:FD):FD:=fun δ=>(f δ).bind fun d=>match d with | .dct _ _=> .no | _=> .ok (.bl (Kj (tyName d) T))
def nList(f:FD):ao->R (List D):=fun δ=>(f δ).bind fun d=>match d with | .lst ds=> .ok ds | .tup ds=> .ok ds | _=> .no
theorem DZ{p pos:Pos}{e:Expr}{f:FD}(he:QD X e f)(hg:Gl X "list")(hm:X.mg "list"=none)
 (hs:starEach [e] X.env=(false,eval e X.env) ::starEach [] X.env:=by rfl) (ko:(backTo pos (starEach [] X.env)).any (·.1)=false:=by rfl):QN X (.Call (.Name "list" p) [e] [] pos) (nList f):=by
 refine⟨(pA vz hg hm boot_list (f_ he.1 i9 hs) (by decide) (by decide) hs ko).imp fun σ H Q ⟨Z,B,δ,ds,E,hf,q⟩=>?_⟩
 obtain⟨d,h1,h2⟩:=R.af hf;refine⟨Z,B,δ,d,E,h1,fun v H1 s1 r1=>?_⟩
 split at h2
 .cases h2;obtain⟨a,ys,rfl,l,r⟩:=Rep.lst.mp r1;exact⟨a,ys,rfl, .inl l.sq,fun p hp=>q p ys _ (s1.trans (ba hp)) (s1.free hp) aX (r.bc (n_ hp))⟩
 .cases h2;obtain⟨a,ys,rfl,l,r⟩:=Rep.tup.mp r1;exact⟨a,ys,rfl, .inr l.sq,fun p hp=>q p ys _ (s1.trans (ba hp)) (s1.free hp) aX (r.bc (n_ hp))⟩
 .cases h2
end
end L2
namespace L3
open PySem PySem.Spec PyProof.Rows L2
theorem rD{P:Program}{w:World}{K:W.Frag}{mg:YG}{base:Heap}{cl:YH}{x qual:Str}{st:Stmt}{f:Addr}{fd:FuncData}{N ps:List Str}{k:Nat}{F:FZ}{b:List Stmt}{sc:Scope}(hb:aO st=b)(hs:aF st=sc)(Fn:yt K x qual st f fd)(S:bb N ps sc)
 (jr:∀(dt:Value) (A:Around) (outer:List Env) (s:Shared) (H:Hp) (E:XK),dA k (A.deeper (envOfC qual sc s.heap.objs.size f dt))->
   F5 (km ur P w K mg base N qual sc f dt A outer s H E).HV cl b F):ig P w K mg base ur (k+1) f fd ps (G6 K cl ps.length (sT N F)):=by
 subst hb hs;exact HU Fn S jr
theorem o9.p{K:W.Frag}{mg:YG}{cl:YH}{k:Nat}{n:Nat}{N:List Str}(C:o9 P w K mg base cl k x n (sT N F)):o9 P w K mg base cl k x n (ye N F):=
 let⟨f,fd,ps,F,h⟩:=C;⟨f,fd,ps,F.imp fun _ _ _ _ h=>D5 h,h⟩
def Pe(N:List Str)(F:FZ):List D->R D:=fun ds=>match ye N F (ds.map .d) [] with
 | .ok (.d d) []=>R.aS d.atom (.ok d)
 | _=> .no
theorem J5{K:W.Frag}{cl:YH}{N:List Str}{n:Nat}{vs:List V}{Q:VK}{E:XK}(h:F1 K n (Pe N F) vs H Q E):G6 K cl n (sT N F) vs H Q E:=by
 obtain⟨hl,B,ds,d,hb,r,hg,q⟩:=h;unfold Pe at hg;split at hg
 .rename_i d' e;obtain⟨ha,h2⟩:=R.aN hg;cases h2;have r0:az K (⟨[],[],[]⟩:P3).b H ds vs:=r.bc fun b o e _=>⟨e,by simp [P3.b]⟩
  refine D5 ⟨hl,⟨[],[],[]⟩,[],ds.map .d, .d d,[],⟨rfl,fun i j a hi=>by simp at hi,fun k a o hk=>by simp at hk,fun b hb=>by simp at hb,fun k a hk=>by simp at hk,fun b hb=>by simp at hb,fun k a hk=>by simp at hk⟩,aE.of r0,e,fun u bF H' p w' r'=>q u H' (fun b o eb=>?_) ?_⟩
  .exact(p.bc b o eb (by simp [P3.b])).1
  .unfold aW at r';exact r'.atom ha
 .cases hg
section
variable {X:Cx} {cl:YH}
theorem De{g:List D->R D}{k j n:Nat}{x:Str}{p pos:Pos}{e:Expr}{es:List Expr}{fs:FA}(C:Callee X.prog X.w X.K X.mg X.base k x n g)(hr:dA j X.A)(Cj:k<=j)(hg:Gl X x)(ha:HE X cl (e ::es) fs)
 (hn:∀δ S ds S',fs δ S= .ok ds S'->ds.length=n) (jz:(x==("__debug__":Str))=false:=by decide) (he:starEach (e ::es) X.env=(false,eval e X.env) ::starEach es X.env:=by rfl) (ko:(backTo pos (starEach es X.env)).any (·.1)=false:=by rfl) :
 PX X cl (.Call (.Name x p) (e ::es) [] pos) (pX g fs):=by
 obtain⟨f,fd,ps,F,hm,hk,hb⟩:=C;refine⟨(qN F (hr.mono Cj) hg hm hk hb .nil z0 ha.1 jz he ko).imp fun σ H Q ⟨ρ,S,δ,v,S',E,hf,q⟩=>?_⟩
 obtain⟨vs,S1,h1,h2⟩:=R3.af hf;split at h2
 .rename_i ds e;obtain⟨d,S2,h3,h4⟩:=R3.af h2;obtain⟨h5,e5⟩:=R3.of_ok h3;cases h4;subst e5;refine⟨ρ,S,δ,vs,_,E,h1,fun us bz H1 p1 w1 r1=>?_⟩
  have hl:=hn δ S vs _ h1;rw[iZ e] at r1;show F1 X.K n g (us++[]) H1 Q E0;rw[List.append_nil];exact⟨by rw[<-r1.length,<-iZ e];exact hl,bz.b,ds,d,w1.bs,r1.to,h5,fun z H' s r=>q z bz H' (p1.trans (Pre.same s)) (w1.same s) (by unfold aW;exact r)⟩
 .cases h2
def Q_(f:FX):FA:=fun δ S=>(f δ S).bind fun v S=>match v with | .d (.tup ds)=> .ok (ds.map .d) S | .tup vs=> .ok vs S | _=> .no
end
end L3
end
section
namespace L3
open PySem PySem.Spec PyProof.Rows L2
def W3{α:Type}(r:R3 α)(Q:α->aP->Prop):Prop:=∃a S,r= .ok a S/\Q a S
section
variable {α β:Type} {Q Q':α->aP->Prop} {S:aP} {δ:DE}
theorem W3.ok{a:α}(h:Q a S):W3 (.ok a S) Q:=⟨a,S,rfl,h⟩
theorem W3.bind{Q:β->aP->Prop}{r:R3 α}{f:α->aP->R3 β}(h:W3 r fun a S=>W3 (f a S) Q):W3 (r.bind f) Q:=by
 obtain⟨a,S1,e1,b,S2,h2,q⟩:=h;exact⟨b,S2,by rw[e1];exact h2,q⟩
theorem W3.mono{r:R3 α}(h:W3 r Q)(m:∀a S,Q a S->Q' a S):W3 r Q':=let⟨a,S,e,q⟩:=h;⟨a,S,e,m a S q⟩
theorem W3.wh{c:Bool}{r:R3 α}(hc:c=true)(h:W3 r Q):W3 (R3.aS c r) Q:=by rw[hc];exact h
theorem W3.of{r:R α}{a:α}(e:r= .ok a)(h:Q a S):W3 (R3.of r S) Q:=by rw[e];exact⟨a,S,rfl,h⟩
end
section
variable {S:aP} {δ:DE} {QV:V3->aP->Prop} {QB:Bool->aP->Prop} {QA:List V3->aP->Prop} {QO:Ou->aP->Prop}
theorem gu{f:FD}{d:D}(e:f (down δ)= .ok d)(h:QV (.d d) S):W3 (xP f δ S) QV:=W3.bind (W3.of e (W3.ok h))
theorem Ms{f:FD}{d:D}(e:f (hV S δ)= .ok d)(ha:sV d=true)(h:QV (.d d) S):W3 (xT f δ S) QV:=W3.bind (W3.of e (W3.wh ha (W3.ok h)))
theorem Dm{f:ao->R Bool}{b:Bool}(e:f (down δ)= .ok b)(h:QB b S):W3 (bP f δ S) QB:=W3.of e h
theorem QR{f:ao->R Bool}{b:Bool}(e:f (hV S δ)= .ok b)(h:QB b S):W3 (bT f δ S) QB:=W3.of e h
theorem w_var{i:Nat}{v:V3}(e:δ[i]? =some (some v))(h:QV v S):W3 (cn i δ S) QV:=by unfold cn;rw [e];exact W3.ok h
theorem CD{f:ao->R (List D)}{ds:List D}(e:f (down δ)= .ok ds)(h:QV (.loc S.length) (S++[.lst ds])):W3 (BP f δ S) QV:=W3.bind (W3.of e (W3.ok h))
theorem fM(h:QA [] S):W3 (dw δ S) QA:=W3.ok h
theorem b0{f:FX}{g:FA}(h:W3 (f δ S) fun v S1=>W3 (g δ S1) fun vs S2=>QA (v ::vs) S2):W3 (bt f g δ S) QA:=W3.bind (h.mono fun _ _ h=>W3.bind (h.mono fun _ _ h=>W3.ok h))
theorem Jm{g:FA}(h:W3 (g δ S) fun vs S1=>vs.length<=sizeLine/\QV (xH vs) S1):W3 (wK g δ S) QV:=W3.bind (h.mono fun _ _ h=>W3.wh (decide_eq_true h.1) (W3.ok h.2))
theorem Tu{g:D->D->R D}{fa fb:FX}(h:W3 (fa δ S) fun a S1=>W3 (fb δ S1) fun b S2=>∃x y d,a= .d x/\b= .d y/\g x y= .ok d/\QV (.d d) S2):W3 (x2 g fa fb δ S) QV:=
 W3.bind (h.mono fun _ _ h=>W3.bind (h.mono fun _ _ ⟨_,_,_,e1,e2,e3,q⟩=>by subst e1 e2;exact W3.bind (W3.of e3 (W3.ok q))))
theorem E7{g:D->D->R D}{fa fb:FX}(h:W3 (fa δ S) fun a S1=>W3 (fb δ S1) fun b S2=>∃x y k,a= .d x/\b= .d y/\g x y= .ok (.bl k)/\QB k S2):W3 (JE g fa fb δ S) QB:=
 W3.bind (Tu (h.mono fun _ _ h=>h.mono fun _ _ ⟨x,y,k,e1,e2,e3,q⟩=>⟨x,y, .bl k,e1,e2,e3,W3.ok q⟩))
theorem vd{g:List V3->aP->R3 V3}{fs:FA}(h:W3 (fs δ S) fun vs S1=>W3 (g vs S1) QV):W3 (oa g fs δ S) QV:=W3.bind h
theorem z7{g:List D->R D}{fs:FA}(h:W3 (fs δ S) fun vs S1=>∃ds d,vs=ds.map .d/\g ds= .ok d/\QV (.d d) S1):W3 (pX g fs δ S) QV:=
 W3.bind (h.mono fun _ _ ⟨ds,_,e1,e2,q⟩=>by subst e1;rw [rH];exact W3.bind (W3.of e2 (W3.ok q)))
theorem Ee{it:FA}{own:List Str}{kp:List Nat}(h:W3 (it δ S) fun vs S1=>vs.length<=sizeLine/\W3 (lY t c f (m6 own kp δ) vs S1) fun ys S2=>QV (ug ys) S2):W3 (tM it t c f own kp δ S) QV:=
 W3.bind (h.mono fun _ _ h=>W3.wh (decide_eq_true h.1) (W3.bind (h.2.mono fun _ _ h=>W3.ok h)))
theorem eO{F G:FZ}(h:W3 (F δ S) fun o S1=>∃δ1,o= .nx δ1/\W3 (G δ1 S1) QO):W3 (cO F G δ S) QO:=W3.bind (h.mono fun _ _ ⟨_,e,h⟩=>by subst e;exact h)
theorem kU{i:Nat}{f:FX}(hi:i < δ.length)(h:W3 (f δ S) fun v S1=>QO (.nx (δ.set i (some v))) S1):W3 (oK i f δ S) QO:=W3.bind (h.mono fun _ _ h=>W3.wh (decide_eq_true hi) (W3.ok h))
theorem AB{f:FX}(h:W3 (f δ S) fun v S1=>QO (.rt v) S1):W3 (zI f δ S) QO:=W3.bind (h.mono fun _ _ h=>W3.ok h)
theorem KI{c:FB}{F G:FZ}(h:W3 (c δ S) fun b S1=>if b then W3 (F δ S1) QO else W3 (G δ S1) QO):W3 (tJ c F G δ S) QO:=W3.bind (h.mono fun b _ h=>by cases b <;> exact h)
theorem EF{f:FX}{t:FG}(h:W3 (f δ S) fun v S1=>∃δ1,t v δ=some δ1/\QO (.nx δ1) S1):W3 (Ex f t δ S) QO:=W3.bind (h.mono fun _ _ ⟨_,e,q⟩=>by rw[e];exact W3.ok q)
theorem JS(h:QO (.nx δ) S):W3 (mU δ S) QO:=W3.ok h
theorem EC{f:ao->R (List D)}{ds:List D}(e:f (down δ)= .ok ds)(h:QA (ds.map .d) S):W3 (iP f δ S) QA:=W3.bind (W3.of e (W3.ok h))
theorem Oj{it:FA}(h:W3 (it δ S) fun vs S1=>W3 (gg t F vs δ S1) QO):W3 (zg it t F δ S) QO:=W3.bind h
theorem D_{fo fi fe:FX}(h:W3 (fe δ S) fun v S1=>W3 (fo δ S1) fun o S2=>W3 (fi δ S2) fun j S3=>∃d k n ds m,v= .d d/\o= .loc k/\j= .d (.int n)/\S3[k]? =some (.lst ds)/\Bk ds.length n=some m/\QO (.nx δ) (S3.set k (.lst (ds.set m d)))):W3 (CW fo fi fe δ S) QO:=
 W3.bind (h.mono fun _ _ h=>W3.bind (h.mono fun _ _ h=>W3.bind (h.mono fun _ S3 ⟨d,k,n,ds,m,e1,e2,e3,h1,h2,q⟩=>by
  subst e1 e2 e3;have e3:cM S3 k=some ds:=by unfold cM;simp only[h1]
  show W3 (match cM S3 k with | some ds=>_ | none=>_) _
  rw[e3];show W3 (match Bk ds.length n with | some m=>_ | none=>_) _
  rw[h2];exact W3.ok q)))
theorem rP{t:FG}{body:FZ}:∀(vs:List V3) (n:Nat) (P:Nat->DE->aP->Prop) {δ:DE} {S:aP},P n δ S->
 (∀i v δ S,vs[i]? =some v->P (n+i) δ S->∃δ1,t v δ=some δ1/\W3 (body δ1 S) fun o S1=>∃iB,o= .nx iB/\P (n+i+1) iB S1)->W3 (gg t body vs δ S) fun o S1=>∃iB,o= .nx iB/\P (n+vs.length) iB S1
 | [],n,P,δ,S,h0,_=>W3.ok ⟨δ,rfl,h0⟩
 | v ::vs,n,P,δ,S,h0,hs=>by
   obtain⟨δ1,e1,o,S1,e2,iB,rfl,p2⟩:=hs 0 v δ S rfl h0;have ih:=rP vs (n+1) P p2 (fun i v' cz S' hi hp=>by
    have:=hs (i+1) v' cz S' (by simpa using hi) (by rw[show n+(i+1)=n+1+i by omega];exact hp)
    rw[show n+(i+1)+1=n+1+i+1 by omega] at this
    exact this)
   rw[show n+1+vs.length=n+(v ::vs).length by rw[List.length_cons];omega] at ih
   unfold gg;rw[e1];refine W3.bind ⟨_,_,e2,?_⟩;exact ih
theorem Bp{t:FG}{body:FZ}{vs:List V3}(P:Nat->DE->aP->Prop){δ:DE}{S:aP}(h0:P 0 δ S)
 (hs:∀i v δ S,vs[i]? =some v->P i δ S->∃δ1,t v δ=some δ1/\W3 (body δ1 S) fun o S1=>∃iB,o= .nx iB/\P (i+1) iB S1):W3 (gg t body vs δ S) fun o S1=>∃iB,o= .nx iB/\P vs.length iB S1:=by
 have:=rP (t:=t) (body:=body) vs 0 P h0 (fun i v δ S hi hp=>by simpa using hs i v δ S hi (by simpa using hp))
 simpa using this
theorem rE{t:FG}{c:FB}{f:FX}{δ:DE}:∀(vs:List V3) (n:Nat) (P:Nat->List V3->aP->Prop) {ys:List V3} {S:aP},P n ys S->
 (∀i v ys S,vs[i]? =some v->P (n+i) ys S->∃δ1,t v δ=some δ1/\W3 (c δ1 S) fun b S1=>if b then W3 (f δ1 S1) fun y S2=>P (n+i+1) (ys++[y]) S2 else P (n+i+1) ys S1)->W3 (lY t c f δ vs S) fun zs S1=>P (n+vs.length) (ys++zs) S1
 | [],n,P,ys,S,h0,_=>W3.ok (by rw[List.append_nil];exact h0)
 | v ::vs,n,P,ys,S,h0,hs=>by
   obtain⟨δ1,e1,b,S1,e2,h2⟩:=hs 0 v ys S rfl h0;have ih:∀{OM S'},P (n+1) OM S'->W3 (lY t c f δ vs S') fun zs S1=>P (n+(v ::vs).length) (OM++zs) S1:=fun {OM S'} p=>by
    have:=rE (t:=t) (c:=c) (f:=f) (δ:=δ) vs (n+1) P p (fun i v' OM S' hi hp=>by
     have:=hs (i+1) v' OM S' (by simpa using hi) (by rw[show n+(i+1)=n+1+i by omega];exact hp)
     rw[show n+(i+1)+1=n+1+i+1 by omega] at this
     exact this)
    rw[show n+1+vs.length=n+(v ::vs).length by rw[List.length_cons];omega] at this
    exact this
   unfold lY;rw[e1];refine W3.bind ⟨b,S1,e2,?_⟩;cases b with
   | true=>
     rw[if_pos rfl] at h2 ⊢;exact W3.bind (h2.mono fun y S2 p=>W3.bind ((ih p).mono fun zs S3 q=>W3.ok (by rw[List.append_assoc] at q;exact q)))
   | false=>rw [if_neg (by decide)] at h2 ⊢;exact ih h2
theorem B_{t:FG}{c:FB}{f:FX}{δ:DE}{vs:List V3}(P:Nat->List V3->aP->Prop){S:aP}(h0:P 0 [] S)
 (hs:∀i v ys S,vs[i]? =some v->P i ys S->∃δ1,t v δ=some δ1/\W3 (c δ1 S) fun b S1=>if b then W3 (f δ1 S1) fun y S2=>P (i+1) (ys++[y]) S2 else P (i+1) ys S1):W3 (lY t c f δ vs S) fun zs S1=>P vs.length zs S1:=by
 have:=rE (t:=t) (c:=c) (f:=f) (δ:=δ) vs 0 P h0 (fun i v ys S hi hp=>by simpa using hs i v ys S hi (by simpa using hp))
 simpa using this
theorem N7{QB:Bool->aP->Prop}(h:QB true S):W3 (Gw δ S) QB:=W3.ok h
theorem TK{N:List Str}{F:FZ}{vs:List V3}{δ:DE}(e:dE N vs=δ)(h:W3 (F δ S) fun o S1=>∃v,o= .rt v/\QV v S1):W3 (sT N F vs S) QV:=by
 subst e;exact W3.bind (h.mono fun _ _ ⟨_,e,q⟩=>by subst e;exact W3.ok q)
def T6(S:aP):Prop:=∀o∈S,∃ds,o=SO.lst ds
end
section
variable {S:aP} {δ:DE} {QV:V3->aP->Prop}
theorem Gd{it:FA}{t:FG}{c:FB}{f:FX}{own:List Str}{kp:List Nat}(P:Nat->List D->aP->Prop)(h:W3 (it δ S) fun vs S1=>vs.length<=sizeLine/\P 0 [] S1/\
 (∀i v ds S2,vs[i]? =some v->P i ds S2->∃δ1,t v (m6 own kp δ)=some δ1/\W3 (c δ1 S2) fun b S3=>if b then W3 (f δ1 S3) fun y S4=>∃d,y= .d d/\P (i+1) (ds++[d]) S4 else P (i+1) ds S3)/\
 ∀ds S2,P vs.length ds S2->QV (.d (.lst ds)) S2):W3 (tM it t c f own kp δ S) QV:=by
 refine Ee (h.mono fun vs S1 ⟨hl,h0,hs,hq⟩=>⟨hl,?_⟩)
 refine(B_ (fun i ys S=>∃ds,ys=ds.map V3.d/\P i ds S) ⟨[],rfl,h0⟩ ?_).mono fun zs S2 ⟨ds,e,p⟩=>?_
 .rintro i v ys S2 hv ⟨ds,rfl,p⟩;obtain⟨δ1,e1,h1⟩:=hs i v ds S2 hv p;refine⟨δ1,e1,h1.mono fun b S3 h3=>?_⟩
  cases b with
  | true=>
    rw[if_pos rfl] at h3 ⊢;exact h3.mono fun y S4 ⟨d,e,p⟩=>by subst e;exact⟨ds++[d],by simp,p⟩
  | false=>rw [if_neg (by decide)] at h3 ⊢;exact⟨ds,rfl,h3⟩
 .subst e;unfold ug;rw[rH];exact hq ds S2 p
structure iC (n:Nat) (d:D):Prop where
 pl:cq d=true
 ly:(toPy d).canLay0=true
 dp:(toPy d).depth<=n
theorem iC.int(i:Int):iC 0 (.int i):=⟨by unfold cq;rfl,by unfold toPy PyData.canLay0;rfl,by unfold toPy PyData.depth;omega⟩
theorem iC.bl(b:Bool):iC 0 (.bl b):=⟨by unfold cq;rfl,by unfold toPy PyData.canLay0;rfl,by unfold toPy PyData.depth;omega⟩
theorem iC.str(h:(PyData.str s).canLay0=true):iC 0 (.str s):=⟨by unfold cq;rfl,by unfold toPy;exact h,by unfold toPy PyData.depth;omega⟩
theorem iC.mono{n m:Nat}{d:D}(h:iC n d)(hm:n<=m):iC m d:=⟨h.pl,h.ly,Nat.le_trans h.dp hm⟩
theorem iC.all{n:Nat}:∀{ds:List D},(∀d∈ds,iC n d)->fV ds=true/\PyData.canLayAll0 (dY ds)=true/\PyData.depthAll (dY ds)<=n
 | [],_=>⟨by unfold fV;rfl,by unfold dY PyData.canLayAll0;rfl,by unfold dY PyData.depthAll;omega⟩
 | d ::ds,h=>by
   obtain⟨h1,h2,h3⟩:=iC.all (ds:=ds) fun x hx=>h x (List.mem_cons_of_mem _ hx)
   have f:=h d List.mem_cons_self;refine⟨by unfold fV;rw [f.pl,h1];rfl,by unfold dY PyData.canLayAll0;rw [f.ly,h2];rfl,?_⟩
   unfold dY PyData.depthAll;have:=f.dp;omega
theorem iC.lst{n:Nat}{ds:List D}(h:∀d∈ds,iC n d):iC (n+1) (.lst ds):=by
 obtain⟨h1,h2,h3⟩:=iC.all h;exact⟨by unfold cq;exact h1,by unfold toPy PyData.canLay0;exact h2,by unfold toPy PyData.depth;omega⟩
theorem iC.tup{n:Nat}{ds:List D}(h:∀d∈ds,iC n d):iC (n+1) (.tup ds):=by
 obtain⟨h1,h2,h3⟩:=iC.all h;exact⟨by unfold cq;exact h1,by unfold toPy PyData.canLay0;exact h2,by unfold toPy PyData.depth;omega⟩
theorem iC.sh{n:Nat}{d:D}(h:iC n d)(hn:n<=64):SeqAt.shaped (toPy d)=true:=by
 unfold SeqAt.shaped;rw[h.ly,decide_eq_true (Nat.le_trans h.dp hn)];rfl
theorem LR{d e:List D}:Cu (.tup d) (.tup e)=R.aS (cq (.tup d) && cq (.tup e) && SeqAt.shaped (toPy (.tup d)) && SeqAt.shaped (toPy (.tup e))) (.ok (PyData.eqv (toPy (.tup d)) (toPy (.tup e)))):=rfl
theorem iC.eqT{n:Nat}{ds:List D}(h:iC n (.tup ds))(hn:n<=64):Cu (.tup ds) (.tup ds)= .ok true:=by
 rw[LR,h.pl,h.sh hn,SeqAt.eqv_refl _ h.ly];rfl
end
end L3
end
section
namespace L2
open PySem PySem.Spec PyProof.Rows
section
variable {X:Cx}
def Jp:D->Bool | .cJ=>true | _=>false
def XW(d e:D):R D:=match e with | .cJ=> .ok (.bl (Jp d)) | _=> .no
def VG(d e:D):R D:=match e with | .cJ=> .ok (.bl (!Jp d)) | _=> .no
theorem Bu:jY X (.type "int") (fun xs H Q=>∃x n,xs=[.str x]/\PySem.intText? x=some n/\x.length<=640/\Q (.int n) H):=by
 intro pins s σ H xs us Q I r h;obtain⟨x,n,rfl,h1,h2,q⟩:=h;obtain⟨u,rfl,ru⟩:=vals1 r;obtain⟨t,rfl⟩:=ru;exact PySem.W.KIN.call_text h1 h2 ⟨.int n,H,I.tok _,⟨_,rfl⟩,q⟩
def Fv:List D->R D
 | [.str x]=>R.aS (decide (x.length<=640)) (match PySem.intText? x with | some n=> .ok (.int n) | none=> .no)
 | _=> .no
theorem KY:cX X (.type "int") Fv:=cX.of Bu fun B H ds d xs Q _ rs hg q=>by
 unfold Fv at hg;split at hg
 .obtain⟨h1,h2⟩:=R.aN hg;split at h2
  .rename_i e;cases h2;obtain⟨x,rfl,r⟩:=rs.one;exact⟨_,_,by rw[Rep.str.mp r],e,of_decide_eq_true h1,q _ H (aM.refl H) (Rep.int.mpr rfl)⟩
  .cases h2
 .cases hg
def EY(ds:List D):R D:=match ds with | [.str _]=>Fv ds | _=>cInt ds
theorem Kt:cX X (.type "int") EY:=cX.or KY MI fun a d h=>by
 unfold EY at h;split at h
 .exact .inl h
 .exact .inr h
def V1(f:FD):FD:=fun δ=>(f δ).bind fun d=>match d with | .int i=> .ok (.int (-i)) | _=> .no
def Tn(d:D)(ds:List D):R D:=match d,ds with
 | .str x,[.str y]=> .ok (.int (Txt.find x y))
 | _,_=> .no
def Gr(ay:List (Str × Str)):D:= .dct (ay.map fun p=>Sum.inr p.1) (ay.map fun p=> .str p.2)
def Jk(ay:List (Str × Str)):List (Key × V):=ay.map fun p=>((Sum.inr p.1:Key),V.str p.2)
theorem uh{K:W.Frag}{B:List Addr}:∀ay:List (Str × Str),az K B H (ay.map fun p=>D.str p.2) ((Jk ay).map (·.2))
 | []=>az.nil
 | p ::ay=>az.cons (Rep.str.mpr rfl) (uh ay)
theorem CY{keys:List (Option Expr)}{values:List Expr}{sR:List (TE × TE)}{pos:Pos}(ay:List (Str × Str))(h:Iy X pos keys values sR)(yb:keys.all (·.isSome)=true)(hl:keys.length=values.length)(h0:keys≠[])(SY:keys.length<=15)
 (hc:∀σ H Q,Q ((Jk ay).map fun kv=>(kV kv.1,kv.2)) H->nv sR σ H Q) (hlen:ay.length<=15) (WV:jP [] (Jk ay)=Jk ay):QD X (.Dict keys values pos) (eC (Gr ay)):=by
 refine⟨(Ad h yb hl h0 SY).imp fun σ H Q ⟨Z,B,δ,d,E,hf,q⟩=>?_⟩
 cases hf;intro p hp;refine hc σ _ _ ⟨aX,Jk ay,rfl,by unfold Jk;rw [List.length_map];exact hlen,?_⟩
 rw[A7,WV];refine q _ _ (ba hp) ?_;unfold Gr Rep;refine⟨p,Jk ay,rfl,⟨fun ha=>?_,aX⟩,?_,uh ay⟩
 .obtain⟨o,ho⟩:=E.bs p ha;rw[hp] at ho;cases ho
 .unfold Jk;rw [List.map_map];rfl
def Ik(d k:D):R D:=match d,k with
 | .dct ks ds, .str x=>(match (ks.zip ds).find? fun p=>decide (p.1=Sum.inr x) with | some p=> .ok p.2 | none=> .no)
 | _,_=> .no
theorem qg{K:W.Frag}{B:List Addr}{k:Key}{v:Key × D}:∀{ay:List (Key × V)} {ds:List D},az K B H ds (ay.map (·.2))->(((ay.map (·.1)).zip ds).find? fun p=>decide (p.1=k))=some v->∃x,iI ay k=some x/\Rep K B H v.2 x
 | [],ds,r,h=>by simp at h
 | (k1,v1) ::ay,[],r,h=>by simp at h
 | (k1,v1) ::ay,d ::ds,r,h=>by
   obtain⟨x,xs,e,r1,r2⟩:=r.bR;cases e;rw[List.map_cons,List.zip_cons_cons,List.find?_cons] at h;unfold iI;rw[List.find?_cons];by_cases hk:k1=k
   .have e1:decide (k1=k)=true:=decide_eq_true hk;simp only[e1] at h ⊢;cases h;exact⟨_,rfl,r1⟩
   .have e1:decide (k1=k)=false:=decide_eq_false hk;simp only[e1] at h ⊢;exact qg r2 h
theorem Er(hu:X.A.units+1 < cLine)(ho:QD X o f)(hi:QD X i g)(hs:D3 i):QD X (.Subscript o i pos) (e2 Ik f g):=by
 refine⟨(Af hu ho.1 hi.1 hs).imp fun σ H Q ⟨Z,B,δ,d,E,hf,q⟩=>?_⟩
 obtain⟨d1,h1,h2⟩:=R.af hf;obtain⟨d2,h3,h4⟩:=R.af h2;refine⟨Z,B,δ,d1,E,h1,fun v1 H1 s1 r1=>⟨Z,B,δ,d2,E.same s1,h3,fun v2 H2 s2 r2=>?_⟩⟩
 unfold Ik at h4;split at h4
 .split at h4
  .rename_i ks ds x _ p e;cases h4;have sQ:=r1.same s2;unfold Rep at sQ;obtain⟨a,ay,rfl,⟨_,hH⟩,rfl,rs⟩:=sQ;obtain⟨y,ey,ry⟩:=qg rs e;refine⟨a,y,rfl,?_,q _ H2 (s1.trans s2) ry⟩;rw[Rep.str.mp r2,<-ey];exact lC.k (k:=Sum.inr x) hH
  .cases h4
 .cases h4
end
end L2
namespace L3
open PySem PySem.Spec PyProof.Rows L2
section
variable {X:Cx} {cl:YH}
def QI(f:FX):FB:=fun δ S=>(f δ S).bind fun v S=>match v with | .d (.bl b)=> .ok b S | _=> .no
theorem JV{f:FX}{δ:DE}{S S':aP}{b:Bool}(h:QI f δ S= .ok b S'):f δ S= .ok (.d (.bl b)) S':=by
 obtain⟨v,S1,h1,h2⟩:=R3.af h;split at h2
 .cases h2;exact h1
 .cases h2
def JC(f g:FX):FX:=fun δ S=>(QI f δ S).bind fun b S=>if b then g δ S else .ok (.d (.bl false)) S
def Yn(f g:FX):FX:=fun δ S=>(QI f δ S).bind fun b S=>if b then .ok (.d (.bl true)) S else g δ S
theorem JK{op}(h:PX X cl a f):PX X cl (.BoolOp op [a] pos) f:=⟨CG h.1⟩
theorem JQ{rest:List Expr}(ha:PX X cl a f)(hb:PX X cl (.BoolOp .And (b ::rest) pos) g):PX X cl (.BoolOp .And (a ::b ::rest) pos) (JC f g):=⟨(DC ha.1 hb.1).imp fun σ H Q ⟨ρ,S,δ,k,S',E,hf,q⟩=>by
 obtain⟨c,S1,h1,h2⟩:=R3.af hf;refine⟨ρ,S,δ, .d (.bl c),S1,E,JV h1,fun v bz H1 p1 w1 r1=>⟨c,by unfold aW Rep at r1;exact r1,?_⟩⟩
 cases c with
 | true=>rw [if_pos rfl] at h2 ⊢;exact⟨bz,S1,δ,k,S',E.to p1 w1,h2,fun v mP H' p2 w2 r2=>q v mP H' (p1.trans p2) w2 r2⟩
 | false=>rw [if_neg (by decide)] at h2 ⊢;cases h2;exact q _ bz H1 p1 w1 (by unfold aW Rep;rfl)⟩
theorem w_and{f g:FX}{δ:DE}{S:aP}{Q:V3->aP->Prop}(h:W3 (f δ S) fun v S1=>v= .d (.bl true)/\W3 (g δ S1) Q):W3 (JC f g δ S) Q:=W3.bind (W3.bind (h.mono fun v S1 ⟨e,h2⟩=>by subst e;exact W3.ok (by rw[if_pos rfl];exact h2)))
def Wj(i:Nat)(F:FZ):FZ:=fun δ S=>match pe δ i with
 | some k=>(match cM S k with | some ds=>F (δ.set i (some (.d (.lst ds)))) (S.set k .ky) | none=> .no)
 | none=> .no
end
def Flat(S:aP):Prop:=∀o∈S,∀n,wH n o=true
theorem Flat.nil:Flat []:=fun o ho=>by cases ho
end L3
end
section
namespace PySem
open Sem (wp)
open AutoSeq1 (wpAny_loadPart')
section
variable {prog:Program} {w:World} {A:Around} {E:YC} {s:Shared}
end
end PySem
namespace L2
open PySem PySem.Spec PyProof.Rows
section
variable {X:Cx}
def Pd(f:FD):FD:=fun δ=>(f δ).bind fun d=>match d with
 | .int j=>R.aS (decide (-(2 ^ 62)<=j/\j < 16777216)) (.ok (.tup (qD 0 j.toNat)))
 | _=> .no
end
end L2
end
section
namespace PySem
open Sem (wp)
open AutoSeq1 (wpAny_loadPart')
section
variable {prog:Program} {w:World} {A:Around} {E:YC} {s:Shared}
end
end PySem
namespace L2
open PySem PySem.Spec PyProof.Rows
def VF(K:W.Frag)(a:Addr):It:=
 ⟨fun i H=>∃xs x,oT K H a xs/\xs[i]? =some x,fun i H v H'=>∃p x,H p=none/\v= .ref p/\(∀xs,oT K H a xs->xs[i]? =some x)/\H'=upd H p (.tup [.int i,x]),fun i H=>∃xs,oT K H a xs/\xs.length<=i⟩
section
variable {X:Cx}
def OX(f:FD):ao->R (List D):=fun δ=>(f δ).bind fun d=>match d with | .tup ds=> .ok (gq ds) | _=> .no
end
end L2
end
section
namespace L2
open PySem PySem.Spec PyProof.Rows
section
variable {X:Cx}
abbrev Tr:D->D->R D:=FW (fun _ j=>decide (0 < j/\j.natAbs.log2 < 9000)) fun i j=>i / j
def Wt(f:ao->R (List D))(g:FD):ao->R (List D):=fun δ=>(f δ).bind fun ds=>(g δ).bind fun d=>match d with
 | .int k=>R.aS (decide (0<=k/\k < 1000000/\ds.length*k.toNat<=sizeLine)) (.ok (List.replicate k.toNat ds).flatten)
 | _=> .no
def Eo(ns:List Int):List Int:=ns.mergeSort fun a b=>decide (a<=b)
def Pb:List D->R D
 | [.lst ds]=>(match ints? ds with | some ns=>R.aS (decide (ns.length < 64)) (.ok (.lst ((Eo ns).map .int))) | none=> .no)
 | _=> .no
theorem getD_in{l:List Int}{i:Nat}(h:i < l.length):l.getD i 0∈l:=by
 have e:l.getD i 0=l[i]:=by simp [h]
 rw[e];exact List.getElem_mem h
theorem fold_min:∀(ns:List Int) (n:Int),ns.foldl min n∈n ::ns/\∀a∈n ::ns,ns.foldl min n<=a
 | [],n=>⟨by simp,fun a ha=>by simp at ha;subst ha;exact Int.le_refl _⟩
 | x ::ns,n=>by
   obtain⟨h1,h2⟩:=fold_min ns (min n x);rw[List.foldl_cons];refine⟨?_,fun a ha=>?_⟩
   .rcases List.mem_cons.mp h1 with z | z
    .rw [z];by_cases hc:n<=x
     .rw [Int.min_eq_left hc];simp
     .rw [Int.min_eq_right (by omega)];simp
    .exact List.mem_cons_of_mem _ (List.mem_cons_of_mem _ z)
   .have hm:=h2 _ List.mem_cons_self;rcases List.mem_cons.mp ha with z | z
    .subst z;omega
    .rcases List.mem_cons.mp z with z | z
     .subst z;omega
     .exact h2 a (List.mem_cons_of_mem _ z)
def AO:List D->R D
 | [.lst ds]=>(match ints? ds with | some (n ::ns)=> .ok (.int (ns.foldl min n)) | _=> .no)
 | ds=>Dx ds
def Tv:List D->R D
 | [.lst ds]=>(match ints? ds with | some (n ::ns)=> .ok (.int (ns.foldl max n)) | _=> .no)
 | ds=>Qy ds
theorem LO(hc:X.calm=true):cX X (.builtin "min") AO:=by
 intro pins s σ H B ds d xs us I hb rx rs hg;unfold AO at hg;split at hg
 .split at hg
  .rename_i es n ns e;cases hg;obtain⟨x,rfl,r⟩:=rs.one;obtain⟨a,ys,rfl,l,r⟩:=Rep.lst.mp r;obtain⟨u,rfl,ru⟩:=vals1 rx;cases ru;obtain⟨its,k,rv,e1,hz⟩:=I.Jd l;rw[fB r e] at rv;obtain⟨ps,rfl,hps⟩:=hU rv;have hl:s.heap.IsList a (intItems ps.toArray):=⟨_,e1,rfl,k,by simp [intItems]⟩
   have hlp:ps.length=ns.length+1:=by have:=congrArg List.length hps;simpa using this
   refine min_intList (I.ok.hd hc) hl (by simp;omega) fun v h' tk hv hk=>?_
   obtain⟨t,rfl⟩:=intItems_at hv;obtain⟨b1,b2⟩:=argBest_lt (numAt ps.toArray) (ps.toArray.size - 1);refine⟨.int _,H,I.kept hk,⟨t,rfl⟩,aM.refl H,Rep.int.mpr ?_⟩;obtain⟨m1,m2⟩:=fold_min ns n;have hge:∀j,j < ps.length->numAt ps.toArray j=(n ::ns).getD j 0:=fun j hj=>by rw[numAt_eq,<-hps]
   have hin:numAt ps.toArray (argBest (fun i j=>decide (numAt ps.toArray i < numAt ps.toArray j)) (ps.toArray.size - 1))∈n ::ns:=by
    rw[hge _ (by simp at b1 ⊢;omega)];exact getD_in (by simp at b1 ⊢;omega)
   have hle:=m2 _ hin;obtain⟨j,hj,ej⟩:=List.getElem_of_mem m1;have hj':j < ns.length+1:=by simpa using hj
   have h3:=b2 j (by simp;omega)
   rw[hge j (by omega)] at h3
   have h4:(n ::ns).getD j 0=ns.foldl min n:=by rw[<-ej,List.getD_eq_getElem?_getD,List.getElem?_eq_getElem hj];rfl
   rw[h4] at h3;congr 1;omega
  .cases hg
 .exact NN hc pins s σ H B _ d xs us I hb rx rs hg
end
end L2
namespace L3
open PySem PySem.Spec PyProof.Rows L2
def NW(S:aP):V3->Option (List D)
 | .d (.lst ds)=>some ds
 | .loc k=>cM S k
 | _=>none
section
variable {X:Cx} {cl:YH}
def Vp(fa fb:FX):FX:=fun δ S=>(fa δ S).bind fun a S1=>(fb δ S1).bind fun b S2=>match NW S2 a,NW S2 b with
 | some ds,some es=>R3.aS (decide (ds.length+es.length<=sizeLine)) (.ok (.loc S2.length) (S2++[.lst (ds++es)]))
 | _,_=> .no
def Vm(i:Nat):FZ:=fun δ S=>match pe δ i with
 | none=> .no
 | some k=>(match cM S k with | some _=> .ok (.nx δ) (S.set k (.lst [])) | none=> .no)
end
end L3
end
section
namespace L3
open PySem PySem.Spec PyProof.Rows L2
def jX(S:aP)(c k:Nat):Option (List (Str × V3)):=match S[k]? with | some (.ins c' fs)=>(if c'=c then some fs else none) | _=>none
theorem kr{S:aP}{c k:Nat}{fs:List (Str × V3)}(h:jX S c k=some fs):S[k]? =some (.ins c fs):=by
 unfold jX at h;split at h
 .rename_i c' Mx e;split at h
  .rename_i hc;cases h;rw [e,hc]
  .cases h
 .cases h
theorem AR{K:W.Frag}{v:V3}:∀{fs:List (Str × V3)} {ys:List (Str × V)},ys.map (·.1)=fs.map (·.1)->aE K ρ H (fs.map (·.2)) (ys.map (·.2))->fs.lookup f=some v->∃x,ys.lookup f=some x/\aW K ρ H v x
 | [],ys,_,_,h=>by simp at h
 | (g,w) ::fs,[],e,_,_=>by simp at e
 | (g,w) ::fs,(g',y) ::ys,e,r,h=>by
   obtain⟨e1,qt⟩:=List.cons.inj e;have e1:g'=g:=e1;subst e1;obtain⟨x,xs,ex,r1,r2⟩:=r.bR;cases ex;rw[List.lookup_cons] at h ⊢;cases hq:f==g' with
   | true=>rw [hq] at h;cases h;exact⟨y,rfl,r1⟩
   | false=>rw [hq] at h;exact AR qt r2 h
theorem wj:∀{fs:List (Str × V3)} {ys:List (Str × V)},ys.map (·.1)=fs.map (·.1)->fs.lookup f=none->ys.lookup f=none
 | [],[],_,_=>rfl
 | [],_ ::_,e,_=>by simp at e
 | _ ::_,[],e,_=>by simp at e
 | (g,w) ::fs,(g',y) ::ys,e,h=>by
   obtain⟨e1,qt⟩:=List.cons.inj e;have e1:g'=g:=e1;subst e1;rw[List.lookup_cons] at h ⊢;cases hq:f==g' with
   | true=>rw [hq] at h;cases h
   | false=>rw [hq] at h;exact wj qt h
def uN(f:Str)(v:V3):List (Str × V3)->List (Str × V3)
 | []=>[(f,v)]
 | (g,x) ::r=>if g=f then(g,v) ::r else(g,x) ::uN f v r
theorem Aa{K:W.Frag}{f:Str}{v:V3}{u:V}(rv:aW K ρ H v u):∀{fs:List (Str × V3)} {ys:List (Str × V)},ys.map (·.1)=fs.map (·.1)->aE K ρ H (fs.map (·.2)) (ys.map (·.2))->
 (jQ f u ys).map (·.1)=(uN f v fs).map (·.1)/\aE K ρ H ((uN f v fs).map (·.2)) ((jQ f u ys).map (·.2))
 | [],[],_,_=>⟨rfl,aE.cons rv aE.nil⟩
 | [],_ ::_,e,_=>by simp at e
 | _ ::_,[],e,_=>by simp at e
 | (g,w) ::fs,(g',y) ::ys,e,r=>by
   obtain⟨e1,qt⟩:=List.cons.inj e;have e1:g'=g:=e1;subst e1;obtain⟨x,xs,ex,r1,r2⟩:=r.bR;cases ex;unfold uN jQ;by_cases hg:g'=f
   .rw [if_pos hg,if_pos hg];exact⟨by rw[List.map_cons,List.map_cons,qt],aE.cons rv r2⟩
   .rw [if_neg hg,if_neg hg];obtain⟨h1,h2⟩:=Aa rv qt r2;exact⟨by rw[List.map_cons,List.map_cons,h1],aE.cons r1 h2⟩
section
variable {X:Cx} {cl:YH}
def eT(c:Nat)(f:Str)(g:FX):FX:=fun δ S=>(g δ S).bind fun v S1=>match v with
 | .loc k=>(match jX S1 c k with | some fs=>(match fs.lookup f with | some v=> .ok v S1 | none=> .no) | none=> .no)
 | _=> .no
theorem cm{c:Nat}{pos:Pos}(hC:xK X.K (cl c))(hn:c9 X.K (cl c) f)(he:PX X cl e g)(hb:attributeBase e f X.env (eval e X.env)=eval e X.env:=by rfl):PX X cl (.Attribute e f pos) (eT c f g):=⟨(Kl he.1 hb).imp fun σ H Q ⟨ρ,S,δ,v,S',E,hf,q⟩=>by
 obtain⟨o,S1,h1,h2⟩:=R3.af hf;split at h2
 .rename_i k;split at h2
  .rename_i fs e1;split at h2
   .rename_i w qt;cases h2;refine⟨ρ,S,δ, .loc k,_,E,h1,fun u bz H1 p1 w1 r1=>?_⟩
    unfold aW at r1;obtain⟨a,a1,rfl⟩:=r1;obtain⟨dx,ys,ey,ek,rs⟩:=w1.ob k a _ a1 (kr e1);obtain⟨x,hx,rx⟩:=AR ek rs qt;exact⟨a,cl c,dx,ys,x,rfl,ey,hC,hn,hx,q x bz H1 p1 w1 rx⟩
   .cases h2
  .cases h2
 .cases h2⟩
theorem w_fld{c k:Nat}{g:FX}{δ:DE}{S:aP}{Q:V3->aP->Prop}(h:W3 (g δ S) fun v S1=>∃fs w,v= .loc k/\S1[k]? =some (.ins c fs)/\fs.lookup f=some w/\Q w S1):W3 (eT c f g δ S) Q:=
 W3.bind (h.mono fun v S1 ⟨fs,w,e1,qt,e3,q⟩=>by
  subst e1;have e4:jX S1 c k=some fs:=by unfold jX;simp only[qt,if_true]
  simp only[e4,e3];exact W3.ok q)
def TR(P:Program)(w:World)(K:W.Frag)(mg:YG)(base:Heap)(cl:YH)(k c:Nat)(m:Str)(n:Nat)(g:List V3->aP->R3 V3):Prop:=
 ∃(f:Addr) (fd:FuncData) (ps:List Str),xK K (cl c)/\Meth K (cl c) m f/\ig P w K mg base ur k f fd ps (G6 K cl (n+1) g)/\Binds K fd ps []
def oi(c:Nat)(m:Str)(g:List V3->aP->R3 V3)(fo:FX)(fs:FA):FX:=fun δ S=>(fo δ S).bind fun o S1=>match o with
 | .loc k=>(match jX S1 c k with | some ys=>(match ys.lookup m with | none=>(fs δ S1).bind fun vs S2=>g (.loc k ::vs) S2 | some _=> .no) | none=> .no)
 | _=> .no
def CH(P:Program)(w:World)(K:W.Frag)(mg:YG)(base:Heap)(cl:YH)(k c:Nat)(x:Str)(n:Nat)(g:List V3->aP->R3 V3):Prop:=
 ∃(f:Addr) (fd:FuncData) (ps:List Str),Mk K (cl c) f/\ig P w K mg base ur k f fd ps (G6 K cl (n+1) g)/\mg x=some (.ref (cl c))/\Binds K fd ps []
def Fy(c:Nat)(g:List V3->aP->R3 V3)(fs:FA):FX:=fun δ S=>(fs δ S).bind fun vs S1=>(g (.loc S1.length ::vs) (S1++[.ins c []])).bind fun v S2=>match v with
 | .d .cJ=> .ok (.loc S1.length) S2
 | _=> .no
def uY(c:Nat)(f:Str)(fo fe:FX):FZ:=fun δ S=>(fe δ S).bind fun v S1=>(fo δ S1).bind fun o S2=>match o with
 | .loc k=>(match jX S2 c k with | some fs=>R3.aS (decide (fs.length < 1000)) (.ok (.nx δ) (S2.set k (.ins c (uN f v fs)))) | none=> .no)
 | _=> .no
theorem pM{c:Nat}{pos pos':Pos}(hC:xK X.K (cl c))(hn:c9 X.K (cl c) f)(ho:PX X cl o fo)(he:PX X cl value fe)(hs:swapsWith value (some (.Attribute o f pos')) pos.line X.env=pure false:=by rfl) :
 PZ X cl (.Assign [.Attribute o f pos'] value pos) (uY c f fo fe):=⟨(Lx ho.1 he.1 hs).imp fun D σ H ⟨ρ,S,δ,ou,S',E,hf,q⟩=>by
 obtain⟨v,S1,h1,h2⟩:=R3.af hf;obtain⟨vo,S2,h3,h4⟩:=R3.af h2;split at h4
 .rename_i k;split at h4
  .rename_i fs e1;obtain⟨hl,h5⟩:=R3.aN h4;cases h5;refine⟨ρ,S,δ,v,S1,E,h1,fun u bz H1 p1 w1 r1=>⟨bz,S1,δ, .loc k,S2,E.to p1 w1,h3,fun u2 mP H2 p2 w2 r2=>?_⟩⟩
   unfold aW at r2;obtain⟨a,a1,rfl⟩:=r2;obtain⟨dx,ys,ey,ek,rs⟩:=w2.ob k a _ a1 (kr e1);have hlen:ys.length=fs.length:=by have:=congrArg List.length ek;simpa using this
   obtain⟨k1,k2⟩:=Aa (f:=f) (r1.pre p2) ek rs;obtain⟨w3,p3⟩:=w2.put (o:= .ins c (uN f v fs)) (u:= .ins (cl c) dx (jQ f u ys)) a1 (w2.fz k a a1 (by rw[kr e1];intro h;cases h)) ⟨dx,_,rfl,k1,k2⟩
   exact⟨a,cl c,dx,ys,rfl,ey,hC,hn,by rw[hlen];exact of_decide_eq_true hl,q σ mP _ (p1.trans (p2.trans p3)) (E.to (p1.trans (p2.trans p3)) w3)⟩
  .cases h4
 .cases h4⟩
theorem kc{c k:Nat}{fo fe:FX}{δ:DE}{S:aP}{QO:Ou->aP->Prop}(h:W3 (fe δ S) fun v S1=>W3 (fo δ S1) fun o S2=>∃fs,o= .loc k/\S2[k]? =some (.ins c fs)/\fs.length < 1000/\QO (.nx δ) (S2.set k (.ins c (uN f v fs)))):W3 (uY c f fo fe δ S) QO:=
 W3.bind (h.mono fun v S1 h=>W3.bind (h.mono fun o S2 ⟨fs,e1,qt,hl,q⟩=>by
  subst e1;have e4:jX S2 c k=some fs:=by unfold jX;simp only[qt,if_true]
  simp only[e4];exact W3.wh (decide_eq_true hl) (W3.ok q)))
theorem Kd{c:Nat}{g:List V3->aP->R3 V3}{fs:FA}{δ:DE}{S:aP}{Q:V3->aP->Prop}(h:W3 (fs δ S) fun vs S1=>W3 (g (.loc S1.length ::vs) (S1++[.ins c []])) fun v S2=>v= .d .cJ/\Q (.loc S1.length) S2):W3 (Fy c g fs δ S) Q:=
 W3.bind (h.mono fun vs S1 h=>W3.bind (h.mono fun v S2 ⟨e,q⟩=>by subst e;exact W3.ok q))
end
end L3
end
section
namespace PySem
open Sem (wp)
def VC(t:Bool)(h:Heap)(i l:Addr)(k:Nat):Prop:=cond t (h.IsTupleIter i l k) (h.IsListIter i l k)
def UX(t:Bool)(h:Heap)(l:Addr)(xs:Array Value):Prop:=cond t (h.IsTuple l xs) (h.IsList l xs)
def Eb(t:Bool):String:=cond t "tuple_iterator" "list_iterator"
section
variable {prog:Program} {w:World} {A:Around} {E:YC} {s:Shared}
end
abbrev TJ(t:Bool)(h:Heap)(l1:Addr):Heap:=h.push {cls:= .type (Eb t),data:= .fields #[.ref l1, .int 0 0]}
abbrev T9(t u:Bool)(h:Heap)(l1 l2:Addr):Heap:=(TJ t h l1).push {cls:= .type (Eb u),data:= .fields #[.ref l2, .int 0 0]}
abbrev Td(t u:Bool)(h:Heap)(l1 l2:Addr):Heap:=(T9 t u h l1 l2).push {cls:= .type "tuple",data:= .seq #[.ref h.objs.size, .ref (TJ t h l1).objs.size]}
abbrev Va(t u:Bool)(h:Heap)(l1 l2:Addr):Heap:=(Td t u h l1 l2).push {cls:= .type "tuple",data:= .seq #[.none, .none]}
abbrev XZ(t u:Bool)(h:Heap)(l1 l2:Addr):Heap:=(Va t u h l1 l2).push {cls:= .type "zip",data:= .fields #[.none, .bool false, .bool false, .ref (T9 t u h l1 l2).objs.size, .ref (Td t u h l1 l2).objs.size]}
end PySem
namespace L2
open PySem PySem.Spec PyProof.Rows
def Mq(t:Bool)(K:W.Frag)(H:Hp)(a:Addr)(xs:List V):Prop:=cond t (oT K H a xs) (lj K H a xs)
def Yk(K:W.Frag)(t u:Bool)(a b:Addr):It:=
 ⟨fun i H=>∃xs ys x y,Mq t K H a xs/\Mq u K H b ys/\xs[i]? =some x/\ys[i]? =some y,
  fun i H v H'=>∃p x y,H p=none/\v= .ref p/\(∀xs,Mq t K H a xs->xs[i]? =some x)/\(∀ys,Mq u K H b ys->ys[i]? =some y)/\H'=upd H p (.tup [x,y]),
  fun i H=>∃xs ys,Mq t K H a xs/\Mq u K H b ys/\(xs.length<=i\/ys.length<=i)⟩
section
variable {X:Cx}
def NY(ds es:List D):List D:=(ds.zip es).map fun p=> .tup [p.1,p.2]
def seqD?:D->Option (List D)
 | .lst ds=>some ds
 | .tup ds=>some ds
 | _=>none
def Tb(f g:FD):ao->R (List D):=fun δ=>(f δ).bind fun d=>(g δ).bind fun e=>match seqD? d,seqD? e with | some ds,some es=> .ok (NY ds es) | _,_=> .no
def TZ(T U:String)(f:FD):FD:=fun δ=>(f δ).bind fun d=>match d with | .dct _ _=> .no | _=> .ok (.bl (Kj (tyName d) T || Kj (tyName d) U))
def Ya(lo:Int)(n:Nat):It:=⟨fun i _=>i < n,fun i H x H'=>H'=H/\x= .int (lo - i),fun i _=>n<=i⟩
def QF(lo:Int)(n:Nat):List D:=(List.range n).map fun(i:Nat)=>D.int (lo - i)
def Tg(f g h:FD):ao->R (List D):=fun δ=>(f δ).bind fun d=>(g δ).bind fun e=>(h δ).bind fun k=>match d,e,k with
 | .int i, .int j, .int m=>R.aS (decide (m= -1/\ -(2 ^ 60)<=i/\i < 2 ^ 60/\ -(2 ^ 60)<=j/\j < 2 ^ 60)) (.ok (QF i (i - j).toNat)) | _,_,_=> .no
def bls?:List D->Option (List Bool)
 | []=>some []
 | .bl b ::ds=>(bls? ds).map (b ::·)
 | _ ::_=>none
theorem v_{K:W.Frag}{B:List Addr}:∀{ds:List D} {xs:List V} {bs:List Bool},az K B H ds xs->bls? ds=some bs->xs=bs.map V.bl
 | [],xs,bs,r,h=>by unfold az at r;subst r;cases h;rfl
 | d ::ds,xs,bs,r,h=>by
   obtain⟨x,q,rfl,r1,r2⟩:=r.bR;cases d with
   | bl b=>
     have h:(bls? ds).map (b ::·)=some bs:=h
     cases e:bls? ds with
     | none=>rw [e] at h;cases h
     | some cs=>
       rw[e] at h;cases h;rw[Rep.bl.mp r1,v_ r2 e];rfl
   | _=>cases h
theorem zV:∀bs:List Bool,bls? (bs.map D.bl)=some bs
 | []=>rfl
 | b ::bs=>by show(bls? (bs.map D.bl)).map (b ::·)=_;rw [zV bs];rfl
theorem sG:∀{bs:List Bool} {us:List Value},Vals (bs.map V.bl) us->us=bs.map Value.bool
 | [],us,h=>by cases h;rfl
 | b ::bs,us,h=>by
   cases h with
   | cons r t=>rw [sG t,show _=Value.bool b from r];rfl
theorem range_all(bs:List Bool):(List.range bs.length).all (fun i=>bs.getD i false)=bs.all id:=by
 rw[Bool.eq_iff_iff];simp only[List.all_eq_true,List.mem_range,id];constructor
 .intro h b hb;obtain⟨i,hi,rfl⟩:=List.getElem_of_mem hb;have:=h i hi;rw[List.getD_eq_getElem?_getD,List.getElem?_eq_getElem hi] at this;exact this
 .intro h i hi;rw[List.getD_eq_getElem?_getD,List.getElem?_eq_getElem hi];exact h _ (List.getElem_mem hi)
def Fd:List D->R D
 | [.lst ds]=>(match bls? ds with | some bs=> .ok (.bl (bs.all id)) | none=> .no)
 | _=> .no
def VL:List D->R D
 | [.lst ds]=>(match bls? ds with | some bs=> .ok (.bl (bs.any id)) | none=> .no)
 | _=> .no
theorem NK{bs:List Bool}{i:Nat}{v:Value}(h:((bs.map Value.bool).toArray)[i]? =some v):v= .bool (bs.getD i false):=by
 rw[List.getElem?_toArray,List.getElem?_map] at h;rw[List.getD_eq_getElem?_getD];cases e:bs[i]? with
 | none=>rw [e] at h;cases h
 | some b=>rw [e] at h;cases h;rfl
theorem Ju(hc:X.calm=true):cX X (.builtin "all") Fd:=by
 intro pins s σ H B ds d xs us I hb rx rs hg;unfold Fd at hg;split at hg
 .split at hg
  .rename_i es bs e;cases hg;obtain⟨x,rfl,r⟩:=rs.one;obtain⟨a,ys,rfl,l,r⟩:=Rep.lst.mp r;obtain⟨u,rfl,ru⟩:=vals1 rx;cases ru;obtain⟨its,n,rv,e1,hz⟩:=I.Jd l;rw[v_ r e] at rv;obtain rfl:=sG rv;have hl:s.heap.IsList a (bs.map Value.bool).toArray:=⟨_,e1,rfl,n,rfl⟩;have hlt:a < s.heap.objs.size:=Heap.lt_size e1;refine call_all_walk (wpAny_pyIter_list hl ?_);refine⟨_,_,_,_,_,_,fun i=>bs.getD i false,rfl,Walks.list (A:=X.A.in1) (I.ok.hd hc) _ a (Nat.ne_of_lt hlt) _,⟨⟨_,Heap.get?_push_size _ rfl,rfl,rfl⟩,hl.push _⟩,?_,fun h' tk hk=>?_⟩
   .intro i v s Q E hP hQ;rw[NK hP];exact wpAny_truthy_bool hQ
   .refine⟨.bl (bs.all id),H,I.kept (old_kept hk),?_,aM.refl H,Rep.bl.mpr rfl⟩;show Value.bool _=Value.bool _;rw[<-range_all];simp
  .cases hg
 .cases hg
end
end L2
end
section
namespace L2
open PySem PySem.Spec PyProof.Rows
section
variable {X:Cx}
def XY:FS:=fun _=> .no
def TY(f:FD):FS:=fun δ=>(f δ).bind fun _=> .ok (.nx δ)
end
end L2
namespace L3
open PySem PySem.Spec PyProof.Rows L2
section
variable {X:Cx} {cl:YH}
def XM:FZ:=fun _ _=> .no
def Al(f:ao->R (List D)):FX:=fun δ S=>(R3.of (f (hV S δ)) S).bind fun ds S=>R3.aS (j9 ds) (.ok (.loc S.length) (S++[.lst ds]))
theorem HK{K:W.Frag}{f:ao->R (List D)}{σ:L2.St}{Q:V->Hp->Prop}(h:tX K cl (Al f) σ H Q):tN K f σ H Q:=by
 obtain⟨ρ,S,δ,v,S',E,hf,q⟩:=h;obtain⟨ds,S1,h1,h2⟩:=R3.af hf;obtain⟨h3,e3⟩:=R3.of_ok h1;obtain⟨ht,h4⟩:=R3.aN h2;cases h4;subst e3;refine⟨[],[],hV _ δ,ds,E.hV,h3,fun a xs H' s n e r=>?_⟩
 have r0:az K [] H' ds xs:=r.bc fun b o e nb=>⟨e,by simp⟩
 have r':az K (ρ.push a).b H' ds xs:=az.uo (fun b hb ys hr=>by
  rcases P3.mem_push hb with z | z
  .exact(E.sw.same s).nt b z ys hr
  .subst z;rcases hr with y | ⟨ob,y⟩
   .rw [e] at y;cases y
   .rw [e] at y;cases y) ht r0
 obtain⟨w,p⟩:=E.sw.new (o:= .lst ds) s n ⟨xs,e,r'⟩;exact q _ _ H' p w (by unfold aW;exact⟨a,by show(ρ.r++[a])[_]? =_;rw [<-E.sw.len,List.getElem?_append_right (by omega),Nat.sub_self];rfl,rfl⟩)
theorem HC{f:ao->R (List D)}(h:QN X e f):PX X cl e (Al f):=⟨h.1.imp fun σ H Q h=>HK h⟩
theorem LP{f:ao->R (List D)}{ds:List D}{δ:DE}{S:aP}{QV:V3->aP->Prop}(e:f (hV S δ)= .ok ds)(ht:j9 ds=true)(h:QV (.loc S.length) (S++[.lst ds])):W3 (Al f δ S) QV:=W3.bind (W3.of e (W3.wh ht (W3.ok h)))
def Vs(i:Nat)(f:FX):FZ:=fun δ S=>match pe δ i with
 | none=> .no
 | some k=>match cM S k with
   | none=> .no
   | some _=>(f δ S).bind fun v S1=>match v with
     | .d (.lst es)=>(match cM S1 k with
       | some ds=>R3.aS (decide (ds.length+es.length<=sizeLine)) (.ok (.nx δ) (S1.set k (.lst (ds++es))))
       | none=> .no)
     | _=> .no
end
end L3
end
section
namespace L2
open PySem PySem.Spec PyProof.Rows
section
variable {X:Cx}
theorem Dl{prog:Program}{w:World}{A:Around}{E:YC}{s:Shared}{t b:Addr}{vs ws:List Value}{Q:YC}(ht:IsTup s.heap t vs.toArray)(hb:IsTup s.heap b ws.toArray)
 (h0:vs=[]->Q (.ref b) s) (h1:vs≠[]->ws=[]->Q (.ref t) s) (h2:vs≠[]->ws≠[]->Q (.ref s.heap.objs.size) {s with heap:=s.heap.push {cls:= .type "tuple",data:= .seq (vs++ws).toArray}})
 (hsz:vs.length+ws.length<=sizeLine):wpAny (model prog w) A (binaryOp .Add (.ref t) (.ref b)) Q E s:=by
 by_cases hv:vs=[]
 .obtain⟨⟨cls,dd,data,sl⟩,ho,hc,n,hd⟩:=id ht;obtain⟨⟨Se,Pn,data2,L6⟩,Md,hc2,n2,hd2⟩:=id hb;simp only at hc hd hc2 hd2;subst hc hd hc2 hd2;exact concat_meets ⟨_,ho,rfl⟩ ⟨_,Md,rfl⟩ noFill_tuple_add seq_tuple_add PySem.F.slot_tuple_add PySem.F.entry_tuple_add (PySem.F.args_tuple_add_2 _ _) (tuple_addW0 t b vs.toArray ws.toArray n n2 dd Pn sl L6 (by simp [hv])) ⟨ho,Md,h0 hv⟩
 .exact HT.GQ ht hb hv (h1 hv) (h2 hv) hsz
def rm(d e:D):R D:=match d,e with
 | .tup a, .tup b=>R.aS (decide (a.length+b.length<=sizeLine)) (.ok (.tup (a++b)))
 | d,e=>eu d e
theorem vY.fresh{K:W.Frag}{B:List Addr}{H:Hp}{p:Addr}{xs:List V}(hb:∀a∈B,∃o,H a=some o)(hp:H p=none):vY K B (upd H p (.tup xs)) p xs:= .inl ⟨fun ha=>(by obtain⟨o,ho⟩:=hb p ha;rw [hp] at ho;cases ho), .inl aX⟩
theorem D6:lA X (binaryOp .Add) rm:=by
 intro pins s σ H B da db d x y v u I hb rx ry ra rb hg;by_cases ht:∃a b,da= .tup a/\db= .tup b
 .obtain⟨a,b,rfl,rfl⟩:=ht;have hg:R.aS (decide (a.length+b.length<=sizeLine)) (.ok (.tup (a++b)))= .ok d:=hg;obtain⟨h1,h2⟩:=R.aN hg;cases h2;have h1:=of_decide_eq_true h1;have ra':=ra;have rb':=rb;obtain⟨a1,Sf,rfl,l1,r1⟩:=Rep.tup.mp ra;obtain⟨a2,Rb,rfl,l2,r2⟩:=Rep.tup.mp rb;cases rx;cases ry;obtain⟨its,UG,p1,_⟩:=I.tuple l1.sq;obtain⟨xX,UN,p2,_⟩:=I.tuple l2.sq;have e1:=UG.length;have e2:=UN.length;have e3:=r1.length;have e4:=r2.length;refine Dl p1 p2 (fun z=>⟨.ref a2,H,I,rfl,aM.refl H,?_⟩) (fun _ z=>⟨.ref a1,H,I,rfl,aM.refl H,?_⟩) (fun _ _=>?_) (by omega)
  .obtain rfl:a=[]:=List.eq_nil_of_length_eq_zero (by rw[e3,e1,z];rfl)
   exact rb'
  .obtain rfl:b=[]:=List.eq_nil_of_length_eq_zero (by rw[e4,e2,z];rfl)
   rw[List.append_nil];exact ra'
  .have hp:H s.heap.objs.size=none:=I.hok.fresh (Nat.le_refl _);refine⟨.ref s.heap.objs.size,_,I.laid (t':=s.toks) (o:= .tup (Sf++Rb)) (fun b ob q=>Heap.get?_push_of_some _ q) (Nat.le_refl _) ⟨by rw[List.length_append];omega,_,UG.append UN,IsTup.new _ _⟩,rfl,ba hp,Rep.tup.mpr ⟨_,_,rfl,vY.fresh hb hp,(r1.append r2).same (ba hp)⟩⟩
 .have hg:eu da db= .ok d:=by
   unfold rm at hg;split at hg
   .exact absurd ⟨_,_,rfl,rfl⟩ ht
   .exact hg
  exact eP pins s σ H B da db d x y v u I hb rx ry ra rb hg
def O3(f:FD):ao->R (List D):=fun δ=>(f δ).bind fun d=>match d with | .lst ds=> .ok (gq ds) | .tup ds=> .ok (gq ds) | _=> .no
def Yd(K:W.Frag)(a:Addr)(n:Nat):It:=
 ⟨fun i H=>∃xs x,lj K H a xs/\xs.length=n/\i < n/\xs[n - 1 - i]? =some x,fun i H v H'=>H'=H/\∀xs,lj K H a xs->xs[n - 1 - i]? =some v,fun i H=>(∃xs,lj K H a xs)/\i=n⟩
def TM(f:FD):ao->R (List D):=fun δ=>(f δ).bind fun d=>match d with | .lst ds=> .ok ds.reverse | _=> .no
def qu(K:W.Frag)(C:Addr)(m qual:Str)(st:Stmt):Prop:=∃f fd,yt K m qual st f fd/\Meth K C m f
def LJ(K:W.Frag)(C:Addr)(m qual:Str)(st:Stmt):Prop:=∃f fd,yt K m qual st f fd/\Mk K C f
end
end L2
namespace L3
open PySem PySem.Spec PyProof.Rows L2
section
variable {X:Cx} {cl:YH}
end
end L3
end
section
namespace L2
open PySem PySem.Spec PyProof.Rows
section
variable {X:Cx}
def V4(f:FD):ao->R (List D):=fun δ=>(f δ).bind fun d=>match d with | .int j=>R.aS (decide (-(2 ^ 62)<=j/\j < 16777216)) (.ok (qD 0 j.toNat)) | _=> .no
def VE(f:FD):FD:=fun δ=>(f δ).bind fun d=>match d with | .lst ds=> .ok (.lst ds.reverse) | _=> .no
end
end L2
end
section
namespace L2
open PySem PySem.Spec PyProof.Rows
section
variable {X:Cx}
def Qj(K:W.Frag)(n:Nat)(t:Ct):TG:=fun v σ H Q=>∃a xs,v= .ref a/\lj K H a xs/\xs.length=n/\t xs σ H Q
theorem J9{es:List Expr}{k:Nat}{t:Ct}{n:Nat}{pos:Pos}(hc:X.calm=true)(h:F0 X es t)
 (hn:(assignEach es X.env).length=n:=by rfl) (xZ:(assignEach es X.env).findIdx? (·.1)=none:=by rfl):PG X (.Tuple es k pos) (Qj X.K n t):=by
 intro pins s σ H v u Q I r hw;obtain⟨a,xs,e1,hq,hl,hw⟩:=hw;subst e1;cases r;obtain⟨its,rv,ht,hz⟩:=I.list hq;rw[assign_Tuple];refine wpAny_bind (wpAny_standAt ?_);unfold unpack;have hln:its.toArray.size=(assignEach es X.env).length:=by simp [hn,<-hl,rv.length]
 rw[xZ];refine wpAny_bind (wpAny_holding ?_);rw[<-hln];refine PySem.W.kun_itemsOf (I.ok.hd hc) ht.isList fun h' hx=>?_
 have I1:Inv X pins σ H {s with heap:=h'}:=I.kept (t':=s.toks) fun b o e=>hx b o (Nat.ne_of_lt (Heap.lt_size e)) e
 exact h pins _ σ H xs _ Q I1 (by simpa using rv) hw
end
end L2
namespace L3
open PySem PySem.Spec PyProof.Rows L2
section
variable {X:Cx} {cl:YH}
def Pu(n:Nat)(t:F3):FG:=fun d δ=>match d with
 | .d (.lst ds)=>if ds.length=n then t (ds.map .d) δ else none
 | .lst vs=>if vs.length=n then t vs δ else none
 | _=>none
theorem GK{k:Nat}{t:F3}{n:Nat}{pos:Pos}(hc:X.calm=true)(h:E9 X cl es t)(hn:(assignEach es X.env).length=n:=by rfl)(xZ:(assignEach es X.env).findIdx? (·.1)=none:=by rfl):I0 X cl (.Tuple es k pos) (Pu n t):=
 ⟨(J9 hc h.1 hn xZ).imp fun v σ H Q ⟨ρ,S,δ,d,cz,E,r,ht,q⟩=>by
   have key:∃vs a xs,v= .ref a/\tW X.K ρ.b H a xs/\aE X.K ρ H vs xs/\vs.length=n/\t vs δ=some cz:=by
    unfold Pu at ht;split at ht
    .rename_i ds;split at ht
     .rename_i hl;unfold aW Rep at r;obtain⟨a,xs,e,l,r⟩:=r;exact⟨ds.map .d,a,xs,e,l,aE.of r,by rw[List.length_map];exact hl,ht⟩
     .cases ht
    .rename_i vs;split at ht
     .rename_i hl;unfold aW at r;obtain⟨a,xs,e,l,r⟩:=r;exact⟨vs,a,xs,e,l,r,hl,ht⟩
     .cases ht
    .cases ht
   obtain⟨vs,a,xs,rfl,l,r,hl,ht⟩:=key;exact⟨a,xs,rfl,l.sq,by rw[<-r.length];exact hl,ρ,S,δ,vs,cz,E,r,ht,q⟩⟩
def Vb(f g:FX):FA:=fun δ S=>(bt f (bt g dw) δ S).bind fun vs S1=>match vs with
 | [.d d, .d e]=>(match seqD? d,seqD? e with | some ds,some es=> .ok ((NY ds es).map .d) S1 | _,_=> .no)
 | _=> .no
def O8(S:aP):Prop:=∀o∈S,wH S.length o=true
theorem Flat.ML{S:aP}(h:Flat S):O8 S:=fun o ho=>h o ho _
theorem NC{N:List Str}{vs:List V3}{S:aP}{QV:V3->aP->Prop}(h:W3 (sT N F vs S) fun v S1=>(∀o∈S1.take S.length,wH S.length o=true)/\mh S.length v=true/\∃d,res S1 v=some d/\QV (.d d) (S1.take S.length)):W3 (ye N F vs S) QV:=
 W3.bind (h.mono fun v S1 ⟨hl,hg,d,e,q⟩=>by
  rw[e];exact W3.wh (by rw[List.all_eq_true.mpr hl,hg];rfl) (W3.ok q))
theorem IV{N:List Str}{vs:List V3}{S:aP}{QV:V3->aP->Prop}(hS:O8 S)(h:W3 (sT N F vs S) fun v S1=>mh S.length v=true/\(∃T,S1=S++T)/\∃d,res S1 v=some d/\QV (.d d) S):W3 (ye N F vs S) QV:=
 NC (h.mono fun v S1 ⟨hg,⟨T,e1⟩,d,e,q⟩=>by
  subst e1;rw[List.take_append_of_le_length (Nat.le_refl _),List.take_length];exact⟨hS,hg,d,e,q⟩)
end
end L3
end
section
namespace L2
open PySem PySem.Spec PyProof.Rows
section
variable {X:Cx}
def ois?:List D->Option (List (Option Int))
 | []=>some []
 | .int i ::ds=>(ois? ds).map (some i ::·)
 | .cJ ::ds=>(ois? ds).map (none ::·)
 | _ ::_=>none
def XR:Option Int->V | some i=> .int i | none=> .cJ
def Vn(d e:D):R Bool:=match d,e with
 | .cJ, .lst ds=>(match ois? ds with | some ss=> .ok (ss.any (·.isNone)) | none=> .no)
 | _,_=> .no
def Wf(d e:D):R D:=(Vn d e).bind fun b=> .ok (.bl b)
end
end L2
end
section
namespace L2
open PySem PySem.Spec PyProof.Rows
section
variable {X:Cx}
def Qt(d:D)(ds:List D):R D:=match d,ds with
 | .lst es,[.int k]=>(match ints? es with | some ss=> .ok (.int (ss.count k:Nat)) | none=> .no)
 | _,_=> .no
end
end L2
end
section
namespace L2
open PySem PySem.Spec PyProof.Rows
section
variable {X:Cx}
abbrev U0:D->D->R D:=FW (fun i j=>decide (0<=j/\j < 1000/\ -1000 < i/\i < 1000)) fun i j=>i*2 ^ j.toNat
def T4(d e:D):R D:=match d,e with | .bl a, .bl b=> .ok (.bl (a !=b)) | _,_=> .no
end
end L2
namespace L3
open PySem PySem.Spec PyProof.Rows L2
section
variable {X:Cx} {cl:YH}
def kQ(fo f:FX):FZ:=fun δ S=>(fo δ S).bind fun o S0=>match o with
 | .loc k=>(match cM S0 k with
   | none=> .no
   | some _=>(f δ S0).bind fun v S1=>match v with
     | .d d=>(match cM S1 k with | some ds=>R3.aS (decide (ds.length < sizeLine)) (.ok (.nx δ) (S1.set k (.lst (ds++[d])))) | none=> .no)
     | _=> .no)
 | _=> .no
theorem GI{o e:Expr}{fo f:FX}{apos a_ pos:Pos}(ho:PX X cl o fo)(he:PX X cl e f)
 (hs:starEach [e] X.env=(false,eval e X.env) ::starEach [] X.env:=by rfl) (eh:(apos.endLine==a_.line)=true:=by rfl)
 (jo:((backTo a_ (starEach [e] X.env)).all (fun x=>!x.1) && (backToKw a_ (keywordEach [] X.env)).all (fun x=>x.1.isSome)
   && decide (([e]:List Expr).length+([]:List Keyword).length+(if([]:List Keyword).isEmpty then 0 else 1) < 30))=true:=by rfl)
 (sU:swapsWith (.Call (.Attribute o "append" apos) [e] [] a_) none pos.line X.env=pure false:=by rfl)
 (en:attributeBase o "append" X.env (eval o X.env)=eval o X.env:=by rfl) :
 PZ X cl (.Expr (.Call (.Attribute o "append" apos) [e] [] a_) pos) (kQ fo f):=by
 refine⟨(o5 (wR (X:=X) PySem.F.plainAttrs_list PySem.F.slot_list_append PySem.F.type_list_append mG ho.1 (f_ he.1 i9 hs) en jo eh hs) sU).imp fun D σ H ⟨ρ,S,δ,oo,S',E,hf,q⟩=>?_⟩
 unfold kQ at hf;obtain⟨vo,S0,g1,g2⟩:=R3.af hf;split at g2
 .rename_i k;split at g2
  .cases g2
  .rename_i FF h0;obtain⟨v,S1,h1,h2⟩:=R3.af g2;split at h2
   .rename_i d;split at h2
    .rename_i ds h3;obtain⟨hl,h4⟩:=R3.aN h2;cases h4;refine⟨ρ,S,δ, .loc k,S0,E,g1,fun u Rl H0 p0 w0 r0=>?_⟩
     unfold aW at r0;obtain⟨a,a1,rfl⟩:=r0;obtain⟨RZ,x0,_⟩:=w0.ob k a _ a1 (ef h0);refine⟨.inl ⟨rfl,RZ,lj.of x0⟩,⟨Rl,S0,δ, .d d,S1,E.to p0 w0,h1,fun y bz H1 p1 w1 r1=>?_⟩⟩
     have b1:=p1.ext k a a1;obtain⟨xs,x1,x2⟩:=w1.ob k a _ b1 (ef h3);refine⟨a,xs,y,rfl,rfl,x1,by rw[<-x2.length];exact of_decide_eq_true hl,?_⟩
     unfold aW at r1;obtain⟨w2,p2⟩:=w1.put (o:= .lst (ds++[d])) (u:= .lst (xs++[y])) b1 (w1.fz k a b1 (by rw[ef h3];intro h;cases h)) ⟨xs++[y],rfl,x2.append (az.cons r1 az.nil)⟩
     exact q σ bz _ (p0.trans (p1.trans p2)) (E.to (p0.trans (p1.trans p2)) w2)
    .cases h2
   .cases h2
 .cases g2
theorem Kf{fo f:FX}{δ:DE}{S:aP}{k:Nat}{QO:Ou->aP->Prop}(h:W3 (fo δ S) fun o S0=>o= .loc k/\(∃ds,S0[k]? =some (.lst ds))/\W3 (f δ S0) fun v S1=>∃d ds,v= .d d/\S1[k]? =some (.lst ds)/\ds.length < sizeLine/\QO (.nx δ) (S1.set k (.lst (ds++[d])))):W3 (kQ fo f δ S) QO:=by
 unfold kQ;refine W3.bind (h.mono fun o S0 ⟨e,⟨FF,h0⟩,h⟩=>?_)
 subst e;have e0:cM S0 k=some FF:=by unfold cM;rw [h0]
 simp only[e0];refine W3.bind (h.mono fun v S1 ⟨d,ds,e1,qt,hl,q⟩=>?_)
 subst e1;have e3:cM S1 k=some ds:=by unfold cM;rw [qt]
 simp only[e3];exact W3.wh (decide_eq_true hl) (W3.ok q)
def Uj(f:FX):FA:=fun δ S=>(bt f dw δ S).bind fun vs S1=>match vs with
 | [.d (.lst ds)]=> .ok ((gq ds).map .d) S1
 | _=> .no
end
end L3
end
section
namespace L2
open PySem PySem.Spec PyProof.Rows
section
variable {X:Cx}
end
end L2
end
section
namespace L3
open PySem PySem.Spec PyProof.Rows L2
section
variable {cl:YH}
def Qk(it:FA)(t:FG)(c:FB)(f:FX)(own:List Str)(kp:List Nat):FX:=fun δ S=>(it δ S).bind fun vs S1=>R3.aS (decide (vs.length<=sizeLine)) ((lY t c f (m6 own kp δ) vs S1).bind fun ys S2=>match pG ys with | some ds=> .ok (.loc S2.length) (S2++[.lst ds]) | none=> .no)
end
section
variable {X:Cx} {cl:YH}
end
end L3
end
section
namespace L3
open PySem PySem.Spec PyProof.Rows L2
section
variable {X:Cx} {cl:YH}
def Qc(g:List D->R D)(fs:FA):FX:=fun δ S=>(fs δ S).bind fun vs S1=>match wu S1 vs with
 | some ds=>(R3.of (g ds) S1).bind fun d S=>R3.aS (sV d) (.ok (.d d) S)
 | none=> .no
end
end L3
end
section
namespace L2
open PySem PySem.Spec PyProof.Rows
section
variable {X:Cx}
def Vk(f:FD):FD:=fun δ=>(f δ).bind fun d=>match d with | .int i=> .ok (.int (-i - 1)) | _=> .no
def U_(d:D)(lo hi:Option Int):R D:=match d with
 | .tup ds=>R.aS (decide (¬(HT.et ds.length 0 lo=0/\HT.et ds.length ds.length hi=ds.length))) (.ok (.tup (cutD ds lo hi)))
 | _=> .no
def UT(f:FD)(fl fh:FO):FD:=fun δ=>(f δ).bind fun d=>(fl δ).bind fun lo=>(fh δ).bind fun hi=>U_ d lo hi
end
end L2
namespace L3
open PySem PySem.Spec PyProof.Rows L2
section
variable {X:Cx} {cl:YH}
structure Yp (X:Cx) (cl:YH) (st:List Stmt) (F:FZ):Prop where
 go:ue X st (fun D σ H=>D.ct=D.nx/\sX X.K cl F D σ H)
end
end L3
end
section
namespace L2
open PySem PySem.Spec PyProof.Rows
end L2
namespace L3
open PySem PySem.Spec PyProof.Rows L2
section
variable {X:Cx} {cl:YH}
def Vr(i:Nat)(f:FX):FX:=fun δ S=>match pe δ i with
 | none=> .no
 | some k=>match cM S k with
   | none=> .no
   | some _=>(f δ S).bind fun v S1=>match v with
     | .d (.int j)=>(match cM S1 k with
       | some ds=>(match Bk ds.length j with
         | some p=>(match ds[p]? with | some d=>R3.aS (decide (-(2 ^ 63)<=j/\j < 2 ^ 63)) (.ok (.d d) (S1.set k (.lst (ds.eraseIdx p)))) | none=> .no)
         | none=> .no)
       | none=> .no)
     | _=> .no
end
end L3
end
section
namespace L3
open PySem PySem.Spec PyProof.Rows L2
section
variable {X:Cx} {cl:YH}
def Wx(f:FX)(fl fh:Mh):FX:=fun δ S=>(f δ S).bind fun v S1=>(fl δ S1).bind fun lo S2=>(fh δ S2).bind fun hi S3=>match v with
 | .lst vs=> .ok (.lst (L2.cutD vs lo hi)) S3
 | _=> .no
end
end L3
end
section
namespace L2
open PySem PySem.Spec PyProof.Rows
section
variable {X:Cx}
def P2:List V->Hp->VK->Prop:=fun xs H Q=>∃a ay ns,xs=[V.ref a]/\H a=some (.dK ay)/\ay.map (·.1)=ns.map Sum.inl/\ns.length < 64/\∀p,H p=none->Q (.ref p) (upd H p (.lst ((Eo ns).map V.int)))
end
end L2
end
section
namespace L3
open PySem PySem.Spec PyProof.Rows L2
section
variable {X:Cx} {cl:YH}
def nk(ay:List (Key × D))(k:Key)(d:D):List (Key × D):=if(ay.any fun kv=>decide (kv.1=k))=true then ay.map (fun kv=>if kv.1=k then(kv.1,d) else kv) else ay++[(k,d)]
def n8(S:aP)(k:Nat):Option (List (Key × D)):=match S[k]? with | some (.dct ay)=>some ay | _=>none
theorem rQ{S:aP}{k:Nat}{ay:List (Key × D)}(h:n8 S k=some ay):S[k]? =some (.dct ay):=by
 unfold n8 at h;split at h
 .rename_i e;cases h;exact e
 .cases h
theorem A1{α β:Type}(k:Key):∀{a:List (Key × α)} {b:List (Key × β)},a.map (·.1)=b.map (·.1)->(a.any fun kv=>decide (kv.1=k))=b.any fun kv=>decide (kv.1=k)
 | [],[],_=>rfl
 | [],_ ::_,h=>by simp at h
 | _ ::_,[],h=>by simp at h
 | x ::a,y ::b,h=>by
   rw[List.map_cons,List.map_cons] at h;obtain⟨h1,h2⟩:=List.cons.inj h;rw[List.any_cons,List.any_cons,A1 k h2,h1]
theorem AJ{K:W.Frag}{B:List Addr}{k:Key}{d:D}{v:V}(rv:Rep K B H d v):∀{ay:List (Key × D)} {ys:List (Key × V)},ys.map (·.1)=ay.map (·.1)->az K B H (ay.map (·.2)) (ys.map (·.2))->
 (ys.map fun kv=>if kv.1=k then(kv.1,v) else kv).map (·.1)=(ay.map fun kv=>if kv.1=k then(kv.1,d) else kv).map (·.1)/\az K B H ((ay.map fun kv=>if kv.1=k then(kv.1,d) else kv).map (·.2)) ((ys.map fun kv=>if kv.1=k then(kv.1,v) else kv).map (·.2))
 | [],[],_,_=>⟨rfl,az.nil⟩
 | [],_ ::_,h,_=>by simp at h
 | _ ::_,[],h,_=>by simp at h
 | (k1,d1) ::ay,(k2,v2) ::ys,h,r=>by
   obtain⟨h1,h2⟩:=List.cons.inj h;have h1:k2=k1:=h1;subst h1;obtain⟨x,r',e,q1,q2⟩:=az.bR r;cases e;obtain⟨i1,i2⟩:=AJ rv h2 q2;simp only[List.map_cons];by_cases hk:k2=k
   .rw [if_pos hk,if_pos hk];exact⟨by rw[i1],az.cons rv i2⟩
   .rw [if_neg hk,if_neg hk];exact⟨by rw[i1],az.cons q1 i2⟩
theorem Oo{K:W.Frag}{B:List Addr}{k:Key}{d:D}{v:V}(rv:Rep K B H d v){ay:List (Key × D)}{ys:List (Key × V)}(h:ys.map (·.1)=ay.map (·.1))(r:az K B H (ay.map (·.2)) (ys.map (·.2))) :
 (putK ys k v).map (·.1)=(nk ay k d).map (·.1)/\az K B H ((nk ay k d).map (·.2)) ((putK ys k v).map (·.2)):=by
 unfold putK nk;rw[A1 k h];split
 .exact AJ rv h r
 .rw [List.map_append,List.map_append,List.map_append,List.map_append,h];exact⟨rfl,r.append (az.cons rv az.nil)⟩
def xG:FX:=fun δ S=> .ok (.loc S.length) (S++[.dct []])
theorem vE:PX X cl (.Dict [] [] pos) xG:=⟨DW.imp fun σ H Q ⟨ρ,S,δ,v,S',E,hf,q⟩=>by
 cases hf;intro p hp;obtain⟨w,pr⟩:=E.sw.new (a:=p) (o:= .dct []) (ba (o:= .dK []) hp) hp ⟨[],aX,rfl,az.nil⟩;exact q _ _ _ pr w (by unfold aW;exact⟨p,by show(ρ.r++[p])[_]? =_;rw [<-E.sw.len,List.getElem?_append_right (by omega),Nat.sub_self];rfl,rfl⟩)⟩
def Ug(fo fi fe:FX):FZ:=fun δ S=>(fe δ S).bind fun v S1=>(fo δ S1).bind fun o S2=>(fi δ S2).bind fun j S3=>match v,o,j with
 | .d d, .loc k, .d (.int n)=>(match n8 S3 k with | some ay=>R3.aS (decide (ay.length < sizeLine)) (.ok (.nx δ) (S3.set k (.dct (nk ay (Sum.inl n) d)))) | none=> .no)
 | _,_,_=> .no
def Vh(fa fo:FX):FX:=fun δ S=>(fa δ S).bind fun j S1=>(fo δ S1).bind fun o S2=>match j,o with
 | .d (.int n), .loc k=>(match n8 S2 k with | some ay=> .ok (.d (.bl (ay.any fun kv=>decide (kv.1=Sum.inl n)))) S2 | none=> .no)
 | _,_=> .no
def intK?:List Key->Option (List Int)
 | []=>some []
 | .inl n ::ks=>(intK? ks).map (n ::·)
 | .inr _ ::_=>none
def QW(f:FX):FX:=fun δ S=>(f δ S).bind fun o S1=>match o with
 | .loc k=>(match n8 S1 k with
   | some ay=>(match intK? (ay.map (·.1)) with | some ns=>R3.aS (decide (ns.length < 64)) (.ok (.d (.lst ((Eo ns).map .int))) S1) | none=> .no)
   | none=> .no)
 | _=> .no
theorem yS{δ:DE}{S:aP}{QV:V3->aP->Prop}(h:QV (.loc S.length) (S++[.dct []])):W3 (xG δ S) QV:=W3.ok h
end
end L3
end
section
namespace L2
open PySem PySem.Spec PyProof.Rows
section
variable {X:Cx}
def O2:V->List V->Hp->VK->Prop:=fun x vs H Q=>∃(l:Addr) (xs:List V) (j:Int) (i:Nat) (y:V),x= .ref l/\vs=[.int j,y]/\H l=some (.lst xs)/\j=i/\i<=xs.length/\xs.length < sizeLine/\Q .cJ (upd H l (.lst (xs.take i++y ::xs.drop i)))
end
end L2
namespace L3
open PySem PySem.Spec PyProof.Rows L2
section
variable {X:Cx} {cl:YH}
def U2(i:Nat)(f g:FX):FZ:=fun δ S=>match pe δ i with
 | none=> .no
 | some k=>match cM S k with
   | none=> .no
   | some _=>(f δ S).bind fun v S1=>match v with
     | .d (.int j)=>(g δ S1).bind fun w S2=>(match w with
       | .d d=>(match cM S2 k with
         | some ds=>R3.aS (decide (0<=j/\j.toNat<=ds.length/\ds.length < sizeLine)) (.ok (.nx δ) (S2.set k (.lst (ds.take j.toNat++d ::ds.drop j.toNat))))
         | none=> .no)
       | _=> .no)
     | _=> .no
end
end L3
end
section
namespace L3
open PySem PySem.Spec PyProof.Rows L2
section
variable {X:Cx} {cl:YH}
structure X_ (X:Cx) (pos:Pos) (keys:List (Option Expr)) (values:List Expr) (ks:List Str) (g:ao->R (List D)):Prop where
 h:∃sR,Iy X pos keys values sR/\∀(σ:L2.St) (H:Hp) (Q:List (V × V)->Hp->Prop),(∃Z B δ ds,c6 X.K Z B H σ δ/\g δ= .ok ds/\∀vs H',aM H H'->az X.K B H' ds vs->Q ((ks.zip vs).map fun p=>(V.str p.1,p.2)) H')->nv sR σ H Q
def JM(ks:List Str)(ns:List Int):List (Key × D):=(ks.zip ns).foldl (fun acc p=>nk acc (Sum.inr p.1) (.int p.2)) []
def Qe(ks:List Str)(g:ao->R (List D)):FX:=fun δ S=>(R3.of (g (down δ)) S).bind fun ds S=>match ints? ds with
 | some ns=>R3.aS (decide (ns.length=ks.length/\ks.length<=15)) (.ok (.loc S.length) (S++[.dct (JM ks ns)]))
 | none=> .no
def Qd(ay:List (Key × D))(k:Key):Option D:=(ay.find? fun kv=>decide (kv.1=k)).map (·.2)
def Ti(i:Nat)(f g:FD):FX:=fun δ S=>match pe δ i with
 | none=> .no
 | some k=>match n8 S k with
   | none=> .no
   | some ay=>(R3.of (f (down δ)) S).bind fun kd S=>(R3.of (g (down δ)) S).bind fun d S=>match kd with
     | .str x=> .ok (.d ((Qd ay (Sum.inr x)).getD d)) S
     | _=> .no
end
end L3
end
section
namespace L2
open PySem PySem.Spec PyProof.Rows
section
variable {X:Cx}
def w6:List D->R D
 | [.tup ds]=>(match ints? ds with | some ns=> .ok (.int ns.sum) | none=> .no)
 | ds=>Kw ds
theorem Ll(hc:X.calm=true):cX X (.builtin "sum") w6:=by
 intro pins s σ H B ds d xs us I hb rx rs hg;unfold w6 at hg;split at hg
 .split at hg
  .rename_i es ns e;cases hg;obtain⟨x,rfl,r⟩:=rs.one;obtain⟨a,ys,rfl,l,r⟩:=Rep.tup.mp r;obtain⟨u,rfl,ru⟩:=vals1 rx;cases ru;obtain⟨its,rv,ht,hz⟩:=I.tuple l.sq;rw[fB r e] at rv;obtain⟨ps,rfl,rfl⟩:=hU rv;have hl:s.heap.IsTuple a (intItems ps.toArray):=by
    have ht:s.heap.IsTuple a (ps.map fun p=>Value.int p.1 p.2).toArray:=ht
    simpa [intItems] using ht
   refine PySem.W.ktm_sumG (I.ok.hd hc) hl fun h' tk t' k=>⟨.int _,H,I.kept k,⟨t',rfl⟩,aM.refl H,Rep.int.mpr ?_⟩
   rw[preSum_eq,List.take_of_length_le (by simp)]
  .cases hg
 .exact M0 hc pins s σ H B ds d xs us I hb rx rs hg
end
end L2
end
section
namespace L2
open PySem PySem.Spec PyProof.Rows
section
variable {X:Cx}
def Uw(d e:D):R D:=match d,e with
 | .tup a, .int k=>R.aS (decide (2<=k/\k < 1000/\a≠[]/\a.length*k.toNat<=sizeLine)) (.ok (.tup (List.replicate k.toNat a).flatten))
 | d,e=>k_ d e
end
end L2
end
section
namespace L2
open PySem PySem.Spec PyProof.Rows
def vT(P:Program)(w:World):Cq:=fun outer H s E e s'=>
 ∃(a:Addr) (B:Heap) (cls a0:Value) (H':Hp),e= .ref a/\s'.os=s.os/\AllBare s'.gens/\Un (qG outer) [] H H' s.heap s'.heap/\mM P w H' s'.heap/\Heap.FlyingW B outer a cls a0 s'.heap/\
  (∀b o,s'.heap.get? b=some o->b ∉ qG outer->((∃u,s.heap.get? b=some u)\/∃u,H' b=some u)->B.get? b=some o)/\E cls none H'
section
variable {X:Cx} {pins:YB} {σ:St} {H1 H':Hp} {s1 s':Shared} {B My:Heap} {a:Addr} {cls a0:Value} {E:XK}
theorem CU{H:Hp}{h:Heap}{b:Addr}{o:HO}(k:mM P w H h)(e:H b=some o):∃u,h.get? b=some u:=by
 have hx:=k b o e
 induction o with
 | lst xs=>obtain⟨_,_,_,_,e⟩:=hx;exact⟨_,e⟩
 | tup xs=>obtain⟨_,_,_,o,e,_⟩:=hx;exact⟨_,e⟩
 | dK ay=>obtain⟨_,_,_,_,o,_,_,e,_⟩:=hx;exact⟨_,e⟩
 | dT ay=>obtain⟨_,_,_,_,o,_,_,e,_⟩:=hx;exact⟨_,e⟩
 | set S n=>obtain⟨o,_,_,_,e,_⟩:=hx;exact⟨_,e⟩
 | ins C dx fs=>obtain⟨_,_,_,e,_⟩:=hx;exact⟨_,e⟩
 | own y=>exact hx
 | xd fs=>obtain⟨_,⟨o,_,_,e,_⟩,_⟩:=hx;exact⟨_,e⟩
 | rng lo hi=>obtain⟨_,_,_,e⟩:=hx;exact⟨_,e⟩
 | ky o u _=>exact⟨_,hx.1⟩
 | tbl ps=>exact⟨_,hx⟩
 | met f x=>exact⟨_,hx⟩
 | ext φ=>exact hx.2.1
theorem C9(I:Inv X pins σ H1 s1)(xZ:X.stack=X.env ::X.outer)(hf:X.env.frame=some X.env.locals)(hex:X.ex=[])(os:s'.os=s1.os)(bare:AllBare s'.gens)(un:Un (qG X.stack) [] H1 H' s1.heap s'.heap)(hok:mM X.prog X.w H' s'.heap)
 (HJ:∀b o,s'.heap.get? b=some o->b ∉ qG X.stack->((∃u,s1.heap.get? b=some u)\/∃u,H' b=some u)->B.get? b=some o) (fl:Heap.FlyingW B X.outer a cls a0 My) (up:s'.heap.UpToSlots My) (e:E cls none H') :
 vT X.prog X.w X.outer X.H₀ X.s₀ E (.ref a) {s' with heap:=My}:=by
 have hfr:∀b,b∈qG X.stack↔b=X.env.locals\/b∈qG X.outer:=fun b=>by
  rw[xZ];unfold qG;rw [List.filterMap_cons,hf];exact List.mem_cons
 have hfree:∀b,b∈qG X.stack->H' b=none:=fun b hb=>by
  obtain⟨_,o,ho,_⟩:=I.stack.mem hb;exact un.free b o ho (I.qO b hb) (by simp)
 have old:∀b o,X.s₀.heap.get? b=some o->b≠X.env.locals:=fun b o q=>Nat.ne_of_lt (Nat.lt_of_lt_of_le (Heap.lt_size q) I.ok.above)
 have thr:∀b o,X.s₀.heap.get? b=some o->∃u,s1.heap.get? b=some u:=fun b o q=>I.base.there b o q (by rw[hex];simp)
 have thr2:∀b o,s1.heap.get? b=some o->∃u,s'.heap.get? b=some u:=fun b o q=>un.there b o q (by simp)
 have stB:∀b o,B.get? b=some o->My.get? b=some o:=fl.1;have KA:∀b o,H' b=some o->∀u,s'.heap.get? b=some u->My.get? b=some u:=fun b o q u hu=>stB b u (HJ b u hu (fun hb=>by rw[hfree b hb] at q;cases q) (.inr ⟨o,q⟩))
 refine⟨a,B,cls,a0,H',rfl,os.trans I.os,bare,⟨fun b o q n hb _=>?_,fun b o q n hb _=>?_,fun b o q n _=>?_,fun b o q _=>?_,fun b xs q=>un.tups b xs (I.base.tups b xs q),fun b o u q=>un.frzs b o u (I.base.frzs b o u q),fun b ps q=>?_⟩,fun b o q=>?_,fl,fun b o q hb Pq=>?_,e⟩
 .have h1:=I.base.keep b o q n hb (by rw[hex];simp)
  have n1:=I.base.free b o q n (by rw[hex];simp)
  have qX:b ∉ qG X.stack:=fun z=>((hfr b).mp z).elim (old b o q) hb
  have h2:=un.keep b o h1 n1 qX (by simp)
  exact stB b o (HJ b o h2 qX (.inl ⟨o,h1⟩))
 .obtain⟨sl,h1⟩:=I.base.slot b o q n hb (by rw[hex];simp)
  have n1:=I.base.free b o q n (by rw[hex];simp)
  obtain⟨L6,h2⟩:=un.slot b _ h1 n1 ((hfr b).mpr (.inr hb)) (by simp)
  obtain⟨_,o',yf,hd⟩:=I.ok.pW.mem hb;rw[q] at yf;cases yf;obtain⟨Pl,h3⟩:=up b _ h2 hd;exact⟨Pl,h3⟩
 .obtain⟨u,h1⟩:=thr b o q;exact un.free b u h1 (I.base.free b o q n (by rw[hex];simp)) (by simp)
 .obtain⟨u,h1⟩:=thr b o q;obtain⟨u2,h2⟩:=thr2 b u h1;by_cases hb:b∈qG X.outer
  .obtain⟨_,o',yf,hd⟩:=I.stack.mem ((hfr b).mpr (.inr hb));obtain⟨sl,h3⟩:=un.slot b o' yf (I.qO b ((hfr b).mpr (.inr hb))) ((hfr b).mpr (.inr hb)) (by simp)
   obtain⟨Pl,h4⟩:=up b _ h3 hd;exact⟨_,h4⟩
  .exact⟨u2,stB b u2 (HJ b u2 h2 (fun z=>((hfr b).mp z).elim (old b o q) hb) (.inl ⟨u,h1⟩))⟩
 .obtain⟨m1,e1⟩:=I.base.tbls b ps q;obtain⟨m2,e2⟩:=un.tbls b _ e1;exact⟨m1++m2,by rw[e2,Array.append_assoc]⟩
 .refine(hok b o q).yj (fun c u hc hu=>?_) (fun c z=>z) (fun c xs z=>z)
  rcases hc with rfl | hc
  .exact KA c o q u hu
  .exact KA c _ hc u hu
 .have qX:b≠X.env.locals:=fun z=>by
   subst z;rcases Pq with⟨u,hu⟩ | ⟨u,hu⟩
   .exact old _ u hu rfl
   .rw [hfree _ ((hfr _).mpr (.inl rfl))] at hu;cases hu
  have hb2:b ∉ qG X.stack:=fun z=>((hfr b).mp z).elim qX hb
  have:(∃u,s1.heap.get? b=some u)\/∃u,H' b=some u:=Pq.imp (fun⟨u,hu⟩=>thr b u hu) id
  obtain⟨u,hu⟩:∃u,s'.heap.get? b=some u:=this.elim (fun⟨u,hu⟩=>thr2 b u hu) fun⟨u,hu⟩=>CU hok hu
  have h3:=HJ b u hu hb2 this;have h4:=stB b u h3;rw[q] at h4;cases h4;exact h3
end
section
variable {P:Program} {w:World} {K:W.Frag} {mg:YG} {base:Heap} {N:List Str} {qual:Str} {scope:Scope} {f:Addr} {cd:Value} {A:Around} {outer:List Env} {s:Shared} {H:Hp} {E:XK}
theorem NS:Passes (vT P w) (km (vT P w) P w K mg base N qual scope f cd A outer s H E) E:=by
 intro pins σ H1 s1 e s' I hc;obtain⟨a,B,cls,a0,H',rfl,os,bare,un,hok,fl,HJ,hE⟩:=hc;exact wpAny_leaves_onW (env:=envOfC qual scope s.heap.objs.size f cd) (outer:=outer) (L:=s.heap.objs.size) I.ok.frames rfl fl fun h' f1 up=>C9 I rfl rfl rfl os bare un hok HJ f1 up hE
theorem K_{pins:YB}{s1:Shared}{a:Addr}{cls:Value}{vs:List Value}(I:Inv (km (vT P w) P w K mg base N qual scope f cd A outer s H E) pins σ H1 s1)(hx:Heap.MadeExcOf s1.heap h' a cls vs)(hE:E cls none H1) :
 (km (vT P w) P w K mg base N qual scope f cd A outer s H E).xe (.ref a) {s1 with heap:=h'}:=by
 have hin:∀env∈(envOfC qual scope s.heap.objs.size f cd ::outer),∀b,env.frame=some b->b∈qG (envOfC qual scope s.heap.objs.size f cd ::outer):=fun env he b hb=>List.mem_filterMap.mpr ⟨env,he,hb⟩
 have ff:s1.heap.FunFrames base (envOfC qual scope s.heap.objs.size f cd ::outer):=I.stack;refine wpAny_leaves_madeW (env:=envOfC qual scope s.heap.objs.size f cd) (outer:=outer) (L:=s.heap.objs.size) (base:=PySem.W.hideAll s1.heap (qG (envOfC qual scope s.heap.objs.size f cd ::outer))) (h:=s1.heap) (s:={s1 with heap:=h'}) I.ok.frames rfl (fun b o q=>PySem.W.of_hideAll _ q) (PySem.W.funFrames_hide ff hin) hx fun My t x1 x2 x3 x4=>?_
 exact C9 (s':={s1 with heap:=h'}) I rfl rfl rfl rfl I.bare (Un.kept hx.keeps) (I.hok.kept hx.keeps) (fun b o q hb Pq=>by
  obtain⟨u,hu⟩:∃u,s1.heap.get? b=some u:=Pq.elim id fun⟨u,hu⟩=>CU I.hok hu
  have h2:=hx.keeps b u hu;have q:h'.get? b=some o:=q;rw[q] at h2;cases h2;exact PySem.W.hideAll_get _ hu hb) x1 x4 hE
end
end L2
end
section
namespace L2
open PySem PySem.Spec PyProof.Rows
def Ea:List Value:=[.type "ValueError", .type "Exception", .type "BaseException", .type "object"]
structure XC (K:W.Frag) (C:Addr):Prop where
 ex:PySem.W.excIn K C Ea "ValueError.__new__"=true
 ga:PySem.W.findIn K (.ref C) "__getattribute__"=some (some (.builtin "BaseException.__getattribute__"))
 gt:PySem.W.findIn K (.ref C) "__getattr__"=some none
 co:PySem.W.findIn K (.ref C) "__class__"=some (some (.builtin "object.__class__"))
 gs:PySem.W.specialIn K (.builtin "object.__class__") "__get__"=some (some (.builtin "getset_descriptor.__get__"))
 tk:PySem.W.takesIn K (.builtin "object.__class__")=some true
 mo:PySem.W.mroIn K C (.type "object")=some true
 mb:PySem.W.mroIn K C (.type "BaseException")=some true
 ic:(PySem.W.clsIn K C).isSome=true
def VS(x C:Addr)(h:Heap):Prop:=∃o,h.get? x=some o/\o.cls= .ref C
section
variable {prog:Program} {w:World} {A:Around} {E:YC} {s:Shared} {K:W.Frag} {x C:Addr}
theorem GZ(X:K.In h)(q:PySem.W.excIn K C Ea "ValueError.__new__"=true):∃bm N nm qn bs hdct sn sub ab col dd k0 k1 k2 k3 k5 mN,
 h.get? C=some (excClassObj nm qn C N bs bm hdct sn sub ab col dd k0 k1 k2 k3 k5 "ValueError.__new__")/\h.Ns N mN/\mN "__init__"=none/\OwnTail h Ea bm:=by
 unfold PySem.W.excIn at q;split at q
 .rename_i dd cd sl ho;split at q
  .rename_i C' bm k0 k1 k2 k3 n k5 hm hs;simp only[Bool.and_eq_true,beq_iff_eq,Bool.not_eq_true'] at q;obtain⟨⟨⟨⟨⟨q1,q2⟩,q3⟩,q4⟩,q5⟩,q6⟩:=q;subst q1 q2;obtain⟨nm,bs,mro,ns,qn,hd,sn,sub,ab,col,del⟩:=cd;obtain⟨l⟩:=sl;dsimp only at hm hs q3 q5 q6;subst hm hs q3;exact⟨bm,ns,nm,qn,bs,hd,sn,sub,ab,col,dd,k0,k1,k2,k3,k5,_,X _ _ ho,Heap.Ns.of_isNs (PySem.W.isNs_of_in X q5),PySem.W.nsMap_none_of_in X q5 q6,PySem.W.tail_of_in X q4⟩
  .cases q
 .cases q
end
end L2
end
section
namespace L3
open PySem PySem.Spec PyProof.Rows L2
theorem R3.fg{α β:Type}{r:R3 α}{f:α->aP->R3 β}{c:Nat}{S':aP}(h:r.bind f= .ex c S'):r= .ex c S'\/∃a S,r= .ok a S/\f a S= .ex c S':=by
 cases r with
 | ok a S=>exact .inr ⟨a,S,rfl,h⟩
 | ex c' S=>cases h;exact .inl rfl
 | no=>cases h
def F7{α:Type}(r:R3 α):R3 α:=match r with | .ex _ _=> .no | .ok a S=> .ok a S | .no=> .no
theorem jm{α:Type}{r:R3 α}{a:α}{S:aP}(h:F7 r= .ok a S):r= .ok a S:=by
 cases r with
 | ok b S=>exact h
 | ex c S=>cases h
 | no=>cases h
theorem nA{α:Type}{r:R3 α}{c:Nat}{S:aP}(h:F7 r= .ex c S):False:=by
 cases r <;> cases h
def z9(K:W.Frag)(cl:YH)(E:XK)(ρ:P3)(H:Hp)(S':aP)(c:Nat):Prop:=∀bF H',Pre ρ H bF H'->SW K cl bF H' S'->E (.ref (cl c)) none H'
theorem z9.pre{K:W.Frag}{cl:YH}{E:XK}{S':aP}{c:Nat}(q:z9 K cl E ρ H S' c)(p:Pre ρ H bz H1):z9 K cl E bz H1 S' c:=fun bF H' p' w=>q bF H' (p.trans p') w
def Wb(K:W.Frag)(cl:YH)(E:XK)(f:FX):TE:=fun σ H Q=>∃ρ S δ,ee K cl ρ H S σ δ/\((∃v S',f δ S= .ok v S'/\∀u bF H',Pre ρ H bF H'->SW K cl bF H' S'->aW K bF H' v u->Q u H')\/∃c S',f δ S= .ex c S'/\z9 K cl E ρ H S' c)
def QU(K:W.Frag)(cl:YH)(E:XK)(f:FA):TA:=fun σ H Q=>∃ρ S δ,ee K cl ρ H S σ δ/\((∃vs S',f δ S= .ok vs S'/\∀us bF H',Pre ρ H bF H'->SW K cl bF H' S'->aE K bF H' vs us->Q us H')\/∃c S',f δ S= .ex c S'/\z9 K cl E ρ H S' c)
def Pc(K:W.Frag)(cl:YH)(E:XK)(F:FZ):TS:=fun D σ H=>∃ρ S δ,ee K cl ρ H S σ δ/\((∃o S',F δ S= .ok o S'/\xS K cl ρ H D S' o)\/∃c S',F δ S= .ex c S'/\z9 K cl E ρ H S' c)
structure IW (X:Cx) (cl:YH) (E:XK) (e:Expr) (f:FX):Prop where
 go:PE X e (Wb X.K cl E f)
structure yP (X:Cx) (cl:YH) (E:XK) (es:List Expr) (f:FA):Prop where
 go:PA X es (QU X.K cl E f)
structure IL (X:Cx) (cl:YH) (E:XK) (st:Stmt) (F:FZ):Prop where
 go:PS X st (Pc X.K cl E F)
structure vg (X:Cx) (cl:YH) (E:XK) (st:List Stmt) (F:FZ):Prop where
 go:ue X st (Pc X.K cl E F)
section
variable {X:Cx} {cl:YH} {E:XK}
def tf(f:FX):FX:=fun δ S=>F7 (f δ S)
def eQ(f:FA):FA:=fun δ S=>F7 (f δ S)
def Cr(f:FZ):FZ:=fun δ S=>F7 (f δ S)
theorem yN(h:PX X cl e f):IW X cl E e (tf f):=⟨h.1.imp fun σ H Q ⟨ρ,S,δ,En,z⟩=>by
 rcases z with⟨v,S',hf,q⟩ | ⟨c,S',hf,q⟩
 .exact⟨ρ,S,δ,v,S',En,jm hf,q⟩
 .exact(nA hf).elim⟩
theorem de(h:HE X cl es f):yP X cl E es (eQ f):=⟨h.1.imp fun σ H Q ⟨ρ,S,δ,En,z⟩=>by
 rcases z with⟨v,S',hf,q⟩ | ⟨c,S',hf,q⟩
 .exact⟨ρ,S,δ,v,S',En,jm hf,q⟩
 .exact(nA hf).elim⟩
theorem yT{st:Stmt}(h:PZ X cl st F):IL X cl E st (Cr F):=⟨h.1.imp fun D σ H ⟨ρ,S,δ,En,z⟩=>by
 rcases z with⟨v,S',hf,q⟩ | ⟨c,S',hf,q⟩
 .exact⟨ρ,S,δ,v,S',En,jm hf,q⟩
 .exact(nA hf).elim⟩
theorem oZ{st:List Stmt}(h:F5 X cl st F):vg X cl E st (Cr F):=⟨h.1.imp fun D σ H ⟨ρ,S,δ,En,z⟩=>by
 rcases z with⟨v,S',hf,q⟩ | ⟨c,S',hf,q⟩
 .exact⟨ρ,S,δ,v,S',En,jm hf,q⟩
 .exact(nA hf).elim⟩
def xx(K:W.Frag)(cl:YH)(n:Nat)(g:List V3->aP->R3 V3):Sp:=fun vs H Q E=>vs.length=n/\∃ρ S xs,SW K cl ρ H S/\aE K ρ H xs vs/\
 ((∃v S',g xs S= .ok v S'/\∀u bF H',Pre ρ H bF H'->SW K cl bF H' S'->aW K bF H' v u->Q u H')\/∃c S',g xs S= .ex c S'/\z9 K cl E ρ H S' c)
def eB(P:Program)(w:World)(K:W.Frag)(mg:YG)(base:Heap)(cl:YH)(k:Nat)(x:Str)(n:Nat)(g:List V3->aP->R3 V3):Prop:=
 ∃(f:Addr) (fd:FuncData) (ps:List Str),ig P w K mg base (vT P w) k f fd ps (xx K cl n g)/\mg x=some (.ref f)/\PySem.W.keepIn K (.ref f)=true/\Binds K fd ps []
theorem pd{g:List V3->aP->R3 V3}{k j n:Nat}{x:Str}{p pos:Pos}{e:Expr}{es:List Expr}{fs:FA}(hp:Passes (vT X.prog X.w) X E)(C:eB X.prog X.w X.K X.mg X.base cl k x n g)(hr:dA j X.A)(Cj:k<=j)(hg:Gl X x)(ha:yP X cl E (e ::es) fs)
 (hn:∀δ S ds S',fs δ S= .ok ds S'->ds.length=n) (jz:(x==("__debug__":Str))=false:=by decide) (he:starEach (e ::es) X.env=(false,eval e X.env) ::starEach es X.env:=by rfl) (ko:(backTo pos (starEach es X.env)).any (·.1)=false:=by rfl) :
 IW X cl E (.Call (.Name x p) (e ::es) [] pos) (oa g fs):=by
 obtain⟨f,fd,ps,F,hm,hk,hb⟩:=C;refine⟨(qN F (hr.mono Cj) hg hm hk hb .nil hp ha.1 jz he ko).imp fun σ H Q ⟨ρ,S,δ,En,z⟩=>⟨ρ,S,δ,En,?_⟩⟩
 have go:∀vs S1,fs δ S= .ok vs S1->((∃v S',g vs S1= .ok v S'/\∀u bF H',Pre ρ H bF H'->SW X.K cl bF H' S'->aW X.K bF H' v u->Q u H')\/∃c S',g vs S1= .ex c S'/\z9 X.K cl E ρ H S' c)->
  (∃vs S',fs δ S= .ok vs S'/\∀us bF H',Pre ρ H bF H'->SW X.K cl bF H' S'->aE X.K bF H' vs us->(fun vs H1=>xx X.K cl n g (vs++[]) H1 Q E) us H')\/∃c S',fs δ S= .ex c S'/\z9 X.K cl E ρ H S' c:=fun vs S1 h1 h2=>by
  refine .inl ⟨vs,S1,h1,fun us bz H1 p1 w1 r1=>?_⟩
  show xx X.K cl n g (us++[]) H1 Q E;rw[List.append_nil];refine⟨by rw[<-r1.length];exact hn δ S vs S1 h1,bz,S1,vs,w1,r1,?_⟩
  rcases h2 with⟨v,S',h3,q⟩ | ⟨c,S',h3,q⟩
  .exact .inl ⟨v,S',h3,fun u mP H2 p2 w2 r2=>q u mP H2 (p1.trans p2) w2 r2⟩
  .exact .inr ⟨c,S',h3,q.pre p1⟩
 rcases z with⟨v,S',hf,q⟩ | ⟨c,S',hf,q⟩
 .obtain⟨vs,S1,h1,h2⟩:=R3.af hf;exact go vs S1 h1 (.inl ⟨v,S',h2,q⟩)
 .rcases R3.fg hf with h1 | ⟨vs,S1,h1,h2⟩
  .exact .inr ⟨c,S',h1,q⟩
  .exact go vs S1 h1 (.inr ⟨c,S',h2,q⟩)
theorem oG{pos:Pos}(he:IW X cl E e f)(sU:swapsWith e none pos.line X.env=pure false:=by rfl):IL X cl E (.Expr e pos) (tZ f):=⟨(o5 he.1 sU).imp fun D σ H ⟨ρ,S,δ,En,z⟩=>by
 refine⟨ρ,S,δ,En,?_⟩;rcases z with⟨o,S',hf,q⟩ | ⟨c,S',hf,q⟩
 .obtain⟨v,S1,h1,h2⟩:=R3.af hf;cases h2;exact .inl ⟨v,_,h1,fun u bz H1 p1 w1 r1=>q _ bz H1 p1 (En.to p1 w1)⟩
 .rcases R3.fg hf with h1 | ⟨v,S1,h1,h2⟩
  .exact .inr ⟨c,S',h1,q⟩
  .cases h2⟩
def wm(f:FB):FB:=fun δ S=>F7 (f δ S)
theorem fN(hc:BR X cl c fc)(ha:vg X cl E a F)(hb:vg X cl E b G):IL X cl E (.If c a b pos) (tJ (wm fc) F G):=⟨(Ff hc.1 ha.1 hb.1).imp fun D σ H ⟨ρ,S,δ,En,z⟩=>by
 have fin:∀k S1,fc δ S= .ok k S1->((∃o S',(if k then F δ S1 else G δ S1)= .ok o S'/\xS X.K cl ρ H D S' o)\/∃c S',(if k then F δ S1 else G δ S1)= .ex c S'/\z9 X.K cl E ρ H S' c)->MU (Mi X.K cl fc) (Pc X.K cl E F) (Pc X.K cl E G) D σ H:=fun k S1 h1 h2=>by
  refine⟨ρ,S,δ,k,S1,En,h1,fun bz H1 p1 w1=>?_⟩
  cases k with
  | true=>
    refine BS ⟨bz,S1,δ,En.to p1 w1,?_⟩;rcases h2 with⟨o,S',h3,q⟩ | ⟨c,S',h3,q⟩
    .rw [if_pos rfl] at h3;exact .inl ⟨o,S',h3,q.pre p1⟩
    .rw [if_pos rfl] at h3;exact .inr ⟨c,S',h3,q.pre p1⟩
  | false=>
    refine B7 ⟨bz,S1,δ,En.to p1 w1,?_⟩;rcases h2 with⟨o,S',h3,q⟩ | ⟨c,S',h3,q⟩
    .rw [if_neg (by decide)] at h3;exact .inl ⟨o,S',h3,q.pre p1⟩
    .rw [if_neg (by decide)] at h3;exact .inr ⟨c,S',h3,q.pre p1⟩
 rcases z with⟨o,S',hf,q⟩ | ⟨c,S',hf,q⟩
 .obtain⟨k,S1,h1,h2⟩:=R3.af hf;exact fin k S1 (jm h1) (.inl ⟨o,S',h2,q⟩)
 .rcases R3.fg hf with h1 | ⟨k,S1,h1,h2⟩
  .exact(nA h1).elim
  .exact fin k S1 (jm h1) (.inr ⟨c,S',h2,q⟩)⟩
theorem d7:vg X cl E [] mU:=⟨vB.imp fun D σ H ⟨ρ,S,δ,En,z⟩=>by
 rcases z with⟨o,S',hf,q⟩ | ⟨c,S',hf,q⟩
 .cases hf;exact q σ ρ H (Pre.refl ρ H) En
 .cases hf⟩
theorem bV{st:Stmt}(h:IL X cl E st F):vg X cl E [st] F:=⟨vh h.1⟩
theorem bS{st:Stmt}{rest:List Stmt}(h1:IL X cl E st F)(h2:vg X cl E rest G):vg X cl E (st ::rest) (cO F G):=⟨(rT h1.1 h2.1).imp fun D σ H ⟨ρ,S,δ,En,z⟩=>by
 refine⟨ρ,S,δ,En,?_⟩;rcases z with⟨o,S',hf,q⟩ | ⟨c,S',hf,q⟩
 .obtain⟨o1,S1,h1,h2⟩:=R3.af hf;refine .inl ⟨o1,S1,h1,?_⟩;cases o1 with
  | nx δ1=>exact fun Cy bz H1 p1 E1=>⟨bz,S1,δ1,E1, .inl ⟨o,S',h2,q.pre p1⟩⟩
  | rt d=>cases h2;exact q
 .rcases R3.fg hf with h1 | ⟨o1,S1,h1,h2⟩
  .exact .inr ⟨c,S',h1,q⟩
  .refine .inl ⟨o1,S1,h1,?_⟩;cases o1 with
   | nx δ1=>exact fun Cy bz H1 p1 E1=>⟨bz,S1,δ1,E1, .inr ⟨c,S',h2,q.pre p1⟩⟩
   | rt d=>cases h2⟩
def zj(X:Cx)(E:XK):Prop:=∀(pins:YB) (σ:L2.St) (H:Hp) (s:Shared) (h':Heap) (a:Addr) (cls:Value) (vs:List Value),Inv X pins σ H s->Heap.MadeExcOf s.heap h' a cls vs->E cls none H->X.xe (.ref a) {s with heap:=h'}
def fw(c:Nat)(fs:FA):FZ:=fun δ S=>(fs δ S).bind fun vs S=>R3.aS (decide (vs.length<=sizeLine)) (.ex c S)
theorem Dn{C:Addr}{t:TA}{x:Str}{e:Expr}{es:List Expr}{np a_ pos:Pos}(hf:zj X E)(hc:X.calm=true)(T:XC X.K C)(hg:Gl X x)(hm:X.mg x=some (.ref C))(ha:PA X (e ::es) t)(jz:(x==("__debug__":Str))=false:=by decide)
 (he:starEach (e ::es) X.env=(false,eval e X.env) ::starEach es X.env:=by rfl) (ko:(backTo a_ (starEach es X.env)).any (·.1)=false:=by rfl) :
 PS X (.Raise (some (.Call (.Name x np) (e ::es) [] a_)) none pos) (fun D σ H=>t σ H fun vs H1=>vs.length<=sizeLine/\E (.ref C) none H1):=by
 intro pins s σ H D I h;obtain⟨bm,N,nm,qn,bs,hdct,sn,sub,ab,col,dd,k0,k1,k2,k3,k5,mN,hC,hN,hni,OT⟩:=GZ (C:=C) I.mod.kin T.ex;refine wpAny_Raise_call_subT (C:=C) (nm:=nm) (q:=qn) (N:=N) (bs:=bs) (bm:=bm) (hdct:=hdct) (sn:=sn) (sub:=sub) (ab:=ab) (col:=col) (dd:=dd) (k0:=k0) (k1:=k1) (k2:=k2) (k3:=k3) (k5:=k5) (bmB:=Ea) PySem.F.excBase_ValueError (mN:=mN) (OT.hasType PySem.F.excBase_ValueError.hasBase) (I.ok.hd hc)
  (by rw[he];show(false || (backTo a_ (starEach es X.env)).any (·.1))=false;rw [ko];rfl) hni (qL I hg hm ⟨rfl,?_⟩ jz)
 have hA:=ha a_ pins s σ H _ I h;rw[he] at hA ⊢;refine Calls.evalArgs_plain (wpAny_mono hA (fun us s2 ⟨vs,H1,I1,r,hl,hE⟩=>⟨rfl,by rw[<-r.length];exact hl,I1.bk _ _ hC,hN.keeps I1.bk,OT.keeps I1.bk,fun h' a hx=>hf pins σ H1 s2 h' a _ _ I1 hx hE⟩) fun _ _ y=>y)
theorem cU{c:Nat}{fs:FA}{x:Str}{e:Expr}{es:List Expr}{np a_ pos:Pos}(hf:zj X E)(hc:X.calm=true)(T:XC X.K (cl c))(hg:Gl X x)(hm:X.mg x=some (.ref (cl c)))(ha:yP X cl E (e ::es) fs)(jz:(x==("__debug__":Str))=false:=by decide)
 (he:starEach (e ::es) X.env=(false,eval e X.env) ::starEach es X.env:=by rfl) (ko:(backTo a_ (starEach es X.env)).any (·.1)=false:=by rfl) :
 IL X cl E (.Raise (some (.Call (.Name x np) (e ::es) [] a_)) none pos) (fw c fs):=⟨(Dn hf hc T hg hm ha.1 jz he ko).imp fun D σ H ⟨ρ,S,δ,En,z⟩=>by
 refine⟨ρ,S,δ,En,?_⟩;rcases z with⟨o,S',hf,q⟩ | ⟨c',S',hf,q⟩
 .obtain⟨vs,S1,h1,h2⟩:=R3.af hf;unfold R3.aS at h2;split at h2 <;> cases h2
 .rcases R3.fg hf with h1 | ⟨vs,S1,h1,h2⟩
  .exact .inr ⟨c',S',h1,q⟩
  .unfold R3.aS at h2;split at h2
   .rename_i hl;cases h2;exact .inl ⟨vs,_,h1,fun us bz H1 p1 w1 r1=>⟨by rw[<-r1.length];exact of_decide_eq_true hl,q bz H1 p1 w1⟩⟩
   .cases h2⟩
end
theorem ka{P:Program}{w:World}{K:W.Frag}{mg:YG}{base:Heap}{cl:YH}{x qual:Str}{st:Stmt}{f:Addr}{fd:FuncData}{N ps:List Str}{k:Nat}{F:FZ}{b:List Stmt}{sc:Scope}(hb:aO st=b)(hs:aF st=sc)(Fn:yt K x qual st f fd)(S:bb N ps sc)
 (jr:∀(dt:Value) (A:Around) (outer:List Env) (s:Shared) (H:Hp) (E:XK),dA k (A.deeper (envOfC qual sc s.heap.objs.size f dt))->
   vg (km (vT P w) P w K mg base N qual sc f dt A outer s H E) cl E b F):ig P w K mg base (vT P w) (k+1) f fd ps (xx K cl ps.length (sT N F)):=by
 subst hb hs;obtain⟨oc,od,kV,doc,pm,an,dt,ct,FJ,rfl,lk,qI⟩:=Fn.ex;refine IX lk qI S (fun vs H Q E h=>h.1) fun A outer s H vs Q E hr Jy=>⟨_,(jr dt A outer s H E hr).1,?_⟩
 obtain⟨_,ρ,S,ds,w,r,z⟩:=Jy;refine⟨ρ,S,dE N ds,wt w r,?_⟩;rcases z with⟨v,S',hg,q⟩ | ⟨c,S',hg,q⟩
 .obtain⟨o,S1,h1,h2⟩:=R3.af hg;refine .inl ⟨o,S1,h1,?_⟩;cases o with
  | nx cz=>
    cases h2;exact fun cA bF H' p' E'=>q _ bF H' p' E'.sw (by unfold aW Rep;rfl)
  | rt d'=>
    cases h2;exact fun u bF H' p' w' r'=>q u bF H' p' w' r'
 .rcases R3.fg hg with h1 | ⟨o,S1,h1,h2⟩
  .exact .inr ⟨c,S',h1,q⟩
  .cases o with
   | nx cz=>cases h2
   | rt d'=>cases h2
theorem i4{P:Program}{w:World}{K:W.Frag}{mg:YG}{base:Heap}{N:List Str}{qual:Str}{scope:Scope}{f:Addr}{cd:Value}{A:Around}{outer:List Env}{s:Shared}{H:Hp}{E:XK} :
 Passes (vT P w) (km (vT P w) P w K mg base N qual scope f cd A outer s H E) E:=NS
theorem cS{P:Program}{w:World}{K:W.Frag}{mg:YG}{base:Heap}{N:List Str}{qual:Str}{scope:Scope}{f:Addr}{cd:Value}{A:Around}{outer:List Env}{s:Shared}{H:Hp}{E:XK} :
 zj (km (vT P w) P w K mg base N qual scope f cd A outer s H E) E:=fun pins σ H1 s1 h' a cls vs I hx hE=>K_ I hx hE
end L3
end
section
namespace L2
open PySem PySem.Spec PyProof.Rows
abbrev Cx.alt(X:Cx)(A:Around)(calm:Bool)(pn:YB)(xe:YC):Cx:={X with A:=A,calm:=calm,pn:=pn,xe:=xe}
section
variable {X:Cx} {pins FN:YB} {σ:St} {H H1 H':Hp} {s s1 s':Shared}
end
end L2
namespace L3
open PySem PySem.Spec PyProof.Rows L2
section
variable {X:Cx} {cl:YH}
def Vf(F:FZ)(ok:Nat->Bool)(i:Nat)(G:FZ):FZ:=fun δ S=>match F δ S with
 | .ok o S'=> .ok o S'
 | .ex c S'=>R3.aS (ok c) ((F7 (G ((List.replicate δ.length none).set i (some (.loc S'.length))) (S'++[.exc c]))).bind fun o S2=>match o with | .nx cz=> .ok (.nx (cz.set i none)) S2 | .rt v=> .ok (.rt v) S2)
 | .no=> .no
end
end L3
end
section
namespace L2
open PySem PySem.Spec PyProof.Rows
def yu:V->Bool | .ref _=>true | .ty _=>true | _=>false
def KH:V->Value | .ref a=> .ref a | .ty n=> .type n | _=> .none
section
variable {X:Cx}
def Wm(K:W.Frag):List V->Hp->VK->Prop:=fun xs H Q=>∃a b C cv k,xs=[V.ref a,cv]/\H a=some (.ext (L3.isExc C b))/\XC K C/\yu cv=true/\PySem.W.kitOne K (.ref C) (KH cv)=some k/\Q (.bl k) H
def VB(K:W.Frag):List V->Hp->VK->Prop:=fun xs H Q=>∃cv k,xs=[V.cJ,cv]/\yu cv=true/\PySem.W.kitOne K (.type "NoneType") (KH cv)=some k/\Q (.bl k) H
def VD(K:W.Frag):List V->Hp->VK->Prop:=fun xs H Q=>∃a b C tp Ox k,xs=[V.ref a,V.ref tp]/\H a=some (.ext (L3.isExc C b))/\XC K C/\H tp=some (.tup Ox)/\Ox.all yu=true/\PySem.W.kitAny K (.ref C) (Ox.map KH)=some k/\Q (.bl k) H
end
end L2
namespace L3
open PySem PySem.Spec PyProof.Rows L2
section
variable {X:Cx} {cl:YH} {E:XK}
def V0(f:FX)(tb:Nat->Option Bool):FX:=fun δ S=>(f δ S).bind fun v S1=>match v with
 | .loc k=>(match S1[k]? with | some (.exc c)=>(match tb c with | some b=> .ok (.d (.bl b)) S1 | none=> .no) | _=> .no)
 | .d .cJ=> .ok (.d (.bl false)) S1
 | _=> .no
def V_(f:FX)(tb:Nat->Option Bool):FX:=fun δ S=>(f δ S).bind fun v S1=>match v with
 | .loc k=>(match S1[k]? with | some (.exc c)=>(match tb c with | some b=> .ok (.d (.bl b)) S1 | none=> .no) | _=> .no)
 | _=> .no
def XN(Ox:List V):TA:=fun _ H Q=>Q Ox H
theorem qW{fs:FA}{n:Nat}(h:∀δ S ds S',fs δ S= .ok ds S'->ds.length=n):∀δ S ds S',eQ fs δ S= .ok ds S'->ds.length=n:=fun δ S ds S' e=>h δ S ds S' (jm e)
end
end L3
end
section
namespace L3
open PySem PySem.Spec PyProof.Rows L2
section
variable {α β:Type} {S S':aP} {δ:DE} {c:Nat}
theorem DK{r:R3 α}{Q:α->aP->Prop}(h:W3 r Q):W3 (F7 r) Q:=by
 obtain⟨a,S,e,q⟩:=h;rw[e];exact⟨a,S,rfl,q⟩
theorem Dz{f:FX}{Q:V3->aP->Prop}(h:W3 (f δ S) Q):W3 (tf f δ S) Q:=DK h
theorem pS{f:FA}{Q:List V3->aP->Prop}(h:W3 (f δ S) Q):W3 (eQ f δ S) Q:=DK h
theorem MP{f:FZ}{Q:Ou->aP->Prop}(h:W3 (f δ S) Q):W3 (Cr f δ S) Q:=DK h
theorem MZ{f:FB}{Q:Bool->aP->Prop}(h:W3 (f δ S) Q):W3 (wm f δ S) Q:=DK h
end
end L3
end
section
namespace L3
open PySem PySem.Spec PyProof.Rows L2
def Yc(K:W.Frag)(mg:YG)(x:Str):Prop:=∃f,PySem.W.nsIn K mainGlobals x=some (some (.ref f))/\mg x=some (.ref f)
section
variable {X:Cx} {cl:YH} {E:XK}
def XT(x:Str):FX:=fun _ S=> .ok (.fn x) S
theorem zt:Passes (vT X.prog X.w) X E0:=fun _ _ _ _ _ _ _ ⟨_,_,_,_,_,_,_,_,_,_,_,_,z⟩=>z.elim
theorem zC(h:IW X cl E e f):PX X cl e f:=⟨h.1.imp fun σ H Q ⟨ρ,S,δ,v,S',En,hf,q⟩=>⟨ρ,S,δ,En, .inl ⟨v,S',hf,q⟩⟩⟩
abbrev GT:=List (Str × (List V3->aP->R3 V3))
def Ft(P:Program)(w:World)(K:W.Frag)(mg:YG)(base:Heap)(cl:YH)(j n:Nat)(l:GT):Prop:=∀x g,l.lookup x=some g->∃k,k<=j/\eB P w K mg base cl k x n g
def Qq(i:Nat)(l:GT)(fs:FA):FX:=fun δ S=>match δ[i]? with
 | some (some (.fn x))=>(match l.lookup x with | some g=>(fs δ S).bind g | none=> .no)
 | _=> .no
end
end L3
end
section
namespace HT
open PySem PySem.Spec PyProof.Rows
section
variable {prog:Program} {w:World} {A:Around} {E:YC} {s:Shared}
end
end HT
namespace L2
open PySem PySem.Spec PyProof.Rows
def rn:D->Option Key
 | .int n=>some (Sum.inl n)
 | .str x=>some (Sum.inr x)
 | _=>none
theorem xU{K:W.Frag}{B:List Addr}{d:D}{k:Key}{v:V}(h:rn d=some k)(r:Rep K B H d v):v=kV k:=by
 cases d with
 | int n=>cases h;exact Rep.int.mp r
 | str x=>cases h;exact Rep.str.mp r
 | cJ=>cases h
 | bl b=>cases h
 | lst ds=>cases h
 | tup ds=>cases h
 | dct ks ds=>cases h
def Nk(ks:List Key)(k:Key):Bool:=ks.any fun x=>decide (x=k)
def PU(ks:List Key)(ds:List D)(k:Key):Option D:=((ks.zip ds).find? fun p=>decide (p.1=k)).map (·.2)
def VY(a b:D):R D:=match b with
 | .dct ks _=>(match rn a with | some k=> .ok (.bl (Nk ks k)) | none=> .no)
 | _=> .no
def UQ(a b:D):R D:=match b with
 | .dct ks _=>(match rn a with | some k=> .ok (.bl (!Nk ks k)) | none=> .no)
 | _=> .no
def Tx(d k:D):R D:=match d with
 | .dct ks ds=>(match rn k with | some k=>(match PU ks ds k with | some x=> .ok x | none=> .no) | none=> .no)
 | _=> .no
section
variable {X:Cx}
def Th(f:FD):FD:=fun δ=>(f δ).bind fun d=>match d with | .tup ds=> .ok (.tup ds.reverse) | _=> .no
def Tq(i:Nat)(f:FD):FS:=fun δ=>(f δ).bind fun d=>match seqD? d with
 | some es=>(qm δ i).bind fun ds=>R.aS (decide (ds.length+es.length<=sizeLine)) (.ok (.nx (δ.set i (.bld (ds++es)))))
 | none=> .no
def Ua(f g:FD):ao->R (List D):=fun δ=>(f δ).bind fun d=>(g δ).bind fun e=>match d,e with
 | .int i, .int j=>R.aS (decide (-(2 ^ 62)<=i/\i < 2 ^ 62/\ -(2 ^ 62)<=j/\j < 2 ^ 62/\j - i < 16777216)) (.ok (qD i (j - i).toNat))
 | _,_=> .no
end
end L2
namespace L3
open PySem PySem.Spec PyProof.Rows L2
section
variable {X:Cx} {cl:YH}
def T5(i:Nat)(f:FX):FZ:=fun δ S=>match pe δ i with
 | none=> .no
 | some k=>match cM S k with
   | none=> .no
   | some _=>(f δ S).bind fun v S1=>match v with
     | .d d=>(match seqD? d with
       | some es=>(match cM S1 k with
         | some ds=>R3.aS (decide (ds.length+es.length<=sizeLine)) (.ok (.nx δ) (S1.set k (.lst (ds++es))))
         | none=> .no)
       | none=> .no)
     | _=> .no
def nO(fo fi fe:FX):FZ:=fun δ S=>(fe δ S).bind fun v S1=>(fo δ S1).bind fun o S2=>(fi δ S2).bind fun j S3=>match v,o,j with
 | .d d, .loc k, .d n=>(match n8 S3 k,rn n with | some ay,some key=>R3.aS (decide (ay.length < sizeLine)) (.ok (.nx δ) (S3.set k (.dct (nk ay key d)))) | _,_=> .no)
 | _,_,_=> .no
theorem l9{pos pos':Pos}(hu:X.A.units+1 < cLine)(hv:PX X cl value fe)(ho:PX X cl o fo)(hi:PX X cl i fi)(hs:swapsWith value (some (.Subscript o i pos')) pos.line X.env=pure false:=by rfl):PZ X cl (.Assign [.Subscript o i pos'] value pos) (nO fo fi fe):=
 ⟨(GS hu ho.1 hi.1 hv.1 hs).imp fun D σ H ⟨ρ,S,δ,ou,S',E,hf,q⟩=>by
   obtain⟨v,S1,h1,h2⟩:=R3.af hf;obtain⟨o,S2,h3,h4⟩:=R3.af h2;obtain⟨j,S3,h5,h6⟩:=R3.af h4;refine⟨ρ,S,δ,v,S1,E,h1,fun u1 bz H1 p1 w1 r1=>⟨bz,S1,δ,o,S2,E.to p1 w1,h3,fun u2 mP H2 p2 w2 r2=>⟨mP,S2,δ,j,S3,(E.to p1 w1).to p2 w2,h5,fun u3 zO H3 p3 w3 r3=>?_⟩⟩⟩
   split at h6
   .rename_i d k n;split at h6
    .rename_i ay key hd hn;obtain⟨hl,h7⟩:=R3.aN h6;cases h7;have r2':=r2.pre p3;unfold aW at r2';obtain⟨a,a1,rfl⟩:=r2';unfold aW at r3;have:=xU hn r3;subst this;obtain⟨ys,y1,y2,y3⟩:=w3.ob k a _ a1 (rQ hd);have sQ:=(r1.pre p2).pre p3;unfold aW at sQ;obtain⟨e1,qt⟩:=Oo (k:=key) sQ y2 y3;have hll:ys.length=ay.length:=by have:=congrArg List.length y2;simpa using this
     refine⟨a,_,rfl,Bl.k (k:=key) y1 (by rw[hll];exact of_decide_eq_true hl),?_⟩
     obtain⟨w4,p4⟩:=w3.put (o:= .dct (nk ay key d)) (u:= .dK (putK ys key u1)) a1 (w3.fz k a a1 (by rw[rQ hd];intro h;cases h)) ⟨_,rfl,e1,qt⟩
     exact q σ zO _ (p1.trans (p2.trans (p3.trans p4))) (E.to (p1.trans (p2.trans (p3.trans p4))) w4)
    .cases h6
   .cases h6⟩
theorem oz{fo fi fe:FX}{δ:DE}{S:aP}{QO:Ou->aP->Prop}(h:W3 (fe δ S) fun v S1=>W3 (fo δ S1) fun o S2=>W3 (fi δ S2) fun j S3=>∃d k n key ay,v= .d d/\o= .loc k/\j= .d n/\rn n=some key/\S3[k]? =some (.dct ay)/\ay.length < sizeLine/\QO (.nx δ) (S3.set k (.dct (nk ay key d)))):W3 (nO fo fi fe δ S) QO:=
 W3.bind (h.mono fun _ _ h=>W3.bind (h.mono fun _ _ h=>W3.bind (h.mono fun _ S3 ⟨d,k,n,key,ay,e1,e2,e3,e6,e4,hl,q⟩=>by
  subst e1 e2 e3;have e5:n8 S3 k=some ay:=by unfold n8;simp only[e4]
  simp only[e5,e6];exact W3.wh (decide_eq_true hl) (W3.ok q))))
end
end L3
end
section
namespace PySem.W
open PySem PySem.Calls PyProof.Rows
def Jl{α:Type}(n:Nat)(lt:Nat->Nat->Bool):KasT α->Option α
 | .ret a=>some a
 | .ask i j k=>if i < n/\j < n then Jl n lt (k (lt i j)) else none
section
variable {prog:Program} {w:World} {A:Around} {E:YC} {s:Shared} {a:Addr} {vs:List Value} {κ:SortKind}
abbrev Wg(h:Heap)(a:Addr)(vs:List Value):Heap:=((h.update a (Obj.mapSeq fun _=>(#[]:Array Value))).push (seqObj "tuple" vs.toArray 0)).push (seqObj "list" #[] 0)
end
end PySem.W
namespace L2
open PySem PySem.Spec PyProof.Rows
def Wd:D->Option (Int × List Int)
 | .tup [.int a, .tup zs]=>(ints? zs).map fun ns=>(a,ns)
 | _=>none
def Oi:List D->Option (List (Int × List Int))
 | []=>some []
 | d ::ds=>(Wd d).bind fun p=>(Oi ds).map (p ::·)
def Vv(x y:Int × List Int):Bool:=if x.1=y.1 then(if x.2=y.2 then false else HT.lexLt x.2 y.2) else decide (x.1 < y.1)
def PM(ps:List (Int × List Int)):Option (Array Nat):=PySem.W.Jl ps.length (fun i j=>Vv (ps.getD i (0,[])) (ps.getD j (0,[]))) (PySem.W.kas_sort ps.length)
def Qh:List D->R D
 | [.lst ds]=>(match Oi ds with
   | some ps=>R.aS (decide (2<=ps.length/\ps.length < 64)) (match PM ps with | some p=>R.aS (p.toList.all (fun i=>decide (i < ps.length)) && decide (p.toList.length < 64)) (.ok (.lst (p.toList.map fun i=>ds.getD i .cJ))) | none=> .no)
   | none=> .no)
 | _=> .no
def Vw(h:Heap)(v:Value)(p:Int × List Int):Prop:=
 ∃(x b:Addr) (t:Tok) (n:Nat) (o:Obj) (its:Array Value),v= .ref x/\h.get? x=some o/\o.cls= .type "tuple"/\o.data= .seq #[.int p.1 t, .ref b] n/\IsTup h b its/\IntsAre its.toList p.2
section
variable {X:Cx}
end
end L2
end
section
namespace L2
open PySem PySem.Spec PyProof.Rows
def MD(d a:D):Bool:=PyData.eqv (toPy d) (toPy a)
def Uo(d:D):Bool:=cq d && (toPy d).canLay0 && decide ((toPy d).depth<=8)
def TH(a b:D):R Bool:=match seqD? b with
 | some ds=>R.aS (Uo a && ds.all Uo) (.ok (ds.any fun d=>MD d a))
 | none=> .no
def Wl(a b:D):R D:=(TH a b).bind fun x=> .ok (.bl x)
def VN(a b:D):R D:=(TH a b).bind fun x=> .ok (.bl (!x))
section
variable {X:Cx}
open Classical in
def TL(h:Heap)(a:D)(y:Value):Bool:=decide (∃d as,Reads h y (toPy d) as/\(toPy d).canLay0=true/\MD d a=true)
open Classical in
theorem P9{a d:D}{y:Value}{as:List Addr}(r:Reads h y (toPy d) as)(hl:(toPy d).canLay0=true):TL h a y=MD d a:=by
 unfold TL;cases q:MD d a with
 | true=>exact decide_eq_true ⟨d,as,r,hl,q⟩
 | false=>
   refine decide_eq_false fun⟨d',WT,r',OR,q'⟩=>?_
   have:=SeqAt.Reads.unique _ _ y as WT hl r r';unfold MD at q q';rw[<-this,q] at q';cases q'
end
end L2
end
section
set_option maxHeartbeats 1000000
namespace L3
open PySem PySem.Spec PyProof.Rows L2
section
variable {X:Cx} {cl:YH}
def Uc(i:Nat)(F:FZ):FZ:=fun δ S=>match pe δ i with
 | some k=>(match S[k]? with | some (.dct ay)=>F (δ.set i (some (.d (.dct (ay.map (·.1)) (ay.map (·.2)))))) (S.set k .ky) | _=> .no)
 | none=> .no
end
end L3
end
section
set_option maxHeartbeats 3200000
namespace PySem.W
open PySem PySem.Calls PyProof.Rows
namespace F2
end F2
section
variable {prog:Program} {w:World} {A:Around} {E:YC} {s:Shared}
end
section
variable {prog:Program} {w:World} {K:Type} [DecidableEq K] {knd:KeyKind prog w K} {A:Around} {s:Shared}
def P7(knd:KeyKind prog w K)(h:Heap)(v:Value)(q:K × Value):Prop:=
 ∃(x:Addr) (n:Nat) (o:Obj) (kv:Value),v= .ref x/\h.get? x=some o/\o.cls= .type "tuple"/\o.data= .seq #[kv,q.2] n/\knd.is q.1 kv=true
def fills(qs:List (K × Value))(ay:List (K × Value)):List (K × Value):=qs.foldl (fun acc q=>stored acc q.1 q.2) ay
end
end PySem.W
namespace L2
open PySem PySem.Spec PyProof.Rows
def Vz:D->Option (Key × D)
 | .tup [a,b]=>(rn a).map fun k=>(k,b)
 | _=>none
def N6:List D->Option (List (Key × D))
 | []=>some []
 | d ::ds=>(Vz d).bind fun p=>(N6 ds).map (p ::·)
def IP(qs:List (Key × D))(ay:List (Key × D)):List (Key × D):=qs.foldl (fun acc q=>L3.nk acc q.1 q.2) ay
def P0:List D->R D
 | [.lst ds]=>(match N6 ds with
   | some qs=>R.aS (decide (ds.length<=1000000)) (.ok (.dct ((IP qs []).map (·.1)) ((IP qs []).map (·.2))))
   | none=> .no)
 | _=> .no
section
variable {X:Cx}
end
end L2
end
section
set_option maxHeartbeats 1000000
namespace L3
open PySem PySem.Spec PyProof.Rows L2
def F9(g:List V3->aP->R3 V3):List V3->aP->R3 V3:=fun vs S=>match g vs S with
 | .ok v S'=>(match res S' v with
   | some d=>R3.aS ((S'.take S.length).all (wH S.length) && mh S.length v) (.ok (.d d) (S'.take S.length))
   | none=> .no)
 | .ex c S'=>R3.aS ((S'.take S.length).all (wH S.length)) (.ex c (S'.take S.length))
 | .no=> .no
theorem Lr{K:W.Frag}{cl:YH}{g:List V3->aP->R3 V3}{n:Nat}{vs:List V}{Q:VK}{E:XK}(h:xx K cl n (F9 g) vs H Q E):xx K cl n g vs H Q E:=by
 obtain⟨hl,ρ,S,xs,w,r,z⟩:=h;refine⟨hl,ρ,S,xs,w,r,?_⟩;have pc:∀{bz H1},Pre ρ H bz H1->Pre ρ H (bz.cut S.length) H1:=fun p1=>SW.DA (K:=K) (cl:=cl) (by rw[w.len];exact Nat.le_refl _) p1
 rcases z with⟨v,S',hg,q⟩ | ⟨c,S',hg,q⟩
 .unfold F9 at hg;split at hg
  .rename_i v1 S1 h1;split at hg
   .rename_i d e;obtain⟨ok,h3⟩:=R3.aN hg;obtain⟨ok,hk⟩:=Bool.and_eq_true_iff.mp ok;cases h3;refine .inl ⟨v1,S1,h1,fun u bz H1 p1 w1 r1=>q u _ H1 (pc p1) (w1.cut ok) ?_⟩
    unfold aW;refine r1.resB w1 (ip _) (fun k a hk a1 ha=>?_) hk e
    rcases P3.dZ.mp ha with⟨z,_⟩ | z
    .obtain⟨j,hj⟩:=List.getElem?_of_mem z;have hj:(bz.r.take S.length)[j]? =some a:=hj;rw[List.getElem?_take] at hj;split at hj
     .rename_i hjl;have:=w1.nd j k a hj a1;omega
     .cases hj
    .exact(w1.zb a z).2 (List.mem_of_getElem? a1)
   .cases hg
  .rename_i c1 S1 h1;unfold R3.aS at hg;split at hg <;> cases hg
  .cases hg
 .unfold F9 at hg;split at hg
  .rename_i v1 S1 h1;split at hg
   .unfold R3.aS at hg;split at hg <;> cases hg
   .cases hg
  .rename_i c1 S1 h1;unfold R3.aS at hg;split at hg
   .rename_i ok;cases hg;exact .inr ⟨_,S1,h1,fun bz H1 p1 w1=>q _ H1 (pc p1) (w1.cut ok)⟩
   .cases hg
  .cases hg
theorem eB.q{K:W.Frag}{mg:YG}{cl:YH}{k:Nat}{n:Nat}{g:List V3->aP->R3 V3}(C:eB P w K mg base cl k x n g):eB P w K mg base cl k x n (F9 g):=
 let⟨f,fd,ps,F,h⟩:=C;⟨f,fd,ps,F.imp fun _ _ _ _ h=>Lr h,h⟩
section
variable {X:Cx} {cl:YH} {E:XK}
def V2(f:FX):FX:=fun δ S=>(f δ S).bind fun v S1=>match v with | .d (.bl b)=> .ok (.d (.bl (!b))) S1 | _=> .no
def PY(K:W.Frag)(cl:YH)(E:XK)(ρ:P3)(H:Hp)(D:Ends)(r:R3 Ou):Prop:=match r with
 | .ok o S'=>xS K cl ρ H D S' o
 | .ex c S'=>z9 K cl E ρ H S' c
 | .no=>False
def Pa(f:FA):FA:=fun δ S=>F7 (f δ S)
theorem z8{tg iter:Expr}{body:List Stmt}{it:FA}{t:FG}{F:FZ}{pos:Pos}(hp:PassesOwn (model X.prog X.w) X.A X.env X.xe)(hc:X.calm=true)(hi:O1 X cl tg iter it)(hg:I0 X cl tg t)(hb:vg X cl E body F)
 (hs:∀x,foldedSetIterable iter X.env x=pure x:=by intro _;rfl):IL X cl E (.For tg iter body [] pos) (zg (Pa it) t F):=⟨(yz hp hc hi.1 hg.1 hb.1 hs).imp fun D σ H ⟨ρ,S,δ,En,z⟩=>by
 have key:∃ds S0,it δ S= .ok ds S0/\PY X.K cl E ρ H D (gg t F ds δ S0):=by
  rcases z with⟨o,S',hf,q⟩ | ⟨c,S',hf,q⟩
  .obtain⟨ds,S0,h1,h2⟩:=R3.af hf;exact⟨ds,S0,jm h1,by rw[h2];exact q⟩
  .rcases R3.fg hf with h1 | ⟨ds,S0,h1,h2⟩
   .exact(nA h1).elim
   .exact⟨ds,S0,jm h1,by rw[h2];exact q⟩
 obtain⟨ds,S0,h1,wi⟩:=key;obtain⟨r,hr⟩:∃r,gg t F ds δ S0=r:=⟨_,rfl⟩;rw[hr] at wi;refine⟨ρ,S,δ,ds,S0,En,h1,fun J bz H1 p1 w1 ir=>?_⟩
 refine⟨fun i m cA H'=>m=ds.length - i/\i<=ds.length/\∃bF S1 cz,Pre bz H1 bF H'/\ee X.K cl bF H' S1 cA cz/\gg t F (ds.drop i) cz S1=r,⟨ds.length,rfl,Nat.zero_le _,bz,S0,δ,Pre.refl bz H1,En.to p1 w1,by simpa using hr⟩,?_⟩
 rintro i m cA H' ⟨rfl,hi,bF,S1,cz,pv,E',hl⟩;obtain⟨go,stop⟩:=ir bF H' pv.pw E'.sw.bs;by_cases hlt:i < ds.length
 .have hd:ds[i]? =some ds[i]:=List.getElem?_eq_getElem hlt;have hdrop:ds.drop i=ds[i] ::ds.drop (i+1):=List.drop_eq_getElem_cons hlt;rw[hdrop] at hl;unfold gg at hl;split at hl
  .rw [<-hl] at wi;exact wi.elim
  .rename_i δ1 h3;obtain⟨g1,g2⟩:=go i _ hd;refine .inr ⟨g1,fun qr H2=>∃mP S2 iB,Pre bz H1 mP H2/\ee X.K cl mP H2 S2 qr iB/\gg t F (ds.drop (i+1)) iB S2=r,fun qr H2 n=>⟨ds.length - (i+1),by omega,rfl,hlt,n⟩,fun x nc y=>?_⟩
   obtain⟨ss,rr⟩:=g2 x nc y;refine⟨bF,S1,cz,ds[i],δ1,E'.same ss,rr,h3,fun qr H2 s2 E2=>⟨bF,S1,δ1,E2,?_⟩⟩
   have pv2:Pre bz H1 bF H2:=pv.trans (Pre.same (ss.trans s2));cases hF:F δ1 S1 with
   | no=>rw [hF] at hl;rw [<-hl] at wi;exact wi.elim
   | ex c S2=>
     rw[hF] at hl;have hl:R3.ex c S2=r:=hl;rw[<-hl] at wi;exact .inr ⟨c,S2,rfl,z9.pre wi (p1.trans pv2)⟩
   | ok o1 S2=>
     rw[hF] at hl;refine .inl ⟨o1,S2,rfl,?_⟩;cases o1 with
     | nx iB=>exact fun yd zO H3 p3 E3=>⟨zO,S2,iB,pv2.trans p3,E3,hl⟩
     | rt d=>
       have hl:R3.ok (Ou.rt d) S2=r:=hl;rw[<-hl] at wi;exact fun v zO H3 p3 w r=>wi v zO H3 (p1.trans (pv2.trans p3)) w r
 .have e:i=ds.length:=by omega
  subst e;rw[List.drop_length] at hl;have hl:R3.ok (Ou.nx cz) S1=r:=hl;rw[<-hl] at wi;exact .inl ⟨stop,wi cA bF H' (p1.trans pv) E'⟩⟩
theorem yI{P:Program}{w:World}{K:W.Frag}{mg:YG}{base:Heap}{N:List Str}{qual:Str}{scope:Scope}{f:Addr}{cd:Value}{A:Around}{outer:List Env}{s:Shared}{H:Hp}{E:XK} :
 PassesOwn (model P w) (km (vT P w) P w K mg base N qual scope f cd A outer s H E).A (km (vT P w) P w K mg base N qual scope f cd A outer s H E).env (km (vT P w) P w K mg base N qual scope f cd A outer s H E).xe:=PassesOwn.leaving
def jB(P:Program)(w:World)(K:W.Frag)(mg:YG)(base:Heap)(cl:YH)(k c:Nat)(m:Str)(n:Nat)(g:List V3->aP->R3 V3):Prop:=
 ∃(f:Addr) (fd:FuncData) (ps:List Str),xK K (cl c)/\Meth K (cl c) m f/\ig P w K mg base (vT P w) k f fd ps (xx K cl (n+1) g)/\Binds K fd ps []
theorem lM{g:List V3->aP->R3 V3}{k j n c:Nat}{m:Str}{o e:Expr}{es:List Expr}{fo:FX}{fs:FA}{apos pos:Pos}{pl:Sem Bool}(hp:Passes (vT X.prog X.w) X E)(M:jB X.prog X.w X.K X.mg X.base cl k c m n g)(hr:dA j X.A)(Cj:k<=j)(ho:PX X cl o fo)(ha:HE X cl (e ::es) fs)(hn:∀δ S ds S',fs δ S= .ok ds S'->ds.length=n)
 (xZ:starEach (e ::es) X.env=(false,eval e X.env) ::starEach es X.env:=by rfl) (ko:(backTo pos (starEach es X.env)).any (·.1)=false:=by rfl)
 (ht:eval (.Call (.Attribute o m apos) (e ::es) [] pos) X.env=(do
   let ov <-eval o X.env
   standAt apos.atName
   let(f,first) <-holding [ov] (getMethod ov m pl)
   callWith pos f first (backTo pos (starEach (e ::es) X.env)) (backToKw pos (keywordEach [] X.env))):=by rfl) :
 IW X cl E (.Call (.Attribute o m apos) (e ::es) [] pos) (oi c m g (tf fo) (eQ fs)):=by
 obtain⟨f,fd,ps,hC,hm,F,hb⟩:=M;refine⟨(G_ ho.1 hC hm F (hr.mono Cj) hb .nil hp ha.1 xZ ko ht).imp fun σ H Q ⟨ρ,S,δ,En,z⟩=>?_⟩
 have key:∃kk ys S1 vs S2,fo δ S= .ok (.loc kk) S1/\jX S1 c kk=some ys/\ys.lookup m=none/\fs δ S1= .ok vs S2/\((∃v S',g (.loc kk ::vs) S2= .ok v S'/\∀u bF H',Pre ρ H bF H'->SW X.K cl bF H' S'->aW X.K bF H' v u->Q u H')\/∃c S',g (.loc kk ::vs) S2= .ex c S'/\z9 X.K cl E ρ H S' c):=by
  have go:∀{r:R3 V3},oi c m g (tf fo) (eQ fs) δ S=r->r≠ .no->∃kk ys S1 vs S2,fo δ S= .ok (.loc kk) S1/\jX S1 c kk=some ys/\ys.lookup m=none/\fs δ S1= .ok vs S2/\g (.loc kk ::vs) S2=r:=fun {r} hr qY=>by
   unfold oi at hr;cases hfo:fo δ S with
   | no=>unfold tf at hr;rw [hfo] at hr;exact absurd hr.symm qY
   | ex c' S'=>unfold tf at hr;rw [hfo] at hr;exact absurd hr.symm qY
   | ok o S1=>
     unfold tf at hr;rw[hfo] at hr;simp only[F7,R3.aH] at hr;split at hr
     .rename_i kk;split at hr
      .rename_i ys e1;split at hr
       .rename_i qt;cases hfs:fs δ S1 with
        | no=>unfold eQ at hr;rw [hfs] at hr;exact absurd hr.symm qY
        | ex c' S'=>unfold eQ at hr;rw [hfs] at hr;exact absurd hr.symm qY
        | ok vs S2=>
          unfold eQ at hr;rw[hfs] at hr;exact⟨kk,ys,S1,vs,S2,rfl,e1,qt,hfs,hr⟩
       .exact absurd hr.symm qY
      .exact absurd hr.symm qY
     .exact absurd hr.symm qY
  rcases z with⟨v,S',hf,q⟩ | ⟨c',S',hf,q⟩
  .obtain⟨kk,ys,S1,vs,S2,a1,a2,a3,a4,a5⟩:=go hf (fun h=>by cases h)
   exact⟨kk,ys,S1,vs,S2,a1,a2,a3,a4, .inl ⟨v,S',a5,q⟩⟩
  .obtain⟨kk,ys,S1,vs,S2,a1,a2,a3,a4,a5⟩:=go hf (fun h=>by cases h)
   exact⟨kk,ys,S1,vs,S2,a1,a2,a3,a4, .inr ⟨c',S',a5,q⟩⟩
 obtain⟨kk,ys,S1,vs,S2,h1,e1,qt,h3,z⟩:=key;refine⟨ρ,S,δ, .loc kk,S1,En,h1,fun u bz H1 p1 w1 r1=>?_⟩
 have sQ:=r1;unfold aW at r1;obtain⟨a,a1,rfl⟩:=r1;obtain⟨dx,zs,ey,ek,rs⟩:=w1.ob kk a _ a1 (kr e1);refine⟨a,dx,zs,rfl,ey,wj ek qt,bz,S1,δ,vs,S2,En.to p1 w1,h3,fun us mP H2 p2 w2 r2=>?_⟩
 show xx X.K cl (n+1) g (V.ref a ::(us++[])) H2 Q E;rw[List.append_nil];refine⟨by rw[List.length_cons,<-r2.length,hn δ S1 vs S2 h3],mP,S2, .loc kk ::vs,w2,aE.cons (sQ.pre p2) r2,?_⟩
 rcases z with⟨v,S',h4,q⟩ | ⟨c',S',h4,q⟩
 .exact .inl ⟨v,S',h4,fun z zO H3 p3 w3 r3=>q z zO H3 (p1.trans (p2.trans p3)) w3 r3⟩
 .exact .inr ⟨c',S',h4,q.pre (p1.trans p2)⟩
theorem UY{g:List V3->aP->R3 V3}{vs:List V3}{S:aP}{QV:V3->aP->Prop}(hS:O8 S)(h:W3 (g vs S) fun v S1=>mh S.length v=true/\(∃T,S1=S++T)/\∃d,res S1 v=some d/\QV (.d d) S):W3 (F9 g vs S) QV:=by
 obtain⟨v,S1,e,hg,⟨T,rfl⟩,d,hd,q⟩:=h;unfold F9;rw[e];simp only[hd];rw[List.take_append_of_le_length (Nat.le_refl _),List.take_length];exact W3.wh (by rw[List.all_eq_true.mpr hS,hg];rfl) (W3.ok q)
def WE{α:Type}(r:R3 α)(Q:α->aP->Prop)(Y:Nat->aP->Prop):Prop:=(∃a S,r= .ok a S/\Q a S)\/∃c S,r= .ex c S/\Y c S
section
variable {α β:Type} {S:aP} {δ:DE} {Y:Nat->aP->Prop}
theorem WE.bind{r:R3 α}{f:α->aP->R3 β}{Q:β->aP->Prop}(h:WE r (fun a S1=>WE (f a S1) Q Y) Y):WE (r.bind f) Q Y:=by
 rcases h with⟨a,S1,rfl,q⟩ | ⟨c,S1,rfl,q⟩
 .exact q
 .exact .inr ⟨c,S1,rfl,q⟩
theorem WE.mono{r:R3 α}{Q Q':α->aP->Prop}{Y':Nat->aP->Prop}(h:WE r Q Y)(m:∀a S,Q a S->Q' a S)(n:∀c S,Y c S->Y' c S):WE r Q' Y':=by
 rcases h with⟨a,S1,e,q⟩ | ⟨c,S1,e,q⟩
 .exact .inl ⟨a,S1,e,m _ _ q⟩
 .exact .inr ⟨c,S1,e,n _ _ q⟩
theorem WE.ok{a:α}{Q:α->aP->Prop}(h:Q a S):WE (.ok a S) Q Y:= .inl ⟨a,S,rfl,h⟩
theorem iz{F G:FZ}{Q:Ou->aP->Prop}(h:WE (F δ S) (fun o S1=>∃δ1,o= .nx δ1/\WE (G δ1 S1) Q Y) Y):WE (cO F G δ S) Q Y:=WE.bind (h.mono (fun o S1 ⟨δ1,e,q⟩=>by subst e;exact q) fun _ _ q=>q)
theorem wc{F:FZ}{Q:Ou->aP->Prop}(h:W3 (F δ S) Q):WE (Cr F δ S) Q Y:= .inl (MP h)
theorem oh{fc:FB}{F G:FZ}{Q:Ou->aP->Prop}(h:W3 (fc δ S) fun b S1=>if b then WE (F δ S1) Q Y else WE (G δ S1) Q Y):WE (tJ (wm fc) F G δ S) Q Y:=WE.bind (.inl (MZ (h.mono fun b S1 q=>by
 show WE (if b=true then F δ S1 else G δ S1) Q Y
 cases b with
 | true=>rw [if_pos rfl] at q ⊢;exact q
 | false=>rw [if_neg (by decide)] at q ⊢;exact q)))
theorem vJ{f:FX}{Q:Ou->aP->Prop}(h:WE (f δ S) (fun v S1=>Q (.nx δ) S1) Y):WE (tZ f δ S) Q Y:=WE.bind (h.mono (fun v S1 q=>WE.ok q) fun _ _ q=>q)
theorem D4{f:FX}{Q:V3->aP->Prop}(h:W3 (f δ S) Q):WE (tf f δ S) Q Y:= .inl (Dz h)
theorem JX{g:List V3->aP->R3 V3}{fs:FA}{Q:V3->aP->Prop}(h:W3 (fs δ S) fun vs S1=>WE (g vs S1) Q Y):WE (oa g (eQ fs) δ S) Q Y:=WE.bind (.inl (pS h))
theorem rK{c k:Nat}{g:List V3->aP->R3 V3}{fo:FX}{fs:FA}{Q:V3->aP->Prop}(h:W3 (fo δ S) fun v S1=>∃ys,v= .loc k/\S1[k]? =some (.ins c ys)/\ys.lookup m=none/\W3 (fs δ S1) fun vs S2=>WE (g (.loc k ::vs) S2) Q Y):WE (oi c m g (tf fo) (eQ fs) δ S) Q Y:=
 WE.bind (.inl (Dz (h.mono fun v S1 ⟨ys,e1,qt,e3,q⟩=>by
  subst e1;have e4:jX S1 c k=some ys:=by unfold jX;simp only[qt,if_true]
  simp only[e4,e3];exact WE.bind (.inl (pS q)))))
theorem qV{c:Nat}{fs:FA}{Q:Ou->aP->Prop}(h:W3 (fs δ S) fun vs S1=>vs.length<=sizeLine/\Y c S1):WE (fw c (eQ fs) δ S) Q Y:=WE.bind (.inl (pS (h.mono fun vs S1 ⟨h1,h2⟩=>by
 unfold R3.aS;rw[decide_eq_true h1];exact .inr ⟨c,S1,rfl,h2⟩)))
theorem lu{Q:Ou->aP->Prop}(h:Q (.nx δ) S):WE (mU δ S) Q Y:=WE.ok h
theorem Ml{N:List Str}{F:FZ}{vs:List V3}{Q:V3->aP->Prop}(e:dE N vs=δ)(h:WE (F δ S) (fun o S1=>match o with | .rt v=>Q v S1 | .nx _=>Q (.d .cJ) S1) Y):WE (sT N F vs S) Q Y:=by
 unfold sT;rw[e];refine WE.bind (h.mono (fun o S1 q=>?_) fun _ _ q=>q)
 cases o with
 | nx δ1=>exact WE.ok q
 | rt v=>exact WE.ok q
theorem Lv{t:FG}{F:FZ}(I:Nat->DE->aP->Prop){vs:List V3}(h0:I 0 δ S)(step:∀i v δ1 S1,vs[i]? =some v->I i δ1 S1->∃iB,t v δ1=some iB/\WE (F iB S1) (fun o S2=>∃OO,o= .nx OO/\I (i+1) OO S2) Y) :
 WE (gg t F vs δ S) (fun o S1=>∃δ1,o= .nx δ1/\I vs.length δ1 S1) Y:=by
 induction vs generalizing I δ S with
 | nil=>exact .inl ⟨_,_,rfl,δ,rfl,h0⟩
 | cons v vs ih=>
   obtain⟨iB,e,h⟩:=step 0 v δ S rfl h0;unfold gg;rw[e];refine WE.bind (h.mono (fun o S2 ⟨OO,e3,q⟩=>?_) fun _ _ q=>q)
   subst e3;exact ih (fun i=>I (i+1)) q fun i w δ1 S1 hw hi=>step (i+1) w δ1 S1 hw hi
theorem IG{it:FA}{Q:Ou->aP->Prop}(h:W3 (it δ S) fun vs S1=>WE (gg t F vs δ S1) Q Y):WE (zg (Pa it) t F δ S) Q Y:=WE.bind (.inl (DK h))
end
end
end L3
end
section
namespace L2
open PySem PySem.Spec PyProof.Rows
def gK(ks:List (Str × Int)):List (Key × V):=ks.map fun p=>(Sum.inr p.1,V.int p.2)
def lI(P:Program)(w:World)(K:W.Frag)(mg:YG)(x:Str)(ks:List (Str × Int)):Prop:=∃a,mg x=some (.ref a)/\∀(H:Hp) (h:Heap),K.In h->dJ P w H h a (.dK (gK ks))
theorem u_(x:Str):∀ks:List (Str × Int),iI (gK ks) (Sum.inr x)=(ks.lookup x).map V.int
 | []=>rfl
 | (y,i) ::ks=>by
   have ih:=u_ x ks;unfold iI gK at ih ⊢;rw[List.map_cons,List.find?_cons,List.lookup_cons];by_cases h:x=y
   .subst h;simp
   .have h1:decide ((Sum.inr y:Key)=Sum.inr x)=false:=decide_eq_false fun q=>h (Sum.inr.inj q).symm
    have h2:(x==y)=false:=beq_eq_false_iff_ne.mpr h;simp only[h1,h2];exact ih
def NR(w:World)(es:List (Str × Tok × Int × Tok)):List DictEntry:=es.map fun e=>⟨hashStr w e.1, .str e.1 e.2.1, .int e.2.2.1 e.2.2.2⟩
theorem wY{P:Program}{w:World}{K:W.Frag}{h:Heap}{mg:YG}(X:K.In h)(G:h.Ns mainGlobals mg){x:Str}{a:Addr}{es:Array DictEntry}{n:Nat}(ts:List (Str × Tok × Int × Tok)){ks:List (Str × Int)}
 (e:PySem.W.nsIn K mainGlobals x=some (some (.ref a))) (l:K.lookup a=some {cls:= .type "dict",data:= .dict es n}) (hs:es.toList=NR w ts) (hk:ks=ts.map fun e=>(e.1,e.2.2.1)) (hd:(ks.map (·.1)).Nodup) (hm:(a==sysModules)=false) (hz:ks.length<=1000):lI P w K mg x ks:=by
 subst hk;refine⟨a,PySem.W.mg_of X G e,fun H h2 X2=>⟨?_,hm,ts.map fun e=>(Sum.inr e.1, .int e.2.2.1 e.2.2.2),?_,_,es,n,X2 a _ l,⟨rfl,rfl,?_⟩,rfl,fun q hq=>?_,?_,?_⟩⟩
 .unfold gK;rw [List.length_map,sizeLine_eq];omega
 .unfold gK;rw[List.map_map]
  clear hs hd hz
  induction ts with
  | nil=>exact .nil
  | cons t ts ih=>exact .cons ⟨rfl,⟨_,rfl⟩⟩ ih
 .rfl
 .have:q∈NR w ts:=by rw[<-hs];exact Array.mem_toList_iff.mpr hq
  obtain⟨t,_,rfl⟩:=List.mem_map.mp this;exact⟨Sum.inr t.1,l8 P w _ _,rfl⟩
 .rw [hs]
  clear hs hd hz
  induction ts with
  | nil=>exact .nil
  | cons t ts ih=>exact .cons (l8 P w _ _) rfl ih
 .rw [List.map_map] at hd ⊢;have:(ts.map ((fun x:Key × Value=>x.1) ∘ fun e:Str × Tok × Int × Tok=>(Sum.inr e.1, .int e.2.2.1 e.2.2.2)))=(ts.map ((fun x:Str × Int=>x.1) ∘ fun e:Str × Tok × Int × Tok=>(e.1,e.2.2.1))).map Sum.inr:=by
   rw[List.map_map];rfl
  rw[this];exact hd.map _ fun _ _ z q=>z (Sum.inr.inj q)
section
variable {X:Cx}
theorem uI{ks:List (Str × Int)}{p:Pos}(g:lI X.prog X.w X.K X.mg x ks)(hg:Gl X x)(jz:(x==("__debug__":Str))=false:=by decide):∃a,PE X (.Name x p) (tC (.ref a))/\∀(H:Hp) (h:Heap),X.K.In h->dJ X.prog X.w H h a (.dK (gK ks)):=by
 obtain⟨a,hm,ok⟩:=g;exact⟨a,z_ (v:= .ref a) hg hm rfl jz,ok⟩
def Mp(ks:List (Str × Int))(d:D):R Bool:=match d with | .str x=> .ok (ks.lookup x).isSome | _=> .no
def LQ(ks:List (Str × Int))(f:FD):FD:=fun δ=>(f δ).bind fun d=>(Mp ks d).bind fun b=> .ok (.bl b)
def U9(ks:List (Str × Int))(f:FD):FD:=fun δ=>(f δ).bind fun d=>(Mp ks d).bind fun b=> .ok (.bl (!b))
def VZ(ks:List (Str × Int))(f:FD):ao->R Bool:=fun δ=>(f δ).bind fun d=>Mp ks d
def LV(ks:List (Str × Int))(f:FD):ao->R Bool:=fun δ=>(f δ).bind fun d=>(Mp ks d).bind fun b=> .ok (!b)
def wW(ks:List (Str × Int))(f:FD):FD:=fun δ=>(f δ).bind fun d=>match d with | .str x=>(match ks.lookup x with | some i=> .ok (.int i) | none=> .no) | _=> .no
def NU(ks:List (Str × Int))(neg:Bool)(t:TE):TE:=fun σ H Q=>t σ H fun y H1=>∃x,y= .str x/\Q (.bl (neg !=(ks.lookup x).isSome)) H1
theorem LW{ks:List (Str × Int)}{p:Pos}{t:TE}(hu:X.A.units+1 < cLine)(hi:PE X i t)(g:lI X.prog X.w X.K X.mg x ks)(hg:Gl X x)(jz:(x==("__debug__":Str))=false:=by decide):PC X .In i (.Name x p) (NU ks false t):=by
 obtain⟨a,ho,ok⟩:=uI (p:=p) g hg jz;intro pins s σ H Q I h;refine cE (hi pins s σ H _ I h) fun iv s1 ⟨y,H1,I1,ry,z,ey,q1⟩=>cE (ho pins s1 σ H1 (fun u H2=>u= .ref a/\H2=H1) I1 ⟨rfl,rfl⟩) fun u s2 ⟨uv,H2,I2,rx,e1,e2⟩=>?_
 subst ey e1 e2;obtain rfl:u=Value.ref a:=rx;obtain⟨hz,hd,vs,rel,dd⟩:=ok H2 s2.heap I2.w_;refine wpAny_in_of (m3 (k:=Sum.inr z) ry) hd dd.mapOf ?_;rw[<-(rel.val (Sum.inr z)).gG,u_,Option.isSome_map];refine⟨.bl _,H2,I2.tok _,rfl,?_⟩;simpa using q1
theorem J6{ks:List (Str × Int)}{p:Pos}{t:TE}(hu:X.A.units+1 < cLine)(hi:PE X i t)(g:lI X.prog X.w X.K X.mg x ks)(hg:Gl X x)(jz:(x==("__debug__":Str))=false:=by decide):PC X .NotIn i (.Name x p) (NU ks true t):=by
 obtain⟨a,ho,ok⟩:=uI (p:=p) g hg jz;intro pins s σ H Q I h;refine cE (hi pins s σ H _ I h) fun iv s1 ⟨y,H1,I1,ry,z,ey,q1⟩=>cE (ho pins s1 σ H1 (fun u H2=>u= .ref a/\H2=H1) I1 ⟨rfl,rfl⟩) fun u s2 ⟨uv,H2,I2,rx,e1,e2⟩=>?_
 subst ey e1 e2;obtain rfl:u=Value.ref a:=rx;obtain⟨hz,hd,vs,rel,dd⟩:=ok H2 s2.heap I2.w_;refine wpAny_notIn_of (m3 (k:=Sum.inr z) ry) hd dd.mapOf ?_;rw[<-(rel.val (Sum.inr z)).gG,u_,Option.isSome_map];refine⟨.bl _,H2,I2.tok _,rfl,?_⟩;simpa using q1
theorem CN{ks:List (Str × Int)}{d:D}{b:Bool}(h:Mp ks d= .ok b):∃x,d= .str x/\b=(ks.lookup x).isSome:=by
 unfold Mp at h;split at h
 .cases h;exact⟨_,rfl,rfl⟩
 .cases h
theorem Gb{ks:List (Str × Int)}{p pos:Pos}(hu:X.A.units+1 < cLine)(hi:QD X i f)(g:lI X.prog X.w X.K X.mg x ks)(hg:Gl X x)(jz:(x==("__debug__":Str))=false:=by decide)(hm:behindInMarks .In (.Name x p)=false:=by with_unfolding_all rfl):QD X (.Compare i [.In] [.Name x p] pos) (LQ ks f):=
 ⟨(KG (LW hu hi.1 g hg jz) hm).imp fun σ H Q ⟨Z,B,δ,d,E,hf,q⟩=>by
   obtain⟨d1,h1,h2⟩:=R.af hf;obtain⟨b,h3,h4⟩:=R.af h2;cases h4;obtain⟨z,rfl,rfl⟩:=CN h3;exact⟨Z,B,δ,_,E,h1,fun v H1 s1 r1=>⟨z,Rep.str.mp r1,q _ H1 s1 (by rw[Bool.false_bne];exact Rep.bl.mpr rfl)⟩⟩⟩
theorem Hi{ks:List (Str × Int)}{p pos:Pos}(hu:X.A.units+1 < cLine)(hi:QD X i f)(g:lI X.prog X.w X.K X.mg x ks)(hg:Gl X x)(jz:(x==("__debug__":Str))=false:=by decide)(hm:behindInMarks .NotIn (.Name x p)=false:=by with_unfolding_all rfl):QB X (.Compare i [.NotIn] [.Name x p] pos) (LV ks f):=
 ⟨(yV (J6 hu hi.1 g hg jz) hm).imp fun σ H Q ⟨Z,B,δ,b,E,hf,q⟩=>by
   obtain⟨d1,h1,h2⟩:=R.af hf;obtain⟨b,h3,h4⟩:=R.af h2;cases h4;obtain⟨z,rfl,rfl⟩:=CN h3;exact⟨Z,B,δ,_,E,h1,fun v H1 s1 r1=>⟨z,Rep.str.mp r1,_,rfl,by rw[Bool.true_bne];exact q H1 s1⟩⟩⟩
theorem xw{ks:List (Str × Int)}{p pos:Pos}(hi:QD X i f)(g:lI X.prog X.w X.K X.mg x ks)(hg:Gl X x)(hs:D3 i)(jz:(x==("__debug__":Str))=false:=by decide):QD X (.Subscript (.Name x p) i pos) (wW ks f):=⟨by
 obtain⟨a,ho,ok⟩:=uI (p:=p) g hg jz;intro pins s σ H Q I ⟨Z,B,δ,d,E,hf,q⟩;obtain⟨d1,h1,h2⟩:=R.af hf;have key:∃z n,d1= .str z/\ks.lookup z=some n/\d= .int n:=by
  split at h2
  .split at h2
   .rename_i e;cases h2;exact⟨_,_,rfl,e,rfl⟩
   .cases h2
  .cases h2
 obtain⟨z,n,rfl,hl,rfl⟩:=key;refine A8 PySem.F.slot_dict_getitem.lookup hs (cE (ho pins s σ H (fun u H2=>u= .ref a/\H2=H) I ⟨rfl,rfl⟩) fun u s1 ⟨uv,H1,I1,rx,e1,e2⟩=>?_)
 subst e1 e2;obtain rfl:u=Value.ref a:=rx;refine cE (hi.1 pins s1 σ H1 (fun v H'=>aM H1 H'/\Rep X.K B H' (.str z) v) I1 ⟨Z,B,δ,_,E,h1,fun v H' s1 r1=>⟨s1,r1⟩⟩) fun iv s2 ⟨y,H2,I2,ry,ss,r2⟩=>?_
 cases Rep.str.mp r2;obtain⟨hz,hd,vs,rel,dd⟩:=ok H2 s2.heap I2.w_;obtain⟨w',hw,Cn⟩:=kx.some_of (v:= .int n) (o:=valueAt vs (Sum.inr z)) (by rw[show some (V.int n)=iI (gK ks) (Sum.inr z) by rw[u_,hl];rfl];exact rel.val (Sum.inr z))
 refine⟨dd.typeIs,wpAny_getItem_of (m3 (k:=Sum.inr z) ry) dd.mapOf hw ?_⟩;exact⟨.int n,H2,I2.tok _,Cn,q _ H2 ss (Rep.int.mpr rfl)⟩⟩
end
end L2
namespace L3
open PySem PySem.Spec PyProof.Rows L2
section
variable {X:Cx} {cl:YH} {E:XK}
def jE(S:aP)(k:Nat):Option Nat:=match S[k]? with | some (.lst ds)=>some ds.length | some (.dct ay)=>some ay.length | _=>none
def zi(f:FX):FX:=fun δ S=>(f δ S).bind fun v S1=>match v with | .loc k=>(match jE S1 k with | some n=> .ok (.d (.int n)) S1 | none=> .no) | _=> .no
theorem FC{K:W.Frag}{ρ:P3}{H:Hp}{S:aP}(w:SW K cl ρ H S){k n:Nat}{a:Addr}(ha:ρ.r[k]? =some a)(h:jE S k=some n):(∃xs,H a=some (.lst xs)/\xs.length=n)\/∃ys,H a=some (.dK ys)/\ys.length=n:=by
 unfold jE at h;split at h
 .rename_i ds e;cases h;obtain⟨xs,e1,r⟩:=w.ob k a _ ha e;exact .inl ⟨xs,e1,r.length.symm⟩
 .rename_i ay e;cases h;obtain⟨ys,e1,e2,r⟩:=w.ob k a _ ha e;refine .inr ⟨ys,e1,?_⟩;have:=congrArg List.length e2
  rwa [List.length_map,List.length_map] at this
 .cases h
theorem oP{p pos:Pos}(he:PX X cl e f)(hg:Gl X "len")(hm:X.mg "len"=none)(hs:starEach [e] X.env=(false,eval e X.env) ::starEach [] X.env:=by rfl)(ko:(backTo pos (starEach [] X.env)).any (·.1)=false:=by rfl):PX X cl (.Call (.Name "len" p) [e] [] pos) (zi f):=⟨by
 have both:jY X (.builtin "len") (fun xs H Q=>(∃p ys,xs=[.ref p]/\(lj X.K H p ys\/oT X.K H p ys)/\Q (.int ys.length) H)\/(∃a ay,xs=[V.ref a]/\H a=some (.dK ay)/\Q (.int ay.length) H)):=fun pins s σ H xs us Q I r h=>h.elim (u7 pins s σ H xs us Q I r) (Bc pins s σ H xs us Q I r)
 refine(xO both hg hm boot_len (f_ he.1 i9 hs) (by decide) (by decide) hs ko).imp fun σ H Q ⟨ρ,S,δ,v,S',En,hf,q⟩=>?_
 obtain⟨v1,S1,h1,h2⟩:=R3.af hf;refine⟨ρ,S,δ,v1,S1,En,h1,fun u bz H1 p1 w1 r1=>?_⟩
 split at h2
 .rename_i k;split at h2
  .rename_i n hn;cases h2;unfold aW at r1;obtain⟨a,ha,rfl⟩:=r1;rcases FC w1 ha hn with⟨xs,e1,rfl⟩ | ⟨ys,e1,rfl⟩
   .exact .inl ⟨a,xs,rfl, .inl (lj.of e1),q _ bz H1 p1 w1 (by unfold aW;exact Rep.int.mpr rfl)⟩
   .exact .inr ⟨a,ys,rfl,e1,q _ bz H1 p1 w1 (by unfold aW;exact Rep.int.mpr rfl)⟩
  .cases h2
 .cases h2⟩
theorem wI{f:FX}{δ:DE}{S:aP}{Q:V3->aP->Prop}(h:W3 (f δ S) fun v S1=>∃k n,v= .loc k/\jE S1 k=some n/\Q (.d (.int n)) S1):W3 (zi f δ S) Q:=W3.bind (h.mono fun v S1 ⟨k,n,e,e1,q⟩=>by subst e;simp only[e1];exact W3.ok q)
def lF(f:FX):FB:=fun δ S=>(f δ S).bind fun v S1=>match v with | .loc k=>(match jE S1 k with | some n=> .ok (decide (n≠0)) S1 | none=> .no) | _=> .no
theorem ma{a:Expr}(ha:PX X cl a f)(he:∀whole,isTrue a X.env whole=(do let v <-whole;standAt a.pos;holding [v] (truthy v)):=by intro _;rfl):BR X cl a (lF f):=⟨(xq ha.1 he).imp fun σ H Q ⟨ρ,S,δ,b,S',En,hf,q⟩=>by
 obtain⟨v1,S1,h1,h2⟩:=R3.af hf;refine⟨ρ,S,δ,v1,S1,En,h1,fun u bz H1 p1 w1 r1=>?_⟩
 split at h2
 .rename_i k;split at h2
  .rename_i n hn;cases h2;unfold aW at r1;obtain⟨a,ha,rfl⟩:=r1;refine⟨_,?_,q bz H1 p1 w1⟩;rcases FC w1 ha hn with⟨xs,e1,rfl⟩ | ⟨ys,e1,rfl⟩
   .exact .inl ⟨xs,lj.of e1,by cases xs <;> simp⟩
   .exact .inr (.inr ⟨ys,e1,by cases ys <;> simp⟩)
  .cases h2
 .cases h2⟩
theorem rj{f:FX}{δ:DE}{S:aP}{Q:Bool->aP->Prop}(h:W3 (f δ S) fun v S1=>∃k n,v= .loc k/\jE S1 k=some n/\Q (decide (n≠0)) S1):W3 (lF f δ S) Q:=W3.bind (h.mono fun v S1 ⟨k,n,e,e1,q⟩=>by subst e;simp only[e1];exact W3.ok q)
def pY(v o:V3)(S:aP):Option (Option D):=match v,o with
 | .d x, .loc k=>(match rn x,S[k]? with | some key,some (.dct ay)=>some ((ay.find? fun kv=>decide (kv.1=key)).map (·.2)) | _,_=>none)
 | _,_=>none
def Ws(neg:Bool)(fa fb:FX):FX:=fun δ S=>(fa δ S).bind fun v S1=>(fb δ S1).bind fun o S2=>match pY v o S2 with | some r=> .ok (.d (.bl (neg !=r.isSome))) S2 | none=> .no
def yn(neg:Bool)(fa fb:FX):FB:=fun δ S=>(fa δ S).bind fun v S1=>(fb δ S1).bind fun o S2=>match pY v o S2 with | some r=> .ok (neg !=r.isSome) S2 | none=> .no
def EH(fo fi:FX):FX:=fun δ S=>(fo δ S).bind fun o S1=>(fi δ S1).bind fun v S2=>match pY v o S2 with | some (some d)=> .ok (.d d) S2 | _=> .no
theorem Ax{K:W.Frag}{B:List Addr}(key:Key):∀{ay:List (Key × D)} {ys:List (Key × V)},ys.map (·.1)=ay.map (·.1)->az K B H (ay.map (·.2)) (ys.map (·.2))->
 (iI ys key=none/\ay.find? (fun kv=>decide (kv.1=key))=none)\/∃v kv,iI ys key=some v/\ay.find? (fun kv=>decide (kv.1=key))=some kv/\Rep K B H kv.2 v
 | [],[],_,_=> .inl ⟨rfl,rfl⟩
 | [],_ ::_,e,_=>by simp at e
 | _ ::_,[],e,_=>by simp at e
 | (k1,d) ::ay,(k2,y) ::ys,e,r=>by
   obtain⟨e1,e2⟩:=List.cons.inj e;have e1:k2=k1:=e1;subst e1;obtain⟨z,zs,ez,r1,r2⟩:=r.bR;obtain⟨Xg,Xt⟩:=List.cons.inj ez;subst Xg Xt;unfold iI;by_cases h:k2=key
   .refine .inr ⟨_,(k2,d),?_,?_,r1⟩
    .rw [List.find?_cons_of_pos (by simpa using h)];rfl
    .rw [List.find?_cons_of_pos (by simpa using h)]
   .rw [List.find?_cons_of_neg (by simpa using h),List.find?_cons_of_neg (by simpa using h)]
    exact Ax key e2 r2
theorem yr{K:W.Frag}{ρ:P3}{S:aP}(w:SW K cl ρ H S){v o:V3}{r:Option D}{u y:V}(h:pY v o S=some r)(rv:aW K ρ H v y)(ro:aW K ρ H o u):∃a z,u= .ref a/\lC H a y z/\((z=none/\r=none)\/∃v d,z=some v/\r=some d/\Rep K ρ.b H d v):=by
 unfold pY at h;split at h
 .rename_i x k;split at h
  .rename_i key ay hk hS;cases h;unfold aW at ro rv;obtain⟨a,ha,rfl⟩:=ro;obtain⟨ys,e1,e2,q⟩:=w.ob k a _ ha hS;have:=xU hk rv;subst this;refine⟨a,_,rfl,lC.k (k:=key) e1,?_⟩;rcases Ax key e2 q with⟨z1,z2⟩ | ⟨v,kv,z1,z2,z3⟩
   .rw [z1,z2];exact .inl ⟨rfl,rfl⟩
   .rw [z1,z2];exact .inr ⟨v,kv.2,rfl,rfl,z3⟩
  .cases h
 .cases h
theorem uG{pos:Pos}(hu:X.A.units+1 < cLine)(ha:PX X cl a fa)(hb:PX X cl b fb)(hm:behindInMarks .In b=false:=by with_unfolding_all rfl):BR X cl (.Compare a [.In] [b] pos) (yn false fa fb):=⟨(yV (Ls hu ha.1 hb.1) hm).imp fun σ H Q ⟨ρ,S,δ,v,S',En,hf,q⟩=>by
 obtain⟨j,S1,h1,h2⟩:=R3.af hf;obtain⟨o,S2,h3,h4⟩:=R3.af h2;refine⟨ρ,S,δ,j,S1,En,h1,fun u1 bz H1 p1 w1 r1=>⟨bz,S1,δ,o,S2,En.to p1 w1,h3,fun u2 mP H2 p2 w2 r2=>?_⟩⟩
 split at h4
 .rename_i r hd;cases h4;obtain⟨ad,z,rfl,g,c⟩:=yr w2 hd (r1.pre p2) r2;refine⟨ad,z,rfl,g,_,rfl,?_⟩;have:=q mP H2 (p1.trans p2) w2;rcases c with⟨rfl,rfl⟩ | ⟨v,d,rfl,rfl,_⟩ <;> exact this
 .cases h4⟩
theorem G1{pos:Pos}(hu:X.A.units+1 < cLine)(ha:PX X cl a fa)(hb:PX X cl b fb)(hm:behindInMarks .NotIn b=false:=by with_unfolding_all rfl):BR X cl (.Compare a [.NotIn] [b] pos) (yn true fa fb):=⟨(yV (Bn hu ha.1 hb.1) hm).imp fun σ H Q ⟨ρ,S,δ,v,S',En,hf,q⟩=>by
 obtain⟨j,S1,h1,h2⟩:=R3.af hf;obtain⟨o,S2,h3,h4⟩:=R3.af h2;refine⟨ρ,S,δ,j,S1,En,h1,fun u1 bz H1 p1 w1 r1=>⟨bz,S1,δ,o,S2,En.to p1 w1,h3,fun u2 mP H2 p2 w2 r2=>?_⟩⟩
 split at h4
 .rename_i r hd;cases h4;obtain⟨ad,z,rfl,g,c⟩:=yr w2 hd (r1.pre p2) r2;refine⟨ad,z,rfl,g,_,rfl,?_⟩;have:=q mP H2 (p1.trans p2) w2;rcases c with⟨rfl,rfl⟩ | ⟨v,d,rfl,rfl,_⟩ <;> exact this
 .cases h4⟩
theorem Hf(hu:X.A.units+1 < cLine)(ho:PX X cl o fo)(hi:PX X cl i fi)(hs:D3 i):PX X cl (.Subscript o i pos) (EH fo fi):=⟨(Af hu ho.1 hi.1 hs).imp fun σ H Q ⟨ρ,S,δ,v,S',En,hf,q⟩=>by
 obtain⟨o,S1,h1,h2⟩:=R3.af hf;obtain⟨j,S2,h3,h4⟩:=R3.af h2;refine⟨ρ,S,δ,o,S1,En,h1,fun u1 bz H1 p1 w1 r1=>⟨bz,S1,δ,j,S2,En.to p1 w1,h3,fun u2 mP H2 p2 w2 r2=>?_⟩⟩
 split at h4
 .rename_i d hd;cases h4;obtain⟨ad,z,rfl,g,c⟩:=yr w2 hd r2 (r1.pre p2);rcases c with⟨_,e⟩ | ⟨v,d',rfl,e,r⟩
  .cases e
  .cases e;exact⟨ad,v,rfl,g,q _ mP H2 (p1.trans p2) w2 (by unfold aW;exact r)⟩
 .cases h4⟩
theorem uR{neg:Bool}{fa fb:FX}{δ:DE}{S:aP}{Q:Bool->aP->Prop}(h:W3 (fa δ S) fun v S1=>W3 (fb δ S1) fun o S2=>∃r,pY v o S2=some r/\Q (neg !=r.isSome) S2):W3 (yn neg fa fb δ S) Q:=W3.bind (h.mono fun v S1 h2=>W3.bind (h2.mono fun o S2 ⟨r,e,q⟩=>by simp only[e];exact W3.ok q))
theorem LI{fo fi:FX}{δ:DE}{S:aP}{Q:V3->aP->Prop}(h:W3 (fo δ S) fun o S1=>W3 (fi δ S1) fun v S2=>∃d,pY v o S2=some (some d)/\Q (.d d) S2):W3 (EH fo fi δ S) Q:=W3.bind (h.mono fun v S1 h2=>W3.bind (h2.mono fun o S2 ⟨r,e,q⟩=>by simp only[e];exact W3.ok q))
theorem DL{g:List V3->aP->R3 V3}{k j c:Nat}{p pos:Pos}(M:CH X.prog X.w X.K X.mg X.base cl k c x 0 g)(hr:dA j X.A)(Cj:k+1<=j)(hg:Gl X x)(jz:(x==("__debug__":Str))=false:=by decide):PX X cl (.Call (.Name x p) [] [] pos) (Fy c g dw):=by
 obtain⟨f,fd,ps,M,F,hm,hb⟩:=M;refine⟨(CT M F (hr.mono Cj) hg hm hb .nil z0 jz).imp fun σ H Q ⟨ρ,S,δ,v,S',En,hf,q⟩=>?_⟩
 obtain⟨vs,S1,h1,h2⟩:=R3.af hf;cases h1;obtain⟨v0,S2,h3,h4⟩:=R3.af h2;split at h4
 .cases h4;intro xa dx hx hdx qY;have hx1:upd H dx (.own xa) xa=none:=by rw[bj (fun z=>qY z.symm)];exact hx
  have sm:aM H (upd (upd H dx (.own xa)) xa (.ins (cl c) dx [])):=(ba hdx).trans (ba hx1);obtain⟨w2,p2⟩:=En.sw.new (a:=xa) (o:= .ins c []) sm hx ⟨dx,[],aX,rfl,aE.nil⟩;have rl:aW X.K (ρ.push xa) (upd (upd H dx (.own xa)) xa (.ins (cl c) dx [])) (.loc S.length) (.ref xa):=by
   unfold aW;exact⟨xa,by show(ρ.r++[xa])[_]? =_;rw [<-En.sw.len,List.getElem?_append_right (Nat.le_refl _),Nat.sub_self];rfl,rfl⟩
  exact⟨rfl,_,_,[.loc S.length], .d .cJ,_,w2,aE.cons rl aE.nil,h3,fun z zO H3 p3 w3 r3=>⟨by unfold aW Rep at r3;exact r3,q _ zO H3 (p2.trans p3) w3 (rl.pre p3)⟩⟩
 .cases h4
end
end L3
end
section
namespace L2
open PySem PySem.Spec PyProof.Rows
section
variable {X:Cx}
def Jj(f:FD):FD:=fun δ=>(f δ).bind fun d=>match d with | .str x=>R.aS (decide ((reprText x).length<=sizeLine)) (.ok (.str (reprText x))) | _=> .no
theorem Ey(h:QD X e f):QD X (.FormattedValue e 114 none pos) (Jj f):=⟨by
 intro pins s σ H Q I ⟨Z,B,δ,d,E,hf,q⟩;obtain⟨d1,h1,h2⟩:=R.af hf;refine wpAny_FormattedValue_repr (cE (h.1 pins s σ H (fun v H'=>aM H H'/\Rep X.K B H' d1 v) I ⟨Z,B,δ,d1,E,h1,fun v H' s1 r1=>⟨s1,r1⟩⟩) fun v s1 ⟨xv,H1,I1,r1,L5,e1⟩=>?_)
 split at h2
 .obtain⟨h3,h4⟩:=R.aN h2;cases h4;rw[Rep.str.mp e1] at r1;obtain⟨t,rfl⟩:=r1;have h3:=of_decide_eq_true h3;exact pyReprObj_str (formatField_str (fun t' tk=>⟨.str _,H1,I1.tok _,⟨_,rfl⟩,q _ H1 L5 (Rep.str.mpr rfl)⟩) h3) h3
 .cases h2⟩
end
end L2
end
section
namespace L3
open PySem PySem.Spec PyProof.Rows L2
section
variable {X:Cx} {cl:YH} {E:XK}
theorem wJ:yP X cl E [] dw:=⟨i9.imp fun σ H Q ⟨ρ,S,δ,En,z⟩=>by
 rcases z with⟨vs,S',hf,q⟩ | ⟨c,S',hf,q⟩
 .cases hf;exact q _ ρ H (Pre.refl ρ H) En.sw aE.nil
 .cases hf⟩
theorem jV(h:IW X cl E e f)(t:yP X cl E es g)(hs:starEach (e ::es) X.env=(false,eval e X.env) ::starEach es X.env:=by rfl):yP X cl E (e ::es) (bt f g):=
 ⟨(f_ h.1 t.1 hs).imp fun σ H Q ⟨ρ,S,δ,En,z⟩=>by
   refine⟨ρ,S,δ,En,?_⟩;rcases z with⟨v,S',hf,q⟩ | ⟨c,S',hf,q⟩
   .obtain⟨v1,S1,h1,h2⟩:=R3.af hf;obtain⟨vs,S2,h3,h4⟩:=R3.af h2;cases h4;exact .inl ⟨v1,S1,h1,fun u bz H1 p1 w1 r1=>⟨bz,S1,δ,En.to p1 w1, .inl ⟨vs,_,h3,fun us mP H2 p2 w2 r2=>q _ mP H2 (p1.trans p2) w2 (aE.cons (r1.pre p2) r2)⟩⟩⟩
   .rcases R3.fg hf with h1 | ⟨v1,S1,h1,h2⟩
    .exact .inr ⟨c,S',h1,q⟩
    .rcases R3.fg h2 with h3 | ⟨vs,S2,h3,h4⟩
     .exact .inl ⟨v1,S1,h1,fun u bz H1 p1 w1 r1=>⟨bz,S1,δ,En.to p1 w1, .inr ⟨c,S',h3,q.pre p1⟩⟩⟩
     .cases h4⟩
theorem Ab{x1 pos}(h:yP X cl E es g):IW X cl E (.Tuple es x1 pos) (wK g):=⟨(zw h.1).imp fun σ H Q ⟨ρ,S,δ,En,z⟩=>by
 refine⟨ρ,S,δ,En,?_⟩;rcases z with⟨v,S',hf,q⟩ | ⟨c,S',hf,q⟩
 .obtain⟨vs,S1,h1,h2⟩:=R3.af hf;obtain⟨hl,h3⟩:=R3.aN h2;cases h3;refine .inl ⟨vs,_,h1,fun us bz H1 p1 w1 r1=>⟨by rw[<-r1.length];exact of_decide_eq_true hl,fun p hp=>q _ bz _ (p1.trans (qM hp)) (w1.same (ba hp)) ?_⟩⟩
  refine ud (.inl ⟨fun ha=>?_, .inl aX⟩) (r1.pre (qM hp))
  obtain⟨o,ho⟩:=w1.bs p ha;rw[hp] at ho;cases ho
 .rcases R3.fg hf with h1 | ⟨vs,S1,h1,h2⟩
  .exact .inr ⟨c,S',h1,q⟩
  .unfold R3.aS at h2;split at h2 <;> cases h2⟩
theorem wV{o e:Expr}{fo f:FX}{apos a_ pos:Pos}(ho:PX X cl o fo)(he:IW X cl E e f)
 (hs:starEach [e] X.env=(false,eval e X.env) ::starEach [] X.env:=by rfl) (eh:(apos.endLine==a_.line)=true:=by rfl)
 (jo:((backTo a_ (starEach [e] X.env)).all (fun x=>!x.1) && (backToKw a_ (keywordEach [] X.env)).all (fun x=>x.1.isSome)
   && decide (([e]:List Expr).length+([]:List Keyword).length+(if([]:List Keyword).isEmpty then 0 else 1) < 30))=true:=by rfl)
 (sU:swapsWith (.Call (.Attribute o "append" apos) [e] [] a_) none pos.line X.env=pure false:=by rfl)
 (en:attributeBase o "append" X.env (eval o X.env)=eval o X.env:=by rfl) :
 IL X cl E (.Expr (.Call (.Attribute o "append" apos) [e] [] a_) pos) (kQ (tf fo) f):=by
 refine⟨(o5 (wR (X:=X) PySem.F.plainAttrs_list PySem.F.slot_list_append PySem.F.type_list_append mG ho.1 (f_ he.1 i9 hs) en jo eh hs) sU).imp fun D σ H ⟨ρ,S,δ,En,z⟩=>?_⟩
 have key:∃k S0 FF,fo δ S= .ok (.loc k) S0/\cM S0 k=some FF/\((∃v S1 ds,f δ S0= .ok (.d v) S1/\cM S1 k=some ds/\ds.length < sizeLine/\xS X.K cl ρ H D (S1.set k (.lst (ds++[v]))) (.nx δ))\/∃c S',f δ S0= .ex c S'/\z9 X.K cl E ρ H S' c):=by
  rcases z with⟨oo,S',hf,q⟩ | ⟨c,S',hf,q⟩
  .unfold kQ at hf;obtain⟨vo,S0,g1,g2⟩:=R3.af hf;split at g2
   .rename_i k;split at g2
    .cases g2
    .rename_i FF h0;obtain⟨v,S1,h1,h2⟩:=R3.af g2;split at h2
     .rename_i d;split at h2
      .rename_i ds h3;obtain⟨hl,h4⟩:=R3.aN h2;cases h4;exact⟨k,S0,FF,jm g1,h0, .inl ⟨d,S1,ds,h1,h3,of_decide_eq_true hl,q⟩⟩
      .cases h2
     .cases h2
   .cases g2
  .unfold kQ at hf;rcases R3.fg hf with g1 | ⟨vo,S0,g1,g2⟩
   .exact(nA g1).elim
   .split at g2
    .rename_i k;split at g2
     .cases g2
     .rename_i FF h0;rcases R3.fg g2 with h1 | ⟨v,S1,h1,h2⟩
      .exact⟨k,S0,FF,jm g1,h0, .inr ⟨c,S',h1,q⟩⟩
      .split at h2
       .split at h2
        .unfold R3.aS at h2;split at h2 <;> cases h2
        .cases h2
       .cases h2
    .cases g2
 obtain⟨k,S0,FF,g1,h0,z⟩:=key;refine⟨ρ,S,δ, .loc k,S0,En,g1,fun u Rl H0 p0 w0 r0=>?_⟩
 unfold aW at r0;obtain⟨a,a1,rfl⟩:=r0;obtain⟨RZ,x0,_⟩:=w0.ob k a _ a1 (ef h0);refine⟨.inl ⟨rfl,RZ,lj.of x0⟩,⟨Rl,S0,δ,En.to p0 w0,?_⟩⟩;rcases z with⟨d,S1,ds,h1,h3,hl,q⟩ | ⟨c,S',h1,q⟩
 .refine .inl ⟨.d d,S1,h1,fun y bz H1 p1 w1 r1=>?_⟩
  have b1:=p1.ext k a a1;obtain⟨xs,x1,x2⟩:=w1.ob k a _ b1 (ef h3);refine⟨a,xs,y,rfl,rfl,x1,by rw[<-x2.length];exact hl,?_⟩
  unfold aW at r1;obtain⟨w2,p2⟩:=w1.put (o:= .lst (ds++[d])) (u:= .lst (xs++[y])) b1 (w1.fz k a b1 (by rw[ef h3];intro h;cases h)) ⟨xs++[y],rfl,x2.append (az.cons r1 az.nil)⟩
  exact q σ bz _ (p0.trans (p1.trans p2)) (En.to (p0.trans (p1.trans p2)) w2)
 .exact .inr ⟨c,S',h1,q.pre p0⟩
section
variable {S:aP} {δ:DE} {Y:Nat->aP->Prop}
theorem sJ{f:FX}{g:FA}{Q:List V3->aP->Prop}(h:WE (f δ S) (fun v S1=>WE (g δ S1) (fun vs S2=>Q (v ::vs) S2) Y) Y):WE (bt f g δ S) Q Y:=WE.bind (h.mono (fun v S1 q=>WE.bind (q.mono (fun vs S2 q=>WE.ok q) fun _ _ q=>q)) fun _ _ q=>q)
theorem Di{Q:List V3->aP->Prop}(h:Q [] S):WE (dw δ S) Q Y:=WE.ok h
theorem IS{g:FA}{Q:V3->aP->Prop}(h:WE (g δ S) (fun vs S1=>vs.length<=sizeLine/\Q (xH vs) S1) Y):WE (wK g δ S) Q Y:=WE.bind (h.mono (fun vs S1 ⟨hl,q⟩=>by
 unfold R3.aS;rw[decide_eq_true hl];exact WE.ok q) fun _ _ q=>q)
theorem DY{fo f:FX}{k:Nat}{Q:Ou->aP->Prop}(h:W3 (fo δ S) fun o S0=>o= .loc k/\(∃ds,S0[k]? =some (.lst ds))/\WE (f δ S0) (fun v S1=>∃d ds,v= .d d/\S1[k]? =some (.lst ds)/\ds.length < sizeLine/\Q (.nx δ) (S1.set k (.lst (ds++[d])))) Y):WE (kQ (tf fo) f δ S) Q Y:=by
 unfold kQ;refine WE.bind (.inl (Dz (h.mono fun o S0 ⟨e,⟨FF,h0⟩,h⟩=>?_)))
 subst e;have e0:cM S0 k=some FF:=by unfold cM;rw [h0]
 simp only[e0];refine WE.bind (h.mono (fun v S1 ⟨d,ds,e1,e2,hl,q⟩=>?_) fun _ _ q=>q)
 subst e1;have e3:cM S1 k=some ds:=by unfold cM;rw [e2]
 simp only[e3];unfold R3.aS;rw[decide_eq_true hl];exact WE.ok q
end
end
end L3
end
section
namespace L3
open PySem PySem.Spec PyProof.Rows L2
section
variable {X:Cx} {cl:YH} {E:XK}
def U8(g:D->List D->R D)(fo:FX)(fs:FA):FX:=fun δ S=>(fo δ S).bind fun o S1=>match o with
 | .d (.str z)=>(fs δ S1).bind fun vs S2=>(match pG vs with | some ds=>(R3.of (g (.str z) ds) S2).bind fun d S=> .ok (.d d) S | none=> .no)
 | _=> .no
end
end L3
end
section
namespace L2
open PySem PySem.Spec PyProof.Rows Builtin Builtin.Str
section
variable {prog:Program} {w:World} {A:Around} {E:YC} {s:Shared} {x:Str} {t:Tok} {Q:YC}
theorem E4{y:Str}{u:Tok}(hy:(y.length==0)=false)
 (hq:∀l k,l.map (·.1)=Txt.split x y->Q (.ref s.heap.objs.size) {s with toks:=k,heap:=s.heap.push {cls:= .type "list",data:= .seq (strValues l).toArray}})
 (hsz:x.length<=sizeLine) (RH:(partsBetween x (occurrences x y 0 x.length (x.length+1)) y.length).length<=sizeLine) :
 wpAny (model prog w) A (call (.builtin "str.split") [.str x t, .str y u]) Q E s:=by
 cases h1:(decide (x.length < y.length) || decide (strKind x < strKind y))
 .cases hf:(occurrences x y 0 x.length (x.length+1)).isEmpty
  .refine call_meets F.slot_str_split (typeIs_str _ _ _) F.entry_str_split (F.args_str_split_2 _ _) (meets_str_split_sep x y t u h1 hy hf hsz RH) ?_;show wants Q E _ {s with toks:=_,heap:=s.heap.push {cls:= .type "list",data:= .seq (strsFrom s.toks (partsBetween x (occurrences x y 0 x.length (x.length+1)) y.length)).toArray}}
   rw[strsFrom_eq];exact hq (numbered s.toks _) _ ((numbered_texts _ _).trans ((if_neg (ne_true_of_eq_false h1)).trans (if_neg (ne_true_of_eq_false hf))).symm)
  .exact call_meets F.slot_str_split (typeIs_str _ _ _) F.entry_str_split (F.args_str_split_2 _ _) (meets_str_split_not_found x y t u h1 hy hf)
    (hq [(x,t)] s.toks ((if_neg (ne_true_of_eq_false h1)).trans (if_pos hf)).symm)
 .exact call_meets F.slot_str_split (typeIs_str _ _ _) F.entry_str_split (F.args_str_split_2 _ _) (meets_str_split_cannot_occur x y t u h1)
   (hq [(x,t)] s.toks (if_pos h1).symm)
def gp(x y:Str):List Str:=match occurrences x y 0 x.length 1 with
 | i ::_=>[strSub x 0 i,y,strSub x (i+y.length) x.length]
 | []=>[x,Str.empty,Str.empty]
theorem Ia{y:Str}{u:Tok}(hy:(y.length==0)=false)
 (hq:∀l k,l.map (·.1)=gp x y->Q (.ref s.heap.objs.size) {s with toks:=k,heap:=s.heap.push {cls:= .type "tuple",data:= .seq (strValues l).toArray}}) (hsz:x.length<=sizeLine) :
 wpAny (model prog w) A (call (.builtin "str.partition") [.str x t, .str y u]) Q E s:=by
 refine call_meets F.slot_str_partition (typeIs_str _ _ _) F.entry_str_partition (F.args_str_partition_2 _ _) (meets_str_partition x y t u hy hsz) ?_;show wants Q E _ _;unfold gp at hq;split
 .rename_i i r e;rw[e] at hq;exact hq [(strSub x 0 i,_),(y,u),(strSub x (i+y.length) x.length,_)] _ rfl
 .rename_i e;rw[e] at hq;exact hq [(x,t),(Str.empty,_),(Str.empty,_)] _ rfl
end
section
variable {X:Cx}
def nE(d:D)(ds:List D):R D:=match d,ds with
 | .str x,[.str y]=>R.aS (decide ((y.length==0)=false/\x.length<=sizeLine/\(Txt.split x y).length<=sizeLine/\(partsBetween x (occurrences x y 0 x.length (x.length+1)) y.length).length<=sizeLine)) (.ok (.lst ((Txt.split x y).map .str)))
 | _,_=> .no
def xB(d:D)(ds:List D):R D:=match d,ds with
 | .str x,[.str y]=>R.aS (decide ((y.length==0)=false/\x.length<=sizeLine)) (.ok (.tup ((gp x y).map .str)))
 | _,_=> .no
theorem pB:∀(l:List (Str × Tok)),Vals ((l.map (·.1)).map V.str) (strValues l)
 | []=> .nil
 | p ::l=> .cons ⟨p.2,rfl⟩ (pB l)
theorem m_split:Mw X "str.split" nE:=by
 intro pins s σ H B da d ds x xs v us I hb rx rxs ra rs hg;unfold nE at hg;split at hg
 .rename_i z y;obtain⟨h1,h2⟩:=R.aN hg;obtain⟨hy,hz,hn,hp⟩:=of_decide_eq_true h1;cases h2;rw[Rep.str.mp ra] at rx;obtain⟨t,rfl⟩:=rx;obtain⟨q,rfl,r⟩:=rs.one;rw[Rep.str.mp r] at rxs;obtain⟨u,rfl,ru⟩:=vals1 rxs;obtain⟨tu,rfl⟩:=ru;refine E4 hy (fun l k hl=>?_) hz hp
  have hf:H s.heap.objs.size=none:=I.hok.fresh (Nat.le_refl _);refine⟨.ref s.heap.objs.size,upd H s.heap.objs.size (.lst ((l.map (·.1)).map V.str)),I.laid (a:=s.heap.objs.size) (fun b o q=>Heap.get?_push_of_some _ q) (Nat.le_refl _) ⟨?_,strValues l,0,pB l,Heap.get?_push_size _ rfl⟩,rfl,ba hf,?_⟩
  .rw [List.length_map,hl];exact hn
  .rw [hl];refine Rep.lst.mpr ⟨_,_,rfl, .inl ⟨fun ha=>?_, .inl aX⟩,oQ _⟩
   obtain⟨o,ho⟩:=hb _ ha;rw[hf] at ho;cases ho
 .cases hg
theorem LC:Mw X "str.partition" xB:=by
 intro pins s σ H B da d ds x xs v us I hb rx rxs ra rs hg;unfold xB at hg;split at hg
 .rename_i z y;obtain⟨h1,h2⟩:=R.aN hg;obtain⟨hy,hz⟩:=of_decide_eq_true h1;cases h2;rw[Rep.str.mp ra] at rx;obtain⟨t,rfl⟩:=rx;obtain⟨q,rfl,r⟩:=rs.one;rw[Rep.str.mp r] at rxs;obtain⟨u,rfl,ru⟩:=vals1 rxs;obtain⟨tu,rfl⟩:=ru;refine Ia hy (fun l k hl=>?_) hz
  have hf:H s.heap.objs.size=none:=I.hok.fresh (Nat.le_refl _);refine⟨.ref s.heap.objs.size,upd H s.heap.objs.size (.tup ((l.map (·.1)).map V.str)),I.laid (a:=s.heap.objs.size) (fun b o q=>Heap.get?_push_of_some _ q) (Nat.le_refl _) ⟨?_,strValues l,pB l,_,Heap.get?_push_size _ rfl,rfl,0,rfl⟩,rfl,ba hf,?_⟩
  .rw [List.length_map,hl];have:(gp z y).length=3:=by unfold gp;split <;> rfl
   rw[this];decide
  .rw [hl];refine Rep.tup.mpr ⟨_,_,rfl, .inl ⟨fun ha=>?_, .inl aX⟩,oQ _⟩
   obtain⟨o,ho⟩:=hb _ ha;rw[hf] at ho;cases ho
 .cases hg
theorem uB{o e:Expr}{f:FD}{fs:ao->R (List D)}{apos a_:Pos}(ho:QD X o f)(ha:Eg X [e] fs)(en:attributeBase o "split" X.env (eval o X.env)=eval o X.env:=by rfl)(jo:((backTo a_ (starEach [e] X.env)).all (fun x=>!x.1) && (backToKw a_ (keywordEach [] X.env)).all (fun x=>x.1.isSome)
 && decide (([e]:List Expr).length+([]:List Keyword).length+(if([]:List Keyword).isEmpty then 0 else 1) < 30))=true:=by rfl) (eh:(apos.endLine==a_.line)=true:=by rfl) (hs:starEach [e] X.env=(false,eval e X.env) ::starEach [] X.env:=by rfl):QD X (.Call (.Attribute o "split" apos) [e] [] a_) (zc "str" nE f fs):=⟨DM F.plainAttrs_str F.slot_str_split F.type_str_split m_split ho.1 ha.1 (.inl rfl) en jo eh hs⟩
theorem tj{o e:Expr}{f:FD}{fs:ao->R (List D)}{apos a_:Pos}(ho:QD X o f)(ha:Eg X [e] fs)(en:attributeBase o "partition" X.env (eval o X.env)=eval o X.env:=by rfl)(jo:((backTo a_ (starEach [e] X.env)).all (fun x=>!x.1) && (backToKw a_ (keywordEach [] X.env)).all (fun x=>x.1.isSome)
 && decide (([e]:List Expr).length+([]:List Keyword).length+(if([]:List Keyword).isEmpty then 0 else 1) < 30))=true:=by rfl) (eh:(apos.endLine==a_.line)=true:=by rfl) (hs:starEach [e] X.env=(false,eval e X.env) ::starEach [] X.env:=by rfl):QD X (.Call (.Attribute o "partition" apos) [e] [] a_) (zc "str" xB f fs):=⟨DM F.plainAttrs_str F.slot_str_partition F.type_str_partition LC ho.1 ha.1 (.inl rfl) en jo eh hs⟩
end
end L2
end
section
namespace L2
open PySem PySem.Spec PyProof.Rows
section
variable {X:Cx}
def Vu(ay:List (Str × Int)):D:= .dct (ay.map fun p=>Sum.inr p.1) (ay.map fun p=> .int p.2)
def Yf(ay:List (Str × Int)):List (Key × V):=ay.map fun p=>((Sum.inr p.1:Key),V.int p.2)
end
end L2
namespace L3
open PySem PySem.Spec PyProof.Rows L2
def XO(l:List (Nat × Bool))(c:Nat):Option Bool:=l.lookup c
def VW(P:Nat->Bool->Prop):List (Nat × Bool)->Prop | []=>True | p ::l=>P p.1 p.2/\VW P l
def VX(P:Nat->Prop):List Nat->Prop | []=>True | c ::l=>P c/\VX P l
end L3
namespace L2
open PySem PySem.Spec PyProof.Rows
section
variable {X:Cx}
def O4(d:D)(ds:List D):R D:=match d,ds with
 | .lst es,[.str k]=>(match strs? es with | some ss=> .ok (.int (ss.count k:Nat)) | none=> .no)
 | _,_=> .no
end
section
variable {X:Cx}
def Ur(n:Nat)(t:Co):FT:=fun d δ=>match d with | .lst ds=>R.aS (decide (ds.length=n)) (t ds δ) | _=> .no
end
section
variable {X:Cx}
def T8(d e:D):R D:=match d,e with
 | .lst ds, .int k=>R.aS (decide (0<=k/\k < 1000000/\ds.length*k.toNat<=sizeLine)) (.ok (.lst (List.replicate k.toNat ds).flatten))
 | _,_=> .no
end
end L2
end
section
namespace L2
open PySem PySem.Spec PyProof.Rows
section
variable {X:Cx}
def Qi(d:D)(ds:List D):R D:=match d,ds with
 | .lst es,[.str k]=>(match strs? es with | some ss=>(match ss.findIdx? (·==k) with | some j=>R.aS (decide (j < 1000000)) (.ok (.int (j:Nat))) | none=> .no) | none=> .no)
 | _,_=> .no
end
end L2
end
section
namespace HT
open PySem PySem.Spec PyProof.Rows
section
variable {prog:Program} {w:World} {A:Around} {E:YC} {s:Shared}
theorem mS{t sl:Addr}{items:Array Value}{vl vu:Value}{lo hi:Option Int}{Q:YC}(ht:IsTup s.heap t items)(hs:s.heap.IsSliceOf sl vl vu .none)(pl:IsPart vl lo)(pu:IsPart vu hi)
 (h0:et items.size 0 lo=0) (h1:et items.size items.size hi=items.size)
 (h:Q (.ref t) s):wpAny (model prog w) A (getItem (.ref t) (.ref sl)) Q E s:=by
 obtain⟨os,hos,hcs,hds⟩:=id hs;have hTs:s.TypeIs (.ref sl) "slice":=⟨os,hos,hcs⟩;unfold getItem
 try with_reducible refine wpAny_holding ?_
 first | refine wpAny_bind (wpAny_pure ?_) | skip
 refine wpAny_bind (wpAny_sequenceKey ht.typeIs (by decide) ?_)
 refine wpAny_bind (wpAny_callSpecial?_slot (name:="__getitem__") ht.typeIs PyProof.Rows.slot_tuple_getitem
  (wpAny_call_entry PyProof.Rows.slot_tuple_getitem ht.typeIs entry_tuple_getitem ?_ (args_tuple_getitem _ _)))
 show wpAny _ _ (Builtin.Tuple.tupleItemsOf (.ref t) >>=_) _ _ s;refine wpAny_bind (tupleItemsOf_ ht ?_);refine wpAny_bind (wpAny_typeOf hTs ?_);rw[if_pos (by decide)]
 refine wpAny_bind (kh hs pl pu ?_);have hyes:(((et items.size 0 lo:Nat):Int)==0 && (1:Int)==1 && (et items.size items.size hi - et items.size 0 lo)==items.size)=true:=by
  rw[h0,h1];simp
 show wpAny _ _ (if(((et items.size 0 lo:Nat):Int)==0 && (1:Int)==1 && (et items.size items.size hi - et items.size 0 lo)==items.size)=true then _ else _) _ _ s
 rw[if_pos hyes];refine wpAny_bind ?_;unfold Builtin.Tuple.tupleIsExact;refine wpAny_bind (wpAny_typeOf ht.typeIs ?_);refine wpAny_pure ?_;rw[if_pos (by decide)]
 refine wpAny_bind (wpAny_rule ?_)
 first
  | exact wpAny_pure ⟨_,rfl,wpAny_pure h⟩
  | exact wpAny_bind (wpAny_pure (wpAny_pure ⟨_,rfl,wpAny_pure h⟩))
  | exact wpAny_bind (wpAny_pure ⟨_,rfl,wpAny_pure h⟩)
end
end HT
namespace L2
open PySem PySem.Spec PyProof.Rows
section
variable {X:Cx}
def QG(K:W.Frag):V->Option Int->Option Int->Hp->VK->Prop:=fun x lo hi H Q=>∃a xs,x= .ref a/\oT K H a xs/\HT.et xs.length 0 lo=0/\HT.et xs.length xs.length hi=xs.length/\Q (.ref a) H
theorem GP:HP X (QG X.K):=by
 intro pins s σ H x v vl vu lo hi sl Q I rx hs pl pu h;obtain⟨a,xs,rfl,hx,h0,h1,q⟩:=h;cases rx;obtain⟨its,r,ht,hz⟩:=I.tuple hx;have hlen:its.toArray.size=xs.length:=by rw[List.size_toArray];exact r.length.symm
 refine⟨"tuple",_,PyProof.Rows.slot_tuple_getitem.lookup,ht.typeIs,?_⟩;refine HT.mS ht hs pl pu (by rw[hlen];exact h0) (by rw[hlen];exact h1) ?_
 exact⟨.ref a,H,I,rfl,q⟩
def Ts(d:D)(lo hi:Option Int):R D:=match d with
 | .tup ds=> .ok (.tup (cutD ds lo hi))
 | _=> .no
def E6(f:FD)(fl fh:FO):FD:=fun δ=>(f δ).bind fun d=>(fl δ).bind fun lo=>(fh δ).bind fun hi=>Ts d lo hi
theorem uU{lo hi:Option Expr}{fl fh:FO}(he:QD X e f)(hl:QP X lo fl)(hh:QP X hi fh):QD X (.Subscript e (.Slice lo hi none p2) pos) (E6 f fl fh):=by
 refine⟨(xN (JO.or GP) he.1 hl.1 hh.1).imp fun σ H Q ⟨Z,B,δ,d,E,hf,q⟩=>?_⟩
 obtain⟨d1,h1,h2⟩:=R.af hf;obtain⟨l,h3,h4⟩:=R.af h2;obtain⟨h,h5,h6⟩:=R.af h4;refine⟨Z,B,δ,d1,E,h1,fun v1 H1 s1 r1=>⟨Z,B,δ,l,E.same s1,h3,fun H2 s2=>⟨Z,B,δ,h,(E.same s1).same s2,h5,fun H3 s3=>?_⟩⟩⟩
 have sA:aM H H3:=s1.trans (s2.trans s3);have sQ:=r1.same (s2.trans s3);unfold Ts at h6;split at h6
 .rename_i ds;cases h6;obtain⟨a,xs,rfl,ls,rs⟩:=Rep.tup.mp sQ;by_cases hz:HT.et xs.length 0 l=0/\HT.et xs.length xs.length h=xs.length
  .refine .inr ⟨a,xs,rfl,ls.sq,hz.1,hz.2,q _ _ sA ?_⟩;have:cutD ds l h=ds:=by
    unfold cutD;rw[rs.length,hz.1,hz.2,List.drop_zero,Nat.sub_zero,List.take_of_length_le (by rw[rs.length];exact Nat.le_refl _)]
   rw[this];exact sQ
  .refine .inl ⟨a,xs,rfl,ls.sq,hz,fun p hp=>q _ _ (sA.trans (ba hp)) (Rep.tup.mpr ⟨p,_,rfl, .inl ⟨fun ha=>?_,?_⟩,(wL rs l h).same (ba hp)⟩)⟩
   .obtain⟨o,ho⟩:=(E.same sA).bs p ha;rw[hp] at ho;cases ho
   .exact .of aX
 .cases h6
end
end L2
end
section
set_option maxHeartbeats 4000000
namespace NT
def mx(f:Nat->Nat)(w:List Nat):Nat:=(w.map f).foldl max 0
structure BA (f:Nat->Nat) (M:Nat) (bs:List Int):Prop where
 a:∀(z:Nat) (v:Int),bs[z]? =some v->v= -1\/(0<=v/\v+f z<=M)
def BB(f:Nat->Nat)(M:Nat)(bs:List Int)(n:Nat):Prop:=∃(z:Nat) (v:Int),z < n/\bs[z]? =some v/\0<=v/\(M:Int)<=v+f z
def Up(bs UO:List Int):Prop:=UO.length=bs.length/\∀(z:Nat) (v:Int),bs[z]? =some v->∃v',UO[z]? =some v'/\v<=v'
end NT
namespace NT
open PySem PySem.Spec PyProof.Rows L2 L3
structure Gt where
 k:Str
 w:List Nat
 s:Bool
def nN(z:Nat):D:= .int z
def wN(w:List Nat):D:= .tup (w.map nN)
def gN(g:Gt):D:= .tup [.str g.k,wN g.w, .bl g.s]
def iN(x:Str × Nat):D:= .tup [.str x.1, .int x.2]
def oN(x:Str × List Nat):D:= .tup [.str x.1,wN x.2]
structure Net where
 i:YD
 g:List Gt
 o:YE
def Net.d(n:Net):D:= .tup [.lst (n.i.map iN), .lst (n.g.map gN), .lst (n.o.map oN)]
def Net.first(n:Net):Nat:=(n.i.map (·.2)).sum
structure Ue (n:Nat) (w:List Nat):Prop where
 ne:w≠[]
 le:w.length<=3
 lt:∀z∈w,z < n
structure Net.Ok (n:Net):Prop where
 i1:1<=n.i.length
 i6:n.i.length<=6
 iw:∀x∈n.i,1<=x.2/\x.2<=3
 is:∀x∈n.i,iC 0 (.str x.1)
 g60:n.g.length<=60
 gw:∀(p:Nat) (g:Gt),n.g[p]? =some g->Ue (n.first+p) g.w
 gs:∀g∈n.g,iC 0 (.str g.k)
 o1:1<=n.o.length
 o6:n.o.length<=6
 ow:∀x∈n.o,Ue (n.first+n.g.length) x.2
 os:∀x∈n.o,iC 0 (.str x.1)
theorem vp:∀{l:YD},(∀x∈l,1<=x.2/\x.2<=3)->l.length<=(l.map (·.2)).sum/\(l.map (·.2)).sum<=3*l.length
 | [],_=>by simp
 | x ::l,h=>by
   have ih:=vp (l:=l) fun y hy=>h y (List.mem_cons_of_mem _ hy)
   have:=h x List.mem_cons_self;rw[List.map_cons,List.sum_cons,List.length_cons];omega
inductive Sm:Nat->D->Prop where
 | int (n:Nat) (i:Int):Sm n (.int i)
 | bl (n:Nat) (b:Bool):Sm n (.bl b)
 | str (n:Nat) (s:Str):Sm n (.str s)
 | lst {n:Nat} {ds:List D} (h:∀d∈ds,Sm n d) (hl:ds.length<=1000000):Sm (n+1) (.lst ds)
 | tup {n:Nat} {ds:List D} (h:∀d∈ds,Sm n d) (hl:ds.length<=1000000):Sm (n+1) (.tup ds)
theorem qJ{F G:FS}{δ:ao}{d:D}(h:F δ= .ok (.rt d)):bB F G δ= .ok (.rt d):=by unfold bB;rw [h];rfl
theorem zm{α:Type}{l:List α}{f:α->D}{i:Nat}{v:V3}(h:((l.map f).map V3.d)[i]? =some v):∃x,l[i]? =some x/\v= .d (f x):=by
 rw[List.getElem?_map,List.getElem?_map] at h;cases q:l[i]? with
 | none=>rw [q] at h;cases h
 | some x=>rw [q] at h;cases h;exact⟨x,rfl,rfl⟩
theorem kH{α:Type}{l:List α}{f:α->D}{i:Nat}{v:D}(h:(l.map f)[i]? =some v):∃x,l[i]? =some x/\v=f x:=by
 rw[List.getElem?_map] at h;cases q:l[i]? with
 | none=>rw [q] at h;cases h
 | some x=>rw [q] at h;cases h;exact⟨x,rfl,rfl⟩
theorem dv{α:Type}{t:FT}{c:ao->R Bool}{f:FD}{δ:ao}(a b:α->D):∀{xs:List α},(∀x∈xs,∃δ1,t (a x) δ= .ok δ1/\c δ1= .ok true/\f δ1= .ok (b x))->oB t c f δ (xs.map a)= .ok (xs.map b)
 | [],_=>rfl
 | x ::xs,h=>by
   obtain⟨δ1,h1,h2,h3⟩:=h x List.mem_cons_self;have ih:=dv (t:=t) (c:=c) (f:=f) (δ:=δ) a b (xs:=xs) fun y hy=>h y (List.mem_cons_of_mem _ hy)
   rw[List.map_cons];unfold oB;rw[h1,R.aH,h2,R.aH,if_pos rfl,h3,R.aH,ih];rfl
theorem nP{α:Type}{t:FT}{c:ao->R Bool}{f:FD}{δ:ao}(p:α->Bool)(a b:α->D):∀{xs:List α},(∀x∈xs,∃δ1,t (a x) δ= .ok δ1/\c δ1= .ok (p x)/\(p x=true->f δ1= .ok (b x)))->oB t c f δ (xs.map a)= .ok ((xs.filter p).map b)
 | [],_=>rfl
 | x ::xs,h=>by
   obtain⟨δ1,h1,h2,h3⟩:=h x List.mem_cons_self;have ih:=nP (t:=t) (c:=c) (f:=f) (δ:=δ) p a b (xs:=xs) fun y hy=>h y (List.mem_cons_of_mem _ hy)
   rw[List.map_cons];unfold oB;rw[h1,R.aH,h2,R.aH];cases e:p x with
   | true=>rw [if_pos rfl,h3 e,R.aH,ih,List.filter_cons,if_pos e];rfl
   | false=>rw [if_neg (by decide),ih,List.filter_cons,if_neg (by rw[e];decide)]
theorem qQ{n z:Nat}(h:z < n):Bk n (z:Int)=some z:=by
 unfold Bk;rw[if_pos (by omega),if_pos (by omega)]
 simp
theorem EE{α:Type}{xs:List α}{z:Nat}{x:α}(h:xs[z]? =some x):uF xs (z:Int)=some x:=by
 have hl:=(List.getElem?_eq_some_iff.mp h).1;unfold uF;rw[qQ hl];exact h
theorem cf{ds:List D}{z:Nat}{x:D}(h:ds[z]? =some x):cW (.lst ds) (.int z)= .ok x:=LF (EE h)
end NT
end
section
namespace MT
open PySem PySem.Spec PyProof.Rows L2 L3
abbrev M:=Nat->Bool
theorem QK{N:List Str}{F:FZ}{vs:List V3}{δ:DE}{S:aP}{QV:V3->aP->Prop}(e:dE N vs=δ)(h:W3 (F δ S) fun o S1=>∃cz,o= .nx cz/\QV (.d .cJ) S1):W3 (sT N F vs S) QV:=by
 subst e;exact W3.bind (h.mono fun _ _ ⟨_,e,q⟩=>by subst e;exact W3.ok q)
def Ta:Nat->M->Nat
 | 0,_=>0
 | N+1,f=>(if f 0 then 1 else 0)+2*Ta N (fun i=>f (i+1))
def mI(N:Nat)(f:M):D:= .int (Ta N f:Nat)
def one:M:=fun _=>true
def bI(b:Bool):D:= .int (if b then 1 else 0)
def Vl:List Bool->Nat
 | []=>0
 | b ::bs=>(if b then 1 else 0)+2*Vl bs
def nI(n:Nat):D:= .int (n:Int)
def kS:Nat->Str | 0=>"not" | 1=>"and" | 2=>"or" | 3=>"xor" | _=>"vote"
def ar:Nat->Nat | 0=>1 | 4=>3 | _=>2
theorem v7(k:Nat):ar k<=3:=by unfold ar;split <;> omega
def gv:Nat->List Bool->Bool
 | 0,[a]=>!a
 | 1,[a,b]=>a && b
 | 2,[a,b]=>a || b
 | 3,[a,b]=>a !=b
 | 4,[a,b,c]=>(a && b) || (a && c) || (b && c)
 | _,_=>false
def Te(ws:List M)(n:Nat):M:=ws.getD n fun _=>false
abbrev Gt:=Nat × List Nat × Bool
def dq(g:Gt):D:= .tup [.str (kS g.1), .tup (g.2.1.map nI), .bl g.2.2]
def xC(n:Nat)(g:Gt):Prop:=g.1<=4/\g.2.1.length=ar g.1/\∀w∈g.2.1,w < n
def inD(x:Str × Nat):D:= .tup [.str x.1,nI x.2]
def iE(x:Str × List Nat):D:= .tup [.str x.1, .tup (x.2.map nI)]
def cP(ins:YD)(gs:List Gt)(os:YE):D:= .tup [.lst (ins.map inD), .lst (gs.map dq), .lst (os.map iE)]
def jA(ins:YD):Nat:=(ins.map (·.2)).sum
def gF(g:Gt)(ws:List M):M:=fun p=>gv g.1 (g.2.1.map fun n=>Te ws n p)
def DI(bad:List Int)(b:M):Nat->List M->List M
 | 0,ws=>ws
 | n+1,ws=>DI bad b n ws++[fun p=>b p !=bad.contains ((DI bad b n ws).length:Int)]
def JY(ins:YD)(bits:List M)(bad:List Int):Nat->List M
 | 0=>[]
 | i+1=>match ins[i]?,bits[i]? with | some x,some b=>DI bad b x.2 (JY ins bits bad i) | _,_=>JY ins bits bad i
def OW(gs:List Gt)(turned:List Int)(w0:List M):Nat->List M
 | 0=>w0
 | i+1=>match gs[i]? with | some g=>OW gs turned w0 i++[fun p=>gF g (OW gs turned w0 i) p !=turned.contains (i:Int)] | none=>OW gs turned w0 i
structure Tc (ins:YD) (gs:List Gt) (os:YE):Prop where
 hi:ins.length < 100
 hw:∀x∈ins,x.2 < 100
 hg:gs.length < 1000
 g:∀(i:Nat) (x:Gt),gs[i]? =some x->xC (jA ins+i) x
 ho:os.length < 1000
 o:∀x∈os,x.2.length < 1000/\∀w∈x.2,w < jA ins+gs.length
def UR(ins:YD)(gs:List Gt)(bits:List M)(turned bad:List Int):List M:=OW gs turned (JY ins bits bad ins.length) gs.length
def tell(ws:List M)(x:Str × List Nat):List M:=x.2.map (Te ws)
def X7:List Bool->Bool × Bool
 | [a]=>(!a,a)
 | [a,b]=>(!(a || b),a && b)
 | [a,b,c]=>let v:=(a && b) || (a && c) || (b && c);(!v,v)
 | _=>(false,false)
def brk(safe:Bool)(x y:Bool × Bool):Bool:=if safe then(x.1 && y.2) || (x.2 && y.1) else(x.1 !=y.1) || (x.2 !=y.2)
def Wa:List Nat->Nat->YF
 | _,0=>[[]]
 | ps,s+1=>(List.range ps.length).flatMap fun a=>(Wa (ps.drop (a+1)) s).map (ps.getD a 0 ::·)
theorem u9:∀{l:List Nat} {m:Nat},(∀x∈l,x<=m)->l.sum<=l.length*m
 | [],_,_=>by simp
 | x ::l,m,h=>by
   have:=u9 (l:=l) (m:=m) fun y hy=>h y (List.mem_cons_of_mem _ hy)
   have h0:=h x List.mem_cons_self;rw[List.sum_cons,List.length_cons,Nat.add_mul];omega
end MT
end
section
set_option maxHeartbeats 1000000
namespace JT
open PySem PySem.Spec PyProof.Rows L2 L3 MT
def gB(g:Gt)(ws:List Bool):Bool:=gv g.1 (g.2.1.map fun n=>ws.getD n false)
def vq:List Gt->(Nat->Bool)->List Bool->List Bool
 | [],_,ws=>ws
 | g ::gs,T,ws=>vq gs (fun i=>T (i+1)) (ws++[gB g ws !=T 0])
def Ow(f:Nat->Nat)(g:Gt):Gt:=(g.1,g.2.1.map f,g.2.2)
def V5(f:Nat->Nat)(x:Str × List Nat):Str × List Nat:=(x.1,x.2.map f)
def Sh(f:Nat->Nat)(v ws:List Bool):Prop:=∀w,w < v.length->f w < ws.length/\ws.getD (f w) false=v.getD w false
def X6(p:Nat)(ws:List M):List Bool:=ws.map (· p)
def HJ:List (Str × Nat)->List Bool->List Bool
 | x ::ins,b ::bits=>List.replicate x.2 b++HJ ins bits
 | _,_=>[]
def DQ(k:Nat)(bad:Nat->Bool):List Bool->List Bool
 | []=>[]
 | b ::bs=>(b !=bad k) ::DQ (k+1) bad bs
def P4(ins:YD)(gs:List Gt)(bits:List Bool)(T bad:Nat->Bool):List Bool:=vq gs T (DQ 0 bad (HJ ins bits))
end JT
end
section
namespace JT
open PySem PySem.Spec PyProof.Rows L2 L3 MT
def xc(ws:List Bool)(ns:List Nat):List Bool:=ns.map fun n=>ws.getD n false
def CL(f:Nat->List Bool):List (Option Nat × Nat)->List Bool->List Bool
 | [],_=>[]
 | (some o,_) ::r,l=>f o++CL f r l
 | (none,w) ::r,l=>l.take w++CL f r (l.drop w)
def G5(f1:Nat->Nat)(os:Nat->List Nat):List (Option Nat × Nat)->Nat->List Nat
 | [],_=>[]
 | (some o,_) ::r,free=>(os o).map f1++G5 f1 os r free
 | (none,w) ::r,free=>List.range' free w++G5 f1 os r (free+w)
def rh:List (Option Nat × Nat)->Nat
 | []=>0
 | (some _,_) ::r=>rh r
 | (none,w) ::r=>w+rh r
def Qo(n1 l w:Nat):Nat:=if w < n1 then w else w+l
def TC(L:List Nat)(top w:Nat):Nat:=if w < L.length then L.getD w 0 else top+(w - L.length)
section
variable {gs1 Mz:List Gt} {φ:List (Option Nat × Nat)} {os:Nat->List Nat} {n1:Nat} {r1 rl:List Bool} {T:Nat->Bool}
def gJ(gs1 Mz:List Gt)(φ:List (Option Nat × Nat))(os:Nat->List Nat)(n1:Nat):List Gt:=
 gs1.map (Ow (Qo n1 (rh φ)))++Mz.map (Ow (TC (G5 (Qo n1 (rh φ)) os φ n1) (n1+rh φ+gs1.length)))
end
def Mg(bits:List Bool):List Bool:=bits.flatMap (List.replicate 3)
def T7:List Bool->Bool
 | [a,b,c]=>(a && b) || (a && c) || (b && c)
 | _=>false
def Uv:List Bool->Bool
 | [a,b,c]=>(a !=b) || (a !=c)
 | _=>false
def VI(xs ys:List Bool):List Bool:=List.zipWith (· !=·) xs ys
def lst(xs ys:List Bool):Bool:=T7 (VI xs ys)
def MC:List Bool->List Bool->Prop
 | [],r=>r=[]
 | b ::bs,r=>∃x y z r',r=x ::y ::z ::r'/\T7 [b !=x,b !=y,b !=z]=false/\MC bs r'
def no:Nat->Bool:=fun _=>false
structure VJ (c:Nat) (gs:List Gt) (os:YE):Prop where
 a:∀bits:List Bool,bits.length=c->∀x∈os,Uv (xc (vq gs no (Mg bits)) x.2)=false
 b:∀bits:List Bool,bits.length=c->∀i g,gs[i]? =some g->g.2.2=false->∀x∈os,lst (xc (vq gs no (Mg bits)) x.2) (xc (vq gs (fun j=>j==i) (Mg bits)) x.2)=false
 c:∀bits row:List Bool,bits.length=c->MC bits row->∀x∈os,lst (xc (vq gs no (Mg bits)) x.2) (xc (vq gs no row) x.2)=false
def AN(v:Nat->Bool):List (Option Nat × Nat)->List Bool->List Bool
 | [],_=>[]
 | (some o,_) ::r,l=>v o ::AN v r l
 | (none,_) ::r,l=>l.headD false ::AN v r l.tail
def many:List (Option Nat × Nat)->Nat
 | []=>0
 | (some _,_) ::r=>many r
 | (none,_) ::r=>many r+1
end JT
end
section
namespace JT
open PySem PySem.Spec PyProof.Rows L2 L3 MT
structure X1 (c1:Nat) (gs1 Mz:List Gt) (Oz Ph:YE) (φ:List (Option Nat × Nat)) (os:Nat->List Nat):Prop where
 h3:∀x∈φ,x.2=3
 g1:∀i g,gs1[i]? =some g->∀w∈g.2.1,w < 3*c1+i
 g2:∀i g,Mz[i]? =some g->∀w∈g.2.1,w < 3*φ.length+i
 o1:∀x∈Oz,x.2.length=3/\∀n∈x.2,n < 3*c1+gs1.length
 o2:∀x∈Ph,x.2.length=3/\∀n∈x.2,n < 3*φ.length+Mz.length
 ho:∀o w,(some o,w)∈φ->∃x∈Oz,x.2=os o
section
variable {c1:Nat} {gs1 Mz:List Gt} {Oz Ph UI:YE} {φ:List (Option Nat × Nat)} {os:Nat->List Nat}
abbrev T_(c1:Nat)(φ:List (Option Nat × Nat)):Nat->Nat:=Qo (3*c1) (rh φ)
abbrev Wv(c1:Nat)(gs1:List Gt)(φ:List (Option Nat × Nat))(os:Nat->List Nat):Nat->Nat:=TC (G5 (T_ c1 φ) os φ (3*c1)) (3*c1+rh φ+gs1.length)
def TV(c1:Nat)(gs1:List Gt)(Oz Ph UI:YE)(φ:List (Option Nat × Nat))(os:Nat->List Nat):Prop:=
 ∀x∈UI,(∃y∈Oz,x.2=y.2.map (T_ c1 φ))\/∃y∈Ph,x.2=y.2.map (Wv c1 gs1 φ os)
end
end JT
end
section
namespace JT
open PySem PySem.Spec PyProof.Rows L2 L3 MT
def Fx:Nat->List (List Bool)
 | 0=>[[]]
 | c+1=>(Fx c).flatMap fun b=>[b++[false],b++[true]]
def V9(c j:Nat):M:=fun p=>((Fx c).getD p []).getD j false
def VH(c:Nat):List M:=(List.range c).map (V9 c)
def IJ(c p:Nat):List Bool:=(Fx c).getD p []
def mz(f e:Nat):Nat->YF
 | 0=>[[]]
 | m+1=>(List.range' f (e - f)).flatMap fun w=>(mz ((w / 3+1)*3) e m).map (w ::·)
def Wi(f e:Nat):List Nat->Prop
 | []=>True
 | w ::B=>f<=w/\w < e/\Wi ((w / 3+1)*3) e B
def Q2(c:Nat)(gs:List Gt):List (List Nat × List Nat):=
 (gs.zipIdx.filter (fun x=>!x.1.2.2)).map (fun x=>(([]:List Nat),[x.2]))++(List.range' 1 c).flatMap fun m=>(mz 0 (3*c) m).map fun B=>(B,([]:List Nat))
def E5(c:Nat)(gs:List Gt)(p:Nat):List Bool:=vq gs no (Mg (IJ c p))
def K8(c:Nat)(gs:List Gt)(f:List Nat × List Nat)(p:Nat):List Bool:=vq gs (fun i=>f.2.contains i) (DQ 0 (fun n=>f.1.contains n) (Mg (IJ c p)))
def Ra(c:Nat)(gs:List Gt)(os:YE)(p:Nat):Bool:=os.any fun x=>Uv (xc (E5 c gs p) x.2)
def MQ(c:Nat)(gs:List Gt)(os:YE)(f:List Nat × List Nat)(p:Nat):Bool:=os.any fun x=>lst (xc (E5 c gs p) x.2) (xc (K8 c gs f p) x.2)
def Q0(c:Nat)(gs:List Gt)(os:YE):Option (List Nat × List Nat × Nat):=
 match (List.range (2 ^ c)).find? (Ra c gs os) with
 | some p=>some ([],[],p)
 | none=>(Q2 c gs).findSome? fun f=>((List.range (2 ^ c)).find? (MQ c gs os f)).map fun p=>(f.1,f.2,p)
end JT
end
section
namespace JT
open PySem PySem.Spec PyProof.Rows L2 L3 MT
theorem eM{a b:Nat}(h:0 < b):cR (nI a) (nI b)= .ok (nI (a % b)):=by
 show cR (.int a) (.int b)=_;rw[rR (by omega)];rfl
theorem mZ{a b:Nat}(h:0 < b)(h2:b < 1073741824):dh (nI a) (nI b)= .ok (nI (a / b)):=by
 show dh (.int a) (.int b)=_;rw[A5 (by omega) (by omega)];rfl
theorem lQ(a b:Nat):eu (nI a) (nI b)= .ok (nI (a+b)):=rfl
theorem CK{a b:Nat}(h:b<=a):Bx (nI a) (nI b)= .ok (nI (a - b)):=by
 show R.ok (D.int ((a:Int) - b))=R.ok (D.int ((a - b:Nat):Int));rw[Int.ofNat_sub h]
theorem M9{a b:Nat}(h:b < 1000000\/a < 1000000):k_ (nI a) (nI b)= .ok (nI (a*b)):=by
 show R.aS (decide _) (R.ok (D.int ((a:Int)*b)))=_;have hc:(-(2 ^ 64) < (a:Int)/\(a:Int) < 2 ^ 64)\/(-(2 ^ 64) < (b:Int)/\(b:Int) < 2 ^ 64):=by
  rcases h with h | h
  .exact .inr ⟨by omega,by omega⟩
  .exact .inl ⟨by omega,by omega⟩
 rw[bx _ hc];rfl
theorem y7(a b:Nat):qB (nI a) (nI b)= .ok (.bl (decide (a=b))):=by
 show R.ok (D.bl ((a:Int)==(b:Int)))=_;congr 2;by_cases h:a=b
 .rw [decide_eq_true h];exact beq_iff_eq.mpr (by omega)
 .rw [decide_eq_false h];exact beq_eq_false_iff_ne.mpr (by omega)
theorem GV(a b:Nat):Mt (nI a) (nI b)= .ok (.bl (decide (b < a))):=by
 show R.ok (D.bl (decide ((a:Int) > (b:Int))))=_;congr 2;by_cases h:b < a
 .rw [decide_eq_true h,decide_eq_true (by omega)]
 .rw [decide_eq_false h,decide_eq_false (by omega)]
theorem BC(a b:Nat):Lh (nI a) (nI b)= .ok (.bl (decide (a < b))):=by
 show R.ok (D.bl (decide ((a:Int) < (b:Int))))=_;congr 2;by_cases h:a < b
 .rw [decide_eq_true h,decide_eq_true (by omega)]
 .rw [decide_eq_false h,decide_eq_false (by omega)]
theorem Km(a b:Nat):Ld (nI a) (nI b)= .ok (.bl (decide (b<=a))):=by
 show R.ok (D.bl (decide ((a:Int)>=(b:Int))))=_;congr 2;by_cases h:b<=a
 .rw [decide_eq_true h,decide_eq_true (by omega)]
 .rw [decide_eq_false h,decide_eq_false (by omega)]
theorem Q7(a b:Nat):Px (nI a) (nI b)= .ok (.bl (decide (a<=b))):=by
 show R.ok (D.bl (decide ((a:Int)<=(b:Int))))=_;congr 2;by_cases h:a<=b
 .rw [decide_eq_true h,decide_eq_true (by omega)]
 .rw [decide_eq_false h,decide_eq_false (by omega)]
theorem Nu{a b:Nat}:AO [nI a,nI b]= .ok (nI (min a b)):=by
 show Dx [.int a, .int b]=_;unfold Dx;show R.ok (D.int (if(b:Int) < a then b else a))=_
 unfold nI;congr 2;split <;> omega
theorem iF{ds:List D}:gr [.lst ds]= .ok (nI ds.length):=rfl
theorem tU{f:FD}{δ:ao}{n:Nat}(h:f δ= .ok (nI n))(hn:n < 1000000):iJ f δ= .ok ((List.range n).map nI):=by
 rw[HQ h hn];unfold qD;congr 1;refine List.map_congr_left fun i _=>?_
 show D.int (0+(i:Int))=D.int (i:Int);rw[Int.zero_add]
def XI(T:List Nat):D:= .tup (T.map nI)
def Yj(r:Nat):Nat:=[1,2,3,4,0].getD (r % 5) 0
theorem MO{f:FD}{δ:ao}{k:Nat}(hk:k<=4)(h:f δ= .ok (.str (kS k))):Eu [((Sum.inr "not":Key),V.int 1),((Sum.inr "vote":Key),V.int 3)] f (eC (.int 2)) δ= .ok (nI (ar k)):=by
 unfold Eu;rw[h,R.aH]
 match k,hk with
 | 0,_=>rfl
 | 1,_=>rfl
 | 2,_=>rfl
 | 3,_=>rfl
 | 4,_=>rfl
end JT
end
section
namespace JT
open PySem PySem.Spec PyProof.Rows L2 L3 MT
end JT
end
section
namespace TX
open PySem PySem.Spec PyProof.Rows L2 Builtin Builtin.Str
abbrev SP:Str:=Str.ofString " "
abbrev NL:Str:=Str.ofString "\n"
abbrev CO:Str:=Str.ofString ":"
theorem Dp:SP=⟨#[32]⟩:=by decide+kernel
theorem xJ:NL=⟨#[10]⟩:=by decide+kernel
theorem uA:CO=⟨#[58]⟩:=by decide+kernel
def jn(c:Nat):List (List Nat)->List Nat
 | []=>[]
 | [x]=>x
 | x ::y ::r=>x++c ::jn c (y ::r)
theorem j8(c:Nat):∀l:List Str,(Str.join ⟨#[c]⟩ l).cps.toList=jn c (l.map fun s=>s.cps.toList)
 | []=>rfl
 | [x]=>rfl
 | x ::y ::r=>by
   show(x++(⟨#[c]⟩:Str)++Str.join ⟨#[c]⟩ (y ::r)).cps.toList=_;rw[fm,fm,j8 c (y ::r),List.append_assoc];rfl
theorem AY{c:Nat}:∀{x x' a b:List Nat},c ∉ x->c ∉ x'->x++c ::a=x'++c ::b->x=x'/\a=b
 | [],[],a,b,_,_,h=>by cases h;exact⟨rfl,rfl⟩
 | [],y ::ys,a,b,_,h2,h=>by
   have:c=y:=(List.cons.inj h).1;exact absurd (by rw[this];exact List.mem_cons_self) h2
 | y ::ys,[],a,b,h1,_,h=>by
   have:y=c:=(List.cons.inj h).1;exact absurd (by rw[this];exact List.mem_cons_self) h1
 | y ::ys,z ::zs,a,b,h1,h2,h=>by
   obtain⟨e1,e2⟩:=List.cons.inj h;obtain⟨e3,e4⟩:=AY (fun q=>h1 (List.mem_cons_of_mem _ q)) (fun q=>h2 (List.mem_cons_of_mem _ q)) e2
   exact⟨by rw[e1,e3],e4⟩
theorem EU{c:Nat}:∀{l l':YF},l≠[]->l'≠[]->(∀x∈l,c ∉ x)->(∀x∈l',c ∉ x)->jn c l=jn c l'->l=l'
 | [],_,h,_,_,_,_=>absurd rfl h
 | _,[],_,h,_,_,_=>absurd rfl h
 | [x],[y],_,_,_,_,e=>by rw[show x=y from e]
 | [x],y ::z ::r,_,_,h1,_,e=>by
   have e:x=y++c ::jn c (z ::r):=e;exact absurd (by rw[e];simp) (h1 x List.mem_cons_self)
 | y ::z ::r,[x],_,_,_,h2,e=>by
   have e:y++c ::jn c (z ::r)=x:=e;exact absurd (by rw[<-e];simp) (h2 x List.mem_cons_self)
 | x ::x2 ::r,y ::y2 ::s,_,_,h1,h2,e=>by
   obtain⟨e1,e2⟩:=AY (h1 x List.mem_cons_self) (h2 y List.mem_cons_self) (show x++c ::jn c (x2 ::r)=y++c ::jn c (y2 ::s) from e)
   rw[e1,EU (by simp) (by simp) (fun z hz=>h1 z (List.mem_cons_of_mem _ hz)) (fun z hz=>h2 z (List.mem_cons_of_mem _ hz)) e2]
theorem map_inj{α β:Type}{f:α->β}(hf:∀a b,f a=f b->a=b):∀{l l':List α},l.map f=l'.map f->l=l'
 | [],[],_=>rfl
 | [],_ ::_,h=>by cases h
 | _ ::_,[],h=>by cases h
 | a ::l,b ::l',h=>by
   obtain⟨e1,e2⟩:=List.cons.inj h;rw[hf a b e1,map_inj hf e2]
theorem r_{c:Nat}{l:List Str}(qY:l≠[])(hf:∀p∈l,c ∉ p.cps.toList):Txt.split (Str.join ⟨#[c]⟩ l) ⟨#[c]⟩=l:=by
 have h1:=StrLaws.join_split (Str.join ⟨#[c]⟩ l) ⟨#[c]⟩;have h2:=StrLaws.split_free (Str.join ⟨#[c]⟩ l) c;have h3:=split_pos (Str.join ⟨#[c]⟩ l) ⟨#[c]⟩;generalize Txt.split (Str.join ⟨#[c]⟩ l) ⟨#[c]⟩=m at h1 h2 h3;have h4:jn c (m.map fun s=>s.cps.toList)=jn c (l.map fun s=>s.cps.toList):=by rw[<-j8,<-j8,h1]
 refine map_inj (f:=fun s:Str=>s.cps.toList) (fun a b e=>jI e) (EU (c:=c) ?_ ?_ ?_ ?_ h4)
 .intro q;rw [List.map_eq_nil_iff] at q;rw [q] at h3;simp at h3
 .intro q;rw [List.map_eq_nil_iff] at q;exact qY q
 .intro x hx;obtain⟨s,hs,rfl⟩:=List.mem_map.mp hx;exact h2 s hs
 .intro x hx;obtain⟨s,hs,rfl⟩:=List.mem_map.mp hx;exact hf s hs
theorem wz{x:Str}{c:Nat}(h:x.length<=10000000):nE (.str x) [.str ⟨#[c]⟩]= .ok (.lst ((Txt.split x ⟨#[c]⟩).map .str)):=by
 have hz:sizeLine=16777216:=sizeLine_eq;have h1:=split_le x ⟨#[c]⟩;have h2:=StrLaws.occ_length_le x ⟨#[c]⟩ 0 x.length (x.length+1);unfold nE;refine bx _ ⟨rfl,by omega,by omega,?_⟩
 unfold partsBetween;rw[List.length_map,List.length_zip];simp;omega
abbrev lB:List Str:=[Str.ofString "in",Str.ofString "gate",Str.ofString "sure",Str.ofString "out",Str.ofString "not",Str.ofString "and",Str.ofString "or",Str.ofString "xor",Str.ofString "vote"]
def low(s:Str):Bool:=s.cps.toList.all fun c=>decide (97<=c/\c<=122)
def isNm(s:Str):Bool:=decide (1<=s.length) && (decide (s.length<=8) && (!lB.contains s && low s))
theorem cZ{s:Str}:isNm s=true↔1<=s.length/\s.length<=8/\s ∉ lB/\∀c∈s.cps.toList,97<=c/\c<=122:=by
 unfold isNm low;simp only[Bool.and_eq_true,decide_eq_true_eq,Bool.not_eq_true',List.all_eq_true];constructor
 .rintro⟨h1,h2,h3,h4⟩;refine⟨h1,h2,fun q=>?_,h4⟩
  have h5:=List.contains_iff_mem.mpr q;rw[h3] at h5;cases h5
 .rintro⟨h1,h2,h3,h4⟩;refine⟨h1,h2,?_,h4⟩;cases h:lB.contains s with
  | false=>rfl
  | true=>exact absurd (List.contains_iff_mem.mp h) h3
abbrev vW:Str:=Str.ofString "abcdefghijklmnopqrstuvwxyz"
theorem uq:vW.cps.toList=(List.range 26).map (97+·):=by decide+kernel
theorem zS{c:Nat}:c∈vW.cps.toList↔97<=c/\c<=122:=by
 rw[uq,List.mem_map];constructor
 .rintro⟨i,hi,rfl⟩;have:=List.mem_range.mp hi;omega
 .intro h;exact⟨c - 97,List.mem_range.mpr (by omega),by omega⟩
theorem KW(c:Nat):yK (.str ⟨#[c]⟩) (.str vW)= .ok (.bl (decide (97<=c/\c<=122))):=by
 show R.ok (D.bl (!(occurrences vW ⟨#[c]⟩ 0 vW.length 1).isEmpty))=_;rw[StrLaws.found_one];congr 2;by_cases h:97<=c/\c<=122
 .rw [decide_eq_true h,decide_eq_true (zS.mpr h)]
 .rw [decide_eq_false h,decide_eq_false fun q=>h (zS.mp q)]
theorem uu{x:Str}{c:Nat}(h:c ∉ x.cps.toList):gp x ⟨#[c]⟩=[x,Str.empty,Str.empty]:=by
 have h1:=StrLaws.found_one x c;rw[decide_eq_false h] at h1;unfold gp;cases ho:occurrences x ⟨#[c]⟩ 0 x.length 1 with
 | nil=>rfl
 | cons i r=>rw [ho] at h1;cases h1
theorem uk{x a b:Str}{c:Nat}(h:c ∉ a.cps.toList)(e:x=a++⟨#[c]⟩++b):gp x ⟨#[c]⟩=[a,⟨#[c]⟩,b]:=by
 have Cz:x.cps.toList=a.cps.toList++c ::b.cps.toList:=by rw[e,fm,fm,List.append_assoc];rfl
 have hL:x.length=a.length+(b.length+1):=by
  show x.cps.size=a.cps.size+(b.cps.size+1);rw[<-Array.length_toList,<-Array.length_toList,<-Array.length_toList,Cz];simp
 have hat:∀i,StrLaws.At x ⟨#[c]⟩ x.length i↔x.cps.toList[i]? =some c:=fun i=>StrLaws.subAt_one x c i
 unfold gp;have ha:x.cps.toList[a.length]? =some c:=by
  rw[Cz,List.getElem?_append_right (by show a.cps.toList.length<=a.cps.size;simp)]
  show(c ::b.cps.toList)[a.cps.size - a.cps.toList.length]? =_;simp
 rcases StrLaws.occ_head x ⟨#[c]⟩ 1 (Nat.le_refl _) with⟨_,h1⟩ | ⟨i,r,e1,h1,h2⟩
 .exact absurd ((hat _).mpr ha) (h1 _)
 .have hi:i=a.length:=by
   have h3:¬a.length < i:=fun q=>h2 _ q ((hat _).mpr ha)
   by_cases q:i < a.length
   .have h4:=(hat i).mp h1;rw[Cz,List.getElem?_append_left (by show i < a.cps.toList.length;rw [Array.length_toList];exact q)] at h4
    exact absurd (List.mem_of_getElem? h4) h
   .omega
  rw[e1,hi];have s1:strSub x 0 a.length=a:=jI (by
   show(x.cps.extract 0 a.length).toList=_;rw[Array.toList_extract,Cz];show(List.take (a.cps.size - 0) (List.drop 0 (a.cps.toList++_)))=_;simp)
  have s2:strSub x (a.length+(⟨#[c]⟩:Str).length) x.length=b:=jI (by
   show(x.cps.extract (a.length+1) x.length).toList=_;rw[Array.toList_extract,Cz,hL];show(List.take (a.cps.size+(b.cps.size+1) - (a.cps.size+1)) (List.drop (a.cps.size+1) (a.cps.toList++c ::b.cps.toList)))=_;rw[show a.cps.size+1=(a.cps.toList++[c]).length by simp,show a.cps.toList++c ::b.cps.toList=(a.cps.toList++[c])++b.cps.toList by simp,List.drop_left,List.take_of_length_le (by simp;omega)])
  simp only;rw[s1,s2]
abbrev Bm:List Str:=[Str.ofString "0",Str.ofString "1",Str.ofString "2",Str.ofString "3",Str.ofString "4",Str.ofString "5",Str.ofString "6",Str.ofString "7",Str.ofString "8",Str.ofString "9"]
def k7(w:Str):Bool:=isNm ((gp w CO).getD 0 Str.empty) && (((gp w CO).getD 1 Str.empty==Str.empty) || Bm.contains ((gp w CO).getD 2 Str.empty))
theorem zR{s:Str}(h:isNm s=true){c:Nat}(hc:c < 97\/122 < c):c ∉ s.cps.toList:=fun q=>by
 have:=(cZ.mp h).2.2.2 c q;omega
theorem IC(h:isNm s=true):k7 s=true:=by
 unfold k7;rw[uA,uu (zR h (by omega))]
 show(isNm s && (Str.empty==Str.empty || _))=true
 rw[h];rfl
theorem Lg{s f:Str}(h:isNm s=true)(hf:f∈Bm):k7 (s++CO++f)=true:=by
 unfold k7;rw[show gp (s++CO++f) CO=[s,CO,f] by rw[uA];exact uk (zR h (by omega)) rfl]
 show(isNm s && (_ || Bm.contains f))=true
 rw[h,List.contains_iff_mem.mpr hf,Bool.or_true];rfl
theorem EO(w c:Str):∃a b d,gp w c=[a,b,d]:=by
 unfold gp;split
 .exact⟨_,_,_,rfl⟩
 .exact⟨_,_,_,rfl⟩
abbrev F6:List (Str × Int):=[(Str.ofString "1",1),(Str.ofString "2",2),(Str.ofString "3",3)]
abbrev y6:List (Str × Int):=[(Str.ofString "not",1),(Str.ofString "and",2),(Str.ofString "or",2),(Str.ofString "xor",2),(Str.ofString "vote",3)]
def wd(ws:List Str)(i:Nat):Str:=ws.getD i Str.empty
def EK(ws:List Str):Bool:=decide (ws.length=3) && ((wd ws 0==Str.ofString "in") && (isNm (wd ws 1) && (F6.lookup (wd ws 2)).isSome))
def Eh(ws:List Str):Bool:=(decide (4<=ws.length) && [Str.ofString "gate",Str.ofString "sure"].contains (wd ws 0)) && ((isNm (wd ws 1) && (y6.lookup (wd ws 2)).isSome) && (decide (((ws.drop 3).length:Int)=(y6.lookup (wd ws 2)).getD 0) && (ws.drop 3).all k7))
def IZ(ws:List Str):Bool:=(decide (3<=ws.length) && ((wd ws 0==Str.ofString "out") && isNm (wd ws 1))) && (decide ((ws.drop 2).length<=3) && (ws.drop 2).all k7)
section
variable {f g:FD} {p q:ao->R Bool} {δ:ao} {a b:Bool}
theorem kD(h:p δ= .ok a)(h2:a=false->q δ= .ok b):wO p q δ= .ok (a || b):=by
 unfold wO;rw [h,R.aH];cases a with
 | true=>rfl
 | false=>rw [if_neg (by decide)];exact h2 rfl
theorem AV(h:p δ= .ok a)(h2:a=true->q δ= .ok b):wo p q δ= .ok (a && b):=by
 unfold wo;rw [h,R.aH];cases a with
 | true=>rw [if_pos rfl];exact h2 rfl
 | false=>rfl
theorem mD(h:f δ= .ok (.bl a))(h2:a=true->g δ= .ok (.bl b)):tF f g δ= .ok (.bl (a && b)):=by
 unfold tF;rw [Es h,R.aH];cases a with
 | true=>rw [if_pos rfl];exact h2 rfl
 | false=>rfl
theorem K1(h:f δ= .ok (.bl a))(h2:a=false->g δ= .ok (.bl b)):M3 f g δ= .ok (.bl (a || b)):=by
 unfold M3;rw [Es h,R.aH];cases a with
 | true=>rfl
 | false=>rw [if_neg (by decide)];exact h2 rfl
theorem Ac(h:p δ= .ok a):Bz p δ= .ok (!a):=by unfold Bz;rw [h];rfl
theorem mH(h:f δ= .ok (.bl a)):qy f δ= .ok a:=by unfold qy;rw [h];rfl
theorem zX{c:ao->R Bool}{G:FS}(h:c δ= .ok a)(h2:a=false->G δ= .ok (.rt (.bl b))):bB (vV c (fu (eC (.bl false))) om) G δ= .ok (.rt (.bl (!a && b))):=by
 cases a with
 | true=>exact NT.qJ (rF h rfl)
 | false=>exact aC (rW h rfl) (h2 rfl)
theorem ua{ws:List Str}{i:Nat}(h:i < ws.length):cW (.lst (ws.map .str)) (.int i)= .ok (.str (wd ws i)):=by
 refine NT.cf ?_;rw[List.getElem?_map,List.getElem?_eq_getElem h];unfold wd;rw[List.getD_eq_getElem?_getD,List.getElem?_eq_getElem h];rfl
theorem u0(x y:Str):qB (.str x) (.str y)= .ok (.bl (x==y)):=rfl
theorem KJ(x y:Str):A2 (.str x) (.str y)= .ok (.bl (!(x==y))):=rfl
theorem zp(x:Str)(ss:List Str):yK (.str x) (.tup (ss.map .str))= .ok (.bl (ss.contains x)):=by
 show((match strs? (ss.map D.str) with | some ss=>R.ok (ss.contains x) | none=> .no).bind _)=_
 rw[L2.strs_map];rfl
theorem zk(x:Str)(ss:List Str):yK (.str x) (.lst (ss.map .str))= .ok (.bl (ss.contains x)):=by
 show((match strs? (ss.map D.str) with | some ss=>R.ok (ss.contains x) | none=> .no).bind _)=_
 rw[L2.strs_map];rfl
theorem Kx(x:Str)(ss:List Str):ny (.str x) (.tup (ss.map .str))= .ok (.bl (!ss.contains x)):=by
 show((match strs? (ss.map D.str) with | some ss=>R.ok (ss.contains x) | none=> .no).bind _)=_
 rw[L2.strs_map];rfl
theorem Ds(x:Str)(ss:List Str):ny (.str x) (.lst (ss.map .str))= .ok (.bl (!ss.contains x)):=by
 show((match strs? (ss.map D.str) with | some ss=>R.ok (ss.contains x) | none=> .no).bind _)=_
 rw[L2.strs_map];rfl
theorem DB(bs:List Bool):Fd [.lst (bs.map D.bl)]= .ok (.bl (bs.all id)):=by
 show(match bls? (bs.map D.bl) with | some bs=>R.ok (D.bl (bs.all id)) | none=> .no)=_
 rw[zV]
theorem len_str{x:Str}(h:x.length<=10000000):gr [.str x]= .ok (MT.nI x.length):=by
 have hz:sizeLine=16777216:=sizeLine_eq;exact bx _ (by omega)
theorem qU{ds:List D}{k:Nat}(h:k<=ds.length):IA (.lst ds) (some (k:Int)) none= .ok (.lst (ds.drop k)):=by
 show R.ok (D.lst (L2.cutD ds (some (k:Int)) none))=_;unfold L2.cutD;rw[HT.oI,HT.r6,Nat.min_eq_left h,List.take_of_length_le (by rw[List.length_drop];omega)]
end
end TX
end
section
namespace TX
open PySem PySem.Spec PyProof.Rows L2 L3 MT
structure Dr where
 ins:YD
 gs:List Gt
 os:YE
 nm:List Str
 nu:List Str
def Dr.on(d:Dr):List Str:=d.os.map (·.1)
def vU(l:List Str):List (Key × D):=l.map fun n=>(Sum.inr n, .bl true)
def F8(k:Nat)(l:List Str):List (Key × D):=(l.zipIdx k).map fun p=>(Sum.inr p.1,nI p.2)
abbrev Mn(l:List Str):List (Key × D):=F8 0 l
theorem uH(l:List Str):(vU l).length=l.length:=by unfold vU;simp
theorem uD(k:Nat)(l:List Str):(F8 k l).length=l.length:=by unfold F8;simp
theorem D7(k:Nat)(y:Str)(l:List Str):F8 k (y ::l)=(Sum.inr y,nI k) ::F8 (k+1) l:=rfl
theorem AL(y x:Str):decide ((Sum.inr y:Key)=Sum.inr x)=(y==x):=by
 by_cases h:y=x
 .subst h;simp
 .rw [beq_eq_false_iff_ne.mpr h];exact decide_eq_false fun q=>h (Sum.inr.inj q)
theorem oW(x:Str):∀l:List Str,((vU l).find? fun kv=>decide (kv.1=Sum.inr x)).map (·.2)=if x∈l then some (.bl true) else none
 | []=>rfl
 | y ::l=>by
   show(((Sum.inr y,D.bl true) ::vU l).find? fun kv=>decide (kv.1=Sum.inr x)).map (·.2)=_
   rw[List.find?_cons];simp only[AL];by_cases h:y=x
   .subst h;simp
   .rw [beq_eq_false_iff_ne.mpr h];simp only;rw[oW x l];have:x∈y ::l↔x∈l:=by simp [Ne.symm h]
    simp only[this]
def idx(l:List Str)(x:Str):Option Nat:=l.findIdx? (·==x)
theorem rC(x:Str):∀(k:Nat) (l:List Str),((F8 k l).find? fun kv=>decide (kv.1=Sum.inr x)).map (·.2)=(idx l x).map fun i=>nI (k+i)
 | k,[]=>rfl
 | k,y ::l=>by
   rw[D7,List.find?_cons];simp only[AL];unfold idx;rw[List.findIdx?_cons];by_cases h:y=x
   .subst h;simp
   .rw [beq_eq_false_iff_ne.mpr h];simp only;rw[rC x (k+1) l];unfold idx;simp only[Bool.false_eq_true,if_false,Option.map_map];congr 1;funext i;show nI (k+1+i)=nI (k+(i+1));congr 1;omega
theorem CC{l:List Str}:(idx l x).isSome=l.contains x:=by
 unfold idx;rw[List.findIdx?_isSome];rw[Bool.eq_iff_iff,List.any_eq_true,List.contains_iff_mem];exact⟨fun⟨y,h1,h2⟩=>by rw[<-beq_iff_eq.mp h2];exact h1,fun h=>⟨x,h,beq_self_eq_true x⟩⟩
theorem AS{ay:List (Key × D)}{d:D}(h:((ay.find? fun kv=>decide (kv.1=Sum.inr x)).map (·.2))=none):nk ay (Sum.inr x) d=ay++[(Sum.inr x,d)]:=by
 unfold nk;rw[if_neg];intro q;obtain⟨kv,h1,h2⟩:=List.any_eq_true.mp q;have h3:ay.find? (fun kv=>decide (kv.1=Sum.inr x))=none:=by
  cases hf:ay.find? (fun kv=>decide (kv.1=Sum.inr x)) with
  | none=>rfl
  | some z=>rw [hf] at h;cases h
 exact absurd h2 (by have:=List.find?_eq_none.mp h3 kv h1;exact this)
theorem vA{l:List Str}(h:x ∉ l):nk (vU l) (Sum.inr x) (.bl true)=vU (l++[x]):=by
 rw[AS (by rw[oW,if_neg h])]
 unfold vU;simp
theorem Ak{l:List Str}(h:x ∉ l):nk (Mn l) (Sum.inr x) (nI l.length)=Mn (l++[x]):=by
 have h1:idx l x=none:=by
  have:=CC (l:=l) (x:=x);rw[show l.contains x=false by cases q:l.contains x with | false=>rfl | true=>exact absurd (List.contains_iff_mem.mp q) h] at this
  cases q:idx l x with
  | none=>rfl
  | some i=>rw [q] at this;cases this
 rw[AS (by rw[rC,h1];rfl)]
 show F8 0 l++_=F8 0 (l++[x]);unfold F8;rw[List.zipIdx_append,List.map_append];simp
def mQ:Nat->Str | 0=>Str.ofString "0" | 1=>Str.ofString "1" | _=>Str.ofString "2"
def pQ(x:Str)(w:Nat):List Str:=if w=1 then [x] else(List.range w).map fun f=>x++CO++mQ f
def base(w:Str):Str:=(gp w CO).getD 0 Str.empty
theorem ox(h:isNm x=true):base x=x:=by
 unfold base;rw[uA,uu (zR h (by omega))];rfl
theorem D9{x f:Str}(h:isNm x=true):base (x++CO++f)=x:=by
 unfold base;rw[show gp (x++CO++f) CO=[x,CO,f] by rw[uA];exact uk (zR h (by omega)) rfl];rfl
theorem lq(h:isNm x=true){w:Nat}:∀y∈pQ x w,base y=x:=fun y hy=>by
 unfold pQ at hy;split at hy
 .rw [List.mem_singleton.mp hy];exact ox h
 .obtain⟨f,_,rfl⟩:=List.mem_map.mp hy;exact D9 h
theorem Dc{a b:Nat}(ha:a < 3)(hb:b < 3)(h:mQ a=mQ b):a=b:=by
 match a,b,ha,hb with
 | 0,0,_,_=>rfl
 | 1,1,_,_=>rfl
 | 2,2,_,_=>rfl
 | 0,1,_,_=>exact absurd h (by decide+kernel)
 | 0,2,_,_=>exact absurd h (by decide+kernel)
 | 1,0,_,_=>exact absurd h (by decide+kernel)
 | 1,2,_,_=>exact absurd h (by decide+kernel)
 | 2,0,_,_=>exact absurd h (by decide+kernel)
 | 2,1,_,_=>exact absurd h (by decide+kernel)
theorem HH{a b c:Str}(h:a++b=a++c):b=c:=jI (by
 have:=congrArg (fun s:Str=>s.cps.toList) h
 simp only[fm] at this;exact List.append_cancel_left this)
theorem yY{w:Nat}(hw:w<=3):(pQ x w).Nodup:=by
 unfold pQ;split
 .simp
 .rw [List.nodup_iff_pairwise_ne,List.pairwise_map];refine(List.nodup_iff_pairwise_ne.mp (List.nodup_range (n:=w))).imp_of_mem ?_;intro a b ha hb qY e;exact qY (Dc (Nat.lt_of_lt_of_le (List.mem_range.mp ha) hw) (Nat.lt_of_lt_of_le (List.mem_range.mp hb) hw) (HH e))
theorem qP{w:Nat}:(pQ x w).length=w:=by
 unfold pQ;split
 .rename_i h;rw [h];rfl
 .simp
structure l7 (d:Dr):Prop where
 li:d.ins.length<=6
 lg:d.gs.length<=60
 lo:d.os.length<=6
 ln:d.nm.length<=66
 lw:d.nu.length<=78
 li3:d.nm.length=d.ins.length+d.gs.length
 lw3:d.nu.length<=3*d.ins.length+d.gs.length
 ok:∀n∈d.nm,isNm n=true
 bs:∀w∈d.nu,base w∈d.nm
 nd:d.nu.Nodup
def kZ(d:Dr)(x:Str)(w:Nat):Except Nat Dr:=
 if d.gs≠[]\/d.os≠[] then .error 4 else if x∈d.nm then .error 5 else if 6<=d.ins.length then .error 6 else .ok {d with ins:=d.ins++[(x,w)],nm:=d.nm++[x],nu:=d.nu++pQ x w}
def fF(nu:List Str):List Str->Option (List Nat)
 | []=>some []
 | w ::ws=>match idx nu w with | some i=>(fF nu ws).map (i ::·) | none=>none
def addGate(d:Dr)(x:Str)(k:Nat)(ws:List Str)(s:Bool):Except Nat Dr:=
 if d.os≠[] then .error 4 else if x∈d.nm then .error 5 else if 60<=d.gs.length then .error 6 else match fF d.nu ws with
 | none=> .error 7
 | some l=> .ok {d with gs:=d.gs++[(k,l,s)],nm:=d.nm++[x],nu:=d.nu++[x]}
def jf(d:Dr)(x:Str)(ws:List Str):Except Nat Dr:=
 if x∈d.on then .error 5 else if 6<=d.os.length then .error 6 else match fF d.nu ws with
 | none=> .error 7
 | some l=> .ok {d with os:=d.os++[(x,l)]}
def wG(w:Str):Nat:=([Str.ofString "not",Str.ofString "and",Str.ofString "or",Str.ofString "xor",Str.ofString "vote"].findIdx? (·==w)).getD 0
def I_(w:Str):Nat:=((F6.lookup w).getD 0).toNat
def gh(d:Dr)(ws:List Str):Except Nat Dr:=
 if EK ws=true then kZ d (wd ws 1) (I_ (wd ws 2))
 else if Eh ws=true then addGate d (wd ws 1) (wG (wd ws 2)) (ws.drop 3) (wd ws 0==Str.ofString "sure")
 else if IZ ws=true then jf d (wd ws 1) (ws.drop 2)
 else .error 3
def gm(d:Dr):List Str->Except Nat Dr
 | []=> .ok d
 | r ::rs=>match gh d (Txt.split r SP) with | .ok d'=>gm d' rs | .error c=> .error c
def d0:Dr:=⟨[],[],[],[],[]⟩
def t4(rows:List Str):Except Nat Dr:=
 if 80 < rows.length then .error 2 else match gm d0 rows with
 | .error c=> .error c
 | .ok d=>if d.ins=[]\/d.os=[] then .error 8 else .ok d
theorem Nq:l7 d0:=⟨by simp [d0],by simp [d0],by simp [d0],by simp [d0],by simp [d0],rfl,by simp [d0],by simp [d0],by simp [d0],by simp [d0]⟩
theorem E_(h:(F6.lookup w).isSome=true):1<=I_ w/\I_ w<=3/\F6.lookup w=some (I_ w:Int):=by
 obtain⟨n,hn⟩:=Option.isSome_iff_exists.mp h;unfold I_;rw[hn];have:n=1\/n=2\/n=3:=by
  unfold F6 at hn;simp only[List.lookup_cons,List.lookup_nil] at hn;split at hn
  .cases hn;exact .inl rfl
  .split at hn
   .cases hn;exact .inr (.inl rfl)
   .split at hn
    .cases hn;exact .inr (.inr rfl)
    .cases hn
 rcases this with rfl | rfl | rfl <;> exact⟨by decide,by decide,rfl⟩
theorem Fz(h:(y6.lookup w).isSome=true):kS (wG w)=w/\wG w<=4/\y6.lookup w=some ((ar (wG w):Nat):Int):=by
 obtain⟨n,hn⟩:=Option.isSome_iff_exists.mp h;unfold y6 at hn;simp only[List.lookup_cons,List.lookup_nil] at hn;split at hn
 .rename_i q;rw [beq_iff_eq.mp q];exact⟨by decide+kernel,by decide+kernel,by decide+kernel⟩
 .split at hn
  .rename_i q;rw [beq_iff_eq.mp q];exact⟨by decide+kernel,by decide+kernel,by decide+kernel⟩
  .split at hn
   .rename_i q;rw [beq_iff_eq.mp q];exact⟨by decide+kernel,by decide+kernel,by decide+kernel⟩
   .split at hn
    .rename_i q;rw [beq_iff_eq.mp q];exact⟨by decide+kernel,by decide+kernel,by decide+kernel⟩
    .split at hn
     .rename_i q;rw [beq_iff_eq.mp q];exact⟨by decide+kernel,by decide+kernel,by decide+kernel⟩
     .cases hn
theorem my{d:Dr}(D:l7 d)(hx:x ∉ d.nm)(hy:base y=x):y ∉ d.nu:=fun q=>hx (by rw[<-hy];exact D.bs y q)
theorem DO{d d':Dr}(D:l7 d){w:Nat}(hx:isNm x=true)(hw:w<=3)(h:kZ d x w= .ok d'):l7 d':=by
 unfold kZ at h;split at h
 .cases h
 .rename_i h1;split at h
  .cases h
  .rename_i h2;split at h
   .cases h
   .rename_i h3;cases h;have hg:d.gs=[]:=by
     cases q:d.gs with
     | nil=>rfl
     | cons a b=>exact absurd (.inl (by rw[q];simp)) h1
    have:=D.li;have:=D.lw3;have:=D.li3;have hl:(pQ x w).length=w:=qP;have hg0:d.gs.length=0:=by rw[hg];rfl
    refine⟨by simp;omega,D.lg,D.lo,by simp;omega,by simp;omega,by simp;omega,by simp;omega,fun n hn=>?_,fun y hy=>?_,?_⟩
    .rcases List.mem_append.mp hn with z | z
     .exact D.ok n z
     .rw [List.mem_singleton.mp z];exact hx
    .rcases List.mem_append.mp hy with z | z
     .exact List.mem_append_left _ (D.bs y z)
     .rw [lq hx y z];simp
    .exact List.nodup_append.mpr ⟨D.nd,yY hw,fun a ha b hb e=>my D h2 (lq hx b hb) (by rw[<-e];exact ha)⟩
theorem yF{d d':Dr}(D:l7 d){k:Nat}{ws:List Str}{s:Bool}(hx:isNm x=true)(h:addGate d x k ws s= .ok d'):l7 d':=by
 unfold addGate at h;split at h
 .cases h
 .split at h
  .cases h
  .rename_i h2;split at h
   .cases h
   .rename_i h3;split at h
    .cases h
    .rename_i l hl;cases h;have:=D.li;have:=D.lw3;have:=D.li3;have:=D.lg;refine⟨D.li,by simp;omega,D.lo,by simp;omega,by simp;omega,by simp;omega,by simp;omega,fun n hn=>?_,fun y hy=>?_,?_⟩
     .rcases List.mem_append.mp hn with z | z
      .exact D.ok n z
      .rw [List.mem_singleton.mp z];exact hx
     .rcases List.mem_append.mp hy with z | z
      .exact List.mem_append_left _ (D.bs y z)
      .rw [List.mem_singleton.mp z,ox hx];simp
     .exact List.nodup_append.mpr ⟨D.nd,by simp,fun a ha b hb e=>my D h2 (y:=b) (by rw[List.mem_singleton.mp hb];exact ox hx) (by rw[<-e];exact ha)⟩
theorem Bv{d d':Dr}(D:l7 d){ws:List Str}(h:jf d x ws= .ok d'):l7 d':=by
 unfold jf at h;split at h
 .cases h
 .split at h
  .cases h
  .rename_i h3;split at h
   .cases h
   .rename_i l hl;cases h;have:=D.lo;exact⟨D.li,D.lg,by simp;omega,D.ln,D.lw,D.li3,D.lw3,D.ok,D.bs,D.nd⟩
theorem GD{d d':Dr}(D:l7 d){ws:List Str}(h:gh d ws= .ok d'):l7 d':=by
 unfold gh at h;split at h
 .rename_i h1;unfold EK at h1;simp only[Bool.and_eq_true] at h1;exact DO D h1.2.2.1 (E_ h1.2.2.2).2.1 h
 .split at h
  .rename_i h1;unfold Eh at h1;simp only[Bool.and_eq_true] at h1;exact yF D h1.2.1.1 h
  .split at h
   .exact Bv D h
   .cases h
end TX
end
section
namespace TX
open PySem PySem.Spec PyProof.Rows L2 L3 MT JT
structure Lw (n:Nat) (s:Str):Prop where
 len:s.length<=n
 low:∀c∈s.cps.toList,97<=c/\c<=122
theorem Lw.mono{n m:Nat}(h:Lw n s)(hm:n<=m):Lw m s:=⟨Nat.le_trans h.len hm,h.low⟩
theorem Lw.app{n m:Nat}{a b:Str}(h:Lw n a)(h':Lw m b):Lw (n+m) (a++b):=⟨by rw[Str.length_append];have:=h.len;have:=h'.len;omega,fun c hc=>by
 rw[fm] at hc;rcases List.mem_append.mp hc with z | z
 .exact h.low c z
 .exact h'.low c z⟩
theorem Lw.slice{n:Nat}(h:Lw n a)(lo hi:Option Int):Lw n (Txt.slice a lo hi):=⟨Nat.le_trans (Txt.slice_le a lo hi) h.len,fun c hc=>by
 unfold Txt.slice at hc;split at hc
 .exact h.low c hc
 .rw [List.toList_toArray,List.mem_filterMap] at hc;obtain⟨i,_,e⟩:=hc;exact h.low c (by have:=Array.mem_of_getElem? e;simpa using this)⟩
theorem Ka(a:Str):(Txt.slice a none (some 8)).length<=8:=by
 by_cases h:8<=a.length
 .have:=StrLaws.sliceText_to (x:=a) (j:=8) ⟨by omega,by show(8:Int)<=(a.cps.toList.length:Int);rw [Array.length_toList];show(8:Int)<=(a.length:Int);omega⟩
  show(StrLaws.sliceText a none (some 8)).length<=8;rw[this];show(List.toArray _).size<=8;simp;omega
 .exact Nat.le_trans (Txt.slice_le a _ _) (by omega)
theorem Lw.nm(h:Lw 8 s)(h1:s≠Str.empty)(h2:s ∉ lB):isNm s=true:=by
 refine cZ.mpr ⟨?_,h.len,h2,h.low⟩;rcases Nat.lt_or_ge 0 s.length with q | q
 .exact q
 .exfalso
  refine h1 (jI ?_);have:s.cps.toList.length=0:=by rw[Array.length_toList];show s.length=0;omega
  rw[List.length_eq_zero_iff.mp this];rfl
theorem IH(h:isNm s=true):Lw 8 s:=⟨(cZ.mp h).2.1,(cZ.mp h).2.2.2⟩
def gE(i:Nat):Str:=⟨#[97+i]⟩
theorem oU:vW.length=26:=by decide+kernel
theorem oJ{i:Nat}(h:i < 26):cW (.str vW) (nI i)= .ok (.str (gE i)):=by
 have hz:sizeLine=16777216:=sizeLine_eq;refine KL (by rw[oU];omega) ?_
 rw[uq,KD (by omega) (by simp;omega)]
 simp [gE]
theorem A0{i:Nat}(h:i < 26):Lw 1 (gE i):=⟨Nat.le_refl _,fun c hc=>by
 have hc:c∈[97+i]:=hc;rw[List.mem_singleton] at hc;omega⟩
theorem NO{r:Nat}(h:r < 7):Lw 6 (Txt.mul (Str.ofString "x") r):=by
 match r,h with
 | 0,_=>exact⟨by decide+kernel,by decide+kernel⟩
 | 1,_=>exact⟨by decide+kernel,by decide+kernel⟩
 | 2,_=>exact⟨by decide+kernel,by decide+kernel⟩
 | 3,_=>exact⟨by decide+kernel,by decide+kernel⟩
 | 4,_=>exact⟨by decide+kernel,by decide+kernel⟩
 | 5,_=>exact⟨by decide+kernel,by decide+kernel⟩
 | 6,_=>exact⟨by decide+kernel,by decide+kernel⟩
theorem uO{sep:Str}{ss:List Str}(h:(ss.map (·.length)).sum+ss.length*sep.length<=16777216):j0 (.str sep) [.lst (ss.map .str)]= .ok (.str (Str.join sep ss)):=by
 unfold j0;simp only[L2.strs_map];rw[joinOk_of h];rfl
theorem N0{n m k:Nat}(ha:Lw n a)(hb:Lw m b)(hc:Lw k c):Lw (n+m+k) (Str.join (Str.ofString "") [a,b,c]):=by
 have he:Lw 0 (Str.ofString ""):=⟨by decide+kernel,by decide+kernel⟩
 have:Str.join (Str.ofString "") [a,b,c]=a++Str.ofString ""++(b++Str.ofString ""++c):=rfl;rw[this];exact((ha.app he).app ((hb.app he).app hc)).mono (by omega)
theorem Om{n:Nat}(h:Lw n s):PyData.strOk s=true:=by
 unfold PyData.strOk;rw[Array.all_eq_true'];intro c hc;have:=h.low c (by simpa using hc)
 simp;omega
theorem G8{ss:List Str}(h:∀s∈ss,PyData.strOk s=true):Cu (.lst (ss.map .str)) (.lst [])= .ok ss.isEmpty:=by
 have hp:∀ss:List Str,fV (ss.map .str)=true:=by
  intro ss
  induction ss with
  | nil=>unfold fV;rfl
  | cons s ss ih=>rw [List.map_cons];unfold fV;rw [ih];unfold cq;rfl
 have ht:∀ss:List Str,dY (ss.map .str)=ss.map PyData.str:=by
  intro ss
  induction ss with
  | nil=>unfold dY;rfl
  | cons s ss ih=>rw [List.map_cons,List.map_cons];unfold dY;rw [ih];unfold toPy;rfl
 have hl:∀ss:List Str,(∀s∈ss,PyData.strOk s=true)->PyData.canLayAll0 (ss.map PyData.str)=true:=by
  intro ss
  induction ss with
  | nil=>intro _;rfl
  | cons s ss ih=>intro h;rw [List.map_cons];unfold PyData.canLayAll0;rw [ih fun t ht=>h t (List.mem_cons_of_mem _ ht)];unfold PyData.canLay0;rw [h s List.mem_cons_self];rfl
 have hd:∀ss:List Str,PyData.depthAll (ss.map PyData.str)=0:=by
  intro ss
  induction ss with
  | nil=>rfl
  | cons s ss ih=>rw [List.map_cons];unfold PyData.depthAll;rw [ih];rfl
 have hsh:SeqAt.shaped (toPy (.lst (ss.map .str)))=true:=by
  unfold toPy SeqAt.shaped;rw[ht];unfold PyData.canLay0 PyData.depth;rw[hl ss h,hd];rfl
 have hpd:cq (.lst (ss.map .str))=true:=by unfold cq;exact hp ss
 have qY:Cu (.lst (ss.map .str)) (.lst [])=R.aS (cq (.lst (ss.map .str)) && cq (.lst []) && SeqAt.shaped (toPy (.lst (ss.map .str))) && SeqAt.shaped (toPy (.lst []))) (.ok (PyData.eqv (toPy (.lst (ss.map .str))) (toPy (.lst [])))):=rfl;rw[qY,hpd,hsh,show cq (.lst [])=true from rfl,show SeqAt.shaped (toPy (.lst []))=true from rfl]
 show R.ok _=_;unfold toPy;rw[ht];cases ss with
 | nil=>rfl
 | cons s ss=>rfl
theorem Hj{ss:List Str}(h:∀s∈ss,PyData.strOk s=true):A2 (.lst (ss.map .str)) (.lst [])= .ok (.bl (!ss.isEmpty)):=by
 unfold A2;rw [G8 h];rfl
def zW:List Str:=(List.range 80).map fun n=>⟨#[122,122,97+n / 26,97+n % 26]⟩
def XH:List Str:=(List.range 144).map fun n=>⟨#[121,97+n / 12,109+n % 12]⟩
theorem LG:∀s∈zW,isNm s=true:=by
 have:zW.all isNm=true:=by decide+kernel
 exact List.all_eq_true.mp this
def VM(s:Str):Nat:=s.cps.toList.foldl (fun a c=>a*128+c) 0
theorem Nl{l:List Str}(h:(l.map VM).Pairwise (· < ·)):l.Nodup:=by
 rw[List.pairwise_map] at h;exact h.imp fun {a b} hab e=>by rw[e] at hab;exact absurd hab (Nat.lt_irrefl _)
theorem Lq:zW.Nodup:=Nl (by decide+kernel)
theorem sj{sp ss:List Str}(hn:sp.Nodup)(h:ss.length < sp.length):∃w,(sp.filter fun s=>!ss.contains s)[0]? =some w/\w∈sp/\w ∉ ss:=by
 cases e:sp.filter fun s=>!ss.contains s with
 | cons w r=>
   have:=List.mem_filter.mp (show w∈sp.filter fun s=>!ss.contains s by rw[e];exact List.mem_cons_self)
   refine⟨w,rfl,this.1,fun q=>?_⟩
   have h2:=this.2;rw[List.contains_iff_mem.mpr q] at h2;cases h2
 | nil=>
   exfalso
   have:=Ez sp ss hn fun x hx=>by
    by_cases q:x∈ss
    .exact q
    .have:x∈sp.filter fun s=>!ss.contains s:=List.mem_filter.mpr ⟨hx,by simp [q]⟩
     rw[e] at this;cases this
   omega
theorem Kz{n:Nat}:Str.ofString "zz"++gE (n / 26)++gE (n % 26)=(⟨#[122,122,97+n / 26,97+n % 26]⟩:Str):=by
 apply jI;rw[fm,fm,show(Str.ofString "zz").cps.toList=[122,122] by decide+kernel]
 rfl
abbrev X0:Str:=Str.ofString "abcdefghijkl"
abbrev Yl:Str:=Str.ofString "mnopqrstuvwx"
structure TN (ins:YD) (gs:List Gt) (os:YE):Prop where
 i1:1<=ins.length
 i6:ins.length<=6
 iw:∀x∈ins,1<=x.2/\x.2<=3
 ind:(ins.map (·.1)).Nodup
 inm:∀x∈ins,isNm x.1=true
 g60:gs.length<=60
 gok:∀(i:Nat) (x:Gt),gs[i]? =some x->xC (jA ins+i) x
 o1:1<=os.length
 o6:os.length<=6
 ond:(os.map (·.1)).Nodup
 onm:∀x∈os,isNm x.1=true
 ow:∀x∈os,1<=x.2.length/\x.2.length<=3/\∀w∈x.2,w < jA ins+gs.length
end TX
end
section
namespace TX
open PySem PySem.Spec PyProof.Rows L2 L3 MT JT
structure GN (ins:YD) (n:Nat) (gn:List Str):Prop where
 len:gn.length=n
 nd:gn.Nodup
 nm:∀s∈gn,isNm s=true
 dis:∀s∈gn,s ∉ ins.map (·.1)
def gL(ins:YD):List Str:=ins.flatMap fun x=>pQ x.1 x.2
theorem fk:∀ins:YD,(gL ins).length=jA ins
 | []=>rfl
 | x ::ins=>by
   show(pQ x.1 x.2++gL ins).length=_;rw[List.length_append,qP,fk ins];rfl
theorem xE{ins:YD}(h:∀x∈ins,isNm x.1=true):∀y∈gL ins,base y∈ins.map (·.1):=fun y hy=>by
 obtain⟨x,hx,hy⟩:=List.mem_flatMap.mp hy;rw[lq (h x hx) y hy];exact List.mem_map_of_mem hx
theorem Fw:∀{ins:YD},(ins.map (·.1)).Nodup->(∀x∈ins,isNm x.1=true)->(∀x∈ins,1<=x.2/\x.2<=3)->(gL ins).Nodup
 | [],_,_,_=>List.nodup_nil
 | x ::ins,h1,h2,h3=>by
   obtain⟨h4,h5⟩:=List.nodup_cons.mp h1;refine List.nodup_append.mpr ⟨yY (h3 x List.mem_cons_self).2,Fw h5 (fun y hy=>h2 y (List.mem_cons_of_mem _ hy)) (fun y hy=>h3 y (List.mem_cons_of_mem _ hy)),fun a ha b hb e=>h4 ?_⟩
   show x.1∈_;rw[<-lq (h2 x List.mem_cons_self) a ha,e];exact xE (fun y hy=>h2 y (List.mem_cons_of_mem _ hy)) b hb
theorem wF{ins:YD}{gs:List Gt}{os:YE}{gn:List Str}(T:TN ins gs os){n:Nat}(G:GN ins n gn):(gL ins++gn).Nodup:=
 List.nodup_append.mpr ⟨Fw T.ind T.inm T.iw,G.nd,fun a ha b hb e=>G.dis b hb (by
  have:=xE T.inm a ha;rw[e,ox (G.nm b hb)] at this;exact this)⟩
theorem JL{l:List Str}(h:l.Nodup){i n:Nat}(hi:l[i]? =some x)(hn:i < n):idx (l.take n) x=some i:=by
 unfold idx;rw[List.findIdx?_eq_some_iff_getElem];have hl:=(List.getElem?_eq_some_iff.mp hi).1;have OE:i < (l.take n).length:=by rw[List.length_take];omega
 refine⟨OE,?_,fun j hj=>?_⟩
 .rw [List.getElem_take,(List.getElem?_eq_some_iff.mp hi).2];simp
 .rw [List.getElem_take];intro q;have q:=beq_iff_eq.mp q;have:l[j]? =some x:=by rw[List.getElem?_eq_getElem (by omega),q]
  have:=i_ h this hi;omega
def tx(W:List Str)(l:List Nat):List Str:=l.map fun w=>W.getD w Str.empty
theorem Fq{W:List Str}(h:W.Nodup){n:Nat}:∀{l:List Nat},(∀w∈l,w < n/\w < W.length)->fF (W.take n) (tx W l)=some l
 | [],_=>rfl
 | w ::l,hl=>by
   obtain⟨h1,h2⟩:=hl w List.mem_cons_self;show(match idx (W.take n) (W.getD w Str.empty) with | some i=>(fF (W.take n) (tx W l)).map (i ::·) | none=>none)=_
   rw[JL h (i:=w) (by rw[List.getD_eq_getElem?_getD,List.getElem?_eq_getElem h2];rfl) h1,Fq h fun y hy=>hl y (List.mem_cons_of_mem _ hy)]
   rfl
def wS:Nat->Str | 1=>Str.ofString "1" | 2=>Str.ofString "2" | _=>Str.ofString "3"
def uK(x:Str × Nat):List Str:=[Str.ofString "in",x.1,wS x.2]
def qz(W:List Str)(g:Gt)(n:Str):List Str:=[if g.2.2 then Str.ofString "sure" else Str.ofString "gate",n,kS g.1]++tx W g.2.1
def sS(W:List Str)(o:Str × List Nat):List Str:=[Str.ofString "out",o.1]++tx W o.2
def vR(ins:YD)(gs:List Gt)(os:YE)(gn:List Str):List (List Str):=ins.map uK++(gs.zip gn).map (fun p=>qz (gL ins++gn) p.1 p.2)++os.map (sS (gL ins++gn))
structure Wo (w:Str):Prop where
 len:w.length<=10
 cps:∀c∈w.cps.toList,33<=c/\c < 128
theorem xV(h:isNm s=true):Wo s:=⟨by have:=(cZ.mp h).2.1;omega,fun c hc=>by have:=(cZ.mp h).2.2.2 c hc;omega⟩
theorem K9{x:Str}(h:isNm x=true){f:Nat}:Wo (x++CO++mQ f):=by
 have h1:(mQ f).length=1/\∀c∈(mQ f).cps.toList,33<=c/\c < 128:=by
  match f with
  | 0=>exact⟨by decide+kernel,by decide+kernel⟩
  | 1=>exact⟨by decide+kernel,by decide+kernel⟩
  | n+2=>exact⟨by show(Str.ofString "2").length=1;decide+kernel,by show ∀c∈(Str.ofString "2").cps.toList,_;decide+kernel⟩
 refine⟨?_,fun c hc=>?_⟩
 .rw [Str.length_append,Str.length_append,h1.1];have:=(cZ.mp h).2.1;have:CO.length=1:=by decide+kernel
  omega
 .rw [fm,fm] at hc;rcases List.mem_append.mp hc with z | z
  .rcases List.mem_append.mp z with y | y
   .have:=(cZ.mp h).2.2.2 c y;omega
   .rw [uA] at y;have:c∈[58]:=y;rw[List.mem_singleton] at this;omega
  .exact h1.2 c z
theorem LM(h:isNm x=true){w:Nat}:∀y∈pQ x w,Wo y/\k7 y=true:=fun y hy=>by
 unfold pQ at hy;split at hy
 .rw [List.mem_singleton.mp hy];exact⟨xV h,IC h⟩
 .obtain⟨f,_,rfl⟩:=List.mem_map.mp hy;refine⟨K9 h,Lg h ?_⟩
  match f with
  | 0=>decide+kernel
  | 1=>decide+kernel
  | n+2=>show Str.ofString "2"∈Bm;decide+kernel
theorem Hd{ins:YD}{gs:List Gt}{os:YE}{gn:List Str}(T:TN ins gs os){n:Nat}(G:GN ins n gn):∀y∈gL ins++gn,Wo y/\k7 y=true:=fun y hy=>by
 rcases List.mem_append.mp hy with z | z
 .obtain⟨x,hx,hy⟩:=List.mem_flatMap.mp z;exact LM (T.inm x hx) y hy
 .exact⟨xV (G.nm y z),IC (G.nm y z)⟩
theorem uC{W:List Str}{l:List Nat}(h:∀w∈l,w < W.length):∀y∈tx W l,y∈W:=fun y hy=>by
 obtain⟨w,hw,rfl⟩:=List.mem_map.mp hy;rw[List.getD_eq_getElem?_getD,List.getElem?_eq_getElem (h w hw)];exact List.getElem_mem _
theorem pI{ws:List Str}(qY:ws≠[])(h:∀w∈ws,Wo w):Txt.split (Str.join SP ws) SP=ws:=by
 rw[Dp];exact r_ qY fun p hp q=>by have:=(h p hp).cps 32 q;omega
theorem IT(k:Nat):Wo (kS k)/\(y6.lookup (kS k)).isSome=true/\(k<=4->wG (kS k)=k/\y6.lookup (kS k)=some ((ar k:Nat):Int)):=by
 match k with
 | 0=>exact⟨⟨by decide+kernel,by decide+kernel⟩,by decide+kernel,fun _=>⟨by decide+kernel,by decide+kernel⟩⟩
 | 1=>exact⟨⟨by decide+kernel,by decide+kernel⟩,by decide+kernel,fun _=>⟨by decide+kernel,by decide+kernel⟩⟩
 | 2=>exact⟨⟨by decide+kernel,by decide+kernel⟩,by decide+kernel,fun _=>⟨by decide+kernel,by decide+kernel⟩⟩
 | 3=>exact⟨⟨by decide+kernel,by decide+kernel⟩,by decide+kernel,fun _=>⟨by decide+kernel,by decide+kernel⟩⟩
 | 4=>exact⟨⟨by decide+kernel,by decide+kernel⟩,by decide+kernel,fun _=>⟨by decide+kernel,by decide+kernel⟩⟩
 | n+5=>exact⟨⟨by show(Str.ofString "vote").length<=10;decide+kernel,by show ∀c∈(Str.ofString "vote").cps.toList,_;decide+kernel⟩,by show(y6.lookup (Str.ofString "vote")).isSome=true;decide+kernel,fun h=>by omega⟩
theorem Jn(w:Nat):Wo (wS w)/\(F6.lookup (wS w)).isSome=true/\(1<=w->w<=3->I_ (wS w)=w):=by
 match w with
 | 1=>exact⟨⟨by decide+kernel,by decide+kernel⟩,by decide+kernel,fun _ _=>by decide+kernel⟩
 | 2=>exact⟨⟨by decide+kernel,by decide+kernel⟩,by decide+kernel,fun _ _=>by decide+kernel⟩
 | 3=>exact⟨⟨by decide+kernel,by decide+kernel⟩,by decide+kernel,fun _ _=>by decide+kernel⟩
 | 0=>exact⟨⟨by show(Str.ofString "3").length<=10;decide+kernel,by show ∀c∈(Str.ofString "3").cps.toList,_;decide+kernel⟩,by show(F6.lookup (Str.ofString "3")).isSome=true;decide+kernel,fun h=>by omega⟩
 | n+4=>exact⟨⟨by show(Str.ofString "3").length<=10;decide+kernel,by show ∀c∈(Str.ofString "3").cps.toList,_;decide+kernel⟩,by show(F6.lookup (Str.ofString "3")).isSome=true;decide+kernel,fun _ h=>by omega⟩
theorem zB(s:Str)(h:(decide (s.length<=10) && s.cps.toList.all fun c=>decide (33<=c/\c < 128))=true):Wo s:=by
 rw[Bool.and_eq_true,List.all_eq_true] at h;exact⟨of_decide_eq_true h.1,fun c hc=>of_decide_eq_true (h.2 c hc)⟩
theorem yx{x:Str × Nat}(h:isNm x.1=true):∀w∈uK x,Wo w:=fun w hw=>by
 unfold uK at hw;simp only[List.mem_cons,List.not_mem_nil,or_false] at hw;rcases hw with rfl | rfl | rfl
 .exact zB _ (by decide+kernel)
 .exact xV h
 .exact(Jn x.2).1
theorem yR{W:List Str}{g:Gt}(h:isNm n=true)(hW:∀y∈W,Wo y)(hg:∀w∈g.2.1,w < W.length):∀w∈qz W g n,Wo w:=fun w hw=>by
 unfold qz at hw;rcases List.mem_append.mp hw with z | z
 .simp only[List.mem_cons,List.not_mem_nil,or_false] at z;rcases z with rfl | rfl | rfl
  .split <;> exact zB _ (by decide+kernel)
  .exact xV h
  .exact(IT g.1).1
 .exact hW w (uC hg w z)
theorem yB{W:List Str}{o:Str × List Nat}(h:isNm o.1=true)(hW:∀y∈W,Wo y)(hg:∀w∈o.2,w < W.length):∀w∈sS W o,Wo w:=fun w hw=>by
 unfold sS at hw;rcases List.mem_append.mp hw with z | z
 .simp only[List.mem_cons,List.not_mem_nil,or_false] at z;rcases z with rfl | rfl
  .exact zB _ (by decide+kernel)
  .exact xV h
 .exact hW w (uC hg w z)
theorem Gg{d:Dr}{x:Str × Nat}(h:isNm x.1=true)(hw:1<=x.2/\x.2<=3):gh d (uK x)=kZ d x.1 x.2:=by
 obtain⟨_,h2,h3⟩:=Jn x.2;have:EK (uK x)=true:=by
  show(decide _ && ((Str.ofString "in"==Str.ofString "in") && (isNm x.1 && (F6.lookup (wS x.2)).isSome)))=true;rw[h,h2];rfl
 unfold gh;rw[if_pos this];show kZ d x.1 (I_ (wS x.2))=_;rw[h3 hw.1 hw.2]
theorem zY{ws:List Str}(h:(w==Str.ofString "in")=false):EK (w ::ws)=false:=by
 show(decide _ && ((w==Str.ofString "in") && _))=false;rw[h];simp
theorem Gq{d:Dr}{W:List Str}{g:Gt}(h:isNm n=true)(hk:g.1<=4)(hl:g.2.1.length=ar g.1)(hW:∀y∈tx W g.2.1,k7 y=true):gh d (qz W g n)=addGate d n g.1 (tx W g.2.1) g.2.2:=by
 obtain⟨_,h2,h3⟩:=IT g.1;obtain⟨h3,h4⟩:=h3 hk;have h1:EK (qz W g n)=false:=by
  unfold qz;refine zY ?_;split <;> decide+kernel
 have hg0:[Str.ofString "gate",Str.ofString "sure"].contains (if g.2.2 then Str.ofString "sure" else Str.ofString "gate")=true:=by split <;> decide+kernel
 have ha:1<=ar g.1:=by unfold ar;split <;> omega
 have htl:(tx W g.2.1).length=ar g.1:=by unfold tx;rw [List.length_map,hl]
 have h5:Eh (qz W g n)=true:=by
  show((decide (4<=(qz W g n).length) && [Str.ofString "gate",Str.ofString "sure"].contains (if g.2.2 then Str.ofString "sure" else Str.ofString "gate")) && ((isNm n && (y6.lookup (kS g.1)).isSome) && (decide (((tx W g.2.1).length:Int)=(y6.lookup (kS g.1)).getD 0) && (tx W g.2.1).all k7)))=true
  rw[hg0,h,h2,h4,htl,List.all_eq_true.mpr hW,decide_eq_true (by unfold qz;simp [htl];omega:4<=(qz W g n).length)]
  simp
 unfold gh;rw[h1,if_neg (by decide),if_pos h5]
 show addGate d n (wG (kS g.1)) (tx W g.2.1) ((if g.2.2 then Str.ofString "sure" else Str.ofString "gate")==Str.ofString "sure")=_
 rw[h3];congr 1;cases g.2.2 <;> decide+kernel
theorem HG{d:Dr}{W:List Str}{o:Str × List Nat}(h:isNm o.1=true)(hl:1<=o.2.length/\o.2.length<=3)(hW:∀y∈tx W o.2,k7 y=true):gh d (sS W o)=jf d o.1 (tx W o.2):=by
 have htl:(tx W o.2).length=o.2.length:=by unfold tx;rw [List.length_map]
 have h1:EK (sS W o)=false:=zY (by decide+kernel)
 have h2:Eh (sS W o)=false:=by
  show((decide _ && [Str.ofString "gate",Str.ofString "sure"].contains (Str.ofString "out")) && _)=false;rw[show [Str.ofString "gate",Str.ofString "sure"].contains (Str.ofString "out")=false by decide+kernel];simp
 have h3:IZ (sS W o)=true:=by
  show((decide (3<=(sS W o).length) && ((Str.ofString "out"==Str.ofString "out") && isNm o.1)) && (decide ((tx W o.2).length<=3) && (tx W o.2).all k7))=true;rw[h,htl,List.all_eq_true.mpr hW,decide_eq_true (by unfold sS;simp [htl];omega:3<=(sS W o).length),decide_eq_true hl.2]
  simp
 unfold gh;rw[h1,if_neg (by decide),h2,if_neg (by decide),if_pos h3]
 rfl
theorem ke:∀(a b:List Str) (d:Dr),gm d (a++b)=match gm d a with | .ok d'=>gm d' b | .error c=> .error c
 | [],b,d=>rfl
 | r ::a,b,d=>by
   show(match gh d (Txt.split r SP) with | .ok d'=>gm d' (a++b) | .error c=> .error c)=_
   show _=(match (match gh d (Txt.split r SP) with | .ok d'=>gm d' a | .error c=>Except.error c) with | .ok d'=>gm d' b | .error c=> .error c)
   cases gh d (Txt.split r SP) with
   | error c=>rfl
   | ok d'=>exact ke a b d'
section
variable {ins:YD} {gs:List Gt} {os:YE} {gn:List Str}
theorem wD(hn:(ins.map (·.1)).Nodup)(hm:∀x∈ins,isNm x.1=true)(hw:∀x∈ins,1<=x.2/\x.2<=3)(h6:ins.length<=6):∀i,i<=ins.length->gm d0 ((ins.take i).map fun x=>Str.join SP (uK x))= .ok ⟨ins.take i,[],[],(ins.take i).map (·.1),gL (ins.take i)⟩
 | 0,_=>rfl
 | i+1,hi=>by
   obtain⟨x,hx⟩:∃x,ins[i]? =some x:=⟨_,List.getElem?_eq_getElem (by omega)⟩
   have hxm:=List.mem_of_getElem? hx;rw[List.take_add_one,hx,List.map_append,ke,wD hn hm hw h6 i (by omega)]
   show(match gh _ (Txt.split (Str.join SP (uK x)) SP) with | .ok d'=>gm d' [] | .error c=> .error c)=_
   rw[pI (by unfold uK;simp) (yx (hm x hxm)),Gg (hm x hxm) (hw x hxm)]
   have hx1:x.1 ∉ (ins.take i).map (·.1):=fun q=>by
    rw[List.map_take] at q;obtain⟨j,hj⟩:=List.getElem?_of_mem q;rw[List.getElem?_take] at hj;split at hj
    .rename_i hji;have:=i_ hn hj (show(ins.map (·.1))[i]? =some x.1 by rw[List.getElem?_map,hx];rfl)
     omega
    .cases hj
   have hl:(ins.take i).length=i:=by rw[List.length_take];omega
   unfold kZ;rw[if_neg (by simp),if_neg hx1,if_neg (by show ¬6<=(ins.take i).length;omega)]
   show Except.ok _=Except.ok _;congr 1;simp [gL]
theorem sx(T:TN ins gs os)(G:GN ins gs.length gn):∀i,i<=gs.length->gm ⟨ins,[],[],ins.map (·.1),gL ins⟩ (((gs.zip gn).take i).map fun p=>Str.join SP (qz (gL ins++gn) p.1 p.2))= .ok ⟨ins,gs.take i,[],ins.map (·.1)++gn.take i,(gL ins++gn).take (jA ins+i)⟩
 | 0,_=>by
   show Except.ok _=Except.ok _;rw[Nat.add_zero,<-fk,List.take_left];simp
 | i+1,hi=>by
   obtain⟨g,hg⟩:∃g,gs[i]? =some g:=⟨_,List.getElem?_eq_getElem (by omega)⟩
   have hgl:=G.len;obtain⟨n,hn⟩:∃n,gn[i]? =some n:=⟨_,List.getElem?_eq_getElem (by omega)⟩
   have hz:(gs.zip gn)[i]? =some (g,n):=by rw[List.getElem?_zip_eq_some];exact⟨hg,hn⟩
   have gok:=T.gok i g hg;have hWl:(gL ins++gn).length=jA ins+gs.length:=by rw[List.length_append,fk,hgl]
   have A_:∀w∈g.2.1,w < (gL ins++gn).length:=fun w hw=>by have:=gok.2.2 w hw;omega
   have hWo:=Hd T G;have Jz:=G.nm n (List.mem_of_getElem? hn);rw[List.take_add_one,hz,List.map_append,ke,sx T G i (by omega)]
   show(match gh _ (Txt.split (Str.join SP (qz (gL ins++gn) g n)) SP) with | .ok d'=>gm d' [] | .error c=> .error c)=_
   rw[pI (by unfold qz;simp) (yR Jz (fun y hy=>(hWo y hy).1) A_),Gq Jz gok.1 gok.2.1 fun y hy=>(hWo y (uC A_ y hy)).2]
   have hn1:n ∉ ins.map (·.1)++gn.take i:=fun q=>by
    rcases List.mem_append.mp q with z | z
    .exact G.dis n (List.mem_of_getElem? hn) z
    .obtain⟨j,hj⟩:=List.getElem?_of_mem z;rw[List.getElem?_take] at hj;split at hj
     .have:=i_ G.nd hj hn;omega
     .cases hj
   have hl:(gs.take i).length=i:=by rw[List.length_take];omega
   have:=T.g60;unfold addGate;rw[if_neg (by simp),if_neg hn1,if_neg (by show ¬60<=(gs.take i).length;omega),Fq (wF T G) fun w hw=>⟨gok.2.2 w hw,A_ w hw⟩]
   show Except.ok _=Except.ok _;congr 1;have e1:gs.take i++[(g.1,g.2.1,g.2.2)]=gs.take (i+1):=by rw[List.take_add_one,hg];rfl
   have e2:gn.take i++[n]=gn.take (i+1):=by rw[List.take_add_one,hn];rfl
   have e3:(gL ins++gn).take (jA ins+i)++[n]=(gL ins++gn).take (jA ins+(i+1)):=by
    rw[<-Nat.add_assoc,List.take_add_one,List.getElem?_append_right (by rw[fk];omega),fk,Nat.add_sub_cancel_left,hn];rfl
   rw[List.append_assoc,e1,e2,e3]
theorem t6(T:TN ins gs os)(G:GN ins gs.length gn):∀i,i<=os.length->gm ⟨ins,gs,[],ins.map (·.1)++gn,gL ins++gn⟩ ((os.take i).map fun o=>Str.join SP (sS (gL ins++gn) o))= .ok ⟨ins,gs,os.take i,ins.map (·.1)++gn,gL ins++gn⟩
 | 0,_=>rfl
 | i+1,hi=>by
   obtain⟨o,ho⟩:∃o,os[i]? =some o:=⟨_,List.getElem?_eq_getElem (by omega)⟩
   have hom:=List.mem_of_getElem? ho;obtain⟨o1,o2,o3⟩:=T.ow o hom;have hWl:(gL ins++gn).length=jA ins+gs.length:=by rw[List.length_append,fk,G.len]
   have A_:∀w∈o.2,w < (gL ins++gn).length:=fun w hw=>by have:=o3 w hw;omega
   have hWo:=Hd T G;rw[List.take_add_one,ho,List.map_append,ke,t6 T G i (by omega)]
   show(match gh _ (Txt.split (Str.join SP (sS (gL ins++gn) o)) SP) with | .ok d'=>gm d' [] | .error c=> .error c)=_
   rw[pI (by unfold sS;simp) (yB (T.onm o hom) (fun y hy=>(hWo y hy).1) A_),HG (T.onm o hom) ⟨o1,o2⟩ fun y hy=>(hWo y (uC A_ y hy)).2]
   have hn1:o.1 ∉ (os.take i).map (·.1):=fun q=>by
    rw[List.map_take] at q;obtain⟨j,hj⟩:=List.getElem?_of_mem q;rw[List.getElem?_take] at hj;split at hj
    .have:=i_ T.ond hj (show(os.map (·.1))[i]? =some o.1 by rw[List.getElem?_map,ho];rfl)
     omega
    .cases hj
   have hl:(os.take i).length=i:=by rw[List.length_take];omega
   have:=T.o6;unfold jf;rw[if_neg (show o.1 ∉ (Dr.mk ins gs (os.take i) (ins.map (·.1)++gn) (gL ins++gn)).on from hn1),if_neg (by show ¬6<=(os.take i).length;omega)]
   have hwn:fF (gL ins++gn) (tx (gL ins++gn) o.2)=some o.2:=by
    have:=Fq (wF T G) (n:=(gL ins++gn).length) (l:=o.2) fun w hw=>⟨A_ w hw,A_ w hw⟩
    rwa [List.take_length] at this
   simp only[hwn];show Except.ok _=Except.ok _;simp
theorem pk(T:TN ins gs os)(G:GN ins gs.length gn):t4 ((vR ins gs os gn).map (Str.join SP))= .ok ⟨ins,gs,os,ins.map (·.1)++gn,gL ins++gn⟩:=by
 have h1:=wD T.ind T.inm T.iw T.i6 ins.length (Nat.le_refl _);have h2:=sx T G gs.length (Nat.le_refl _);have h3:=t6 T G os.length (Nat.le_refl _);have hz:(gs.zip gn).length=gs.length:=by rw[List.length_zip,G.len];omega
 rw[List.take_length] at h1 h3;rw[List.take_of_length_le (by rw[hz];exact Nat.le_refl _),List.take_length,List.take_of_length_le (by rw[G.len];exact Nat.le_refl _),List.take_of_length_le (by rw[List.length_append,fk,G.len];exact Nat.le_refl _)] at h2
 have hl:((vR ins gs os gn).map (Str.join SP)).length<=80:=by
  unfold vR;simp only[List.length_map,List.length_append,hz];have:=T.i6;have:=T.g60;have:=T.o6;omega
 unfold t4;rw[if_neg (by omega)]
 have:(vR ins gs os gn).map (Str.join SP)=(ins.map fun x=>Str.join SP (uK x))++((gs.zip gn).map fun p=>Str.join SP (qz (gL ins++gn) p.1 p.2))++(os.map fun o=>Str.join SP (sS (gL ins++gn) o)):=by
  unfold vR;simp only[List.map_append,List.map_map];rfl
 rw[this,ke,ke,h1];simp only;rw[h2];simp only;rw[h3];simp only;rw[if_neg];rintro(q | q)
 .have:=T.i1;rw [q] at this;simp at this
 .have:=T.o1;rw [q] at this;simp at this
end
end TX
end
section
namespace TX
open PySem PySem.Spec PyProof.Rows L2 L3 MT JT
theorem sM{c:Nat}:∀{l:YF} {d:Nat},d∈jn c l->d=c\/∃x∈l,d∈x
 | [],d,h=>by cases h
 | [x],d,h=> .inr ⟨x,List.mem_cons_self,h⟩
 | x ::y ::r,d,h=>by
   rcases List.mem_append.mp h with z | z
   .exact .inr ⟨x,List.mem_cons_self,z⟩
   .rcases List.mem_cons.mp z with z | z
    .exact .inl z
    .rcases sM z with z | ⟨w,hw,z⟩
     .exact .inl z
     .exact .inr ⟨w,List.mem_cons_of_mem _ hw,z⟩
theorem EG{c:Nat}:∀(l:YF),(jn c l).length<=(l.map (·.length)).sum+l.length
 | []=>by simp [jn]
 | [x]=>by simp [jn]
 | x ::y ::r=>by
   have:=EG (c:=c) (y ::r);show(x++c ::jn c (y ::r)).length<=_;rw[List.length_append,List.length_cons,List.map_cons,List.sum_cons,List.length_cons];omega
theorem Av(s:Str):s.length=s.cps.toList.length:=by rw[Array.length_toList];rfl
theorem wy{c:Nat}{l:List Str}{m:Nat}(h:∀s∈l,s.length<=m):(Str.join ⟨#[c]⟩ l).length<=l.length*(m+1):=by
 rw[Av,j8];have h1:=EG (c:=c) (l.map fun s=>s.cps.toList)
 have h2:=u9 (l:=(l.map fun s=>s.cps.toList).map (·.length)) (m:=m) fun x hx=>by
  obtain⟨y,hy,rfl⟩:=List.mem_map.mp hx;obtain⟨s,hs,rfl⟩:=List.mem_map.mp hy;rw[<-Av];exact h s hs
 rw[List.length_map,List.length_map] at h2;rw[List.length_map] at h1;rw[Nat.mul_add,Nat.mul_one];omega
theorem wX{c d:Nat}{l:List Str}(h:d∈(Str.join ⟨#[c]⟩ l).cps.toList):d=c\/∃s∈l,d∈s.cps.toList:=by
 rw[j8] at h;rcases sM h with z | ⟨x,hx,z⟩
 .exact .inl z
 .obtain⟨s,hs,rfl⟩:=List.mem_map.mp hx;exact .inr ⟨s,hs,z⟩
structure Ro (r:Str):Prop where
 len:r.length<=110
 cps:∀c∈r.cps.toList,32<=c/\c < 128
theorem qR{ws:List Str}(hl:ws.length<=10)(h:∀w∈ws,Wo w):Ro (Str.join SP ws):=by
 rw[Dp];refine⟨?_,fun c hc=>?_⟩
 .have:=wy (c:=32) (m:=10) fun w hw=>(h w hw).len
  omega
 .rcases wX hc with z | ⟨w,hw,z⟩
  .omega
  .have:=(h w hw).cps c z;omega
section
variable {rs:List Str}
theorem sL(h0:rs≠[])(h:∀r∈rs,Ro r):Txt.split (Str.join NL rs) NL=rs:=by
 rw[xJ];exact r_ h0 fun r hr hc=>by have:=(h r hr).cps 10 hc;omega
theorem DP(WM:rs.length<=5000)(h:∀r∈rs,Ro r):(Str.join NL rs).length<=600000:=by
 rw[xJ];have:=wy (c:=10) (m:=110) fun r hr=>(h r hr).len
 omega
theorem ER(h:∀r∈rs,Ro r):∀c∈(Str.join NL rs).cps.toList,c < 128:=fun c hc=>by
 rw[xJ] at hc;rcases wX hc with z | ⟨w,hw,z⟩
 .omega
 .have:=(h w hw).cps c z;omega
theorem BH(WM:rs.length<=5000)(h:∀r∈rs,Ro r):j0 (.str NL) [.lst (rs.map .str)]= .ok (.str (Str.join NL rs)):=by
 refine uO ?_;have h2:=u9 (l:=rs.map (·.length)) (m:=110) fun x hx=>by obtain⟨s,hs,rfl⟩:=List.mem_map.mp hx;exact(h s hs).len
 rw[List.length_map] at h2;have:NL.length=1:=by decide+kernel
 rw[this];omega
end
section
variable {ins:YD} {gs:List Gt} {os:YE} {gn:List Str}
theorem vI(T:TN ins gs os)(G:GN ins gs.length gn):(vR ins gs os gn).length=ins.length+gs.length+os.length:=by
 have:=G.len;unfold vR;simp only[List.length_append,List.length_map,List.length_zip];omega
theorem yp(T:TN ins gs os)(G:GN ins gs.length gn):∀r∈(vR ins gs os gn).map (Str.join SP),Ro r:=fun r hr=>by
 have hWo:=Hd T G;have hgl:=G.len;have hWl:(gL ins++gn).length=jA ins+gs.length:=by rw[List.length_append,fk,hgl]
 obtain⟨ws,hws,rfl⟩:=List.mem_map.mp hr;unfold vR at hws;rcases List.mem_append.mp hws with z | z
 .rcases List.mem_append.mp z with z | z
  .obtain⟨x,hx,rfl⟩:=List.mem_map.mp z;exact qR (by unfold uK;simp) (yx (T.inm x hx))
  .obtain⟨⟨g,n⟩,hp,rfl⟩:=List.mem_map.mp z;obtain⟨i,hi⟩:=List.mem_iff_getElem?.mp hp;obtain⟨hg,hn⟩:=List.getElem?_zip_eq_some.mp hi;have gok:=T.gok i g hg;have:=(List.getElem?_eq_some_iff.mp hg).1;have:=v7 g.1;refine qR (by unfold qz tx;simp;rw [gok.2.1];omega) (yR (G.nm n (List.mem_of_getElem? hn)) (fun y hy=>(hWo y hy).1) fun w hw=>?_)
   have:=gok.2.2 w hw;omega
 .obtain⟨o,ho,rfl⟩:=List.mem_map.mp z;obtain⟨o1,o2,o3⟩:=T.ow o ho;exact qR (by unfold sS tx;simp;omega) (yB (T.onm o ho) (fun y hy=>(hWo y hy).1) fun w hw=>by have:=o3 w hw;omega)
def vS(ins:YD)(gs:List Gt)(os:YE)(gn:List Str):Str:=Str.join NL ((vR ins gs os gn).map (Str.join SP))
theorem DV(h:isNm s=true):iC 0 (.str s):=by
 refine iC.str ?_;unfold PyData.canLay0 PyData.strOk;rw[<-Array.all_toList,List.all_eq_true];intro c hc;have:=(cZ.mp h).2.2.2 c hc;exact decide_eq_true (by omega)
theorem Et(k:Nat):iC 0 (.str (kS k)):=by
 refine iC.str ?_;unfold kS;split <;> decide+kernel
theorem y_(w:List Nat):iC 1 (.tup (w.map nI)):=iC.tup fun d hd=>by obtain⟨x,_,rfl⟩:=List.mem_map.mp hd;exact iC.int x
theorem qT(hi:∀x∈ins,isNm x.1=true)(ho:∀x∈os,isNm x.1=true):iC 4 (cP ins gs os):=iC.tup fun d hd=>by
 simp only[List.mem_cons,List.not_mem_nil,or_false] at hd;rcases hd with rfl | rfl | rfl
 .exact iC.lst (n:=2) fun d hd=>by
   obtain⟨x,hx,rfl⟩:=List.mem_map.mp hd;exact iC.tup (n:=1) fun d hd=>by
    simp only[List.mem_cons,List.not_mem_nil,or_false] at hd;rcases hd with rfl | rfl
    .exact(DV (hi x hx)).mono (by omega)
    .exact(iC.int _).mono (by omega)
 .exact iC.lst (n:=2) fun d hd=>by
   obtain⟨x,hx,rfl⟩:=List.mem_map.mp hd;exact iC.tup (n:=1) fun d hd=>by
    simp only[List.mem_cons,List.not_mem_nil,or_false] at hd;rcases hd with rfl | rfl | rfl
    .exact(Et _).mono (by omega)
    .exact y_ _
    .exact(iC.bl _).mono (by omega)
 .exact iC.lst (n:=2) fun d hd=>by
   obtain⟨x,hx,rfl⟩:=List.mem_map.mp hd;exact iC.tup (n:=1) fun d hd=>by
    simp only[List.mem_cons,List.not_mem_nil,or_false] at hd;rcases hd with rfl | rfl
    .exact(DV (ho x hx)).mono (by omega)
    .exact y_ _
theorem EM(T:TN ins gs os):qB (cP ins gs os) (cP ins gs os)= .ok (.bl true):=by
 have:=qT (gs:=gs) T.inm T.onm;unfold qB cP;rw [iC.eqT this (by omega)];rfl
inductive Sx:Nat->D->Prop where
 | int (n:Nat) (i:Int):Sx n (.int i)
 | bl (n:Nat) (b:Bool):Sx n (.bl b)
 | str (n:Nat) (s:Str):Sx n (.str s)
 | lst {n:Nat} {ds:List D} (h:∀d∈ds,Sx n d) (hl:ds.length < 1000000):Sx (n+1) (.lst ds)
 | tup {n:Nat} {ds:List D} (h:∀d∈ds,Sx n d) (hl:ds.length < 1000000):Sx (n+1) (.tup ds)
theorem LZ(T:TN ins gs os):A2 (cP ins gs os) (cP ins gs os)= .ok (.bl false):=by
 have:=qT (gs:=gs) T.inm T.onm;unfold A2 cP;rw [iC.eqT this (by omega)];rfl
end
end TX
end
section
namespace TX
open PySem PySem.Spec PyProof.Rows L2 L3 MT JT
theorem oE{α:Type}{f:α->D}:∀{l m:List α},(∀a∈l,∀b∈m,PyData.eqv (toPy (f a)) (toPy (f b))=true->a=b)->PyData.eqvAll (dY (l.map f)) (dY (m.map f))=true->l=m
 | [],[],_,_=>rfl
 | [],b ::m,_,h=>by rw[List.map_nil,List.map_cons] at h;unfold dY PyData.eqvAll at h;cases h
 | a ::l,[],_,h=>by rw[List.map_nil,List.map_cons] at h;unfold dY PyData.eqvAll at h;cases h
 | a ::l,b ::m,hi,h=>by
   rw[List.map_cons,List.map_cons] at h;unfold dY PyData.eqvAll at h;rw[Bool.and_eq_true] at h;rw[hi a List.mem_cons_self b List.mem_cons_self h.1,oE (l:=l) (m:=m) (fun x hx y hy=>hi x (List.mem_cons_of_mem _ hx) y (List.mem_cons_of_mem _ hy)) h.2]
theorem Jc{a b:Nat}(h:PyData.eqv (toPy (nI a)) (toPy (nI b))=true):a=b:=by
 have h:((a:Int)==(b:Int))=true:=h;have:=eq_of_beq h;omega
theorem LX{a b:Nat}(ha:a<=4)(hb:b<=4)(h:kS a=kS b):a=b:=by
 have:∀a,a < 5->∀b,b < 5->kS a=kS b->a=b:=by decide+kernel
 exact this a (by omega) b (by omega) h
theorem MY{g g':Gt}(h1:g.1<=4)(h2:g'.1<=4)(h:PyData.eqv (toPy (dq g)) (toPy (dq g'))=true):g=g':=by
 unfold dq at h;simp only[toPy,dY,PyData.eqv,PyData.eqvAll,Bool.and_eq_true,Bool.and_true] at h;obtain⟨a,b,c⟩:=h;have e1:=LX h1 h2 (eq_of_beq a);have e2:g.2.1=g'.2.1:=oE (f:=nI) (fun x _ y _ q=>Jc q) b
 have e3:g.2.2=g'.2.2:=eq_of_beq c;obtain⟨x,y,z⟩:=g;obtain⟨x',y',z'⟩:=g';simp only at e1 e2 e3;rw[e1,e2,e3]
theorem MR{o o':Str × List Nat}(h:PyData.eqv (toPy (iE o)) (toPy (iE o'))=true):o=o':=by
 unfold iE at h;simp only[toPy,dY,PyData.eqv,PyData.eqvAll,Bool.and_eq_true,Bool.and_true] at h;obtain⟨a,b⟩:=h;have e2:o.2=o'.2:=oE (f:=nI) (fun x _ y _ q=>Jc q) b
 have e1:o.1=o'.1:=eq_of_beq a;obtain⟨x,y⟩:=o;obtain⟨x',y'⟩:=o';simp only at e1 e2;rw[e1,e2]
section
variable {ins:YD} {gs lb:List Gt} {os la:YE}
theorem GO(T:TN ins gs os)(T':TN ins lb la):qB (cP ins gs os) (cP ins lb la)= .ok (.bl (decide (gs=lb/\os=la))):=by
 by_cases h:gs=lb/\os=la
 .rw [decide_eq_true h,<-h.1,<-h.2];exact EM T
 .rw [decide_eq_false h];have f:=qT (gs:=gs) T.inm T.onm;have f':=qT (gs:=lb) T'.inm T'.onm;have e:PyData.eqv (toPy (cP ins gs os)) (toPy (cP ins lb la))=false:=by
   cases q:PyData.eqv (toPy (cP ins gs os)) (toPy (cP ins lb la)) with
   | false=>rfl
   | true=>
     exfalso
     apply h;unfold cP at q;simp only[toPy,dY,PyData.eqv,PyData.eqvAll,Bool.and_eq_true,Bool.and_true] at q;obtain⟨_,q2,q3⟩:=q;refine⟨oE (f:=dq) (fun a ha b hb z=>?_) q2,oE (f:=iE) (fun a _ b _ z=>MR z) q3⟩
     obtain⟨i,hi⟩:=List.mem_iff_getElem?.mp ha;obtain⟨j,hj⟩:=List.mem_iff_getElem?.mp hb;exact MY (T.gok i a hi).1 (T'.gok j b hj).1 z
  show(Cu (cP ins gs os) (cP ins lb la)).bind _=_;rw[show Cu (cP ins gs os) (cP ins lb la)=R.aS (cq (cP ins gs os) && cq (cP ins lb la) && SeqAt.shaped (toPy (cP ins gs os)) && SeqAt.shaped (toPy (cP ins lb la))) (.ok (PyData.eqv (toPy (cP ins gs os)) (toPy (cP ins lb la)))) from rfl,f.pl,f'.pl,f.sh (by omega),f'.sh (by omega),e]
  rfl
end
end TX
end
section
set_option maxHeartbeats 4000000
namespace K07
open PySem PySem.Spec PyProof.Rows L2 L3
variable {P:Program} {w:World} {K:W.Frag} {mg:YG} {base:Heap} {cl:YH}
def top(i:Nat):Stmt:=PySem.Challenge.pw_bearfaults_k07_whole_shown_read_again.main.body.getD i (.Pass ⟨0,0,0,0⟩)
def d6:D:=(.int 8)
def f7:D:=(.tup [(.str "in"),(.str "gate"),(.str "sure"),(.str "out"),(.str "not"),(.str "and"),(.str "or"),(.str "xor"),(.str "vote")])
def bw:D:=(.str "abcdefghijklmnopqrstuvwxyz")
def jW:D:=(.tup [(.str "0"),(.str "1"),(.str "2"),(.str "3"),(.str "4"),(.str "5"),(.str "6"),(.str "7"),(.str "8"),(.str "9")])
def dg:D:=(.int 3)
def i8:D:=(.int 6)
def fX:D:=(.int 60)
def h_:D:=(.int 6)
def iq:D:=(.int 80)
def mJ:List (Str × Int):=[("1",1),("2",2),("3",3)]
def g9:List (Str × Int):=[("not",1),("and",2),("or",2),("xor",2),("vote",3)]
structure Tp (P:Program) (w:World) (K:W.Frag) (mg:YG) (cl:YH):Prop where
 z_len:mg "len"=none
 z_all:mg "all"=none
 z_range:mg "range"=none
 z_tuple:mg "tuple"=none
 z_enumerate:mg "enumerate"=none
 z_min:mg "min"=none
 z_int:mg "int"=none
 z_sum:mg "sum"=none
 z_list:mg "list"=none
 d6:Glob K mg "MOST_LETTERS" d6
 f7:Glob K mg "BARRED" f7
 bw:Glob K mg "LETTERS" bw
 jW:Glob K mg "FIGURES" jW
 dg:Glob K mg "MOST_OUT_WIRES" dg
 i8:Glob K mg "MOST_INS" i8
 fX:Glob K mg "MOST_GATES" fX
 h_:Glob K mg "MOST_OUTS" h_
 iq:Glob K mg "MOST_ROWS" iq
 gd_WIDTHS:lI P w K mg "WIDTHS" mJ
 gd_KIND_WIRES:lI P w K mg "KIND_WIRES" g9
 C_Draft:xK K (cl 0)
 N_Draft_ins:c9 K (cl 0) "ins"
 N_Draft_gates:c9 K (cl 0) "gates"
 N_Draft_outs:c9 K (cl 0) "outs"
 N_Draft_names:c9 K (cl 0) "names"
 N_Draft_out_names:c9 K (cl 0) "out_names"
 N_Draft_numbers:c9 K (cl 0) "numbers"
 M_Draft:mg "Draft"=some (.ref (cl 0))
 M_FaultError:mg "FaultError"=some (.ref (cl 1))
 M_TooLong:mg "TooLong"=some (.ref (cl 2))
 M_NoForm:mg "NoForm"=some (.ref (cl 3))
 M_NoPlace:mg "NoPlace"=some (.ref (cl 4))
 M_Twice:mg "Twice"=some (.ref (cl 5))
 M_Full:mg "Full"=some (.ref (cl 6))
 M_NoWire:mg "NoWire"=some (.ref (cl 7))
 M_Open:mg "Open"=some (.ref (cl 8))
 X_TooLong:XC K (cl 2)
 X_NoForm:XC K (cl 3)
 X_NoPlace:XC K (cl 4)
 X_Twice:XC K (cl 5)
 X_Full:XC K (cl 6)
 X_NoWire:XC K (cl 7)
 X_Open:XC K (cl 8)
abbrev j6:Stmt:=top 21
noncomputable abbrev pH:List Str:=["word"]
noncomputable def za:{b:List Stmt // aO j6=b}:=⟨_,by conv=>lhs;whnf⟩
noncomputable def nQ:{b:Scope // aF j6=b}:=⟨_,by conv=>lhs;whnf⟩
theorem Br:bb pH ["word"] nQ.1:=⟨rfl,rfl,rfl,by decide+kernel,rfl,by decide+kernel,by decide+kernel⟩
def uw:FS:=(bB (vV (wO (b2 Lh (aK gr (ai (ag 0) aI)) (eC (.int 1))) (wO (b2 Mt (aK gr (ai (ag 0) aI)) (eC d6)) (b2 yK (ag 0) (eC f7)))) (fu (eC (.bl false))) om) (fu (aK Fd (ai (eNew (eN (DN (ag 0)) (aR 0) oS (e2 yK (ag 0) (eC bw)) ["sign"] [])) aI))))
def dk:List D->R D:=qS pH uw
theorem BW(T:Tp P w K mg cl)(h:Def K mg "is_name" j6):Callee P w K mg base 1 "is_name" 1 dk:=by
 obtain⟨f,fd,F,hm⟩:=h;exact⟨f,fd,_,bD (k:=0) za.2 nQ.2 F Br (fun dt A outer s H E hr=>(aq (g8 (jK (iW (bO EX (bp fP rfl T.z_len PySem.boot_len (ae (aa 0) ah)) aj (bA _)) (iW (bO GU (bp fP rfl T.z_len PySem.boot_len (ae (aa 0) ah)) (cC T.d6 rfl) (bA _)) (kj (bO yi (aa 0) (cC T.f7 rfl) (by with_unfolding_all rfl)))))) (aL (bq lZ)) eW) (aL (bq (bp (Ju rfl) rfl T.z_all PyProof.Rows.boot_all (ae (b9 (fJ rfl (cx.of (own:=["sign"]) (kp:=[]) (kn:=[]) (sc:=nQ.1) (N:=pH) rfl rfl (by decide+kernel)) (Fe (aa 0)) (fun _ _ _=>(a9 (show List.Nodup [(Str.ofString "sign")] from by decide+kernel) rfl (Or.inl rfl))) (fun _ _ _=>eG) (fun _ _ _=>(eK yi (aa 0) (cC T.bw rfl) (by with_unfolding_all rfl))))) ah)))))),hm,F.kp,F.binds fun _ _ _ _ _ _ us hl=>match us,hl with | [_],_=>rfl⟩
abbrev i7:Stmt:=top 22
noncomputable abbrev nG:List Str:=["name","width"]
noncomputable def v3:{b:List Stmt // aO i7=b}:=⟨_,by conv=>lhs;whnf⟩
noncomputable def lJ:{b:Scope // aF i7=b}:=⟨_,by conv=>lhs;whnf⟩
theorem yw:bb nG ["name","width"] lJ.1:=⟨rfl,rfl,rfl,by decide+kernel,rfl,by decide+kernel,by decide+kernel⟩
def su:FS:=(bB (vV (b2 qB (ag 1) (eC (.int 1))) (fu (eNew (eS (ai (ag 0) aI)))) om) (fu (eNew (eN (iJ (ag 1)) (aR 0) oS (cD (bu (iV (ag 1)) (bu (eC (.str ":")) (bu (iV (ag 0)) lE)))) ["figure"] [0]))))
def fA:List D->R D:=qS nG su
theorem zy(T:Tp P w K mg cl)(h:Def K mg "in_wires" i7):Callee P w K mg base 1 "in_wires" 2 fA:=by
 obtain⟨f,fd,F,hm⟩:=h;exact⟨f,fd,_,bD (k:=0) v3.2 lJ.2 F yw (fun dt A outer s H E hr=>(aq (g8 (bO (ni hr.units) (aa 1) aj (bA _)) (aL (bq (b9 (bN (ae (aa 0) ah))))) eW) (aL (bq (b9 (fJ rfl (cx.of (own:=["figure"]) (kp:=[0]) (kn:=["name"]) (sc:=lJ.1) (N:=nG) rfl rfl (by decide+kernel)) (fG (aa 1) rfl T.z_range) (fun _ _ _=>(a9 (show List.Nodup [(Str.ofString "figure"),"name"] from by decide+kernel) rfl (Or.inl rfl))) (fun _ _ _=>eG) (fun _ _ _=>(cy (aV (eI (aa 1)) (aV au (aV (eI (aa 0)) fj))))))))))),hm,F.kp,F.binds fun _ _ _ _ _ _ us hl=>match us,hl with | [_,_],_=>rfl⟩
abbrev d9:Stmt:=top 23
noncomputable abbrev jh:List Str:=["word","parts"]
noncomputable def qE:{b:List Stmt // aO d9=b}:=⟨_,by conv=>lhs;whnf⟩
noncomputable def k6:{b:Scope // aF d9=b}:=⟨_,by conv=>lhs;whnf⟩
theorem l6:bb jh ["word"] k6.1:=⟨rfl,rfl,rfl,by decide+kernel,rfl,by decide+kernel,by decide+kernel⟩
def lR:FS:=(bB (cG 1 (zc "str" xB (ag 0) (ai (eC (.str ":")) aI))) (fu (tF (aK dk (ai (e2 cW (ag 1) (eC (.int 0))) aI)) (M3 (e2 qB (e2 cW (ag 1) (eC (.int 1))) (eC (.str ""))) (e2 yK (e2 cW (ag 1) (eC (.int 2))) (eC jW))))))
def dR:List D->R D:=qS jh lR
theorem rf(T:Tp P w K mg cl)(h:Def K mg "is_wire_form" d9)(cV:Callee P w K mg base 1 "is_name" 1 dk):Callee P w K mg base 2 "is_wire_form" 1 dR:=by
 obtain⟨f,fd,F,hm⟩:=h;exact⟨f,fd,_,bD (k:=1) qE.2 k6.2 F l6 (fun dt A outer s H E hr=>(aq (aZ l6.nd rfl (Or.inl rfl) (tj (aa 0) (ae au ah))) (aL (bq (mB (aG cV hr (by decide) rfl (ae (aU (aa 1) aj (fun _ _=>rfl)) ah) (ak aJ)) (oF (K5 (eK (ni hr.units) (aU (aa 1) aj (fun _ _=>rfl)) au (bA _)) (oF (eK yi (aU (aa 1) aj (fun _ _=>rfl)) (cC T.jW rfl) (by with_unfolding_all rfl)))))))))),hm,F.kp,F.binds fun _ _ _ _ _ _ us hl=>match us,hl with | [_],_=>rfl⟩
abbrev dj:Stmt:=top 24
noncomputable abbrev gC:List Str:=["words"]
noncomputable def oR:{b:List Stmt // aO dj=b}:=⟨_,by conv=>lhs;whnf⟩
noncomputable def f6:{b:Scope // aF dj=b}:=⟨_,by conv=>lhs;whnf⟩
theorem pE:bb gC ["words"] f6.1:=⟨rfl,rfl,rfl,by decide+kernel,rfl,by decide+kernel,by decide+kernel⟩
def j7:FS:=(fu (aK Fd (ai (eNew (eN (dy (ag 0)) (aR 0) oS (aK dR (ai (ag 0) aI)) ["word"] [])) aI)))
def cb:List D->R D:=qS gC j7
theorem pC(T:Tp P w K mg cl)(h:Def K mg "are_wire_forms" dj)(jy:Callee P w K mg base 2 "is_wire_form" 1 dR):Callee P w K mg base 3 "are_wire_forms" 1 cb:=by
 obtain⟨f,fd,F,hm⟩:=h;exact⟨f,fd,_,bD (k:=2) oR.2 f6.2 F pE (fun dt A outer s H E hr=>(aL (bq (bp (Ju rfl) rfl T.z_all PyProof.Rows.boot_all (ae (b9 (fJ rfl (cx.of (own:=["word"]) (kp:=[]) (kn:=[]) (sc:=f6.1) (N:=gC) rfl rfl (by decide+kernel)) (cB (aa 0)) (fun _ _ _=>(a9 (show List.Nodup [(Str.ofString "word")] from by decide+kernel) rfl (Or.inl rfl))) (fun _ _ _=>eG) (fun _ _ _=>(aG jy hr (by decide) rfl (ae (aa 0) ah) (ak aJ))))) ah))))),hm,F.kp,F.binds fun _ _ _ _ _ _ us hl=>match us,hl with | [_],_=>rfl⟩
abbrev fY:Stmt:=top 25
noncomputable abbrev kq:List Str:=["words"]
noncomputable def tm:{b:List Stmt // aO fY=b}:=⟨_,by conv=>lhs;whnf⟩
noncomputable def m5:{b:Scope // aF fY=b}:=⟨_,by conv=>lhs;whnf⟩
theorem va:bb kq ["words"] m5.1:=⟨rfl,rfl,rfl,by decide+kernel,rfl,by decide+kernel,by decide+kernel⟩
def oM:FS:=(fu (tF (e2 qB (aK gr (ai (ag 0) aI)) (eC (.int 3))) (tF (e2 qB (e2 cW (ag 0) (eC (.int 0))) (eC (.str "in"))) (tF (aK dk (ai (e2 cW (ag 0) (eC (.int 1))) aI)) (LQ mJ (e2 cW (ag 0) (eC (.int 2))))))))
def f9:List D->R D:=qS kq oM
theorem uJ(T:Tp P w K mg cl)(h:Def K mg "is_in_form" fY)(cV:Callee P w K mg base 1 "is_name" 1 dk):Callee P w K mg base 2 "is_in_form" 1 f9:=by
 obtain⟨f,fd,F,hm⟩:=h;exact⟨f,fd,_,bD (k:=1) tm.2 m5.2 F va (fun dt A outer s H E hr=>(aL (bq (mB (eK (ni hr.units) (bp fP rfl T.z_len PySem.boot_len (ae (aa 0) ah)) aj (bA _)) (mB (eK (ni hr.units) (aU (aa 0) aj (fun _ _=>rfl)) au (bA _)) (mB (aG cV hr (by decide) rfl (ae (aU (aa 0) aj (fun _ _=>rfl)) ah) (ak aJ)) (oF (Gb (jC hr) (aU (aa 0) aj (fun _ _=>rfl)) T.gd_WIDTHS rfl)))))))),hm,F.kp,F.binds fun _ _ _ _ _ _ us hl=>match us,hl with | [_],_=>rfl⟩
abbrev dQ:Stmt:=top 26
noncomputable abbrev fO:List Str:=["words","wires"]
noncomputable def qC:{b:List Stmt // aO dQ=b}:=⟨_,by conv=>lhs;whnf⟩
noncomputable def kY:{b:Scope // aF dQ=b}:=⟨_,by conv=>lhs;whnf⟩
theorem lW:bb fO ["words"] kY.1:=⟨rfl,rfl,rfl,by decide+kernel,rfl,by decide+kernel,by decide+kernel⟩
def l_:FS:=(bB (vV (wO (b2 Lh (aK gr (ai (ag 0) aI)) (eC (.int 4))) (b2 ny (e2 cW (ag 0) (eC (.int 0))) (k9 (ai (eC (.str "gate")) (ai (eC (.str "sure")) aI))))) (fu (eC (.bl false))) om) (bB (vV (wO (Bz (qy (aK dk (ai (e2 cW (ag 0) (eC (.int 1))) aI)))) (LV g9 (e2 cW (ag 0) (eC (.int 2))))) (fu (eC (.bl false))) om) (bB (cG 1 (BF (ag 0) (ie (eC (.int 3))) kf)) (fu (tF (e2 qB (aK gr (ai (ag 1) aI)) (wW g9 (e2 cW (ag 0) (eC (.int 2))))) (aK cb (ai (ag 1) aI)))))))
def dU:List D->R D:=qS fO l_
theorem so(T:Tp P w K mg cl)(h:Def K mg "is_gate_form" dQ)(cV:Callee P w K mg base 1 "is_name" 1 dk)(cK:Callee P w K mg base 3 "are_wire_forms" 1 cb):Callee P w K mg base 4 "is_gate_form" 1 dU:=by
 obtain⟨f,fd,F,hm⟩:=h;exact⟨f,fd,_,bD (k:=3) qC.2 kY.2 F lW (fun dt A outer s H E hr=>(aq (g8 (jK (iW (bO EX (bp fP rfl T.z_len PySem.boot_len (ae (aa 0) ah)) aj (bA _)) (kj (bO vt (aU (aa 0) aj (fun _ _=>rfl)) (dG (ae au (ae au ah))) (by with_unfolding_all rfl))))) (aL (bq lZ)) eW) (aq (g8 (jK (iW (AI (mw (aG cV hr (by decide) rfl (ae (aU (aa 0) aj (fun _ _=>rfl)) ah) (ak aJ)))) (kj (Hi (jC hr) (aU (aa 0) aj (fun _ _=>rfl)) T.gd_KIND_WIRES rfl)))) (aL (bq lZ)) eW) (aq (aZ lW.nd rfl (Or.inl rfl) (nC (aa 0) (d_ aj) fK)) (aL (bq (mB (eK (ni hr.units) (bp fP rfl T.z_len PySem.boot_len (ae (aa 1) ah)) (xw (aU (aa 0) aj (fun _ _=>rfl)) T.gd_KIND_WIRES rfl (fun _ _=>rfl)) (bA _)) (oF (aG cK hr (by decide) rfl (ae (aa 1) ah) (ak aJ)))))))))),hm,F.kp,F.binds fun _ _ _ _ _ _ us hl=>match us,hl with | [_],_=>rfl⟩
abbrev eY:Stmt:=top 27
noncomputable abbrev jO:List Str:=["words","wires"]
noncomputable def si:{b:List Stmt // aO eY=b}:=⟨_,by conv=>lhs;whnf⟩
noncomputable def md:{b:Scope // aF eY=b}:=⟨_,by conv=>lhs;whnf⟩
theorem m7:bb jO ["words"] md.1:=⟨rfl,rfl,rfl,by decide+kernel,rfl,by decide+kernel,by decide+kernel⟩
def m8:FS:=(bB (vV (wO (b2 Lh (aK gr (ai (ag 0) aI)) (eC (.int 3))) (wO (b2 A2 (e2 cW (ag 0) (eC (.int 0))) (eC (.str "out"))) (Bz (qy (aK dk (ai (e2 cW (ag 0) (eC (.int 1))) aI)))))) (fu (eC (.bl false))) om) (bB (cG 1 (BF (ag 0) (ie (eC (.int 2))) kf)) (fu (tF (e2 Px (aK gr (ai (ag 1) aI)) (eC dg)) (aK cb (ai (ag 1) aI))))))
def eV:List D->R D:=qS jO m8
theorem sZ(T:Tp P w K mg cl)(h:Def K mg "is_out_form" eY)(cV:Callee P w K mg base 1 "is_name" 1 dk)(cK:Callee P w K mg base 3 "are_wire_forms" 1 cb):Callee P w K mg base 4 "is_out_form" 1 eV:=by
 obtain⟨f,fd,F,hm⟩:=h;exact⟨f,fd,_,bD (k:=3) si.2 md.2 F m7 (fun dt A outer s H E hr=>(aq (g8 (jK (iW (bO EX (bp fP rfl T.z_len PySem.boot_len (ae (aa 0) ah)) aj (bA _)) (iW (bO (DU hr.units) (aU (aa 0) aj (fun _ _=>rfl)) au (bA _)) (kj (AI (mw (aG cV hr (by decide) rfl (ae (aU (aa 0) aj (fun _ _=>rfl)) ah) (ak aJ)))))))) (aL (bq lZ)) eW) (aq (aZ m7.nd rfl (Or.inl rfl) (nC (aa 0) (d_ aj) fK)) (aL (bq (mB (eK P5 (bp fP rfl T.z_len PySem.boot_len (ae (aa 1) ah)) (cC T.dg rfl) (bA _)) (oF (aG cK hr (by decide) rfl (ae (aa 1) ah) (ak aJ))))))))),hm,F.kp,F.binds fun _ _ _ _ _ _ us hl=>match us,hl with | [_],_=>rfl⟩
abbrev bY:Stmt:=inClass (top 28) 1
noncomputable abbrev fS:List Str:=["self","name","width","wire"]
noncomputable def qH:{b:List Stmt // aO bY=b}:=⟨_,by conv=>lhs;whnf⟩
noncomputable def kR:{b:Scope // aF bY=b}:=⟨_,by conv=>lhs;whnf⟩
theorem lX:bb fS ["self","name","width"] kR.1:=⟨rfl,rfl,rfl,by decide+kernel,rfl,by decide+kernel,by decide+kernel⟩
def jU:FZ:=(nO (eT 0 "numbers" (cn 0)) (xP (ag 3)) (zi (eT 0 "numbers" (cn 0))))
def jg:FZ:=(cO (tJ (wm (Ja (lF (eT 0 "gates" (cn 0))) (lF (eT 0 "outs" (cn 0))))) (fw 4 (eQ (bt (xP (cD (bu (eC (.str "in ")) (bu (iV (ag 1)) (bu (eC (.str " stands behind a gate or an out")) lE))))) dw))) mU) (cO (tJ (wm (yn false (xP (ag 1)) (eT 0 "names" (cn 0)))) (fw 5 (eQ (bt (xP (cD (bu (eC (.str "there is an in ")) (bu (iV (ag 1)) (bu (eC (.str " ahead")) lE))))) dw))) mU) (cO (tJ (wm (JE Ld (zi (eT 0 "ins" (cn 0))) (xP (eC i8)))) (fw 6 (eQ (bt (xP (cD (bu (eC (.str "in ")) (bu (iV (ag 1)) (bu (eC (.str " is one too many")) lE))))) dw))) mU) (Cr (cO (nO (eT 0 "names" (cn 0)) (xP (ag 1)) (xP (eC (.bl true)))) (cO (zg (iP (dy (aK fA (ai (ag 1) (ai (ag 2) aI))))) (wx 3) jU) (kQ (eT 0 "ins" (cn 0)) (xP (k9 (ai (ag 1) (ai (ag 2) aI)))))))))))
def cT:List V3->aP->R3 V3:=sT fS jg
def Cw:List V3->aP->R3 V3:=ye fS jg
theorem dP(T:Tp P w K mg cl)(h:qu K (cl 0) "add_in" "Draft.add_in" bY)(gT:Callee P w K mg base 1 "in_wires" 2 fA):jB P w K mg base cl 2 0 "add_in" 2 cT:=by
 obtain⟨f,fd,F,hm⟩:=h;exact⟨f,fd,_,T.C_Draft,hm,ka (k:=1) qH.2 kR.2 F lX (fun dt A outer s H E hr=>(bS (fN (IF.pb (y9 (ma (cm T.C_Draft T.N_Draft_gates (bg 0))) (uS (ma (cm T.C_Draft T.N_Draft_outs (bg 0)))))) (bV (cU cS rfl T.X_NoPlace rfl T.M_NoPlace (de (aQ (aD (cy (aV au (aV (eI (aa 1)) (aV au fj))))) bH)))) d7) (bS (fN (uG (jC hr) (aD (aa 1)) (cm T.C_Draft T.N_Draft_names (bg 0))) (bV (cU cS rfl T.X_Twice rfl T.M_Twice (de (aQ (aD (cy (aV au (aV (eI (aa 1)) (aV au fj))))) bH)))) d7) (bS (fN (oH Gm (oP (cm T.C_Draft T.N_Draft_ins (bg 0)) rfl T.z_len) (aD (cC T.i8 rfl)) (bA _)) (bV (cU cS rfl T.X_Full rfl T.M_Full (de (aQ (aD (cy (aV au (aV (eI (aa 1)) (aV au fj))))) bH)))) d7) (oZ (bG (l9 (jC hr) (aD lZ) (cm T.C_Draft T.N_Draft_names (bg 0)) (aD (aa 1))) (bG (J3 yI rfl (lG (cB (aG gT hr (by decide) rfl (ae (aa 1) (ae (aa 2) ah)) (ak (ak aJ))))) (c3 lX.nd rfl (Or.inl rfl)) (dI (l9 (jC hr) (oP (cm T.C_Draft T.N_Draft_numbers (bg 0)) rfl T.z_len) (cm T.C_Draft T.N_Draft_numbers (bg 0)) (aD (aa 3))))) (dI (GI (cm T.C_Draft T.N_Draft_ins (bg 0)) (aD (dG (ae (aa 1) (ae (aa 2) ah))))))))))))),F.binds fun _ _ _ _ _ _ us hl=>match us,hl with | [_,_,_],_=>rfl⟩
abbrev bh:Stmt:=inClass (top 28) 4
noncomputable abbrev ck:List Str:=["self","wires","wire"]
noncomputable def k8:{b:List Stmt // aO bh=b}:=⟨_,by conv=>lhs;whnf⟩
noncomputable def dF:{b:Scope // aF bh=b}:=⟨_,by conv=>lhs;whnf⟩
theorem iA:bb ck ["self","wires"] dF.1:=⟨rfl,rfl,rfl,by decide+kernel,rfl,by decide+kernel,by decide+kernel⟩
def fI:FZ:=(tJ (wm (yn true (xP (ag 2)) (eT 0 "numbers" (cn 0)))) (fw 7 (eQ (bt (xP (cD (bu (eC (.str "there is no wire ")) (bu (iV (ag 2)) (bu (eC (.str " ahead")) lE))))) dw))) mU)
def d5:FZ:=(cO (zg (Pa (iP (dy (ag 1)))) (wx 2) fI) (Cr (zI (pX uP (bt (tM (iP (dy (ag 1))) (wx 0) Gw (EH (eT 0 "numbers" (cn 1)) (xP (ag 0))) ["wire"] [0]) dw)))))
def bo:List V3->aP->R3 V3:=sT ck d5
def vX:List V3->aP->R3 V3:=ye ck d5
theorem cj(T:Tp P w K mg cl)(h:qu K (cl 0) "wire_numbers" "Draft.wire_numbers" bh):jB P w K mg base cl 1 0 "wire_numbers" 1 bo:=by
 obtain⟨f,fd,F,hm⟩:=h;exact⟨f,fd,_,T.C_Draft,hm,ka (k:=0) k8.2 dF.2 F iA (fun dt A outer s H E hr=>(bS (z8 yI rfl (lG (cB (aa 1))) (c3 iA.nd rfl (Or.inl rfl)) (bV (fN (G1 (jC hr) (aD (aa 2)) (cm T.C_Draft T.N_Draft_numbers (bg 0))) (bV (cU cS rfl T.X_NoWire rfl T.M_NoWire (de (aQ (aD (cy (aV au (aV (eI (aa 2)) (aV au fj))))) bH)))) d7))) (oZ (dI (rJ (Cb Am rfl T.z_tuple PyProof.Rows.boot_tuple (aQ (Ap rfl (cx.of (own:=["wire"]) (kp:=[0]) (kn:=["self"]) (sc:=dF.1) (N:=ck) rfl rfl (by decide+kernel)) (lG (cB (aa 1))) (fun _ _ _=>(c3 (show List.Nodup [(Str.ofString "wire"),"self"] from by decide+kernel) rfl (Or.inl rfl))) (fun _ _ _=>uy) (fun _ _ _=>(Hf (jC hr) (cm T.C_Draft T.N_Draft_numbers (bg 1)) (aD (aa 0)) (fun _ _=>rfl)))) bH))))))),F.binds fun _ _ _ _ _ _ us hl=>match us,hl with | [_,_],_=>rfl⟩
abbrev bC:Stmt:=inClass (top 28) 2
noncomputable abbrev eD:List Str:=["self","name","kind","wires","sure"]
noncomputable def oj:{b:List Stmt // aO bC=b}:=⟨_,by conv=>lhs;whnf⟩
noncomputable def jL:{b:Scope // aF bC=b}:=⟨_,by conv=>lhs;whnf⟩
theorem pL:bb eD ["self","name","kind","wires","sure"] jL.1:=⟨rfl,rfl,rfl,by decide+kernel,rfl,by decide+kernel,by decide+kernel⟩
def gO:FZ:=(cO (tJ (wm (lF (eT 0 "outs" (cn 0)))) (fw 4 (eQ (bt (xP (cD (bu (eC (.str "gate ")) (bu (iV (ag 1)) (bu (eC (.str " stands behind an out")) lE))))) dw))) mU) (cO (tJ (wm (yn false (xP (ag 1)) (eT 0 "names" (cn 0)))) (fw 5 (eQ (bt (xP (cD (bu (eC (.str "there is an in or a gate ")) (bu (iV (ag 1)) (bu (eC (.str " ahead")) lE))))) dw))) mU) (cO (tJ (wm (JE Ld (zi (eT 0 "gates" (cn 0))) (xP (eC fX)))) (fw 6 (eQ (bt (xP (cD (bu (eC (.str "gate ")) (bu (iV (ag 1)) (bu (eC (.str " is one too many")) lE))))) dw))) mU) (cO (kQ (tf (eT 0 "gates" (cn 0))) (wK (bt (tf (xP (ag 2))) (bt (oi 0 "wire_numbers" bo (tf (cn 0)) (eQ (bt (xP (ag 3)) dw))) (bt (tf (xP (ag 4))) dw))))) (Cr (cO (nO (eT 0 "names" (cn 0)) (xP (ag 1)) (xP (eC (.bl true)))) (nO (eT 0 "numbers" (cn 0)) (xP (ag 1)) (zi (eT 0 "numbers" (cn 0))))))))))
def cw:List V3->aP->R3 V3:=sT eD gO
def AW:List V3->aP->R3 V3:=ye eD gO
theorem di(T:Tp P w K mg cl)(h:qu K (cl 0) "add_gate" "Draft.add_gate" bC)(bL:jB P w K mg base cl 1 0 "wire_numbers" 1 bo):jB P w K mg base cl 2 0 "add_gate" 4 cw:=by
 obtain⟨f,fd,F,hm⟩:=h;exact⟨f,fd,_,T.C_Draft,hm,ka (k:=1) oj.2 jL.2 F pL (fun dt A outer s H E hr=>(bS (fN (ma (cm T.C_Draft T.N_Draft_outs (bg 0))) (bV (cU cS rfl T.X_NoPlace rfl T.M_NoPlace (de (aQ (aD (cy (aV au (aV (eI (aa 1)) (aV au fj))))) bH)))) d7) (bS (fN (uG (jC hr) (aD (aa 1)) (cm T.C_Draft T.N_Draft_names (bg 0))) (bV (cU cS rfl T.X_Twice rfl T.M_Twice (de (aQ (aD (cy (aV au (aV (eI (aa 1)) (aV au fj))))) bH)))) d7) (bS (fN (oH Gm (oP (cm T.C_Draft T.N_Draft_gates (bg 0)) rfl T.z_len) (aD (cC T.fX rfl)) (bA _)) (bV (cU cS rfl T.X_Full rfl T.M_Full (de (aQ (aD (cy (aV au (aV (eI (aa 1)) (aV au fj))))) bH)))) d7) (bS (wV (cm T.C_Draft T.N_Draft_gates (bg 0)) (Ab (jV (yN (aD (aa 2))) (jV (lM i4 bL hr (by decide) (bg 0) (aQ (aD (aa 3)) bH) (bK dS)) (jV (yN (aD (aa 4))) wJ))))) (oZ (bG (l9 (jC hr) (aD lZ) (cm T.C_Draft T.N_Draft_names (bg 0)) (aD (aa 1))) (dI (l9 (jC hr) (oP (cm T.C_Draft T.N_Draft_numbers (bg 0)) rfl T.z_len) (cm T.C_Draft T.N_Draft_numbers (bg 0)) (aD (aa 1))))))))))),F.binds fun _ _ _ _ _ _ us hl=>match us,hl with | [_,_,_,_,_],_=>rfl⟩
abbrev bQ:Stmt:=inClass (top 28) 3
noncomputable abbrev e_:List Str:=["self","name","wires"]
noncomputable def pK:{b:List Stmt // aO bQ=b}:=⟨_,by conv=>lhs;whnf⟩
noncomputable def ki:{b:Scope // aF bQ=b}:=⟨_,by conv=>lhs;whnf⟩
theorem qv:bb e_ ["self","name","wires"] ki.1:=⟨rfl,rfl,rfl,by decide+kernel,rfl,by decide+kernel,by decide+kernel⟩
def iH:FZ:=(cO (tJ (wm (yn false (xP (ag 1)) (eT 0 "out_names" (cn 0)))) (fw 5 (eQ (bt (xP (cD (bu (eC (.str "there is an out ")) (bu (iV (ag 1)) (bu (eC (.str " ahead")) lE))))) dw))) mU) (cO (tJ (wm (JE Ld (zi (eT 0 "outs" (cn 0))) (xP (eC h_)))) (fw 6 (eQ (bt (xP (cD (bu (eC (.str "out ")) (bu (iV (ag 1)) (bu (eC (.str " is one too many")) lE))))) dw))) mU) (cO (kQ (tf (eT 0 "outs" (cn 0))) (wK (bt (tf (xP (ag 1))) (bt (oi 0 "wire_numbers" bo (tf (cn 0)) (eQ (bt (xP (ag 2)) dw))) dw)))) (Cr (nO (eT 0 "out_names" (cn 0)) (xP (ag 1)) (xP (eC (.bl true))))))))
def cH:List V3->aP->R3 V3:=sT e_ iH
def BJ:List V3->aP->R3 V3:=ye e_ iH
theorem dz(T:Tp P w K mg cl)(h:qu K (cl 0) "add_out" "Draft.add_out" bQ)(bL:jB P w K mg base cl 1 0 "wire_numbers" 1 bo):jB P w K mg base cl 2 0 "add_out" 2 cH:=by
 obtain⟨f,fd,F,hm⟩:=h;exact⟨f,fd,_,T.C_Draft,hm,ka (k:=1) pK.2 ki.2 F qv (fun dt A outer s H E hr=>(bS (fN (uG (jC hr) (aD (aa 1)) (cm T.C_Draft T.N_Draft_out_names (bg 0))) (bV (cU cS rfl T.X_Twice rfl T.M_Twice (de (aQ (aD (cy (aV au (aV (eI (aa 1)) (aV au fj))))) bH)))) d7) (bS (fN (oH Gm (oP (cm T.C_Draft T.N_Draft_outs (bg 0)) rfl T.z_len) (aD (cC T.h_ rfl)) (bA _)) (bV (cU cS rfl T.X_Full rfl T.M_Full (de (aQ (aD (cy (aV au (aV (eI (aa 1)) (aV au fj))))) bH)))) d7) (bS (wV (cm T.C_Draft T.N_Draft_outs (bg 0)) (Ab (jV (yN (aD (aa 1))) (jV (lM i4 bL hr (by decide) (bg 0) (aQ (aD (aa 2)) bH) (bK dS)) wJ)))) (oZ (dI (l9 (jC hr) (aD lZ) (cm T.C_Draft T.N_Draft_out_names (bg 0)) (aD (aa 1))))))))),F.binds fun _ _ _ _ _ _ us hl=>match us,hl with | [_,_,_],_=>rfl⟩
abbrev i5:Stmt:=top 29
noncomputable abbrev kG:List Str:=["draft","row","words"]
noncomputable def xj:{b:List Stmt // aO i5=b}:=⟨_,by conv=>lhs;whnf⟩
noncomputable def p_:{b:Scope // aF i5=b}:=⟨_,by conv=>lhs;whnf⟩
theorem sF:bb kG ["draft","row"] p_.1:=⟨rfl,rfl,rfl,by decide+kernel,rfl,by decide+kernel,by decide+kernel⟩
def nK:FZ:=(cO (Cr (oK 2 (xP (zc "str" nE (ag 1) (ai (eC (.str " ")) aI))))) (tJ (wm (bP (qy (aK f9 (ai (ag 2) aI))))) (tZ (oi 0 "add_in" cT (tf (cn 0)) (eQ (bt (xP (e2 cW (ag 2) (eC (.int 1)))) (bt (xP (wW mJ (e2 cW (ag 2) (eC (.int 2))))) dw))))) (tJ (wm (bP (qy (aK dU (ai (ag 2) aI))))) (tZ (oi 0 "add_gate" cw (tf (cn 0)) (eQ (bt (xP (e2 cW (ag 2) (eC (.int 1)))) (bt (xP (e2 cW (ag 2) (eC (.int 2)))) (bt (xP (BF (ag 2) (ie (eC (.int 3))) kf)) (bt (xP (e2 qB (e2 cW (ag 2) (eC (.int 0))) (eC (.str "sure")))) dw))))))) (tJ (wm (bP (qy (aK eV (ai (ag 2) aI))))) (tZ (oi 0 "add_out" cH (tf (cn 0)) (eQ (bt (xP (e2 cW (ag 2) (eC (.int 1)))) (bt (xP (BF (ag 2) (ie (eC (.int 2))) kf)) dw))))) (fw 3 (eQ (bt (xP (cD (bu (eC (.str "a row of no form: ")) (bu (Jj (ag 1)) lE)))) dw)))))))
def fE:List V3->aP->R3 V3:=sT kG nK
def IB:List V3->aP->R3 V3:=ye kG nK
theorem zr(T:Tp P w K mg cl)(h:Def K mg "read_row" i5)(kL:Callee P w K mg base 2 "is_in_form" 1 f9)(jv:Callee P w K mg base 4 "is_gate_form" 1 dU)(jR:Callee P w K mg base 4 "is_out_form" 1 eV)(iL:jB P w K mg base cl 2 0 "add_in" 2 cT)(gb:jB P w K mg base cl 2 0 "add_gate" 4 cw)(gY:jB P w K mg base cl 2 0 "add_out" 2 cH):eB P w K mg base cl 5 "read_row" 2 fE:=by
 obtain⟨f,fd,F,hm⟩:=h;exact⟨f,fd,_,ka (k:=4) xj.2 p_.2 F sF (fun dt A outer s H E hr=>(bS (yT (iK sF.nd rfl (Or.inl rfl) (aD (uB (aa 1) (ae au ah))))) (bV (fN (me (mw (aG kL hr (by decide) rfl (ae (aa 2) ah) (ak aJ)))) (bV (oG (lM i4 iL hr (by decide) (bg 0) (aQ (aD (aU (aa 2) aj (fun _ _=>rfl))) (aQ (aD (xw (aU (aa 2) aj (fun _ _=>rfl)) T.gd_WIDTHS rfl (fun _ _=>rfl))) bH)) (bK (bK dS))))) (bV (fN (me (mw (aG jv hr (by decide) rfl (ae (aa 2) ah) (ak aJ)))) (bV (oG (lM i4 gb hr (by decide) (bg 0) (aQ (aD (aU (aa 2) aj (fun _ _=>rfl))) (aQ (aD (aU (aa 2) aj (fun _ _=>rfl))) (aQ (aD (nC (aa 2) (d_ aj) fK)) (aQ (aD (eK (ni hr.units) (aU (aa 2) aj (fun _ _=>rfl)) au (bA _))) bH)))) (bK (bK (bK (bK dS))))))) (bV (fN (me (mw (aG jR hr (by decide) rfl (ae (aa 2) ah) (ak aJ)))) (bV (oG (lM i4 gY hr (by decide) (bg 0) (aQ (aD (aU (aa 2) aj (fun _ _=>rfl))) (aQ (aD (nC (aa 2) (d_ aj) fK)) bH)) (bK (bK dS))))) (bV (cU cS rfl T.X_NoForm rfl T.M_NoForm (de (aQ (aD (cy (aV au (aV (Ey (aa 1)) fj)))) bH)))))))))))),hm,F.kp,F.binds fun _ _ _ _ _ _ us hl=>match us,hl with | [_,_],_=>rfl⟩
abbrev bE:Stmt:=inClass (top 28) 0
noncomputable abbrev eE:List Str:=["self"]
noncomputable def oY:{b:List Stmt // aO bE=b}:=⟨_,by conv=>lhs;whnf⟩
noncomputable def jF:{b:Scope // aF bE=b}:=⟨_,by conv=>lhs;whnf⟩
theorem pU:bb eE ["self"] jF.1:=⟨rfl,rfl,rfl,by decide+kernel,rfl,by decide+kernel,by decide+kernel⟩
def gx:FZ:=(cO (uY 0 "ins" (cn 0) (BP (eS aI))) (cO (uY 0 "gates" (cn 0) (BP (eS aI))) (cO (uY 0 "outs" (cn 0) (BP (eS aI))) (cO (uY 0 "names" (cn 0) xG) (cO (uY 0 "out_names" (cn 0) xG) (uY 0 "numbers" (cn 0) xG))))))
def c4:List V3->aP->R3 V3:=sT eE gx
def Ah:List V3->aP->R3 V3:=ye eE gx
theorem df(T:Tp P w K mg cl)(h:LJ K (cl 0) "__init__" "Draft.__init__" bE):CH P w K mg base cl 1 0 "Draft" 0 c4:=by
 obtain⟨f,fd,F,hm⟩:=h;exact⟨f,fd,_,hm,rD (k:=0) oY.2 jF.2 F pU (fun dt A outer s H E hr=>(bG (pM T.C_Draft T.N_Draft_ins (bg 0) (u6 (bN ah))) (bG (pM T.C_Draft T.N_Draft_gates (bg 0) (u6 (bN ah))) (bG (pM T.C_Draft T.N_Draft_outs (bg 0) (u6 (bN ah))) (bG (pM T.C_Draft T.N_Draft_names (bg 0) vE) (bG (pM T.C_Draft T.N_Draft_out_names (bg 0) vE) (dI (pM T.C_Draft T.N_Draft_numbers (bg 0) vE)))))))),T.M_Draft,F.binds fun _ _ _ _ _ _ us hl=>match us,hl with | [_],_=>rfl⟩
abbrev rS:Stmt:=top 30
noncomputable abbrev ve:List Str:=["text","rows","draft","row"]
noncomputable def Hg:{b:List Stmt // aO rS=b}:=⟨_,by conv=>lhs;whnf⟩
noncomputable def Ai:{b:Scope // aF rS=b}:=⟨_,by conv=>lhs;whnf⟩
theorem vF:bb ve ["text"] Ai.1:=⟨rfl,rfl,rfl,by decide+kernel,rfl,by decide+kernel,by decide+kernel⟩
def oq:FZ:=(tZ (oa fE (eQ (bt (cn 2) (bt (xP (ag 3)) dw)))))
def zH:FZ:=(cO (Cr (oK 1 (xP (zc "str" nE (ag 0) (ai (eC (.str "\n")) aI))))) (cO (tJ (wm (bP (b2 Mt (aK gr (ai (ag 1) aI)) (eC iq)))) (fw 2 (eQ (bt (xP (eC (.str "a text of too many rows"))) dw))) mU) (cO (Cr (oK 2 (Fy 0 c4 dw))) (cO (zg (Pa (iP (dy (ag 1)))) (wx 3) oq) (cO (tJ (wm (Ja (EB (lF (eT 0 "ins" (cn 2)))) (EB (lF (eT 0 "outs" (cn 2)))))) (fw 8 (eQ (bt (xP (eC (.str "a net without an in, or without an out"))) dw))) mU) (Cr (zI (wK (bt (eT 0 "ins" (cn 2)) (bt (eT 0 "gates" (cn 2)) (bt (eT 0 "outs" (cn 2)) dw)))))))))))
def iU:List V3->aP->R3 V3:=sT ve zH
def O9:List V3->aP->R3 V3:=ye ve zH
theorem Lc(T:Tp P w K mg cl)(h:Def K mg "read" rS)(gd:CH P w K mg base cl 1 0 "Draft" 0 c4)(mv:eB P w K mg base cl 5 "read_row" 2 fE):eB P w K mg base cl 6 "read" 1 iU:=by
 obtain⟨f,fd,F,hm⟩:=h;exact⟨f,fd,_,ka (k:=5) Hg.2 Ai.2 F vF (fun dt A outer s H E hr=>(bS (yT (iK vF.nd rfl (Or.inl rfl) (aD (uB (aa 0) (ae au ah))))) (bS (fN (me (bO GU (bp fP rfl T.z_len PySem.boot_len (ae (aa 1) ah)) (cC T.iq rfl) (bA _))) (bV (cU cS rfl T.X_TooLong rfl T.M_TooLong (de (aQ (aD au) bH)))) d7) (bS (yT (iK vF.nd rfl (Or.inl rfl) (DL gd hr (by decide) rfl))) (bS (z8 yI rfl (lG (cB (aa 1))) (c3 vF.nd rfl (Or.inl rfl)) (bV (oG (pd i4 mv hr (by decide) rfl (de (aQ (bg 2) (aQ (aD (aa 3)) bH))) (qW (bK (bK dS))))))) (bS (fN (IF.pb (y9 (AA (ma (cm T.C_Draft T.N_Draft_ins (bg 2)))) (uS (AA (ma (cm T.C_Draft T.N_Draft_outs (bg 2))))))) (bV (cU cS rfl T.X_Open rfl T.M_Open (de (aQ (aD au) bH)))) d7) (oZ (dI (rJ (Ef (aQ (cm T.C_Draft T.N_Draft_ins (bg 2)) (aQ (cm T.C_Draft T.N_Draft_gates (bg 2)) (aQ (cm T.C_Draft T.N_Draft_outs (bg 2)) bH))))))))))))),hm,F.kp,F.binds fun _ _ _ _ _ _ us hl=>match us,hl with | [_],_=>rfl⟩
abbrev fR:Stmt:=top 32
noncomputable abbrev n5:List Str:=["place","word","rest"]
noncomputable def sW:{b:List Stmt // aO fR=b}:=⟨_,by conv=>lhs;whnf⟩
noncomputable def m4:{b:Scope // aF fR=b}:=⟨_,by conv=>lhs;whnf⟩
theorem fW:bb n5 ["place"] m4.1:=⟨rfl,rfl,rfl,by decide+kernel,rfl,by decide+kernel,by decide+kernel⟩
def ja:FS:=(bB (cG 1 (e2 eu (e2 cW (eC bw) (e2 cR (ag 2) (aK gr (ai (eC bw) aI)))) (ag 1))) (cG 2 (e2 dh (ag 2) (aK gr (ai (eC bw) aI)))))
def oO:FS:=(bB (cG 1 (e2 cW (eC bw) (e2 cR (ag 0) (aK gr (ai (eC bw) aI))))) (bB (cG 2 (e2 dh (ag 0) (aK gr (ai (eC bw) aI)))) (bB (nj 1000 (b2 Mt (ag 2) (eC (.int 0))) ja) (fu (ag 1)))))
def fQ:List D->R D:=qS n5 oO
theorem vb(T:Tp P w K mg cl)(h:Def K mg "letters_of" fR):Callee P w K mg base 1 "letters_of" 1 fQ:=by
 obtain⟨f,fd,F,hm⟩:=h;exact⟨f,fd,_,bD (k:=0) sW.2 m4.2 F fW (fun dt A outer s H E hr=>(aq (aZ fW.nd rfl (Or.inl rfl) (aU (cC T.bw rfl) (aA cY (aa 0) (bp fP rfl T.z_len PySem.boot_len (ae (cC T.bw rfl) ah))) (fun _ _=>rfl))) (aq (aZ fW.nd rfl (Or.inl rfl) (aA gy (aa 0) (bp fP rfl T.z_len PySem.boot_len (ae (cC T.bw rfl) ah)))) (aq (rq 1000 PassesOwn.never (bO GU (aa 2) aj (bA _)) (aq (aZ fW.nd rfl (Or.inl rfl) (aA eP (aU (cC T.bw rfl) (aA cY (aa 2) (bp fP rfl T.z_len PySem.boot_len (ae (cC T.bw rfl) ah))) (fun _ _=>rfl)) (aa 1))) (aL (aZ fW.nd rfl (Or.inl rfl) (aA gy (aa 2) (bp fP rfl T.z_len PySem.boot_len (ae (cC T.bw rfl) ah))))))) (aL (bq (aa 1))))))),hm,F.kp,F.binds fun _ _ _ _ _ _ us hl=>match us,hl with | [_],_=>rfl⟩
abbrev ij:Stmt:=top 33
noncomputable abbrev qc:List Str:=["place","in_names","name"]
noncomputable def vC:{b:List Stmt // aO ij=b}:=⟨_,by conv=>lhs;whnf⟩
noncomputable def oX:{b:Scope // aF ij=b}:=⟨_,by conv=>lhs;whnf⟩
theorem lL:bb qc ["place","in_names"] oX.1:=⟨rfl,rfl,rfl,by decide+kernel,rfl,by decide+kernel,by decide+kernel⟩
def tH:FS:=(cG 2 (e2 eu (eC (.str "x")) (ag 2)))
def qq:FS:=(bB (cG 2 (aK fQ (ai (ag 0) aI))) (bB (nj 1000 (wO (b2 yK (ag 2) (eC f7)) (b2 yK (ag 2) (ag 1))) tH) (fu (ag 2))))
def du:List D->R D:=qS qc qq
theorem xf(T:Tp P w K mg cl)(h:Def K mg "gate_name" ij)(kN:Callee P w K mg base 1 "letters_of" 1 fQ):Callee P w K mg base 2 "gate_name" 2 du:=by
 obtain⟨f,fd,F,hm⟩:=h;exact⟨f,fd,_,bD (k:=1) vC.2 oX.2 F lL (fun dt A outer s H E hr=>(aq (aZ lL.nd rfl (Or.inl rfl) (aG kN hr (by decide) rfl (ae (aa 0) ah) (ak aJ))) (aq (rq 1000 PassesOwn.never (jK (iW (bO yi (aa 2) (cC T.f7 rfl) (by with_unfolding_all rfl)) (kj (bO yi (aa 2) (aa 1) (by with_unfolding_all rfl))))) (aL (aZ lL.nd rfl (Or.inl rfl) (aA eP au (aa 2))))) (aL (bq (aa 2)))))),hm,F.kp,F.binds fun _ _ _ _ _ _ us hl=>match us,hl with | [_,_],_=>rfl⟩
abbrev jc:Stmt:=top 34
noncomputable abbrev gI:List Str:=["name","gate","written","word"]
noncomputable def xu:{b:List Stmt // aO jc=b}:=⟨_,by conv=>lhs;whnf⟩
noncomputable def lS:{b:Scope // aF jc=b}:=⟨_,by conv=>lhs;whnf⟩
theorem q9:bb gI ["name","gate","written"] lS.1:=⟨rfl,rfl,rfl,by decide+kernel,rfl,by decide+kernel,by decide+kernel⟩
def r9:FS:=(bB (cG 3 (MG (qy (e2 cW (ag 1) (eC (.int 2)))) (eC (.str "sure")) (eC (.str "gate")))) (fu (zc "str" j0 (eC (.str " ")) (ai (e2 eu (eNew (eS (ai (ag 3) (ai (ag 0) (ai (e2 cW (ag 1) (eC (.int 0))) aI))))) (eNew (eN (dy (e2 cW (ag 1) (eC (.int 1)))) (aR 0) oS (e2 cW (ag 1) (ag 0)) ["wire"] [2]))) aI))))
def gA:List D->R D:=qS gI r9
theorem zu(T:Tp P w K mg cl)(h:Def K mg "gate_row" jc):Callee P w K mg base 1 "gate_row" 3 gA:=by
 obtain⟨f,fd,F,hm⟩:=h;exact⟨f,fd,_,bD (k:=0) xu.2 lS.2 F q9 (fun dt A outer s H E hr=>(aq (aZ q9.nd rfl (Or.inl rfl) (KZ (mw (aU (aa 1) aj (fun _ _=>rfl))) au au)) (aL (bq (ot au (ae (aA eP (b9 (bN (ae (aa 3) (ae (aa 0) (ae (aU (aa 1) aj (fun _ _=>rfl)) ah))))) (b9 (fJ rfl (cx.of (own:=["wire"]) (kp:=[2]) (kn:=["written"]) (sc:=lS.1) (N:=gI) rfl rfl (by decide+kernel)) (cB (aU (aa 1) aj (fun _ _=>rfl))) (fun _ _ _=>(a9 (show List.Nodup [(Str.ofString "wire"),"written"] from by decide+kernel) rfl (Or.inl rfl))) (fun _ _ _=>eG) (fun _ _ _=>(aU (aa 1) (aa 0) (fun _ _=>rfl)))))) ah)))))),hm,F.kp,F.binds fun _ _ _ _ _ _ us hl=>match us,hl with | [_,_,_],_=>rfl⟩
abbrev kg:Stmt:=top 35
noncomputable abbrev pV:List Str:=["out","written"]
noncomputable def zd:{b:List Stmt // aO kg=b}:=⟨_,by conv=>lhs;whnf⟩
noncomputable def nR:{b:Scope // aF kg=b}:=⟨_,by conv=>lhs;whnf⟩
theorem B5:bb pV ["out","written"] nR.1:=⟨rfl,rfl,rfl,by decide+kernel,rfl,by decide+kernel,by decide+kernel⟩
def ub:FS:=(fu (zc "str" j0 (eC (.str " ")) (ai (e2 eu (eNew (eS (ai (eC (.str "out")) (ai (e2 cW (ag 0) (eC (.int 0))) aI)))) (eNew (eN (dy (e2 cW (ag 0) (eC (.int 1)))) (aR 0) oS (e2 cW (ag 1) (ag 0)) ["wire"] [1]))) aI)))
def kl:List D->R D:=qS pV ub
theorem Ca(T:Tp P w K mg cl)(h:Def K mg "out_row" kg):Callee P w K mg base 1 "out_row" 2 kl:=by
 obtain⟨f,fd,F,hm⟩:=h;exact⟨f,fd,_,bD (k:=0) zd.2 nR.2 F B5 (fun dt A outer s H E hr=>(aL (bq (ot au (ae (aA eP (b9 (bN (ae au (ae (aU (aa 0) aj (fun _ _=>rfl)) ah)))) (b9 (fJ rfl (cx.of (own:=["wire"]) (kp:=[1]) (kn:=["written"]) (sc:=nR.1) (N:=pV) rfl rfl (by decide+kernel)) (cB (aU (aa 0) aj (fun _ _=>rfl))) (fun _ _ _=>(a9 (show List.Nodup [(Str.ofString "wire"),"written"] from by decide+kernel) rfl (Or.inl rfl))) (fun _ _ _=>eG) (fun _ _ _=>(aU (aa 1) (aa 0) (fun _ _=>rfl)))))) ah))))),hm,F.kp,F.binds fun _ _ _ _ _ _ us hl=>match us,hl with | [_,_],_=>rfl⟩
abbrev o8:Stmt:=top 36
noncomputable abbrev qK:List Str:=["net","in_names","rows","written","name","width","place","gate","out"]
noncomputable def Ep:{b:List Stmt // aO o8=b}:=⟨_,by conv=>lhs;whnf⟩
noncomputable def rZ:{b:Scope // aF o8=b}:=⟨_,by conv=>lhs;whnf⟩
theorem hG:bb qK ["net"] rZ.1:=⟨rfl,rfl,rfl,by decide+kernel,rfl,by decide+kernel,by decide+kernel⟩
def mK:FS:=(bB (nB 2 (cD (bu (eC (.str "in ")) (bu (iV (ag 4)) (bu (eC (.str " ")) (bu (iV (ag 5)) lE)))))) (xM 3 (aK fA (ai (ag 4) (ai (ag 5) aI)))))
def mF:FS:=(bB (cG 4 (aK du (ai (ag 6) (ai (ag 1) aI)))) (bB (nB 2 (mX (aK gA (ai (ag 4) (ai (ag 7) (ai (ag 3) aI)))))) (nB 3 (ag 4))))
def mL:FS:=(nB 2 (aK kl (ai (ag 8) (ai (ag 3) aI))))
def zQ:FS:=(bB (cG 1 (eNew (eN (dy (e2 cW (ag 0) (eC (.int 0)))) (iR 2 (bX (aR 0) (bX (aR 1) iT))) oS (ag 0) ["name","width"] []))) (bB (ph 2 (eS aI)) (bB (ph 3 (eS aI)) (bB (pN (dy (e2 cW (ag 0) (eC (.int 0)))) (iR 2 (bX (aR 4) (bX (aR 5) iT))) mK) (bB (pN (pF (e2 cW (ag 0) (eC (.int 1)))) (iR 2 (bX (aR 6) (bX (aR 7) iT))) mF) (pP 3 (bB (pN (dy (e2 cW (ag 0) (eC (.int 2)))) (aR 8) mL) (pP 2 (fu (zc "str" j0 (eC (.str "\n")) (ai (ag 2) aI)))))))))))
def kB:List D->R D:=qS qK zQ
theorem HI(T:Tp P w K mg cl)(h:Def K mg "shown" o8)(gT:Callee P w K mg base 1 "in_wires" 2 fA)(mm:Callee P w K mg base 2 "gate_name" 2 du)(nT:Callee P w K mg base 1 "gate_row" 3 gA)(pZ:Callee P w K mg base 1 "out_row" 2 kl):Callee P w K mg base 3 "shown" 1 kB:=by
 obtain⟨f,fd,F,hm⟩:=h;exact⟨f,fd,_,bD (k:=2) Ep.2 rZ.2 F hG (fun dt A outer s H E hr=>(aq (o_ rfl hG.nd rfl rfl (cx.of (own:=["name","width"]) (kp:=[]) (kn:=[]) (sc:=rZ.1) (N:=qK) rfl rfl (by decide+kernel)) (cB (aU (aa 0) aj (fun _ _=>rfl))) (fun _ _ _=>(jd rfl (bZ (a9 (show List.Nodup [(Str.ofString "name"),"width"] from by decide+kernel) rfl (Or.inl rfl)) (bZ (a9 (show List.Nodup [(Str.ofString "name"),"width"] from by decide+kernel) rfl (Or.inl rfl)) gH)))) (fun _ _ _=>eG) (fun _ _ _=>(aa 0))) (aq (ia hG.nd rfl (Or.inl rfl) (bN ah)) (aq (ia hG.nd rfl (Or.inl rfl) (bN ah)) (aq (fZ PassesOwn.never rfl (cB (aU (aa 0) aj (fun _ _=>rfl))) (jd rfl (bZ (a9 hG.nd rfl (Or.inl rfl)) (bZ (a9 hG.nd rfl (Or.inl rfl)) gH))) (aq (eU rfl (Or.inl rfl) (cy (aV au (aV (eI (aa 4)) (aV au (aV (eI (aa 5)) fj)))))) (aL (By rfl (Or.inl rfl) (aG gT hr (by decide) rfl (ae (aa 4) (ae (aa 5) ah)) (ak (ak aJ))))))) (aq (fZ PassesOwn.never rfl (tY (aU (aa 0) aj (fun _ _=>rfl)) rfl T.z_enumerate) (jd rfl (bZ (a9 hG.nd rfl (Or.inl rfl)) (bZ (a9 hG.nd rfl (Or.inl rfl)) gH))) (aq (aZ hG.nd rfl (Or.inl rfl) (aG mm hr (by decide) rfl (ae (aa 6) (ae (aa 1) ah)) (ak (ak aJ)))) (aq (eU rfl (Or.inl rfl) (pf (aG nT hr (by decide) rfl (ae (aa 4) (ae (aa 7) (ae (aa 3) ah))) (ak (ak (ak aJ)))))) (aL (eU rfl (Or.inl rfl) (aa 4)))))) (ik 3 (aq (fZ PassesOwn.never rfl (cB (aU (aa 0) aj (fun _ _=>rfl))) (a9 hG.nd rfl (Or.inl rfl)) (aL (eU rfl (Or.inl rfl) (aG pZ hr (by decide) rfl (ae (aa 8) (ae (aa 3) ah)) (ak (ak aJ)))))) (ik 2 (aL (bq (ot au (ae (aa 2) ah))))))))))))),hm,F.kp,F.binds fun _ _ _ _ _ _ us hl=>match us,hl with | [_],_=>rfl⟩
abbrev eZ:Stmt:=top 38
noncomputable abbrev mW:List Str:=["script","k"]
noncomputable def rM:{b:List Stmt // aO eZ=b}:=⟨_,by conv=>lhs;whnf⟩
noncomputable def lT:{b:Scope // aF eZ=b}:=⟨_,by conv=>lhs;whnf⟩
theorem s_:bb mW ["script","k"] lT.1:=⟨rfl,rfl,rfl,by decide+kernel,rfl,by decide+kernel,by decide+kernel⟩
def mV:FS:=(bB (vV (b2 Lh (ag 1) (aK gr (ai (ag 0) aI))) (fu (e2 cW (ag 0) (ag 1))) om) (fu (eC (.int 0))))
def c7:List D->R D:=qS mW mV
theorem tI(T:Tp P w K mg cl)(h:Def K mg "_law_cell_at" eZ):Callee P w K mg base 1 "_law_cell_at" 2 c7:=by
 obtain⟨f,fd,F,hm⟩:=h;exact⟨f,fd,_,bD (k:=0) rM.2 lT.2 F s_ (fun dt A outer s H E hr=>(aq (g8 (bO EX (aa 1) (bp fP rfl T.z_len PySem.boot_len (ae (aa 0) ah)) (bA _)) (aL (bq (aU (aa 0) (aa 1) (fun _ _=>rfl)))) eW) (aL (bq aj)))),hm,F.kp,F.binds fun _ _ _ _ _ _ us hl=>match us,hl with | [_,_],_=>rfl⟩
abbrev jk:Stmt:=top 39
noncomputable abbrev ku:List Str:=["cell","k","number"]
noncomputable def xm:{b:List Stmt // aO jk=b}:=⟨_,by conv=>lhs;whnf⟩
noncomputable def qj:{b:Scope // aF jk=b}:=⟨_,by conv=>lhs;whnf⟩
theorem nD:bb ku ["cell","k"] qj.1:=⟨rfl,rfl,rfl,by decide+kernel,rfl,by decide+kernel,by decide+kernel⟩
def sv:FS:=(bB (vV (b2 Ld (ag 0) (e2 BD (eC (.int 10)) (eC (.int 18)))) (fu (e2 cR (e2 ND (e2 Bx (ag 0) (e2 BD (eC (.int 10)) (eC (.int 18)))) (e2 k_ (eC (.int 28)) (ag 1))) (e2 BD (eC (.int 2)) (eC (.int 28))))) om) (bB (cG 2 (e2 cR (e2 k_ (e2 eu (e2 eu (ag 0) (e2 k_ (eC (.int 1013)) (ag 1))) (eC (.int 1))) (eC (.int 16807))) (eC (.int 2147483647)))) (bB (cG 2 (e2 cR (e2 k_ (ag 2) (ag 2)) (eC (.int 2147483629)))) (fu (e2 dh (e2 cR (e2 k_ (ag 2) (eC (.int 39373))) (eC (.int 2147483587))) (eC (.int 8)))))))
def aT:List D->R D:=qS ku sv
theorem yU(T:Tp P w K mg cl)(h:Def K mg "_law_stir" jk):Callee P w K mg base 1 "_law_stir" 2 aT:=by
 obtain⟨f,fd,F,hm⟩:=h;exact⟨f,fd,_,bD (k:=0) xm.2 qj.2 F nD (fun dt A outer s H E hr=>(aq (g8 (bO Gm (aa 0) (aA EL aj aj) (bA _)) (aL (bq (aA cY (aA Oq (aA An (aa 0) (aA EL aj aj)) (aA qh aj (aa 1))) (aA EL aj aj)))) eW) (aq (aZ nD.nd rfl (Or.inl rfl) (aA cY (aA qh (aA eP (aA eP (aa 0) (aA qh aj (aa 1))) aj) aj) aj)) (aq (aZ nD.nd rfl (Or.inl rfl) (aA cY (aA qh (aa 2) (aa 2)) aj)) (aL (bq (aA gy (aA cY (aA qh (aa 2) aj) aj) aj))))))),hm,F.kp,F.binds fun _ _ _ _ _ _ us hl=>match us,hl with | [_,_],_=>rfl⟩
abbrev ib:Stmt:=top 40
noncomputable abbrev dO:List Str:=["head","k","many","letters","barred","found","j","number","word","spare"]
noncomputable def uL:{b:List Stmt // aO ib=b}:=⟨_,by conv=>lhs;whnf⟩
noncomputable def iX:{b:Scope // aF ib=b}:=⟨_,by conv=>lhs;whnf⟩
theorem cg:bb dO ["head","k","many"] iX.1:=⟨rfl,rfl,rfl,by decide+kernel,rfl,by decide+kernel,by decide+kernel⟩
def hJ:FS:=(bB (cG 7 (aK aT (ai (ag 0) (ai (e2 eu (ag 1) (ag 6)) aI)))) (bB (cG 8 (zc "str" j0 (eC (.str "")) (ai (eNew (eS (ai (e2 cW (ag 3) (e2 cR (ag 7) (eC (.int 26)))) (ai (e2 cW (ag 3) (e2 cR (e2 dh (ag 7) (eC (.int 26))) (eC (.int 26)))) (ai (e2 k_ (eC (.str "x")) (e2 cR (e2 dh (ag 7) (eC (.int 700))) (eC (.int 7)))) aI))))) aI))) (bB (cG 8 (BF (ag 8) (ie (e2 cR (e2 dh (ag 7) (eC (.int 5000))) (eC (.int 2)))) kf)) (bB (vV (wo (b2 qB (e2 cR (e2 dh (ag 7) (eC (.int 10000))) (eC (.int 4))) (eC (.int 0))) (rN (b2 A2 (ag 5) (eNew (eS aI))))) (cG 8 (BF (e2 eu (mX (e2 cW (ag 5) (e2 cR (e2 dh (ag 7) (eC (.int 40000))) (aK gr (ai (ag 5) aI))))) (ag 8)) kf (ie (eC (.int 8))))) om) (bB (vV (wO (b2 qB (ag 8) (eC (.str ""))) (wO (rN (b2 yK (ag 8) (ag 5))) (b2 yK (ag 8) (ag 4)))) (bB (cG 9 (eNew (eN (iJ (eC (.int 80))) (aR 0) oS (e2 eu (e2 eu (eC (.str "zz")) (e2 cW (ag 1) (e2 dh (ag 0) (eC (.int 26))))) (e2 cW (ag 1) (e2 cR (ag 0) (eC (.int 26))))) ["n"] [3]))) (cG 8 (mX (e2 cW (eNew (eN (dy (ag 9)) (aR 0) (b2 ny (ag 0) (ag 1)) (ag 0) ["one"] [5])) (eC (.int 0)))))) om) (nB 5 (ag 8)))))))
def qd:FS:=(bB (cG 3 (eC (.str "abcdefghijklmnopqrstuvwxyz"))) (bB (cG 4 (eNew (eS (ai (eC (.str "in")) (ai (eC (.str "gate")) (ai (eC (.str "sure")) (ai (eC (.str "out")) (ai (eC (.str "not")) (ai (eC (.str "and")) (ai (eC (.str "or")) (ai (eC (.str "xor")) (ai (eC (.str "vote")) aI)))))))))))) (bB (ph 5 (eS aI)) (bB (pN (iJ (ag 2)) (aR 6) hJ) (pP 5 (fu (ag 5)))))))
def fD:List D->R D:=qS dO qd
theorem w9(T:Tp P w K mg cl)(h:Def K mg "_law_names" ib)(aY:Callee P w K mg base 1 "_law_stir" 2 aT):Callee P w K mg base 2 "_law_names" 3 fD:=by
 obtain⟨f,fd,F,hm⟩:=h;exact⟨f,fd,_,bD (k:=1) uL.2 iX.2 F cg (fun dt A outer s H E hr=>(aq (aZ cg.nd rfl (Or.inr rfl) au) (aq (aZ cg.nd rfl (Or.inl rfl) (b9 (bN (ae au (ae au (ae au (ae au (ae au (ae au (ae au (ae au (ae au ah)))))))))))) (aq (ia cg.nd rfl (Or.inr rfl) (bN ah)) (aq (fZ PassesOwn.never rfl (fG (aa 2) rfl T.z_range) (a9 cg.nd rfl (Or.inl rfl)) (aq (aZ cg.nd rfl (Or.inl rfl) (aG aY hr (by decide) rfl (ae (aa 0) (ae (aA eP (aa 1) (aa 6)) ah)) (ak (ak aJ)))) (aq (aZ cg.nd rfl (Or.inl rfl) (ot au (ae (b9 (bN (ae (aU (aa 3) (aA cY (aa 7) aj) (fun _ _=>rfl)) (ae (aU (aa 3) (aA cY (aA gy (aa 7) aj) aj) (fun _ _=>rfl)) (ae (aA qh au (aA cY (aA gy (aa 7) aj) aj)) ah))))) ah))) (aq (aZ cg.nd rfl (Or.inl rfl) (nC (aa 8) (d_ (aA cY (aA gy (aa 7) aj) aj)) fK)) (aq (g8 (jK (xb (bO (ni hr.units) (aA cY (aA gy (aa 7) aj) aj) aj (bA _)) (tS (xF (bO (DU hr.units) (aa 5) (b9 (bN ah)) (bA _)))))) (aL (aZ cg.nd rfl (Or.inl rfl) (nC (aA eP (pf (aU (aa 5) (aA cY (aA gy (aa 7) aj) (bp fP rfl T.z_len PySem.boot_len (ae (aa 5) ah))) (fun _ _=>rfl))) (aa 8)) fK (d_ aj)))) eW) (aq (g8 (jK (iW (bO (ni hr.units) (aa 8) au (bA _)) (iW (xF (bO yi (aa 8) (aa 5) (by with_unfolding_all rfl))) (kj (bO yi (aa 8) (aa 4) (by with_unfolding_all rfl)))))) (aq (o_ rfl cg.nd rfl rfl (cx.of (own:=["n"]) (kp:=[3]) (kn:=["letters"]) (sc:=iX.1) (N:=dO) rfl rfl (by decide+kernel)) (fG aj rfl T.z_range) (fun _ _ _=>(a9 (show List.Nodup [(Str.ofString "n"),"letters"] from by decide+kernel) rfl (Or.inl rfl))) (fun _ _ _=>eG) (fun _ _ _=>(aA eP (aA eP au (aU (aa 1) (aA gy (aa 0) aj) (fun _ _=>rfl))) (aU (aa 1) (aA cY (aa 0) aj) (fun _ _=>rfl))))) (aL (aZ cg.nd rfl (Or.inl rfl) (pf (aU (b9 (fJ rfl (cx.of (own:=["one"]) (kp:=[5]) (kn:=["found"]) (sc:=iX.1) (N:=dO) rfl rfl (by decide+kernel)) (cB (aa 9)) (fun _ _ _=>(a9 (show List.Nodup [(Str.ofString "one"),"found"] from by decide+kernel) rfl (Or.inl rfl))) (fun _ _ _=>(wa (bO vt (aa 0) (aa 1) (by with_unfolding_all rfl)))) (fun _ _ _=>(aa 0)))) aj (fun _ _=>rfl)))))) eW) (aL (eU rfl (Or.inr (Or.inl rfl)) (aa 8))))))))) (ik 5 (aL (bq (aa 5))))))))),hm,F.kp,F.binds fun _ _ _ _ _ _ us hl=>match us,hl with | [_,_,_],_=>rfl⟩
abbrev iy:Stmt:=top 41
noncomputable abbrev mi:List Str:=["cell","k","many","count","found","j","number"]
noncomputable def vv:{b:List Stmt // aO iy=b}:=⟨_,by conv=>lhs;whnf⟩
noncomputable def oe:{b:Scope // aF iy=b}:=⟨_,by conv=>lhs;whnf⟩
theorem jG:bb mi ["cell","k","many","count"] oe.1:=⟨rfl,rfl,rfl,by decide+kernel,rfl,by decide+kernel,by decide+kernel⟩
def jN:FS:=(bB (cG 6 (aK aT (ai (ag 0) (ai (e2 eu (ag 1) (ag 5)) aI)))) (nB 4 (e2 cW (eNew (eS (ai (e2 cR (e2 dh (ag 6) (eC (.int 4))) (ag 3)) (ai (e2 Bx (e2 Bx (ag 3) (eC (.int 1))) (e2 cR (e2 dh (ag 6) (eC (.int 4))) (aK AO (ai (ag 3) (ai (eC (.int 6)) aI))))) aI)))) (aK EY (ai (e2 Mt (e2 cR (ag 6) (eC (.int 4))) (eC (.int 0))) aI)))))
def qk:FS:=(bB (ph 4 (eS aI)) (bB (pN (iJ (ag 2)) (aR 5) jN) (pP 4 (fu (aK uP (ai (ag 4) aI))))))
def dW:List D->R D:=qS mi qk
theorem xk(T:Tp P w K mg cl)(h:Def K mg "_law_wires" iy)(aY:Callee P w K mg base 1 "_law_stir" 2 aT):Callee P w K mg base 2 "_law_wires" 4 dW:=by
 obtain⟨f,fd,F,hm⟩:=h;exact⟨f,fd,_,bD (k:=1) vv.2 oe.2 F jG (fun dt A outer s H E hr=>(aq (ia jG.nd rfl (Or.inl rfl) (bN ah)) (aq (fZ PassesOwn.never rfl (fG (aa 2) rfl T.z_range) (a9 jG.nd rfl (Or.inl rfl)) (aq (aZ jG.nd rfl (Or.inl rfl) (aG aY hr (by decide) rfl (ae (aa 0) (ae (aA eP (aa 1) (aa 5)) ah)) (ak (ak aJ)))) (aL (eU rfl (Or.inl rfl) (aU (b9 (bN (ae (aA cY (aA gy (aa 6) aj) (aa 3)) (ae (aA An (aA An (aa 3) aj) (aA cY (aA gy (aa 6) aj) (bp (LO rfl) rfl T.z_min PyProof.Rows.boot_min (ae (aa 3) (ae aj ah))))) ah)))) (sg Kt rfl T.z_int PyProof.Rows.boot_int (ae (eK GU (aA cY (aa 6) aj) aj (bA _)) ah)) (fun _ _=>rfl)))))) (ik 4 (aL (bq (sg Am rfl T.z_tuple PyProof.Rows.boot_tuple (ae (aa 4) ah)))))))),hm,F.kp,F.binds fun _ _ _ _ _ _ us hl=>match us,hl with | [_,_,_,_],_=>rfl⟩
abbrev ji:Stmt:=top 42
noncomputable abbrev jj:List Str:=["cell","count","number","kind","many"]
noncomputable def xD:{b:List Stmt // aO ji=b}:=⟨_,by conv=>lhs;whnf⟩
noncomputable def qp:{b:Scope // aF ji=b}:=⟨_,by conv=>lhs;whnf⟩
theorem kz:bb jj ["cell","count"] qp.1:=⟨rfl,rfl,rfl,by decide+kernel,rfl,by decide+kernel,by decide+kernel⟩
def sI:FS:=(bB (cG 2 (aK aT (ai (ag 0) (ai (eC (.int 0)) aI)))) (bB (cG 3 (e2 cW (eNew (eS (ai (eC (.str "and")) (ai (eC (.str "or")) (ai (eC (.str "xor")) (ai (eC (.str "vote")) (ai (eC (.str "not")) (ai (eC (.str "and")) (ai (eC (.str "xor")) (ai (eC (.str "vote")) aI)))))))))) (e2 cR (ag 2) (eC (.int 8))))) (bB (cG 4 (Eu [((Sum.inr "not":Key),V.int 1),((Sum.inr "vote":Key),V.int 3)] (ag 3) (eC (.int 2)))) (fu (k9 (ai (ag 3) (ai (aK dW (ai (ag 0) (ai (eC (.int 1)) (ai (ag 4) (ai (ag 1) aI))))) (ai (e2 qB (e2 cR (e2 dh (ag 2) (eC (.int 8))) (eC (.int 4))) (eC (.int 0))) aI))))))))
def je:List D->R D:=qS jj sI
theorem yA(T:Tp P w K mg cl)(h:Def K mg "_law_gate" ji)(aY:Callee P w K mg base 1 "_law_stir" 2 aT)(fH:Callee P w K mg base 2 "_law_wires" 4 dW):Callee P w K mg base 3 "_law_gate" 2 je:=by
 obtain⟨f,fd,F,hm⟩:=h;exact⟨f,fd,_,bD (k:=2) xD.2 qp.2 F kz (fun dt A outer s H E hr=>(aq (aZ kz.nd rfl (Or.inl rfl) (aG aY hr (by decide) rfl (ae (aa 0) (ae aj ah)) (ak (ak aJ)))) (aq (aZ kz.nd rfl (Or.inl rfl) (aU (b9 (bN (ae au (ae au (ae au (ae au (ae au (ae au (ae au (ae au ah)))))))))) (aA cY (aa 2) aj) (fun _ _=>rfl))) (aq (aZ kz.nd rfl (Or.inl rfl) (Ho (jC hr) (fT ft q_ (fT ft q_ vn)) rfl rfl (by simp) (fun _ _ _ h=>h) (by decide) (aa 3) aj ⟨rfl,rfl,rfl,rfl⟩ (Ad (fT ft q_ (fT ft q_ vn)) rfl rfl (by simp) (by decide)))) (aL (bq (dG (ae (aa 3) (ae (aG fH hr (by decide) rfl (ae (aa 0) (ae aj (ae (aa 4) (ae (aa 1) ah)))) (ak (ak (ak (ak aJ))))) (ae (eK (ni hr.units) (aA cY (aA gy (aa 2) aj) aj) aj (bA _)) ah)))))))))),hm,F.kp,F.binds fun _ _ _ _ _ _ us hl=>match us,hl with | [_,_],_=>rfl⟩
abbrev jZ:Stmt:=top 43
noncomputable abbrev i0:List Str:=["script","head","names","ins","place","first","gates","cell","outs","others","number"]
noncomputable def yM:{b:List Stmt // aO jZ=b}:=⟨_,by conv=>lhs;whnf⟩
noncomputable def nL:{b:Scope // aF jZ=b}:=⟨_,by conv=>lhs;whnf⟩
theorem cI:bb i0 ["script"] nL.1:=⟨rfl,rfl,rfl,by decide+kernel,rfl,by decide+kernel,by decide+kernel⟩
def lU:FS:=(nB 3 (k9 (ai (e2 cW (ag 2) (ag 4)) (ai (e2 eu (eC (.int 1)) (e2 cR (aK aT (ai (ag 1) (ai (e2 eu (eC (.int 321)) (ag 4)) aI))) (eC (.int 3)))) aI))))
def lO:FS:=(nB 6 (aK je (ai (ag 7) (ai (e2 eu (ag 5) (mX (aK gr (ai (ag 6) aI)))) aI))))
def lr:FS:=(bB (cG 10 (aK aT (ai (ag 1) (ai (e2 eu (eC (.int 342)) (ag 4)) aI)))) (nB 8 (k9 (ai (e2 cW (ag 9) (e2 Bx (eC (.int 5)) (ag 4))) (ai (aK dW (ai (ag 1) (ai (e2 eu (eC (.int 350)) (e2 k_ (eC (.int 3)) (ag 4))) (ai (e2 eu (eC (.int 1)) (e2 cR (ag 10) (eC (.int 3)))) (ai (e2 eu (ag 5) (aK gr (ai (ag 6) aI))) aI))))) aI)))))
def uc:FS:=(bB (cG 1 (aK c7 (ai (ag 0) (ai (eC (.int 0)) aI)))) (bB (cG 2 (aK fD (ai (ag 1) (ai (eC (.int 300)) (ai (eC (.int 6)) aI))))) (bB (ph 3 (eS aI)) (bB (pN (iJ (e2 eu (eC (.int 1)) (e2 cR (aK aT (ai (ag 1) (ai (eC (.int 320)) aI))) (eC (.int 6))))) (aR 4) lU) (pP 3 (bB (cG 5 (aK w6 (ai (eNew (eN (dy (ag 3)) (iR 2 (bX (aR 0) (bX (aR 1) iT))) oS (ag 1) ["name","width"] [])) aI))) (bB (ph 6 (eS aI)) (bB (pN (dy (BF (ag 0) (ie (eC (.int 1))) (ie (eC (.int 61))))) (aR 7) lO) (pP 6 (bB (ph 8 (eS aI)) (bB (cG 9 (aK fD (ai (ag 1) (ai (eC (.int 330)) (ai (eC (.int 6)) aI))))) (bB (vV (b2 qB (e2 cR (aK aT (ai (ag 1) (ai (eC (.int 340)) aI))) (eC (.int 2))) (eC (.int 0))) (cG 9 (ag 2)) om) (bB (pN (iJ (e2 eu (eC (.int 1)) (e2 cR (aK aT (ai (ag 1) (ai (eC (.int 341)) aI))) (eC (.int 6))))) (aR 4) lr) (pP 8 (fu (k9 (ai (ag 3) (ai (ag 6) (ai (ag 8) aI)))))))))))))))))))
def mC:List D->R D:=qS i0 uc
theorem BL(T:Tp P w K mg cl)(h:Def K mg "_law_net" jZ)(e8:Callee P w K mg base 1 "_law_cell_at" 2 c7)(jM:Callee P w K mg base 2 "_law_names" 3 fD)(aY:Callee P w K mg base 1 "_law_stir" 2 aT)(nV:Callee P w K mg base 3 "_law_gate" 2 je)(fH:Callee P w K mg base 2 "_law_wires" 4 dW):Callee P w K mg base 4 "_law_net" 1 mC:=by
 obtain⟨f,fd,F,hm⟩:=h;exact⟨f,fd,_,bD (k:=3) yM.2 nL.2 F cI (fun dt A outer s H E hr=>(aq (aZ cI.nd rfl (Or.inl rfl) (aG e8 hr (by decide) rfl (ae (aa 0) (ae aj ah)) (ak (ak aJ)))) (aq (aZ cI.nd rfl (Or.inl rfl) (aG jM hr (by decide) rfl (ae (aa 1) (ae aj (ae aj ah))) (ak (ak (ak aJ))))) (aq (ia cI.nd rfl (Or.inl rfl) (bN ah)) (aq (fZ PassesOwn.never rfl (fG (aA eP aj (aA cY (aG aY hr (by decide) rfl (ae (aa 1) (ae aj ah)) (ak (ak aJ))) aj)) rfl T.z_range) (a9 cI.nd rfl (Or.inl rfl)) (aL (eU rfl (Or.inl rfl) (dG (ae (aU (aa 2) (aa 4) (fun _ _=>rfl)) (ae (aA eP aj (aA cY (aG aY hr (by decide) rfl (ae (aa 1) (ae (aA eP aj (aa 4)) ah)) (ak (ak aJ))) aj)) ah)))))) (ik 3 (aq (aZ cI.nd rfl (Or.inl rfl) (bp (Ll rfl) rfl T.z_sum PyProof.Rows.boot_sum (ae (b9 (fJ rfl (cx.of (own:=["name","width"]) (kp:=[]) (kn:=[]) (sc:=nL.1) (N:=i0) rfl rfl (by decide+kernel)) (cB (aa 3)) (fun _ _ _=>(jd rfl (bZ (a9 (show List.Nodup [(Str.ofString "name"),"width"] from by decide+kernel) rfl (Or.inl rfl)) (bZ (a9 (show List.Nodup [(Str.ofString "name"),"width"] from by decide+kernel) rfl (Or.inl rfl)) gH)))) (fun _ _ _=>eG) (fun _ _ _=>(aa 1)))) ah))) (aq (ia cI.nd rfl (Or.inl rfl) (bN ah)) (aq (fZ PassesOwn.never rfl (cB (nC (aa 0) (d_ aj) (d_ aj))) (a9 cI.nd rfl (Or.inl rfl)) (aL (eU rfl (Or.inl rfl) (aG nV hr (by decide) rfl (ae (aa 7) (ae (aA eP (aa 5) (pf (bp fP rfl T.z_len PySem.boot_len (ae (aa 6) ah)))) ah)) (ak (ak aJ)))))) (ik 6 (aq (ia cI.nd rfl (Or.inl rfl) (bN ah)) (aq (aZ cI.nd rfl (Or.inl rfl) (aG jM hr (by decide) rfl (ae (aa 1) (ae aj (ae aj ah))) (ak (ak (ak aJ))))) (aq (g8 (bO (ni hr.units) (aA cY (aG aY hr (by decide) rfl (ae (aa 1) (ae aj ah)) (ak (ak aJ))) aj) aj (bA _)) (aL (aZ cI.nd rfl (Or.inl rfl) (aa 2))) eW) (aq (fZ PassesOwn.never rfl (fG (aA eP aj (aA cY (aG aY hr (by decide) rfl (ae (aa 1) (ae aj ah)) (ak (ak aJ))) aj)) rfl T.z_range) (a9 cI.nd rfl (Or.inl rfl)) (aq (aZ cI.nd rfl (Or.inl rfl) (aG aY hr (by decide) rfl (ae (aa 1) (ae (aA eP aj (aa 4)) ah)) (ak (ak aJ)))) (aL (eU rfl (Or.inl rfl) (dG (ae (aU (aa 9) (aA An aj (aa 4)) (fun _ _=>rfl)) (ae (aG fH hr (by decide) rfl (ae (aa 1) (ae (aA eP aj (aA qh aj (aa 4))) (ae (aA eP aj (aA cY (aa 10) aj)) (ae (aA eP (aa 5) (bp fP rfl T.z_len PySem.boot_len (ae (aa 6) ah))) ah)))) (ak (ak (ak (ak aJ))))) ah))))))) (ik 8 (aL (bq (dG (ae (aa 3) (ae (aa 6) (ae (aa 8) ah))))))))))))))))))))),hm,F.kp,F.binds fun _ _ _ _ _ _ us hl=>match us,hl with | [_],_=>rfl⟩
abbrev c2:Stmt:=top 44
noncomputable abbrev fL:List Str:=["cell","ins","number","base","found","place","name","width","other"]
noncomputable def nF:{b:List Stmt // aO c2=b}:=⟨_,by conv=>lhs;whnf⟩
noncomputable def jb:{b:Scope // aF c2=b}:=⟨_,by conv=>lhs;whnf⟩
theorem bJ:bb fL ["cell","ins"] jb.1:=⟨rfl,rfl,rfl,by decide+kernel,rfl,by decide+kernel,by decide+kernel⟩
def eR:FS:=(bB (cG 8 (e2 cW (eNew (eS (ai (ag 6) (ai (e2 eu (e2 k_ (eC (.str "x")) (ag 5)) (ag 3)) (ai (e2 cW (eC (.str "abcxyz")) (ag 5)) (ai (e2 cW (eNew (eS (ai (eC (.str "xa")) (ai (eC (.str "xxa")) (ai (eC (.str "xb")) (ai (eC (.str "a")) (ai (eC (.str "xx")) (ai (eC (.str "x")) aI)))))))) (ag 5)) aI)))))) (e2 cR (ag 2) (eC (.int 4))))) (nB 4 (k9 (ai (ag 8) (ai (ag 7) aI)))))
def jH:FS:=(bB (cG 2 (aK aT (ai (ag 0) (ai (eC (.int 500)) aI)))) (bB (cG 3 (e2 cW (eNew (eS (ai (eC (.str "a")) (ai (eC (.str "b")) (ai (eC (.str "x")) (ai (eC (.str "ba")) (ai (eC (.str "c")) (ai (eC (.str "z")) aI)))))))) (e2 cR (e2 dh (ag 2) (eC (.int 4))) (eC (.int 6))))) (bB (ph 4 (eS aI)) (bB (pN (pF (ag 1)) (iR 2 (bX (aR 5) (bX (iR 2 (bX (aR 6) (bX (aR 7) iT))) iT))) eR) (pP 4 (fu (ag 4)))))))
def dH:List D->R D:=qS fL jH
theorem o7(T:Tp P w K mg cl)(h:Def K mg "_law_strange_ins" c2)(aY:Callee P w K mg base 1 "_law_stir" 2 aT):Callee P w K mg base 2 "_law_strange_ins" 2 dH:=by
 obtain⟨f,fd,F,hm⟩:=h;exact⟨f,fd,_,bD (k:=1) nF.2 jb.2 F bJ (fun dt A outer s H E hr=>(aq (aZ bJ.nd rfl (Or.inl rfl) (aG aY hr (by decide) rfl (ae (aa 0) (ae aj ah)) (ak (ak aJ)))) (aq (aZ bJ.nd rfl (Or.inl rfl) (aU (b9 (bN (ae au (ae au (ae au (ae au (ae au (ae au ah)))))))) (aA cY (aA gy (aa 2) aj) aj) (fun _ _=>rfl))) (aq (ia bJ.nd rfl (Or.inl rfl) (bN ah)) (aq (fZ PassesOwn.never rfl (tY (aa 1) rfl T.z_enumerate) (jd rfl (bZ (a9 bJ.nd rfl (Or.inl rfl)) (bZ (jd rfl (bZ (a9 bJ.nd rfl (Or.inl rfl)) (bZ (a9 bJ.nd rfl (Or.inl rfl)) gH))) gH))) (aq (aZ bJ.nd rfl (Or.inl rfl) (aU (b9 (bN (ae (aa 6) (ae (aA eP (aA qh au (aa 5)) (aa 3)) (ae (aU au (aa 5) (fun _ _=>rfl)) (ae (aU (b9 (bN (ae au (ae au (ae au (ae au (ae au (ae au ah)))))))) (aa 5) (fun _ _=>rfl)) ah)))))) (aA cY (aa 2) aj) (fun _ _=>rfl))) (aL (eU rfl (Or.inl rfl) (dG (ae (aa 8) (ae (aa 7) ah))))))) (ik 4 (aL (bq (aa 4))))))))),hm,F.kp,F.binds fun _ _ _ _ _ _ us hl=>match us,hl with | [_,_],_=>rfl⟩
abbrev hX:Stmt:=top 45
noncomputable abbrev dX:List Str:=["cell","net","ins","gates","outs","kind","at","word","wires","sure","others","names"]
noncomputable def uW:{b:List Stmt // aO hX=b}:=⟨_,by conv=>lhs;whnf⟩
noncomputable def fU:{b:Scope // aF hX=b}:=⟨_,by conv=>lhs;whnf⟩
theorem bU:bb dX ["cell","net"] fU.1:=⟨rfl,rfl,rfl,by decide+kernel,rfl,by decide+kernel,by decide+kernel⟩
def lP:FZ:=(cO (Ex (tM (iP (dy (ag 1))) (wx 0) Gw (BP (nList (ag 0))) ["some"] []) (Pu 3 (F4 (wx 2) (F4 (wx 3) (F4 (wx 4) O5))))) (cO (oK 5 (xP (e2 cR (aK aT (ai (ag 0) (ai (eC (.int 510)) aI))) (eC (.int 5))))) (cO (tJ (bT (wo (b2 Lh (ag 5) (eC (.int 3))) (b2 A2 (ag 3) (eNew (eS aI))))) (cO (oK 6 (xT (e2 cR (aK aT (ai (ag 0) (ai (eC (.int 511)) aI))) (aK gr (ai (ag 3) aI))))) (cO (Ex (xT (e2 cW (ag 3) (ag 6))) (O_ 3 (F4 (wx 7) (F4 (wx 8) (F4 (wx 9) O5))))) (cO (oK 10 (xP (eC (Gr [("and","or"),("or","xor"),("xor","and"),("vote","vote"),("not","not")])))) (CW (cn 3) (xP (ag 6)) (xP (e2 cW (eNew (eS (ai (k9 (ai (ag 7) (ai (ag 8) (ai (J1 (ag 9)) aI)))) (ai (k9 (ai (e2 Ik (ag 10) (ag 7)) (ai (ag 8) (ai (ag 9) aI)))) (ai (k9 (ai (ag 7) (ai (e2 rm (E6 (ag 8) (ie (eC (.int 1))) kf) (E6 (ag 8) kf (ie (eC (.int 1))))) (ai (ag 9) aI)))) aI))))) (ag 5))))))) (tJ (bP (b2 qB (ag 5) (eC (.int 3)))) (cO (oK 6 (xT (e2 cR (aK aT (ai (ag 0) (ai (eC (.int 511)) aI))) (aK gr (ai (ag 4) aI))))) (CW (cn 4) (xP (ag 6)) (xT (k9 (ai (e2 cW (e2 cW (ag 4) (ag 6)) (eC (.int 0))) (ai (e2 rm (E6 (e2 cW (e2 cW (ag 4) (ag 6)) (eC (.int 1))) (ie (eC (.int 1))) kf) (k9 (ai (eC (.int 0)) aI))) aI)))))) (cO (oK 6 (xT (e2 cR (aK aT (ai (ag 0) (ai (eC (.int 511)) aI))) (aK gr (ai (ag 4) aI))))) (cO (oK 11 (Al (eN (dy (ag 4)) (iR 2 (bX (aR 0) (bX (aR 1) iT))) oS (ag 0) ["name","wires"] []))) (CW (cn 4) (xP (ag 6)) (xT (k9 (ai (e2 cW (eNew (eN (dy (eNew (eS (ai (eC (.str "za")) (ai (eC (.str "zb")) (ai (eC (.str "zc")) (ai (eC (.str "zd")) (ai (eC (.str "ze")) (ai (eC (.str "zf")) (ai (eC (.str "zg")) aI)))))))))) (aR 0) (b2 ny (ag 0) (ag 1)) (ag 0) ["one"] [11])) (eC (.int 0))) (ai (e2 cW (e2 cW (ag 4) (ag 6)) (eC (.int 1))) aI))))))))) (zI (wK (bt (cn 2) (bt (cn 3) (bt (cn 4) dw))))))))
def vD:List V3->aP->R3 V3:=sT dX lP
def kJ:List V3->aP->R3 V3:=ye dX lP
theorem xR(T:Tp P w K mg cl)(h:Def K mg "_law_other" hX)(aY:Callee P w K mg base 1 "_law_stir" 2 aT):o9 P w K mg base cl 2 "_law_other" 2 vD:=by
 obtain⟨f,fd,F,hm⟩:=h;exact⟨f,fd,_,rD (k:=1) uW.2 fU.2 F bU (fun dt A outer s H E hr=>(bG (yW (Ap rfl (cx.of (own:=["some"]) (kp:=[]) (kn:=[]) (sc:=fU.1) (N:=dX) rfl rfl (by decide+kernel)) (lG (cB (aa 1))) (fun _ _ _=>(c3 (show List.Nodup [(Str.ofString "some")] from by decide+kernel) rfl (Or.inl rfl))) (fun _ _ _=>uy) (fun _ _ _=>(u6 (DZ (aa 0) rfl T.z_list)))) (GK rfl (eJ (c3 bU.nd rfl (Or.inl rfl)) (eJ (c3 bU.nd rfl (Or.inl rfl)) (eJ (c3 bU.nd rfl (Or.inl rfl)) se))))) (bG (iK bU.nd rfl (Or.inl rfl) (aD (aA cY (aG aY hr (by decide) rfl (ae (aa 0) (ae aj ah)) (ak (ak aJ))) aj))) (bG (EW (DR (jK (xb (bO EX (aa 5) aj (bA _)) (tS (bO (DU hr.units) (aa 3) (b9 (bN ah)) (bA _)))))) (bG (iK bU.nd rfl (Or.inl rfl) (mE (aA cY (aG aY hr (by decide) rfl (ae (aa 0) (ae aj ah)) (ak (ak aJ))) (bp fP rfl T.z_len PySem.boot_len (ae (aa 3) ah))))) (bG (yW (mE (aU (aa 3) (aa 6) (fun _ _=>rfl))) (AD rfl (eJ (c3 bU.nd rfl (Or.inl rfl)) (eJ (c3 bU.nd rfl (Or.inl rfl)) (eJ (c3 bU.nd rfl (Or.inl rfl)) se))))) (bG (iK bU.nd rfl (Or.inl rfl) (aD (CY [("and","or"),("or","xor"),("xor","and"),("vote","vote"),("not","not")] (fT ft ft (fT ft ft (fT ft ft (fT ft ft (fT ft ft vn))))) rfl rfl (by simp) (by decide) (fun _ _ _ h=>h) (by decide) rfl))) (dI (zD (aD (aU (b9 (bN (ae (dG (ae (aa 7) (ae (aa 8) (ae (HL (aa 9)) ah)))) (ae (dG (ae (Er (jC hr) (aa 10) (aa 7) (fun _ _=>rfl)) (ae (aa 8) (ae (aa 9) ah)))) (ae (dG (ae (aa 7) (ae (aA D6 (uU (aa 8) (d_ aj) fK) (uU (aa 8) fK (d_ aj))) (ae (aa 9) ah)))) ah))))) (aa 5) (fun _ _=>rfl))) (yy (PX.go (bg 3)) (PX.go (aD (aa 6))) set_list)))))) (dI (EW (me (bO (ni hr.units) (aa 5) aj (bA _))) (bG (iK bU.nd rfl (Or.inl rfl) (mE (aA cY (aG aY hr (by decide) rfl (ae (aa 0) (ae aj ah)) (ak (ak aJ))) (bp fP rfl T.z_len PySem.boot_len (ae (aa 4) ah))))) (dI (zD (mE (dG (ae (aU (aU (aa 4) (aa 6) (fun _ _=>rfl)) aj (fun _ _=>rfl)) (ae (aA D6 (uU (aU (aU (aa 4) (aa 6) (fun _ _=>rfl)) aj (fun _ _=>rfl)) (d_ aj) fK) (dG (ae aj ah))) ah)))) (yy (PX.go (bg 4)) (PX.go (aD (aa 6))) set_list)))) (bG (iK bU.nd rfl (Or.inl rfl) (mE (aA cY (aG aY hr (by decide) rfl (ae (aa 0) (ae aj ah)) (ak (ak aJ))) (bp fP rfl T.z_len PySem.boot_len (ae (aa 4) ah))))) (bG (iK bU.nd rfl (Or.inr rfl) (HC (fJ rfl (cx.of (own:=["name","wires"]) (kp:=[]) (kn:=[]) (sc:=fU.1) (N:=dX) rfl rfl (by decide+kernel)) (cB (aa 4)) (fun _ _ _=>(jd rfl (bZ (a9 (show List.Nodup [(Str.ofString "name"),"wires"] from by decide+kernel) rfl (Or.inl rfl)) (bZ (a9 (show List.Nodup [(Str.ofString "name"),"wires"] from by decide+kernel) rfl (Or.inl rfl)) gH)))) (fun _ _ _=>eG) (fun _ _ _=>(aa 0))))) (dI (zD (mE (dG (ae (aU (b9 (fJ rfl (cx.of (own:=["one"]) (kp:=[11]) (kn:=["names"]) (sc:=fU.1) (N:=dX) rfl rfl (by decide+kernel)) (cB (b9 (bN (ae au (ae au (ae au (ae au (ae au (ae au (ae au ah)))))))))) (fun _ _ _=>(a9 (show List.Nodup [(Str.ofString "one"),"names"] from by decide+kernel) rfl (Or.inl rfl))) (fun _ _ _=>(wa (bO vt (aa 0) (aa 1) (by with_unfolding_all rfl)))) (fun _ _ _=>(aa 0)))) aj (fun _ _=>rfl)) (ae (aU (aU (aa 4) (aa 6) (fun _ _=>rfl)) aj (fun _ _=>rfl)) ah)))) (yy (PX.go (bg 4)) (PX.go (aD (aa 6))) set_list)))))))) (dI (rJ (Ef (aQ (bg 2) (aQ (bg 3) (aQ (bg 4) bH)))))))))),hm,F.kp,F.binds fun _ _ _ _ _ _ us hl=>match us,hl with | [_,_],_=>rfl⟩
abbrev Ao:Stmt:=top 46
noncomputable abbrev qb:List Str:=["script","ins","gates","outs","net","text","other"]
noncomputable def Ko:{b:List Stmt // aO Ao=b}:=⟨_,by conv=>lhs;whnf⟩
noncomputable def Fj:{b:Scope // aF Ao=b}:=⟨_,by conv=>lhs;whnf⟩
theorem rg:bb qb ["script"] Fj.1:=⟨rfl,rfl,rfl,by decide+kernel,rfl,by decide+kernel,by decide+kernel⟩
def sH:FZ:=(cO (Ex (xP (aK mC (ai (ag 0) aI))) (O_ 3 (F4 (wx 1) (F4 (wx 2) (F4 (wx 3) O5))))) (cO (oK 4 (xP (k9 (ai (aK dH (ai (aK c7 (ai (ag 0) (ai (eC (.int 0)) aI))) (ai (ag 1) aI))) (ai (ag 2) (ai (ag 3) aI)))))) (cO (oK 5 (xP (aK kB (ai (ag 4) aI)))) (cO (tJ (Ja (JE A2 (oa (F9 iU) (eQ (bt (xP (ag 5)) dw))) (xP (ag 4))) (JE A2 (pX kB (bt (oa (F9 iU) (eQ (bt (xP (ag 5)) dw))) dw)) (xP (ag 5)))) (zI (xP (eC (.bl false)))) mU) (cO (oK 6 (oa kJ (bt (xP (aK c7 (ai (ag 0) (ai (eC (.int 1)) aI)))) (bt (xP (ag 4)) dw)))) (zI (JC (xP (e2 qB (e2 qB (aK kB (ai (ag 6) aI)) (ag 5)) (e2 qB (ag 6) (ag 4)))) (x2 qB (oa (F9 iU) (eQ (bt (xP (aK kB (ai (ag 6) aI))) dw))) (xP (ag 6))))))))))
def Qb:List V3->aP->R3 V3:=sT qb sH
def PV:List V3->aP->R3 V3:=ye qb sH
def A3:List D->R D:=Pe qb sH
structure Cf (K:W.Frag) (mg:YG) (cl:YH):Prop where
 C_Draft:xK K (cl 0)
 N_Draft_ins:c9 K (cl 0) "ins"
 N_Draft_gates:c9 K (cl 0) "gates"
 N_Draft_outs:c9 K (cl 0) "outs"
 N_Draft_names:c9 K (cl 0) "names"
 N_Draft_out_names:c9 K (cl 0) "out_names"
 N_Draft_numbers:c9 K (cl 0) "numbers"
 M_Draft:mg "Draft"=some (.ref (cl 0))
 M_FaultError:mg "FaultError"=some (.ref (cl 1))
 M_TooLong:mg "TooLong"=some (.ref (cl 2))
 M_NoForm:mg "NoForm"=some (.ref (cl 3))
 M_NoPlace:mg "NoPlace"=some (.ref (cl 4))
 M_Twice:mg "Twice"=some (.ref (cl 5))
 M_Full:mg "Full"=some (.ref (cl 6))
 M_NoWire:mg "NoWire"=some (.ref (cl 7))
 M_Open:mg "Open"=some (.ref (cl 8))
 X_TooLong:XC K (cl 2)
 X_NoForm:XC K (cl 3)
 X_NoPlace:XC K (cl 4)
 X_Twice:XC K (cl 5)
 X_Full:XC K (cl 6)
 X_NoWire:XC K (cl 7)
 X_Open:XC K (cl 8)
 ei:qu K (cl 0) "add_in" "Draft.add_in" bY
 cu:qu K (cl 0) "wire_numbers" "Draft.wire_numbers" bh
 dn:qu K (cl 0) "add_gate" "Draft.add_gate" bC
 dD:qu K (cl 0) "add_out" "Draft.add_out" bQ
 dm:LJ K (cl 0) "__init__" "Draft.__init__" bE
theorem Nv{K:W.Frag}{h:Heap}{mg:YG}(X:K.In h)(G:h.Ns mainGlobals mg){C0:Addr}{C1:Addr}{C2:Addr}{C3:Addr}{C4:Addr}{C5:Addr}{C6:Addr}{C7:Addr}{C8:Addr}{f0:Addr}{WY WD:Option Addr}{Xr:Array (Option Value)}{WN Xa XA Xf UL XE:Value}{f1:Addr}{WB Wy:Option Addr}{W4:Array (Option Value)}{Xo WX XB W8 UM Wz:Value}{f2:Addr}{Xl Xx:Option Addr}{L6:Array (Option Value)}{WJ WA Xe Xj UE Xu:Value}{f3:Addr}{XD WU:Option Addr}{Pl:Array (Option Value)}{WC XG WQ WL UK Xz:Value}{f4:Addr}{Xd WI:Option Addr}{WZ:Array (Option Value)}{Xb W_ Xm W0 UP Xn:Value}(RW:PySem.W.nsIn K mainGlobals "Draft"=some (some (.ref C0)))(Sa:PySem.W.plainGet K C0 Str.empty=true)(RF:PySem.W.hasDictIn K C0=true)(Sk:PySem.W.plainOver K C0=true)(RK:PySem.W.findIn K (.ref C0) "__setattr__"=some (some (.builtin "object.__setattr__")))(Rf:PySem.W.makesIn K C0=true)(Sr:PySem.W.keepIn K (.ref C0)=true)(zN:PySem.W.findIn K (.ref C0) "ins"=some none)(sO:PySem.W.findIn K (.ref C0) "gates"=some none)(vN:PySem.W.findIn K (.ref C0) "outs"=some none)(sN:PySem.W.findIn K (.ref C0) "names"=some none)(kM:PySem.W.findIn K (.ref C0) "out_names"=some none)(nW:PySem.W.findIn K (.ref C0) "numbers"=some none)(Rk:PySem.W.nsIn K mainGlobals "FaultError"=some (some (.ref C1)))(Ry:PySem.W.nsIn K mainGlobals "TooLong"=some (some (.ref C2)))(Rh:PySem.W.nsIn K mainGlobals "NoForm"=some (some (.ref C3)))(RL:PySem.W.nsIn K mainGlobals "NoPlace"=some (some (.ref C4)))(SJ:PySem.W.nsIn K mainGlobals "Twice"=some (some (.ref C5)))(S6:PySem.W.nsIn K mainGlobals "Full"=some (some (.ref C6)))(SA:PySem.W.nsIn K mainGlobals "NoWire"=some (some (.ref C7)))(RA:PySem.W.nsIn K mainGlobals "Open"=some (some (.ref C8)))(S5:PySem.W.excIn K C2 Ea "ValueError.__new__"=true)(RU:PySem.W.findIn K (.ref C2) "__getattribute__"=some (some (.builtin "BaseException.__getattribute__")))(SR:PySem.W.findIn K (.ref C2) "__getattr__"=some none)(Ss:PySem.W.findIn K (.ref C2) "__class__"=some (some (.builtin "object.__class__")))(R6:PySem.W.mroIn K C2 (.type "object")=some true)(Sb:PySem.W.mroIn K C2 (.type "BaseException")=some true)(Sz:(PySem.W.clsIn K C2).isSome=true)(RQ:PySem.W.excIn K C3 Ea "ValueError.__new__"=true)(RC:PySem.W.findIn K (.ref C3) "__getattribute__"=some (some (.builtin "BaseException.__getattribute__")))(Ri:PySem.W.findIn K (.ref C3) "__getattr__"=some none)(S8:PySem.W.findIn K (.ref C3) "__class__"=some (some (.builtin "object.__class__")))(RN:PySem.W.mroIn K C3 (.type "object")=some true)(SQ:PySem.W.mroIn K C3 (.type "BaseException")=some true)(RB:(PySem.W.clsIn K C3).isSome=true)(Rm:PySem.W.excIn K C4 Ea "ValueError.__new__"=true)(RS:PySem.W.findIn K (.ref C4) "__getattribute__"=some (some (.builtin "BaseException.__getattribute__")))(SH:PySem.W.findIn K (.ref C4) "__getattr__"=some none)(Sj:PySem.W.findIn K (.ref C4) "__class__"=some (some (.builtin "object.__class__")))(SD:PySem.W.mroIn K C4 (.type "object")=some true)(Rn:PySem.W.mroIn K C4 (.type "BaseException")=some true)(S7:(PySem.W.clsIn K C4).isSome=true)(Rj:PySem.W.excIn K C5 Ea "ValueError.__new__"=true)(Rx:PySem.W.findIn K (.ref C5) "__getattribute__"=some (some (.builtin "BaseException.__getattribute__")))(RM:PySem.W.findIn K (.ref C5) "__getattr__"=some none)(RY:PySem.W.findIn K (.ref C5) "__class__"=some (some (.builtin "object.__class__")))(Si:PySem.W.mroIn K C5 (.type "object")=some true)(Sq:PySem.W.mroIn K C5 (.type "BaseException")=some true)(Rc:(PySem.W.clsIn K C5).isSome=true)(Sy:PySem.W.excIn K C6 Ea "ValueError.__new__"=true)(SK:PySem.W.findIn K (.ref C6) "__getattribute__"=some (some (.builtin "BaseException.__getattribute__")))(RJ:PySem.W.findIn K (.ref C6) "__getattr__"=some none)(SM:PySem.W.findIn K (.ref C6) "__class__"=some (some (.builtin "object.__class__")))(SU:PySem.W.mroIn K C6 (.type "object")=some true)(Rt:PySem.W.mroIn K C6 (.type "BaseException")=some true)(Rg:(PySem.W.clsIn K C6).isSome=true)(SN:PySem.W.excIn K C7 Ea "ValueError.__new__"=true)(S9:PySem.W.findIn K (.ref C7) "__getattribute__"=some (some (.builtin "BaseException.__getattribute__")))(Ru:PySem.W.findIn K (.ref C7) "__getattr__"=some none)(Sd:PySem.W.findIn K (.ref C7) "__class__"=some (some (.builtin "object.__class__")))(SG:PySem.W.mroIn K C7 (.type "object")=some true)(So:PySem.W.mroIn K C7 (.type "BaseException")=some true)(R5:(PySem.W.clsIn K C7).isSome=true)(RD:PySem.W.excIn K C8 Ea "ValueError.__new__"=true)(Sn:PySem.W.findIn K (.ref C8) "__getattribute__"=some (some (.builtin "BaseException.__getattribute__")))(Sg:PySem.W.findIn K (.ref C8) "__getattr__"=some none)(Sv:PySem.W.findIn K (.ref C8) "__class__"=some (some (.builtin "object.__class__")))(RX:PySem.W.mroIn K C8 (.type "object")=some true)(Rv:PySem.W.mroIn K C8 (.type "BaseException")=some true)(Rq:(PySem.W.clsIn K C8).isSome=true)(Iw:PySem.W.specialIn K (.builtin "object.__class__") "__get__"=some (some (.builtin "getset_descriptor.__get__")))(Iq:PySem.W.takesIn K (.builtin "object.__class__")=some true)(js:PySem.W.findIn K (.ref C0) "add_in"=some (some (.ref f0)))(jq:PySem.W.isFn K (.ref f0)=true)(jw:K.lookup f0=some ⟨WN,WY, .func (PySem.W.fnOf "add_in" "Draft.add_in" (g_ bY) (aO bY) (aF bY) .none Xa XA Xf WD UL XE),Xr⟩)(dP:PySem.W.codeIn K UL "Draft.add_in"=true)(gc:PySem.W.keepIn K (.ref f0)=true)(er:PySem.W.findIn K (.ref C0) "wire_numbers"=some (some (.ref f1)))(el:PySem.W.isFn K (.ref f1)=true)(eo:K.lookup f1=some ⟨Xo,WB, .func (PySem.W.fnOf "wire_numbers" "Draft.wire_numbers" (g_ bh) (aO bh) (aF bh) .none WX XB W8 Wy UM Wz),W4⟩)(cj:PySem.W.codeIn K UM "Draft.wire_numbers"=true)(c5:PySem.W.keepIn K (.ref f1)=true)(gW:PySem.W.findIn K (.ref C0) "add_gate"=some (some (.ref f2)))(gS:PySem.W.isFn K (.ref f2)=true)(gZ:K.lookup f2=some ⟨WJ,Xl, .func (PySem.W.fnOf "add_gate" "Draft.add_gate" (g_ bC) (aO bC) (aF bC) .none WA Xe Xj Xx UE Xu),L6⟩)(di:PySem.W.codeIn K UE "Draft.add_gate"=true)(eL:PySem.W.keepIn K (.ref f2)=true)(iQ:PySem.W.findIn K (.ref C0) "add_out"=some (some (.ref f3)))(iM:PySem.W.isFn K (.ref f3)=true)(iO:K.lookup f3=some ⟨WC,XD, .func (PySem.W.fnOf "add_out" "Draft.add_out" (g_ bQ) (aO bQ) (aF bQ) .none XG WQ WL WU UK Xz),Pl⟩)(dz:PySem.W.codeIn K UK "Draft.add_out"=true)(fq:PySem.W.keepIn K (.ref f3)=true)(gP:PySem.W.findIn K (.ref C0) "__init__"=some (some (.ref f4)))(g6:PySem.W.isFn K (.ref f4)=true)(gQ:K.lookup f4=some ⟨Xb,Xd, .func (PySem.W.fnOf "__init__" "Draft.__init__" (g_ bE) (aO bE) (aF bE) .none W_ Xm W0 WI UP Xn),WZ⟩)(df:PySem.W.codeIn K UP "Draft.__init__"=true)(gR:PySem.W.keepIn K (.ref f4)=true):∃cl,Cf K mg cl:=by
 exact⟨fun n=>if n=0 then C0 else if n=1 then C1 else if n=2 then C2 else if n=3 then C3 else if n=4 then C4 else if n=5 then C5 else if n=6 then C6 else if n=7 then C7 else C8,⟨Sa,RF,Sk,RK⟩,zN,sO,vN,sN,kM,nW,PySem.W.mg_of X G RW,PySem.W.mg_of X G Rk,PySem.W.mg_of X G Ry,PySem.W.mg_of X G Rh,PySem.W.mg_of X G RL,PySem.W.mg_of X G SJ,PySem.W.mg_of X G S6,PySem.W.mg_of X G SA,PySem.W.mg_of X G RA,⟨S5,RU,SR,Ss,Iw,Iq,R6,Sb,Sz⟩,⟨RQ,RC,Ri,S8,Iw,Iq,RN,SQ,RB⟩,⟨Rm,RS,SH,Sj,Iw,Iq,SD,Rn,S7⟩,⟨Rj,Rx,RM,RY,Iw,Iq,Si,Sq,Rc⟩,⟨Sy,SK,RJ,SM,Iw,Iq,SU,Rt,Rg⟩,⟨SN,S9,Ru,Sd,Iw,Iq,SG,So,R5⟩,⟨RD,Sn,Sg,Sv,Iw,Iq,RX,Rv,Rq⟩,⟨_,_,pT (st:=bY) jw dP gc,⟨js,jq,gc⟩⟩,⟨_,_,pT (st:=bh) eo cj c5,⟨er,el,c5⟩⟩,⟨_,_,pT (st:=bC) gZ di eL,⟨gW,gS,eL⟩⟩,⟨_,_,pT (st:=bQ) iO dz fq,⟨iQ,iM,fq⟩⟩,⟨_,_,pT (st:=bE) gQ df gR,⟨Rf,gP,g6,Sr⟩⟩⟩
theorem Ky{K:W.Frag}{mg:YG}{f:Addr}{fd:FuncData}{cl:YH}(T:Tp P w K mg cl)(p9:Def K mg "is_name" j6)(nY:Def K mg "in_wires" i7)(jx:Def K mg "is_wire_form" d9)(gU:Def K mg "are_wire_forms" dj)(kK:Def K mg "is_in_form" fY)(jt:Def K mg "is_gate_form" dQ)(jT:Def K mg "is_out_form" eY)(ei:qu K (cl 0) "add_in" "Draft.add_in" bY)(cu:qu K (cl 0) "wire_numbers" "Draft.wire_numbers" bh)(dn:qu K (cl 0) "add_gate" "Draft.add_gate" bC)(dD:qu K (cl 0) "add_out" "Draft.add_out" bQ)(nX:Def K mg "read_row" i5)(dm:LJ K (cl 0) "__init__" "Draft.__init__" bE)(zP:Def K mg "read" rS)(kO:Def K mg "letters_of" fR)(mn:Def K mg "gate_name" ij)(n0:Def K mg "gate_row" jc)(p6:Def K mg "out_row" kg)(vQ:Def K mg "shown" o8)(jS:Def K mg "_law_cell_at" eZ)(nS:Def K mg "_law_stir" jk)(mr:Def K mg "_law_names" ib)(mj:Def K mg "_law_wires" iy)(nU:Def K mg "_law_gate" ji)(p7:Def K mg "_law_net" jZ)(gf:Def K mg "_law_strange_ins" c2)(mq:Def K mg "_law_other" hX)(F:yt K "law" "law" Ao f fd):ig P w K mg base ur 7 f fd ["script"] (F1 K 1 A3):=by
 have cV:=BW (P:=P) (w:=w) (base:=base) T p9;have gT:=zy (P:=P) (w:=w) (base:=base) T nY;have jy:=rf (P:=P) (w:=w) (base:=base) T jx cV;have cK:=pC (P:=P) (w:=w) (base:=base) T gU jy;have kL:=uJ (P:=P) (w:=w) (base:=base) T kK cV;have jv:=so (P:=P) (w:=w) (base:=base) T jt cV cK;have jR:=sZ (P:=P) (w:=w) (base:=base) T jT cV cK;have iL:jB P w K mg base cl 2 0 "add_in" 2 cT:=dP T ei gT;have bL:jB P w K mg base cl 1 0 "wire_numbers" 1 bo:=cj T cu;have gb:jB P w K mg base cl 2 0 "add_gate" 4 cw:=di T dn bL;have gY:jB P w K mg base cl 2 0 "add_out" 2 cH:=dz T dD bL;have mv:eB P w K mg base cl 5 "read_row" 2 fE:=zr T nX kL jv jR iL gb gY;have gd:=df (P:=P) (w:=w) (base:=base) T dm;have XE_read:eB P w K mg base cl 6 "read" 1 iU:=Lc T zP gd mv;have kN:=vb (P:=P) (w:=w) (base:=base) T kO;have mm:=xf (P:=P) (w:=w) (base:=base) T mn kN;have nT:=zu (P:=P) (w:=w) (base:=base) T n0;have pZ:=Ca (P:=P) (w:=w) (base:=base) T p6;have C_shown:=HI (P:=P) (w:=w) (base:=base) T vQ gT mm nT pZ;have e8:=tI (P:=P) (w:=w) (base:=base) T jS;have aY:=yU (P:=P) (w:=w) (base:=base) T nS;have jM:=w9 (P:=P) (w:=w) (base:=base) T mr aY;have fH:=xk (P:=P) (w:=w) (base:=base) T mj aY;have nV:=yA (P:=P) (w:=w) (base:=base) T nU aY fH;have C_law_net:=BL (P:=P) (w:=w) (base:=base) T p7 e8 jM aY nV fH;have C_law_strange_ins:=o7 (P:=P) (w:=w) (base:=base) T gf aY;have XK_law_other:=xR (P:=P) (w:=w) (base:=base) T mq aY;have XP_law_other:=XK_law_other.p;exact(rD (cl:=cl) (N:=qb) (F:=sH) (k:=6) Ko.2 Fj.2 F rg (fun dt A outer s H E hr=>(bG (yW (aD (aG C_law_net hr (by decide) rfl (ae (aa 0) ah) (ak aJ))) (AD rfl (eJ (c3 rg.nd rfl (Or.inl rfl)) (eJ (c3 rg.nd rfl (Or.inl rfl)) (eJ (c3 rg.nd rfl (Or.inl rfl)) se))))) (bG (iK rg.nd rfl (Or.inl rfl) (aD (dG (ae (aG C_law_strange_ins hr (by decide) rfl (ae (aG e8 hr (by decide) rfl (ae (aa 0) (ae aj ah)) (ak (ak aJ))) (ae (aa 1) ah)) (ak (ak aJ))) (ae (aa 2) (ae (aa 3) ah)))))) (bG (iK rg.nd rfl (Or.inl rfl) (aD (aG C_shown hr (by decide) rfl (ae (aa 4) ah) (ak aJ)))) (bG (EW (IF.pb (y9 (oH (DU hr.units) (zC (pd zt (eB.q XE_read) hr (by decide) rfl (de (aQ (aD (aa 5)) bH)) (qW (bK dS)))) (aD (aa 4)) (bA _)) (uS (oH (DU hr.units) (De C_shown hr (by decide) rfl (aQ (zC (pd zt (eB.q XE_read) hr (by decide) rfl (de (aQ (aD (aa 5)) bH)) (qW (bK dS)))) bH) (bK dS)) (aD (aa 5)) (bA _))))) (dI (rJ (aD lZ))) Hx) (bG (iK rg.nd rfl (Or.inl rfl) (Ge XP_law_other hr (by decide) rfl (aQ (aD (aG e8 hr (by decide) rfl (ae (aa 0) (ae aj ah)) (ak (ak aJ)))) (aQ (aD (aa 4)) bH)) (bK (bK dS)))) (dI (rJ (JQ (aD (eK (ni hr.units) (eK (ni hr.units) (aG C_shown hr (by decide) rfl (ae (aa 6) ah) (ak aJ)) (aa 5) (bA _)) (eK (ni hr.units) (aa 6) (aa 4) (bA _)) (bA _))) (JK (L1 (ni hr.units) (zC (pd zt (eB.q XE_read) hr (by decide) rfl (de (aQ (aD (aG C_shown hr (by decide) rfl (ae (aa 6) ah) (ak aJ))) bH)) (qW (bK dS)))) (aD (aa 6)) (bA _))))))))))))).imp fun _ _ _ _ h=>J5 h
end K07
end
section
set_option maxHeartbeats 1000000
namespace K07
open PySem PySem.Spec PyProof.Rows L2 L3 MT JT TX
theorem kF{w:Str}(h:w.length<=10000000):dk [.str w]= .ok (.bl (isNm w)):=by
 have hz:sizeLine=16777216:=sizeLine_eq;unfold dk uw;have e:isNm w=(!(decide (w.length < 1) || (decide (8 < w.length) || lB.contains w)) && low w):=by
  unfold isNm;by_cases h1:1<=w.length
  .rw [decide_eq_true h1,decide_eq_false (by omega:¬w.length < 1)]
   by_cases h2:w.length<=8
   .rw [decide_eq_true h2,decide_eq_false (by omega:¬8 < w.length)];simp
   .rw [decide_eq_false h2,decide_eq_true (by omega:8 < w.length)];simp
  .rw [decide_eq_false h1,decide_eq_true (by omega:w.length < 1)];simp
 rw[e];refine cQ (zX (kD (dc (a:=nI w.length) (b:=nI 1) (aw (ds:=[.str w]) rfl (len_str h)) rfl (BC _ _)) fun _=>kD (dc (a:=nI w.length) (b:=nI 8) (aw (ds:=[.str w]) rfl (len_str h)) rfl (GV _ _)) fun _=>dc (a:= .str w) (b:= .tup (lB.map .str)) rfl rfl (zp w lB)) fun _=>b_ ?_)
 refine aw (ds:=[.lst ((w.cps.toList.map fun c=>decide (97<=c/\c<=122)).map D.bl)]) (av (b8 (eX (ds:=w.cps.toList.map fun c=> .str ⟨#[c]⟩) rfl (by rw[List.length_map,Array.length_toList];show w.length<=_;omega) ?_)) rfl) ?_
 .rw [List.map_map];exact NT.dv (fun c=> .str ⟨#[c]⟩) _ fun c hc=>⟨[.val (.str ⟨#[c]⟩)],rfl,rfl,ax (a:= .str ⟨#[c]⟩) (b:= .str vW) rfl rfl (KW c)⟩
 .rw [DB,List.all_map];rfl
theorem uT{w:Str}(h:w.length<=10000000):dR [.str w]= .ok (.bl (k7 w)):=by
 have hz:sizeLine=16777216:=sizeLine_eq;obtain⟨a,b,d,e⟩:=EO w CO;have ha:a.length<=10000000:=by
  unfold gp at e;split at e
  .have:a=Builtin.Str.strSub w 0 _:=(List.cons.inj e).1.symm;rw[this];exact Nat.le_trans (strSub_length_le ..) h
  .have:a=w:=(List.cons.inj e).1.symm;rw[this];exact h
 unfold dR lR k7;rw[e];have hp:xB (.str w) [.str CO]= .ok (.tup ([a,b,d].map .str)):=by
  rw[<-e];exact bx _ ⟨by rw[uA];rfl,by omega⟩
 refine cQ (aC (bf (d:= .tup ([a,b,d].map .str)) (kE (x:=w) rfl rfl hp) (by simp [bW,jh])) (b_ ?_))
 exact mD (aw (ds:=[.str a]) rfl (kF ha)) fun _=>K1 (ax (a:= .str b) (b:= .str Str.empty) rfl rfl (u0 _ _)) fun _=>ax (a:= .str d) (b:= .tup (Bm.map .str)) rfl rfl (zp d Bm)
theorem m_{ws:List Str}(hl:ws.length<=10000000)(h:∀w∈ws,w.length<=10000000):cb [.lst (ws.map .str)]= .ok (.bl (ws.all k7)):=by
 have hz:sizeLine=16777216:=sizeLine_eq;unfold cb j7;refine cQ (b_ (aw (ds:=[.lst ((ws.map k7).map D.bl)]) (av (b8 (eX (ds:=ws.map .str) (gM rfl) (by rw[List.length_map];omega) ?_)) rfl) ?_))
 .rw [List.map_map];exact NT.dv D.str _ fun w hw=>⟨[.val (.str w)],rfl,rfl,aw (ds:=[.str w]) rfl (uT (h w hw))⟩
 .rw [DB,List.all_map];rfl
section
variable {ws:List Str}
theorem yH(hl:ws.length<=10000000)(h:∀w∈ws,w.length<=10000000):f9 [.lst (ws.map .str)]= .ok (.bl (EK ws)):=by
 have hw:∀i,(wd ws i).length<=10000000:=fun i=>by
  unfold wd;rw[List.getD_eq_getElem?_getD];cases hx:ws[i]? with
  | none=>exact Nat.zero_le _
  | some w=>exact h w (List.mem_of_getElem? hx)
 unfold f9 oM EK;refine cQ (b_ (mD (ax (a:=nI ws.length) (b:=nI 3) (aw (ds:=[.lst (ws.map .str)]) rfl (by rw[iF,List.length_map])) rfl (y7 _ _)) fun h3=>?_))
 have h3:=of_decide_eq_true h3;refine mD (ax (a:= .str (wd ws 0)) (b:= .str (Str.ofString "in")) (ax (a:= .lst (ws.map .str)) (b:= .int (0:Nat)) rfl rfl (ua (by omega))) rfl (u0 _ _)) fun _=>?_
 refine mD (aw (ds:=[.str (wd ws 1)]) (av (ax (a:= .lst (ws.map .str)) (b:= .int (1:Nat)) rfl rfl (ua (by omega))) rfl) (kF (hw 1))) fun _=>?_
 unfold LQ;rw[show e2 cW (ag 0) (eC (.int 2)) (bW kq [.lst (ws.map .str)])= .ok (.str (wd ws 2)) from ax (a:= .lst (ws.map .str)) (b:= .int (2:Nat)) rfl rfl (ua (by omega)),R.aH]
 rfl
theorem uM(hl:ws.length<=10000000)(h:∀w∈ws,w.length<=10000000):dU [.lst (ws.map .str)]= .ok (.bl (Eh ws)):=by
 have hw:∀i,(wd ws i).length<=10000000:=fun i=>by
  unfold wd;rw[List.getD_eq_getElem?_getD];cases hx:ws[i]? with
  | none=>exact Nat.zero_le _
  | some w=>exact h w (List.mem_of_getElem? hx)
 have ix:∀{i:Nat} {δ:ao},i < ws.length->ag 0 δ= .ok (.lst (ws.map .str))->e2 cW (ag 0) (eC (.int i)) δ= .ok (.str (wd ws i)):=fun hi hv=>ax (a:= .lst (ws.map .str)) hv rfl (ua hi)
 unfold dU l_;have e:Eh ws=(!(decide (ws.length < 4) || !([Str.ofString "gate",Str.ofString "sure"].contains (wd ws 0))) && (!(!(isNm (wd ws 1)) || !((y6.lookup (wd ws 2)).isSome)) && (decide (((ws.drop 3).length:Int)=(y6.lookup (wd ws 2)).getD 0) && (ws.drop 3).all k7))):=by
  unfold Eh;by_cases h4:4<=ws.length
  .rw [decide_eq_true h4,decide_eq_false (by omega:¬ws.length < 4)];simp
  .rw [decide_eq_false h4,decide_eq_true (by omega:ws.length < 4)];simp
 rw[e];refine cQ (zX (kD (dc (a:=nI ws.length) (b:=nI 4) (aw (ds:=[.lst (ws.map .str)]) rfl (by rw[iF,List.length_map])) rfl (BC _ _)) fun h4=>dc (a:= .str (wd ws 0)) (b:= .tup ([Str.ofString "gate",Str.ofString "sure"].map .str)) (ix (i:=0) (by have:=of_decide_eq_false h4;omega) rfl) rfl (Kx _ _)) fun h4=>?_)
 have h4:4<=ws.length:=by
  have:=(Bool.or_eq_false_iff.mp h4).1;have:=of_decide_eq_false this;omega
 refine zX (kD (Ac (mH (aw (ds:=[.str (wd ws 1)]) (av (ix (i:=1) (by omega) rfl) rfl) (kF (hw 1))))) fun _=>?_) fun hk=>?_
 .unfold LV;rw[show e2 cW (ag 0) (eC (.int 2)) (bW fO [.lst (ws.map .str)])= .ok (.str (wd ws 2)) from ix (i:=2) (by omega) rfl,R.aH]
  rfl
 .have hk:(y6.lookup (wd ws 2)).isSome=true:=by
   have:=(Bool.or_eq_false_iff.mp hk).2;cases hq:(y6.lookup (wd ws 2)).isSome with
   | true=>rfl
   | false=>rw [hq] at this;cases this
  obtain⟨n,hn⟩:=Option.isSome_iff_exists.mp hk;refine aC (bf (d:= .lst ((ws.drop 3).map .str)) (nq (d:= .lst (ws.map .str)) (lo:=some ((3:Nat):Int)) (hi:=none) rfl (iu rfl) rfl ((qU (by rw[List.length_map];omega)).trans (by rw[List.map_drop]))) (by simp [bW,fO])) (b_ (mD ?_ fun _=>?_))
  .rw [hn];refine ax (a:=nI (ws.drop 3).length) (b:= .int n) (aw (ds:=[.lst ((ws.drop 3).map .str)]) rfl (by rw[iF,List.length_map])) ?_ ?_
   .unfold wW;rw[show e2 cW (ag 0) (eC (.int 2)) _= .ok (.str (wd ws 2)) from ix (i:=2) (by omega) rfl,R.aH]
    show(match y6.lookup (wd ws 2) with | some i=>R.ok (D.int i) | none=> .no)=_
    rw[hn]
   .show R.ok (D.bl ((((ws.drop 3).length:Nat):Int)==n))=_;congr 2
  .exact aw (ds:=[.lst ((ws.drop 3).map .str)]) rfl (m_ (by rw[List.length_drop];omega) fun w R9=>h w (List.mem_of_mem_drop R9))
theorem xW(hl:ws.length<=10000000)(h:∀w∈ws,w.length<=10000000):eV [.lst (ws.map .str)]= .ok (.bl (IZ ws)):=by
 have hw:∀i,(wd ws i).length<=10000000:=fun i=>by
  unfold wd;rw[List.getD_eq_getElem?_getD];cases hx:ws[i]? with
  | none=>exact Nat.zero_le _
  | some w=>exact h w (List.mem_of_getElem? hx)
 have ix:∀{i:Nat} {δ:ao},i < ws.length->ag 0 δ= .ok (.lst (ws.map .str))->e2 cW (ag 0) (eC (.int i)) δ= .ok (.str (wd ws i)):=fun hi hv=>ax (a:= .lst (ws.map .str)) hv rfl (ua hi)
 unfold eV m8;have e:IZ ws=(!(decide (ws.length < 3) || (!(wd ws 0==Str.ofString "out") || !(isNm (wd ws 1)))) && (decide ((ws.drop 2).length<=3) && (ws.drop 2).all k7)):=by
  unfold IZ;by_cases h4:3<=ws.length
  .rw [decide_eq_true h4,decide_eq_false (by omega:¬ws.length < 3)];simp
  .rw [decide_eq_false h4,decide_eq_true (by omega:ws.length < 3)];simp
 rw[e];refine cQ (zX (kD (dc (a:=nI ws.length) (b:=nI 3) (aw (ds:=[.lst (ws.map .str)]) rfl (by rw[iF,List.length_map])) rfl (BC _ _)) fun h4=>?_) fun h4=>?_)
 .have h4:=of_decide_eq_false h4;exact kD (dc (a:= .str (wd ws 0)) (b:= .str (Str.ofString "out")) (ix (i:=0) (by omega) rfl) rfl (KJ _ _)) fun _=>Ac (mH (aw (ds:=[.str (wd ws 1)]) (av (ix (i:=1) (by omega) rfl) rfl) (kF (hw 1))))
 have h4:3<=ws.length:=by
  have:=(Bool.or_eq_false_iff.mp h4).1;have:=of_decide_eq_false this;omega
 refine aC (bf (d:= .lst ((ws.drop 2).map .str)) (nq (d:= .lst (ws.map .str)) (lo:=some ((2:Nat):Int)) (hi:=none) rfl (iu rfl) rfl ((qU (by rw[List.length_map];omega)).trans (by rw[List.map_drop]))) (by simp [bW,jO])) (b_ (mD ?_ fun _=>?_))
 .exact ax (a:=nI (ws.drop 2).length) (b:=nI 3) (aw (ds:=[.lst ((ws.drop 2).map .str)]) rfl (by rw[iF,List.length_map])) rfl (Q7 _ _)
 .exact aw (ds:=[.lst ((ws.drop 2).map .str)]) rfl (m_ (by rw[List.length_drop];omega) fun w R9=>h w (List.mem_of_mem_drop R9))
end
end K07
end
section
namespace K07
open PySem PySem.Spec PyProof.Rows L2 L3 MT JT TX
theorem b5{S:aP}{l:List SO}(i:Nat):(S++l)[S.length+i]? =l[i]?:=by rw[List.getElem?_append_right (by omega),Nat.add_sub_cancel_left]
theorem dM{S:List SO}{l:List SO}(i:Nat)(x:SO):(S++l).set (S.length+i) x=S++l.set i x:=by
 rw[List.set_append,if_neg (by omega),Nat.add_sub_cancel_left]
def BK(n:Nat):List (Str × V3):=[(Str.ofString "ins", .loc (n+1)),(Str.ofString "gates", .loc (n+2)),(Str.ofString "outs", .loc (n+3)),(Str.ofString "names", .loc (n+4)),(Str.ofString "out_names", .loc (n+5)),(Str.ofString "numbers", .loc (n+6))]
def MH(n:Nat)(d:Dr):List SO:=[.ins 0 (BK n), .lst (d.ins.map MT.inD), .lst (d.gs.map dq), .lst (d.os.map iE), .dct (vU d.nm), .dct (vU d.on), .dct (Mn d.nu)]
abbrev iS(S:aP)(d:Dr):aP:=S++MH S.length d
theorem lk{n:Nat}{i:Nat}(h:([Str.ofString "ins",Str.ofString "gates",Str.ofString "outs",Str.ofString "names",Str.ofString "out_names",Str.ofString "numbers"].findIdx? (·==k))=some i):(BK n).lookup k=some (.loc (n+(i+1))):=by
 unfold BK;simp only[List.findIdx?_cons,List.findIdx?_nil] at h;have sw:∀a:Str,(k==a)=(a==k):=fun a=>by
  by_cases q:a=k
  .subst q;rfl
  .rw [beq_eq_false_iff_ne.mpr q,beq_eq_false_iff_ne.mpr (Ne.symm q)]
 simp only[List.lookup_cons,sw];split at h
 .rename_i q;rw [q];cases h;rfl
 .rename_i q1;rw[Bool.not_eq_true] at q1;rw[q1];simp only[Option.map_eq_some_iff] at h;obtain⟨j1,h,rfl⟩:=h;split at h
  .rename_i q;rw [q];cases h;rfl
  .rename_i q2;rw[Bool.not_eq_true] at q2;rw[q2];simp only[Option.map_eq_some_iff] at h;obtain⟨j2,h,rfl⟩:=h;split at h
   .rename_i q;rw [q];cases h;rfl
   .rename_i q3;rw[Bool.not_eq_true] at q3;rw[q3];simp only[Option.map_eq_some_iff] at h;obtain⟨j3,h,rfl⟩:=h;split at h
    .rename_i q;rw [q];cases h;rfl
    .rename_i q4;rw[Bool.not_eq_true] at q4;rw[q4];simp only[Option.map_eq_some_iff] at h;obtain⟨j4,h,rfl⟩:=h;split at h
     .rename_i q;rw [q];cases h;rfl
     .rename_i q5;rw[Bool.not_eq_true] at q5;rw[q5];simp only[Option.map_eq_some_iff] at h;obtain⟨j5,h,rfl⟩:=h;split at h
      .rename_i q;rw [q];cases h;rfl
      .cases h
theorem MM{n:Nat}(h:([Str.ofString "ins",Str.ofString "gates",Str.ofString "outs",Str.ofString "names",Str.ofString "out_names",Str.ofString "numbers"].contains m)=false):(BK n).lookup m=none:=by
 unfold BK;simp only[List.contains_cons,List.contains_nil,Bool.or_eq_false_iff] at h;obtain⟨h1,h2,h3,h4,h5,h6,_⟩:=h;simp only[List.lookup_cons,h1,h2,h3,h4,h5,h6,List.lookup_nil]
section
variable {S:aP} {d:Dr} {δ:DE}
theorem iG{i j:Nat}{Q:V3->aP->Prop}(hv:δ[j]? =some (some (.loc S.length)))(hk:([Str.ofString "ins",Str.ofString "gates",Str.ofString "outs",Str.ofString "names",Str.ofString "out_names",Str.ofString "numbers"].findIdx? (·==k))=some i)(h:Q (.loc (S.length+(i+1))) (iS S d)):W3 (eT 0 k (cn j) δ (iS S d)) Q:=
 w_fld (k:=S.length) <| w_var (v:= .loc S.length) hv ⟨_,_,rfl,b5 0,lk hk,h⟩
theorem Jh:jE (iS S d) (S.length+(0+1))=some d.ins.length:=by unfold jE;rw [b5];simp [MH]
theorem IM:jE (iS S d) (S.length+(1+1))=some d.gs.length:=by unfold jE;rw [b5];simp [MH]
theorem AM:jE (iS S d) (S.length+(2+1))=some d.os.length:=by unfold jE;rw [b5];simp [MH]
theorem Iz:jE (iS S d) (S.length+(5+1))=some d.nu.length:=by unfold jE;rw [b5];simp [MH,uD]
theorem Jo:pY (.d (.str x)) (.loc (S.length+(3+1))) (iS S d)=some (if x∈d.nm then some (.bl true) else none):=by
 have e:(iS S d)[S.length+(3+1)]? =some (.dct (vU d.nm)):=b5 _;unfold pY;simp only[rn,e];rw[oW]
theorem N3:pY (.d (.str x)) (.loc (S.length+(4+1))) (iS S d)=some (if x∈d.on then some (.bl true) else none):=by
 have e:(iS S d)[S.length+(4+1)]? =some (.dct (vU d.on)):=b5 _;unfold pY;simp only[rn,e];rw[oW]
theorem Je:pY (.d (.str x)) (.loc (S.length+(5+1))) (iS S d)=some ((idx d.nu x).map nI):=by
 have e:(iS S d)[S.length+(5+1)]? =some (.dct (F8 0 d.nu)):=b5 _;unfold pY;simp only[rn,e];rw[rC];congr 1;cases idx d.nu x with
 | none=>rfl
 | some i=>show some (nI (0+i))=_;rw [Nat.zero_add];rfl
theorem Qn{a b:Str}{f:FD}{δ:ao}{x:Str}(h:f δ= .ok (.str x))(hl:x.length<=1000000)(ha:a.length<=1000)(hb:b.length<=1000):∃y,cD (bu (eC (.str a)) (bu (iV f) (bu (eC (.str b)) lE))) δ= .ok (.str y):=by
 have hz:sizeLine=16777216:=sizeLine_eq;refine⟨_,kI (ss:=[a,x,b]) (dC rfl (dC (sf h (by omega)) (dC rfl rfl))) ?_⟩
 show(((Str.empty++a)++x)++b).length<=_;rw[Str.length_append,Str.length_append,Str.length_append];show 0+a.length+x.length+b.length<=_;omega
theorem vm{c i:Nat}{a b:Str}{x:Str}{Y:Nat->aP->Prop}{Q:Ou->aP->Prop}(h:(down δ)[i]? =some (.val (.str x)))(hl:x.length<=1000000)(ha:a.length<=1000)(hb:b.length<=1000)(hy:Y c S):WE (fw c (eQ (bt (xP (cD (bu (eC (.str a)) (bu (iV (ag i)) (bu (eC (.str b)) lE))))) dw)) δ S) Q Y:=by
 obtain⟨y,e⟩:=Qn (a:=a) (b:=b) (f:=ag i) (δ:=down δ) (x:=x) (by unfold ag;rw [h]) hl ha hb
 exact qV <| b0 <| gu e <| fM ⟨by show 1<=sizeLine;decide,hy⟩
theorem AX{nu:List Str}:∀{ws:List Str},fF nu (ws++[w])=(fF nu ws).bind fun l=>(idx nu w).map fun i=>l++[i]
 | []=>by
   show(match idx nu w with | some i=>(fF nu []).map (i ::·) | none=>none)=_
   cases idx nu w <;> rfl
 | y ::ws=>by
   show(match idx nu y with | some i=>(fF nu (ws++[w])).map (i ::·) | none=>none)=_
   rw[AX];show _=(match idx nu y with | some i=>(fF nu ws).map (i ::·) | none=>none).bind _
   cases idx nu y with
   | none=>rfl
   | some i=>
     cases fF nu ws with
     | none=>rfl
     | some l=>cases idx nu w <;> rfl
theorem AK{nu:List Str}(h:idx nu w=none):∀{ws:List Str},w∈ws->fF nu ws=none
 | y ::ws,hm=>by
   show(match idx nu y with | some i=>(fF nu ws).map (i ::·) | none=>none)=_
   rcases List.mem_cons.mp hm with e | e
   .rw [<-e,h]
   .rw [AK h e];cases idx nu y <;> rfl
theorem CJ{nu:List Str}:∀{ws:List Str},(∀w∈ws,∃i,idx nu w=some i)->∃l,fF nu ws=some l
 | [],_=>⟨[],rfl⟩
 | y ::ws,h=>by
   obtain⟨i,hi⟩:=h y List.mem_cons_self;obtain⟨l,hl⟩:=CJ (ws:=ws) fun w hw=>h w (List.mem_cons_of_mem _ hw)
   refine⟨i ::l,?_⟩;show(match idx nu y with | some i=>(fF nu ws).map (i ::·) | none=>none)=_
   rw[hi,hl];rfl
theorem kP{ws:List Str}(hl:ws.length<=1000)(hw:∀w∈ws,w.length<=1000000):WE (bo [.loc S.length, .d (.lst (ws.map .str))] (iS S d)) (fun v S1=>S1=iS S d/\∃l,fF d.nu ws=some l/\v= .d (.tup (l.map nI))) (fun c S1=>S1=iS S d/\c=7/\fF d.nu ws=none):=by
 have hz:sizeLine=16777216:=sizeLine_eq;unfold bo;refine Ml rfl ?_;simp only[dE,ck,List.map,List.length,List.replicate,List.cons_append,List.nil_append,Nat.reduceAdd,Nat.reduceSub];unfold d5;refine iz <| IG <| EC (ds:=ws.map .str) (gM rfl) ?_
 refine(Lv (fun i δ S1=>S1=iS S d/\(∃a2,δ=[some (.loc S.length),some (.d (.lst (ws.map .str))),a2])/\∀w∈ws.take i,∃j,idx d.nu w=some j) ⟨rfl,⟨_,rfl⟩,by simp⟩ ?_).mono (fun o S1 ⟨δ1,e1,e2,⟨a2,e3⟩,h1⟩=>⟨δ1,e1,?_⟩) fun _ _ q=>q
 .rintro i v δ1 S1 hv ⟨rfl,⟨a2,rfl⟩,hi⟩;obtain⟨w,hwi,rfl⟩:=NT.zm hv;refine⟨[some (.loc S.length),some (.d (.lst (ws.map .str))),some (.d (.str w))],rfl,?_⟩;unfold fI;refine oh <| uR <| gu (d:= .str w) rfl <| iG (i:=5) rfl (by decide+kernel) ⟨_,Je,?_⟩
  cases hj:idx d.nu w with
  | none=>
    simp only[Option.map_none,Option.isSome_none,Bool.true_bne,Bool.not_false,if_true];exact vm (x:=w) rfl (hw w (List.mem_of_getElem? hwi)) (by decide+kernel) (by decide+kernel) ⟨rfl,rfl,AK hj (List.mem_of_getElem? hwi)⟩
  | some j=>
    simp only[Option.map_some,Option.isSome_some,Bool.true_bne,Bool.not_true,Bool.false_eq_true,if_false];refine lu ⟨_,rfl,rfl,⟨_,rfl⟩,fun y hy=>?_⟩
    rw[List.take_add_one,hwi] at hy;rcases List.mem_append.mp hy with z | z
    .exact hi y z
    .rw [List.mem_singleton.mp z];exact⟨j,hj⟩
 .subst e2 e3;rw[List.length_map,List.length_map,List.take_length] at h1;obtain⟨l,OR⟩:=CJ h1;refine wc <| AB <| z7 <| b0 <| Gd (fun i ds S2=>S2=iS S d/\∃m,fF d.nu (ws.take i)=some m/\ds=m.map nI) <| EC (ds:=ws.map .str) (gM rfl) ⟨by rw[List.length_map,List.length_map];omega,⟨rfl,[],rfl,rfl⟩,?_,?_⟩
  .rintro i v ds S2 hv ⟨rfl,m,hm,rfl⟩;obtain⟨w,hwi,rfl⟩:=NT.zm hv;obtain⟨j,hj⟩:=h1 w (List.mem_of_getElem? hwi);refine⟨[some (.d (.str w)),some (.loc S.length)],rfl,N7 ?_⟩;rw[if_pos rfl];refine LI <| iG (i:=5) rfl (by decide+kernel) <| gu (d:= .str w) rfl ⟨nI j,by rw[Je,hj];rfl,_,rfl,rfl,m++[j],?_,?_⟩
   .rw [List.take_add_one,hwi];show fF d.nu (ws.take i++[w])=_;rw[AX,hm,hj];rfl
   .rw [List.map_append];rfl
  .rintro ds S2 ⟨rfl,m,hm,rfl⟩;rw[List.length_map,List.length_map,List.take_length] at hm;exact fM ⟨[.lst (m.map nI)], .tup (m.map nI),rfl,rfl,rfl,m,hm,rfl⟩
end
end K07
end
section
namespace K07
open PySem PySem.Spec PyProof.Rows L2 L3 MT JT TX
theorem HZ{f:FD}{δ:ao}{k:Nat}(hk:k < 3)(h:f δ= .ok (nI k)):iV f δ= .ok (.str (mQ k)):=by
 match k,hk with
 | 0,_=>exact(oC (i:=0) h (by decide+kernel)).trans (by rw[show(toString (0:Int):Str)=mQ 0 by decide+kernel])
 | 1,_=>exact(oC (i:=1) h (by decide+kernel)).trans (by rw[show(toString (1:Int):Str)=mQ 1 by decide+kernel])
 | 2,_=>exact(oC (i:=2) h (by decide+kernel)).trans (by rw[show(toString (2:Int):Str)=mQ 2 by decide+kernel])
theorem qe{x:Str}{w:Nat}(hx:x.length<=8)(hw:w<=3):fA [.str x,nI w]= .ok (.lst ((pQ x w).map .str)):=by
 have hz:sizeLine=16777216:=sizeLine_eq;unfold fA su pQ;by_cases h1:w=1
 .rw [if_pos h1];exact cQ (NT.qJ (rF (dc (a:=nI w) (b:=nI 1) rfl rfl (by rw[y7,decide_eq_true h1])) (b_ (b8 (cF (ds:=[.str x]) rfl (by show 1<=sizeLine;omega))))))
 .rw [if_neg h1];refine cQ (aC (rW (dc (a:=nI w) (b:=nI 1) rfl rfl (by rw[y7,decide_eq_false h1])) rfl) (b_ (b8 (eX (ds:=(List.range w).map nI) (tU rfl (by omega)) (by simp;omega) ?_))))
  rw[show((List.range w).map fun f=>x++CO++mQ f).map D.str=(List.range w).map fun f=>D.str (x++CO++mQ f) from List.map_map]
  refine NT.dv nI _ fun f hf=>⟨[.val (nI f), .val (.str x)],rfl,rfl,?_⟩
  have hf:f < 3:=Nat.lt_of_lt_of_le (List.mem_range.mp hf) hw;have hfl:(mQ f).length<=1:=by match f,hf with | 0,_=>decide+kernel | 1,_=>decide+kernel | 2,_=>decide+kernel
  refine(kI (ss:=[x,CO,mQ f]) (dC (sf rfl (by omega)) (dC rfl (dC (HZ hf rfl) rfl))) ?_).trans ?_
  .show(((Str.empty++x)++CO)++mQ f).length<=_;rw[Str.length_append,Str.length_append,Str.length_append];show 0+x.length+1+_<=_;omega
  .show R.ok (D.str (((Str.empty++x)++CO)++mQ f))=_;rw[empty_app]
section
variable {S:aP} {d:Dr}
theorem mf{x:Str}(h:isNm x=true):x.length<=1000000:=by have:=(cZ.mp h).2.1;omega
theorem sC{α:Type}(l:List α):decide (l.length≠0)=decide (l≠[]):=by cases l <;> simp
theorem BN{δ:DE}{Q:Bool->aP->Prop}(hv:δ[0]? =some (some (.loc S.length)))(h:Q (decide (d.gs≠[]\/d.os≠[])) (iS S d)):W3 (Ja (lF (eT 0 (Str.ofString "gates") (cn 0))) (lF (eT 0 (Str.ofString "outs") (cn 0))) δ (iS S d)) Q:=by
 refine W3.bind (rj <| iG (i:=1) hv (by decide+kernel) ⟨_,_,rfl,IM,?_⟩)
 rw[sC d.gs];by_cases hg:d.gs≠[]
 .rw [decide_eq_true hg,if_pos rfl];rw[decide_eq_true (.inl hg)] at h;exact W3.ok h
 .rw [decide_eq_false hg,if_neg (by decide)]
  refine rj <| iG (i:=2) hv (by decide+kernel) ⟨_,_,rfl,AM,?_⟩
  rw[sC d.os];have:decide (d.gs≠[]\/d.os≠[])=decide (d.os≠[]):=by
   by_cases ho:d.os≠[]
   .rw [decide_eq_true ho,decide_eq_true (.inr ho)]
   .rw [decide_eq_false ho,decide_eq_false fun q=>q.elim hg ho]
  rw[this] at h;exact h
theorem Bo(DD:l7 d){w:Nat}(hx:isNm x=true)(hw:w<=3):WE (cT [.loc S.length, .d (.str x), .d (nI w)] (iS S d)) (fun v S1=>v= .d .cJ/\∃d',kZ d x w= .ok d'/\S1=iS S d') (fun c S1=>kZ d x w= .error c/\S1=iS S d):=by
 have hz:sizeLine=16777216:=sizeLine_eq;have hx8:=(cZ.mp hx).2.1;unfold cT;refine Ml rfl ?_;simp only[dE,fS,List.map,List.length,List.replicate,List.cons_append,List.nil_append,Nat.reduceAdd,Nat.reduceSub];unfold jg;refine iz <| oh <| BN rfl ?_
 by_cases hb:d.gs≠[]\/d.os≠[]
 .rw [decide_eq_true hb,if_pos rfl];exact vm (x:=x) rfl (mf hx) (by decide+kernel) (by decide+kernel) ⟨by unfold kZ;rw [if_pos hb],rfl⟩
 .rw [decide_eq_false hb,if_neg (by decide)]
  refine lu ⟨_,rfl,?_⟩;refine iz <| oh <| uR <| gu (d:= .str x) rfl <| iG (i:=3) rfl (by decide+kernel) ⟨_,Jo,?_⟩
  by_cases h2:x∈d.nm
  .rw [if_pos h2];simp only[Option.isSome_some,Bool.false_bne,if_true];exact vm (x:=x) rfl (mf hx) (by decide+kernel) (by decide+kernel) ⟨by unfold kZ;rw [if_neg hb,if_pos h2],rfl⟩
  .rw [if_neg h2];simp only[Option.isSome_none,Bool.false_bne,Bool.false_eq_true,if_false];refine lu ⟨_,rfl,?_⟩;refine iz <| oh <| E7 <| wI <| iG (i:=0) rfl (by decide+kernel) ⟨_,_,rfl,Jh,gu (d:=nI 6) rfl ⟨nI d.ins.length,nI 6,_,rfl,rfl,Km _ _,?_⟩⟩
   by_cases h3:6<=d.ins.length
   .rw [decide_eq_true h3,if_pos rfl];exact vm (x:=x) rfl (mf hx) (by decide+kernel) (by decide+kernel) ⟨by unfold kZ;rw [if_neg hb,if_neg h2,if_pos h3],rfl⟩
   .rw [decide_eq_false h3,if_neg (by decide)]
    refine lu ⟨_,rfl,?_⟩;have OS:=DD.ln;have OE:=DD.lw;have Pp:=DD.li;refine wc <| eO <| oz <| gu (d:= .bl true) rfl <| iG (i:=3) rfl (by decide+kernel) <| gu (d:= .str x) rfl ⟨_,_,_,Sum.inr x,vU d.nm,rfl,rfl,rfl,rfl,b5 _,by rw[uH];omega,_,rfl,?_⟩
    rw[show(iS S d).set (S.length+(3+1)) (.dct (nk (vU d.nm) (Sum.inr x) (.bl true)))=iS S {d with nm:=d.nm++[x]} by rw[vA h2];exact dM _ _]
    refine eO <| Oj <| EC (ds:=(pQ x w).map .str) (gM (aw (ds:=[.str x,nI w]) rfl (qe hx8 hw))) ?_
    refine(Bp (fun i δ S1=>S1=iS S {d with nm:=d.nm++[x],nu:=d.nu++(pQ x w).take i}/\∃a3,δ=[some (.loc S.length),some (.d (.str x)),some (.d (nI w)),a3]) ⟨by simp,_,rfl⟩ ?_).mono fun o S1 ⟨iB,e1,e2,a3,e3⟩=>⟨iB,e1,?_⟩
    .rintro i v δ S1 hv ⟨rfl,a3,rfl⟩;obtain⟨y,hy,rfl⟩:=NT.zm hv;refine⟨[some (.loc S.length),some (.d (.str x)),some (.d (nI w)),some (.d (.str y))],rfl,?_⟩;unfold jU;have hyn:y ∉ d.nu++(pQ x w).take i:=fun q=>by
      rcases List.mem_append.mp q with z | z
      .exact my DD h2 (lq hx y (List.mem_of_getElem? hy)) z
      .have nd:=yY (x:=x) hw;obtain⟨j,hj⟩:=List.getElem?_of_mem z;rw[List.getElem?_take] at hj;split at hj
       .rename_i hji;have:=i_ nd hj hy;omega
       .cases hj
     have hil:(pQ x w).length<=3:=by rw[qP];exact hw
     have htl:((pQ x w).take i).length<=3:=by rw[List.length_take];omega
     refine oz <| wI <| iG (i:=5) rfl (by decide+kernel) ⟨_,_,rfl,Iz,iG (i:=5) rfl (by decide+kernel) <| gu (d:= .str y) rfl ⟨_,_,_,Sum.inr y,Mn (d.nu++(pQ x w).take i),rfl,rfl,rfl,rfl,b5 _,by rw[uD,List.length_append];omega,_,rfl,?_,_,rfl⟩⟩
     rw[show({d with nm:=d.nm++[x],nu:=d.nu++(pQ x w).take i}:Dr).nu=d.nu++(pQ x w).take i from rfl,show D.int ((d.nu++(pQ x w).take i).length:Nat)=nI (d.nu++(pQ x w).take i).length from rfl,Ak hyn,List.append_assoc,show(pQ x w).take i++[y]=(pQ x w).take (i+1) by rw[List.take_add_one,hy];rfl]
     exact dM _ _
    .subst e2 e3;rw[List.length_map,List.length_map,List.take_length];refine Kf (k:=S.length+(0+1)) <| iG (i:=0) rfl (by decide+kernel) ⟨rfl,⟨_,b5 _⟩,gu (d:=MT.inD (x,w)) (eF rfl (by show 2<=sizeLine;omega)) ⟨_,d.ins.map MT.inD,rfl,b5 _,by rw[List.length_map];omega,trivial,_,by unfold kZ;rw [if_neg hb,if_neg h2,if_neg h3],?_⟩⟩
     rw[show d.ins.map MT.inD++[MT.inD (x,w)]=(d.ins++[(x,w)]).map MT.inD by simp]
     exact dM _ _
theorem v8(DD:l7 d){ws:List Str}{s:Bool}(hx:isNm x=true)(hk:kS (wG k)=k)(hl:ws.length<=1000)(hw:∀w∈ws,w.length<=1000000):WE (cw [.loc S.length, .d (.str x), .d (.str k), .d (.lst (ws.map .str)), .d (.bl s)] (iS S d)) (fun v S1=>v= .d .cJ/\∃d',addGate d x (wG k) ws s= .ok d'/\S1=iS S d') (fun c S1=>addGate d x (wG k) ws s= .error c/\S1=iS S d):=by
 have hz:sizeLine=16777216:=sizeLine_eq;unfold cw;refine Ml rfl ?_;simp only[dE,eD,List.map,List.length,List.replicate,List.cons_append,List.nil_append,Nat.reduceAdd,Nat.reduceSub];unfold gO;refine iz <| oh <| rj <| iG (i:=2) rfl (by decide+kernel) ⟨_,_,rfl,AM,?_⟩
 rw[sC d.os];by_cases h1:d.os≠[]
 .rw [decide_eq_true h1,if_pos rfl];exact vm (x:=x) rfl (mf hx) (by decide+kernel) (by decide+kernel) ⟨by unfold addGate;rw [if_pos h1],rfl⟩
 rw[decide_eq_false h1,if_neg (by decide)]
 refine lu ⟨_,rfl,?_⟩;refine iz <| oh <| uR <| gu (d:= .str x) rfl <| iG (i:=3) rfl (by decide+kernel) ⟨_,Jo,?_⟩
 by_cases h2:x∈d.nm
 .rw [if_pos h2];simp only[Option.isSome_some,Bool.false_bne,if_true];exact vm (x:=x) rfl (mf hx) (by decide+kernel) (by decide+kernel) ⟨by unfold addGate;rw [if_neg h1,if_pos h2],rfl⟩
 rw[if_neg h2];simp only[Option.isSome_none,Bool.false_bne,Bool.false_eq_true,if_false];refine lu ⟨_,rfl,?_⟩;refine iz <| oh <| E7 <| wI <| iG (i:=1) rfl (by decide+kernel) ⟨_,_,rfl,IM,gu (d:=nI 60) rfl ⟨nI d.gs.length,nI 60,_,rfl,rfl,Km _ _,?_⟩⟩
 by_cases h3:60<=d.gs.length
 .rw [decide_eq_true h3,if_pos rfl];exact vm (x:=x) rfl (mf hx) (by decide+kernel) (by decide+kernel) ⟨by unfold addGate;rw [if_neg h1,if_neg h2,if_pos h3],rfl⟩
 rw[decide_eq_false h3,if_neg (by decide)]
 refine lu ⟨_,rfl,?_⟩;have OS:=DD.ln;have OE:=DD.lw;have Pp:=DD.lg;refine iz <| DY (k:=S.length+(1+1)) <| iG (i:=1) rfl (by decide+kernel) ⟨rfl,⟨_,b5 _⟩,IS <| sJ <| D4 <| gu (d:= .str k) rfl <| sJ <| rK (k:=S.length) <| w_var (v:= .loc S.length) rfl ⟨_,rfl,b5 0,MM (by decide+kernel),b0 <| gu (d:= .lst (ws.map .str)) rfl <| fM ?_⟩⟩
 refine(kP hl hw).mono ?_ ?_
 .rintro v S1 ⟨rfl,l,OR,rfl⟩;refine sJ <| D4 <| gu (d:= .bl s) rfl <| Di ⟨by show 3<=sizeLine;omega,dq (wG k,l,s),d.gs.map dq,?_,b5 _,by rw[List.length_map];omega,_,rfl,?_⟩
  .show V3.d (.tup [.str k, .tup (l.map nI), .bl s])=_;unfold dq;rw[hk]
  rw[show(iS S d).set (S.length+(1+1)) (.lst (d.gs.map dq++[dq (wG k,l,s)]))=iS S {d with gs:=d.gs++[(wG k,l,s)]} by rw[show d.gs.map dq++[dq (wG k,l,s)]=(d.gs++[(wG k,l,s)]).map dq by simp];exact dM _ _]
  refine wc <| eO <| oz <| gu (d:= .bl true) rfl <| iG (i:=3) rfl (by decide+kernel) <| gu (d:= .str x) rfl ⟨_,_,_,Sum.inr x,vU d.nm,rfl,rfl,rfl,rfl,b5 _,by rw[uH];omega,_,rfl,?_⟩
  rw[show(iS S {d with gs:=d.gs++[(wG k,l,s)]}).set (S.length+(3+1)) (.dct (nk (vU d.nm) (Sum.inr x) (.bl true)))=iS S {d with gs:=d.gs++[(wG k,l,s)],nm:=d.nm++[x]} by rw[vA h2];exact dM _ _]
  refine oz <| wI <| iG (i:=5) rfl (by decide+kernel) ⟨_,_,rfl,Iz,iG (i:=5) rfl (by decide+kernel) <| gu (d:= .str x) rfl ⟨_,_,_,Sum.inr x,Mn d.nu,rfl,rfl,rfl,rfl,b5 _,by rw[uD];omega,trivial,_,by unfold addGate;rw [if_neg h1,if_neg h2,if_neg h3,OR],?_⟩⟩
  rw[show D.int (d.nu.length:Nat)=nI d.nu.length from rfl,Ak (my DD h2 (ox hx))]
  exact dM _ _
 .rintro c S1 ⟨rfl,rfl,hn⟩;exact⟨by unfold addGate;rw [if_neg h1,if_neg h2,if_neg h3,hn],rfl⟩
theorem y8(DD:l7 d){ws:List Str}(hx:isNm x=true)(hl:ws.length<=1000)(hw:∀w∈ws,w.length<=1000000):WE (cH [.loc S.length, .d (.str x), .d (.lst (ws.map .str))] (iS S d)) (fun v S1=>v= .d .cJ/\∃d',jf d x ws= .ok d'/\S1=iS S d') (fun c S1=>jf d x ws= .error c/\S1=iS S d):=by
 have hz:sizeLine=16777216:=sizeLine_eq;unfold cH;refine Ml rfl ?_;simp only[dE,e_,List.map,List.length,List.replicate,List.cons_append,List.nil_append,Nat.reduceAdd,Nat.reduceSub];unfold iH;refine iz <| oh <| uR <| gu (d:= .str x) rfl <| iG (i:=4) rfl (by decide+kernel) ⟨_,N3,?_⟩
 by_cases h2:x∈d.on
 .rw [if_pos h2];simp only[Option.isSome_some,Bool.false_bne,if_true];exact vm (x:=x) rfl (mf hx) (by decide+kernel) (by decide+kernel) ⟨by unfold jf;rw [if_pos h2],rfl⟩
 rw[if_neg h2];simp only[Option.isSome_none,Bool.false_bne,Bool.false_eq_true,if_false];refine lu ⟨_,rfl,?_⟩;refine iz <| oh <| E7 <| wI <| iG (i:=2) rfl (by decide+kernel) ⟨_,_,rfl,AM,gu (d:=nI 6) rfl ⟨nI d.os.length,nI 6,_,rfl,rfl,Km _ _,?_⟩⟩
 by_cases h3:6<=d.os.length
 .rw [decide_eq_true h3,if_pos rfl];exact vm (x:=x) rfl (mf hx) (by decide+kernel) (by decide+kernel) ⟨by unfold jf;rw [if_neg h2,if_pos h3],rfl⟩
 rw[decide_eq_false h3,if_neg (by decide)]
 refine lu ⟨_,rfl,?_⟩;have Pp:=DD.lo;have hon:d.on.length=d.os.length:=by unfold Dr.on;rw [List.length_map]
 refine iz <| DY (k:=S.length+(2+1)) <| iG (i:=2) rfl (by decide+kernel) ⟨rfl,⟨_,b5 _⟩,IS <| sJ <| D4 <| gu (d:= .str x) rfl <| sJ <| rK (k:=S.length) <| w_var (v:= .loc S.length) rfl ⟨_,rfl,b5 0,MM (by decide+kernel),b0 <| gu (d:= .lst (ws.map .str)) rfl <| fM ?_⟩⟩
 refine(kP hl hw).mono ?_ ?_
 .rintro v S1 ⟨rfl,l,OR,rfl⟩;refine Di ⟨by show 2<=sizeLine;omega,iE (x,l),d.os.map iE,rfl,b5 _,by rw[List.length_map];omega,_,rfl,?_⟩
  rw[show(iS S d).set (S.length+(2+1)) (.lst (d.os.map iE++[iE (x,l)]))=S++[.ins 0 (BK S.length), .lst (d.ins.map MT.inD), .lst (d.gs.map dq), .lst ((d.os++[(x,l)]).map iE), .dct (vU d.nm), .dct (vU d.on), .dct (Mn d.nu)] by rw[show d.os.map iE++[iE (x,l)]=(d.os++[(x,l)]).map iE by simp];exact dM _ _]
  refine wc <| oz <| gu (d:= .bl true) rfl <| w_fld (k:=S.length) <| w_var (v:= .loc S.length) rfl ⟨_,_,rfl,b5 0,lk (i:=4) (by decide+kernel),gu (d:= .str x) rfl ⟨_,_,_,Sum.inr x,vU d.on,rfl,rfl,rfl,rfl,b5 _,by rw[uH,hon];omega,trivial,_,by unfold jf;rw [if_neg h2,if_neg h3,OR],?_⟩⟩
  rw[vA h2,show d.on++[x]=({d with os:=d.os++[(x,l)]}:Dr).on by unfold Dr.on;simp]
  exact dM _ _
 .rintro c S1 ⟨rfl,rfl,hn⟩;exact⟨by unfold jf;rw [if_neg h2,if_neg h3,hn],rfl⟩
end
end K07
end
section
namespace K07
open PySem PySem.Spec PyProof.Rows L2 L3 MT JT TX
structure Rw (n:Nat) (r:Str):Prop where
 len:r.length<=n
 cps:∀c∈r.cps.toList,c < 16 ^ 8
section
variable {S:aP} {d:Dr}
theorem BU{r:Str}{n:Nat}(h:r.length<=n):(Txt.split r SP).length<=n+2/\∀w∈Txt.split r SP,w.length<=n:=
 ⟨Nat.le_trans (split_le r SP) (by omega),fun w hw=>Nat.le_trans (part_short hw) h⟩
theorem J7(DD:l7 d)(hr:Rw 1000000 r):WE (fE [.loc S.length, .d (.str r)] (iS S d)) (fun v S1=>v= .d .cJ/\∃d',gh d (Txt.split r SP)= .ok d'/\S1=iS S d') (fun c S1=>gh d (Txt.split r SP)= .error c/\S1=iS S d):=by
 have hz:sizeLine=16777216:=sizeLine_eq;have hrl:=hr.len;obtain⟨A_,hww⟩:=BU hrl;unfold fE;refine Ml rfl ?_;simp only[dE,kG,List.map,List.length,List.replicate,List.cons_append,List.nil_append,Nat.reduceAdd,Nat.reduceSub];unfold nK;refine iz <| wc <| kU (by simp) <| gu (d:= .lst ((Txt.split r SP).map .str)) (kE (x:=r) rfl (av rfl rfl) (by rw[Dp];exact wz (by omega))) ⟨_,rfl,?_⟩
 simp only[List.set];generalize Txt.split r SP=ws at A_ hww;have h7:∀w∈ws,w.length<=10000000:=fun w hw=>Nat.le_trans (hww w hw) (by omega)
 have ix:∀{i:Nat} {δ:ao},i < ws.length->ag 2 δ= .ok (.lst (ws.map .str))->e2 cW (ag 2) (eC (.int i)) δ= .ok (.str (wd ws i)):=fun hi hv=>ax (a:= .lst (ws.map .str)) hv rfl (ua hi)
 refine oh <| Dm (b:=EK ws) (mH (aw (ds:=[.lst (ws.map .str)]) rfl (yH (by omega) h7))) ?_
 unfold gh;cases hi:EK ws with
 | true=>
   rw[if_pos rfl,if_pos rfl];have hi':=hi;unfold EK at hi';simp only[Bool.and_eq_true,decide_eq_true_eq] at hi';obtain⟨h3,_,hn,hwd⟩:=hi';obtain⟨_,w3,wk⟩:=E_ hwd;refine vJ <| rK (k:=S.length) <| w_var (v:= .loc S.length) rfl ⟨_,rfl,b5 0,MM (by decide+kernel),b0 <| gu (d:= .str (wd ws 1)) (ix (i:=1) (by omega) rfl) <| b0 <| gu (d:=nI (I_ (wd ws 2))) ?_ <| fM ?_⟩
   .unfold wW;rw[show e2 cW (ag 2) (eC (.int 2)) _= .ok (.str (wd ws 2)) from ix (i:=2) (by omega) rfl,R.aH]
    show(match F6.lookup (wd ws 2) with | some i=>R.ok (D.int i) | none=> .no)=_
    rw[wk];rfl
   .refine(Bo DD hn w3).mono ?_ fun _ _ q=>q
    rintro v S1 ⟨rfl,q⟩;exact⟨trivial,q⟩
 | false=>
   rw[if_neg (by decide),if_neg (by decide)]
   refine oh <| Dm (b:=Eh ws) (mH (aw (ds:=[.lst (ws.map .str)]) rfl (uM (by omega) h7))) ?_
   cases hg:Eh ws with
   | true=>
     rw[if_pos rfl,if_pos rfl];have hg':=hg;unfold Eh at hg';simp only[Bool.and_eq_true,decide_eq_true_eq] at hg';obtain⟨⟨h4,_⟩,⟨hn,hk⟩,_,_⟩:=hg';obtain⟨k1,_,_⟩:=Fz hk;have hdl:(ws.drop 3).length<=1000:=by
      have hg':=hg;unfold Eh at hg';simp only[Bool.and_eq_true,decide_eq_true_eq] at hg';have h5:=hg'.2.2.1;obtain⟨_,k2,k3⟩:=Fz hk;rw[k3] at h5;have:=v7 (wG (wd ws 2));simp only[Option.getD_some] at h5;omega
     refine vJ <| rK (k:=S.length) <| w_var (v:= .loc S.length) rfl ⟨_,rfl,b5 0,MM (by decide+kernel),b0 <| gu (d:= .str (wd ws 1)) (ix (i:=1) (by omega) rfl) <| b0 <| gu (d:= .str (wd ws 2)) (ix (i:=2) (by omega) rfl) <| b0 <| gu (d:= .lst ((ws.drop 3).map .str)) (nq (d:= .lst (ws.map .str)) (lo:=some ((3:Nat):Int)) (hi:=none) rfl (iu rfl) rfl ((qU (by rw[List.length_map];omega)).trans (by rw[List.map_drop]))) <| b0 <| gu (d:= .bl (wd ws 0==Str.ofString "sure")) (ax (a:= .str (wd ws 0)) (b:= .str (Str.ofString "sure")) (ix (i:=0) (by omega) rfl) rfl (u0 _ _)) <| fM ?_⟩
     refine(v8 DD hn k1 hdl fun w hw=>Nat.le_trans (hww w (List.mem_of_mem_drop hw)) (by omega)).mono ?_ fun _ _ q=>q
     rintro v S1 ⟨rfl,q⟩;exact⟨trivial,q⟩
   | false=>
     rw[if_neg (by decide),if_neg (by decide)]
     refine oh <| Dm (b:=IZ ws) (mH (aw (ds:=[.lst (ws.map .str)]) rfl (xW (by omega) h7))) ?_
     cases ho:IZ ws with
     | true=>
       rw[if_pos rfl,if_pos rfl];have yf:=ho;unfold IZ at yf;simp only[Bool.and_eq_true,decide_eq_true_eq] at yf;obtain⟨⟨h4,_,hn⟩,h5,_⟩:=yf;refine vJ <| rK (k:=S.length) <| w_var (v:= .loc S.length) rfl ⟨_,rfl,b5 0,MM (by decide+kernel),b0 <| gu (d:= .str (wd ws 1)) (ix (i:=1) (by omega) rfl) <| b0 <| gu (d:= .lst ((ws.drop 2).map .str)) (nq (d:= .lst (ws.map .str)) (lo:=some ((2:Nat):Int)) (hi:=none) rfl (iu rfl) rfl ((qU (by rw[List.length_map];omega)).trans (by rw[List.map_drop]))) <| fM ?_⟩
       refine(y8 DD hn (by omega) fun w hw=>Nat.le_trans (hww w (List.mem_of_mem_drop hw)) (by omega)).mono ?_ fun _ _ q=>q
       rintro v S1 ⟨rfl,q⟩;exact⟨trivial,q⟩
     | false=>
       rw[if_neg (by decide),if_neg (by decide)]
       have hrp:=StrLaws.reprText_len r hr.cps;refine qV <| b0 <| gu (d:= .str _) (kI (ss:=[Str.ofString "a row of no form: ",reprText r]) (dC rfl (dC (x:=reprText r) ?_ rfl)) ?_) <| fM ⟨by show 1<=sizeLine;omega,rfl,rfl⟩
       .show R.aS (decide ((reprText r).length<=sizeLine)) (R.ok (D.str (reprText r)))=_;exact bx _ (by omega)
       .show((Str.empty++Str.ofString "a row of no form: ")++reprText r).length<=_;rw[Str.length_append,Str.length_append];have:(Str.ofString "a row of no form: ").length<=100:=by decide+kernel
        show 0+_+_<=_;omega
theorem pl{v:V3}{n:Nat}:∀{fs:List (Str × V3)},fs.length < n->(uN f v fs).length < n+1
 | [],h=>by show 1 < n+1;simp at h;omega
 | (g,x) ::r,h=>by
   unfold uN;split
   .simp at h ⊢;omega
   .have:=pl (f:=f) (v:=v) (n:=n - 1) (fs:=r) (by simp at h;omega)
    simp at h ⊢;omega
theorem Ij{Q:V3->aP->Prop}(h:Q (.d .cJ) (iS S d0)):W3 (c4 [.loc S.length] (S++[.ins 0 []])) Q:=by
 unfold c4;refine QK rfl ?_;simp only[dE,eE,List.map,List.length,List.replicate,List.cons_append,List.nil_append,Nat.reduceAdd,Nat.reduceSub];unfold gx;have a0:∀{l:List SO},(S++l)[S.length]? =l[0]?:=fun {l}=>b5 0
 have ln:∀{l:List SO},(S++l).length=S.length+l.length:=fun {l}=>List.length_append
 refine eO <| kc (k:=S.length) <| CD (ds:=[]) rfl <| w_var (v:= .loc S.length) rfl ⟨[],rfl,by rw[List.append_assoc];exact a0,by decide,_,rfl,?_⟩
 rw[ln,List.append_assoc,show ∀x:SO,List.set (S++([.ins 0 []]++[.lst []])) S.length x=S++[x, .lst []] from fun x=>dM (S:=S) (l:=[.ins 0 [], .lst []]) 0 x]
 refine eO <| kc (k:=S.length) <| CD (ds:=[]) rfl <| w_var (v:= .loc S.length) rfl ⟨_,rfl,by rw[List.append_assoc];exact a0,pl (by decide),_,rfl,?_⟩
 rw[ln,List.append_assoc];refine(show ∀{F:FZ} {δ:DE} {Q:Ou->aP->Prop} {x y:aP},x=y->W3 (F δ y) Q->W3 (F δ x) Q from fun e h=>by rw[e];exact h) (dM (S:=S) (l:=[_, .lst [], .lst []]) 0 _) ?_
 show W3 (cO _ _ _ (S++[_,SO.lst [],SO.lst []])) _;refine eO <| kc (k:=S.length) <| CD (ds:=[]) rfl <| w_var (v:= .loc S.length) rfl ⟨_,rfl,by rw[List.append_assoc];exact a0,pl (pl (by decide)),_,rfl,?_⟩
 rw[ln,List.append_assoc];refine(show ∀{F:FZ} {δ:DE} {Q:Ou->aP->Prop} {x y:aP},x=y->W3 (F δ y) Q->W3 (F δ x) Q from fun e h=>by rw[e];exact h) (dM (S:=S) (l:=[_, .lst [], .lst [], .lst []]) 0 _) ?_
 show W3 (cO _ _ _ (S++[_,SO.lst [],SO.lst [],SO.lst []])) _;refine eO <| kc (k:=S.length) <| yS <| w_var (v:= .loc S.length) rfl ⟨_,rfl,by rw[List.append_assoc];exact a0,pl (pl (pl (by decide))),_,rfl,?_⟩
 rw[ln,List.append_assoc];refine(show ∀{F:FZ} {δ:DE} {Q:Ou->aP->Prop} {x y:aP},x=y->W3 (F δ y) Q->W3 (F δ x) Q from fun e h=>by rw[e];exact h) (dM (S:=S) (l:=[_, .lst [], .lst [], .lst [], .dct []]) 0 _) ?_
 show W3 (cO _ _ _ (S++[_,SO.lst [],SO.lst [],SO.lst [],SO.dct []])) _;refine eO <| kc (k:=S.length) <| yS <| w_var (v:= .loc S.length) rfl ⟨_,rfl,by rw[List.append_assoc];exact a0,pl (pl (pl (pl (by decide)))),_,rfl,?_⟩
 rw[ln,List.append_assoc];refine(show ∀{F:FZ} {δ:DE} {Q:Ou->aP->Prop} {x y:aP},x=y->W3 (F δ y) Q->W3 (F δ x) Q from fun e h=>by rw[e];exact h) (dM (S:=S) (l:=[_, .lst [], .lst [], .lst [], .dct [], .dct []]) 0 _) ?_
 show W3 (uY _ _ _ _ _ (S++[_,SO.lst [],SO.lst [],SO.lst [],SO.dct [],SO.dct []])) _;refine kc (k:=S.length) <| yS <| w_var (v:= .loc S.length) rfl ⟨_,rfl,by rw[List.append_assoc];exact a0,pl (pl (pl (pl (pl (by decide))))),_,rfl,?_⟩
 rw[ln,List.append_assoc];refine(show ∀{x y:aP},x=y->Q (.d .cJ) y->Q (.d .cJ) x from fun e h=>by rw[e];exact h) (dM (S:=S) (l:=[_, .lst [], .lst [], .lst [], .dct [], .dct [], .dct []]) 0 _) ?_
 exact h
end
end K07
end
section
namespace K07
open PySem PySem.Spec PyProof.Rows L2 L3 MT JT TX
theorem sM{c a:Nat}:∀{l:YF} {x:List Nat},x∈l->a∈x->a∈jn c l
 | [y],x,hx,ha=>by rw[List.mem_singleton.mp hx] at ha;exact ha
 | y ::z ::r,x,hx,ha=>by
   show a∈y++c ::jn c (z ::r);rcases List.mem_cons.mp hx with e | e
   .rw [e] at ha;exact List.mem_append_left _ ha
   .exact List.mem_append_right _ (List.mem_cons_of_mem _ (sM e ha))
theorem Hl{n c:Nat}(h:Rw n x)(hp:p∈Txt.split x ⟨#[c]⟩):Rw n p:=by
 refine⟨Nat.le_trans (part_short hp) h.len,fun a ha=>h.cps a ?_⟩
 rw[<-StrLaws.join_split x ⟨#[c]⟩,j8];exact sM (List.mem_map_of_mem hp) ha
section
variable {S:aP}
theorem Ii{rs:List Str}(hr:∀r∈rs,Rw 1000000 r){d:Dr}(DD:l7 d){T:Str}{ws:List Str}{a3:Option V3}:WE (gg (wx 3) oq ((rs.map D.str).map V3.d) [some (.d (.str T)),some (.d (.lst (ws.map .str))),some (.loc S.length),a3] (iS S d)) (fun o S1=>∃d' b3,o= .nx [some (.d (.str T)),some (.d (.lst (ws.map .str))),some (.loc S.length),b3]/\gm d rs= .ok d'/\l7 d'/\S1=iS S d') (fun c S1=>gm d rs= .error c/\∃T,S1=S++T):=by
 induction rs generalizing d a3 with
 | nil=>exact .inl ⟨_,_,rfl,d,a3,rfl,rfl,DD,rfl⟩
 | cons r rs ih=>
   show WE ((oq [some (.d (.str T)),some (.d (.lst (ws.map .str))),some (.loc S.length),some (.d (.str r))] (iS S d)).bind _) _ _;refine WE.bind ?_;unfold oq;refine vJ <| JX <| b0 <| w_var (v:= .loc S.length) rfl <| b0 <| gu (d:= .str r) rfl <| fM <| (J7 DD (hr r List.mem_cons_self)).mono ?_ ?_
   .rintro v S1 ⟨rfl,d',h1,rfl⟩;have:=ih (fun x hx=>hr x (List.mem_cons_of_mem _ hx)) (GD DD h1) (a3:=some (.d (.str r)))
    unfold gm;rw[h1];exact this
   .rintro c S1 ⟨h1,rfl⟩;unfold gm;rw[h1];exact⟨rfl,_,rfl⟩
theorem HF(ht:Rw 1000000 text):WE (iU [.d (.str text)] S) (fun v S1=>∃d,t4 (Txt.split text NL)= .ok d/\l7 d/\v= .tup [.loc (S.length+1), .loc (S.length+2), .loc (S.length+3)]/\S1=iS S d) (fun c S1=>t4 (Txt.split text NL)= .error c/\∃T,S1=S++T):=by
 have hz:sizeLine=16777216:=sizeLine_eq;have htl:=ht.len;unfold iU;refine Ml rfl ?_;simp only[dE,ve,List.map,List.length,List.replicate,List.cons_append,List.nil_append,Nat.reduceAdd,Nat.reduceSub];unfold zH;have hrl:(Txt.split text NL).length<=1000002:=Nat.le_trans (split_le text NL) (by omega)
 have hrr:∀r∈Txt.split text NL,Rw 1000000 r:=by rw[xJ];exact fun r hr=>Hl ht hr
 refine iz <| wc <| kU (by simp) <| gu (d:= .lst ((Txt.split text NL).map .str)) (kE (x:=text) rfl (av rfl rfl) (by rw[xJ];exact wz (by omega))) ⟨_,rfl,?_⟩
 simp only[List.set];generalize Txt.split text NL=rs at hrl hrr;refine iz <| oh <| Dm (b:=decide (80 < rs.length)) (dc (a:=nI rs.length) (b:=nI 80) (aw (ds:=[.lst (rs.map .str)]) rfl (by rw[iF,List.length_map])) rfl (GV _ _)) ?_
 unfold t4;by_cases h1:80 < rs.length
 .rw [decide_eq_true h1,if_pos rfl,if_pos h1];exact qV <| b0 <| gu (d:= .str _) rfl <| fM ⟨by show 1<=sizeLine;omega,rfl,[],by simp⟩
 .rw [decide_eq_false h1,if_neg (by decide),if_neg h1]
  refine lu ⟨_,rfl,?_⟩;refine iz <| wc <| kU (by simp) <| Kd <| fM <| Ij ⟨rfl,_,rfl,?_⟩
  simp only[List.set];refine iz <| IG <| EC (ds:=rs.map .str) (gM rfl) ?_
  refine(Ii hrr Nq).mono ?_ ?_
  .rintro o S1 ⟨d,b3,rfl,h2,DD,rfl⟩;refine⟨_,rfl,?_⟩;rw[h2];have key:W3 (Ja (EB (lF (eT 0 (Str.ofString "ins") (cn 2)))) (EB (lF (eT 0 (Str.ofString "outs") (cn 2)))) [some (.d (.str text)),some (.d (.lst (rs.map .str))),some (.loc S.length),b3] (iS S d)) fun b S1=>b=decide (d.ins=[]\/d.os=[])/\S1=iS S d:=by
    refine W3.bind (W3.bind (rj <| iG (i:=0) rfl (by decide+kernel) ⟨_,_,rfl,Jh,W3.ok ?_⟩))
    rw[sC d.ins];by_cases hi:d.ins=[]
    .rw [decide_eq_false (fun q=>q hi),decide_eq_true (.inl hi)]
     exact W3.ok ⟨rfl,rfl⟩
    .rw [decide_eq_true hi,show(!true)=false from rfl,if_neg (by decide)]
     refine W3.bind (rj <| iG (i:=2) rfl (by decide+kernel) ⟨_,_,rfl,AM,W3.ok ?_⟩)
     rw[sC d.os];refine⟨?_,rfl⟩;by_cases ho:d.os=[]
     .rw [decide_eq_false (fun q=>q ho),decide_eq_true (.inr ho)];rfl
     .rw [decide_eq_true ho,decide_eq_false fun q=>q.elim hi ho];rfl
   refine iz <| oh <| key.mono ?_
   rintro b S1 ⟨rfl,rfl⟩;simp only;by_cases h3:d.ins=[]\/d.os=[]
   .rw [decide_eq_true h3,if_pos rfl,if_pos h3];exact qV <| b0 <| gu (d:= .str _) rfl <| fM ⟨by show 1<=sizeLine;omega,rfl,_,rfl⟩
   .rw [decide_eq_false h3,if_neg (by decide),if_neg h3]
    refine lu ⟨_,rfl,?_⟩;exact wc <| AB <| Jm <| b0 <| iG (i:=0) rfl (by decide+kernel) <| b0 <| iG (i:=1) rfl (by decide+kernel) <| b0 <| iG (i:=2) rfl (by decide+kernel) <| fM ⟨by show 3<=sizeLine;omega,d,rfl,DD,rfl,rfl⟩
  .rintro c S1 ⟨h2,q⟩;rw[h2];exact⟨rfl,q⟩
end
end K07
end
section
set_option maxHeartbeats 4000000
namespace K07
open PySem PySem.Spec PyProof.Rows L2 L3 MT JT
def stir(cell k:Int):Int:=if 10 ^ 18<=cell then(cell - 10 ^ 18) / 2 ^ (28*k).toNat % 2 ^ 28
 else((cell+1013*k+1)*16807 % 2147483647)*((cell+1013*k+1)*16807 % 2147483647) % 2147483629*39373 % 2147483587 / 8
theorem G0(cell k:Int)(hk:0<=k):aT [.int cell, .int k]= .ok (.int (stir cell k)):=by
 have p1:∀δ,e2 BD (eC (.int 10)) (eC (.int 18)) δ= .ok (.int (10 ^ 18)):=fun δ=>rfl
 have p2:∀δ,e2 BD (eC (.int 2)) (eC (.int 28)) δ= .ok (.int (2 ^ 28)):=fun δ=>rfl
 have ge:∀a b:Int,Ld (.int a) (.int b)= .ok (.bl (decide (a>=b))):=fun a b=>rfl
 have mulc:∀(a b:Int),(-(2 ^ 64) < b/\b < 2 ^ 64)->k_ (.int a) (.int b)= .ok (.int (a*b)):=fun a b h=>by
  show R.aS (decide _) (R.ok (D.int (a*b)))=_;exact bx _ (.inr h)
 have mulc':∀(a b:Int),(-(2 ^ 64) < a/\a < 2 ^ 64)->k_ (.int a) (.int b)= .ok (.int (a*b)):=fun a b h=>by
  show R.aS (decide _) (R.ok (D.int (a*b)))=_;exact bx _ (.inl h)
 unfold aT sv stir;by_cases h:(10:Int) ^ 18<=cell
 .rw [if_pos h];refine cQ (NT.qJ (rF (dc (a:= .int cell) (b:= .int (10 ^ 18)) rfl (p1 _) ((ge _ _).trans (by rw[decide_eq_true h]))) (b_ (ax (a:= .int ((cell - 10 ^ 18) / 2 ^ (28*k).toNat)) (b:= .int (2 ^ 28)) (ax (a:= .int (cell - 10 ^ 18)) (b:= .int (28*k)) (ax (a:= .int cell) (b:= .int (10 ^ 18)) rfl (p1 _) rfl) (ax (a:= .int 28) (b:= .int k) rfl rfl (mulc' _ _ ⟨by omega,by omega⟩)) ?_) (p2 _) (rR (by omega))))))
  show R.aS (decide ((0:Int)<=28*k)) (R.ok (D.int ((cell - 10 ^ 18) / 2 ^ (28*k).toNat)))=_;exact bx _ (by omega)
 .rw [if_neg h];refine cQ (aC (rW (dc (a:= .int cell) (b:= .int (10 ^ 18)) rfl (p1 _) ((ge _ _).trans (by rw[decide_eq_false h]))) rfl) (aC (bf (d:= .int ((cell+1013*k+1)*16807 % 2147483647)) (ax (a:= .int ((cell+1013*k+1)*16807)) (b:= .int 2147483647) (ax (a:= .int (cell+1013*k+1)) (b:= .int 16807) (ax (a:= .int (cell+1013*k)) (b:= .int 1) (ax (a:= .int cell) (b:= .int (1013*k)) rfl (ax (a:= .int 1013) (b:= .int k) rfl rfl (mulc' _ _ ⟨by omega,by omega⟩)) rfl) rfl rfl) rfl (mulc _ _ ⟨by omega,by omega⟩)) rfl (rR (by omega))) (by simp [bW,ku])) ?_))
  have b1:0<=(cell+1013*k+1)*16807 % 2147483647:=Int.emod_nonneg _ (by omega)
  have SX:(cell+1013*k+1)*16807 % 2147483647 < 2147483647:=Int.emod_lt_of_pos _ (by omega)
  generalize (cell+1013*k+1)*16807 % 2147483647=x at b1 SX;refine aC (bf (d:= .int (x*x % 2147483629)) (ax (a:= .int (x*x)) (b:= .int 2147483629) (ax (a:= .int x) (b:= .int x) rfl rfl (mulc _ _ ⟨by omega,by omega⟩)) rfl (rR (by omega))) (by simp [bW,ku])) (b_ ?_)
  exact ax (a:= .int (x*x % 2147483629*39373 % 2147483587)) (b:= .int 8) (ax (a:= .int (x*x % 2147483629*39373)) (b:= .int 2147483587) (ax (a:= .int (x*x % 2147483629)) (b:= .int 39373) rfl rfl (mulc _ _ ⟨by omega,by omega⟩)) rfl (rR (by omega))) rfl (A5 (by omega) (by omega))
theorem GB(cell k:Int):0<=stir cell k:=by
 unfold stir;split <;> omega
def stN(cell:Int)(k:Nat):Nat:=(stir cell k).toNat
theorem lV(cell:Int)(k:Nat):aT [.int cell,nI k]= .ok (nI (stN cell k)):=by
 show aT [.int cell, .int k]=_;rw[G0 cell k (by omega)]
 unfold nI stN;rw[Int.toNat_of_nonneg (GB _ _)]
end K07
end
section
set_option maxHeartbeats 1000000
namespace K07
open PySem PySem.Spec PyProof.Rows L2 L3 MT JT
theorem vH(ns:List Int)(k:Nat):c7 [.lst (ns.map .int),nI k]= .ok (.int (ns.getD k 0)):=by
 unfold c7 mV;by_cases h:k < ns.length
 .refine cQ (NT.qJ (rF (dc (a:=nI k) (b:=nI ns.length) rfl (aw (ds:=[.lst (ns.map .int)]) rfl (by rw[NF,List.length_map];rfl)) (by rw[BC,decide_eq_true h])) (b_ (ax (a:= .lst (ns.map .int)) (b:=nI k) rfl rfl (NT.cf ?_)))))
  rw[List.getElem?_map,List.getD_eq_getElem?_getD,List.getElem?_eq_getElem h];rfl
 .refine cQ (aC (rW (dc (a:=nI k) (b:=nI ns.length) rfl (aw (ds:=[.lst (ns.map .int)]) rfl (by rw[NF,List.length_map];rfl)) (by rw[BC,decide_eq_false h])) rfl) (b_ ?_))
  rw[List.getD_eq_getElem?_getD,List.getElem?_eq_none (by omega)]
  rfl
end K07
end
section
namespace K07
open PySem PySem.Spec PyProof.Rows L2 L3 MT JT TX
abbrev e7(head:Int)(k m:Nat)(ss:List Str)(a b c e:Sl):ao:=[.val (.int head), .val (nI k), .val (nI m), .val (.str vW), .val (.lst (lB.map .str)), .bld (ss.map .str),a,b,c,e]
section
variable {head:Int} {k m:Nat} {ss:List Str}
theorem CI{a b c e:Sl}:cG 9 (eNew (eN (iJ (eC (.int 80))) (aR 0) oS (e2 eu (e2 eu (eC (.str (Str.ofString "zz"))) (e2 cW (ag 1) (e2 dh (ag 0) (eC (.int 26))))) (e2 cW (ag 1) (e2 cR (ag 0) (eC (.int 26))))) [(Str.ofString "n")] [3])) (e7 head k m ss a b c e)= .ok (.nx (e7 head k m ss a b c (.val (.lst (zW.map .str))))):=by
 have hz:sizeLine=16777216:=sizeLine_eq;refine bf (δ:=e7 head k m ss a b c e) (b8 (eX (ds:=(List.range 80).map nI) (tU (n:=80) rfl (by omega)) (by simp;omega) ?_)) (by show 9 < 10;omega)
 rw[show zW.map D.str=(List.range 80).map fun n=>D.str ⟨#[122,122,97+n / 26,97+n % 26]⟩ from List.map_map]
 refine NT.dv nI _ fun n hn=>⟨[.val (nI n), .val (.str vW)],rfl,rfl,?_⟩
 have hn:=List.mem_range.mp hn;have l1:(Str.ofString "zz").length=2:=by decide+kernel
 refine(ax (a:= .str (Str.ofString "zz"++gE (n / 26))) (b:= .str (gE (n % 26))) (ax (a:= .str (Str.ofString "zz")) (b:= .str (gE (n / 26))) rfl (ax (a:= .str vW) (b:=nI (n / 26)) rfl (ax (a:=nI n) (b:=nI 26) rfl rfl (mZ (by omega) (by omega))) (oJ (by omega))) (mO (by rw[l1];show 2+1<=_;omega))) (ax (a:= .str vW) (b:=nI (n % 26)) rfl (ax (a:=nI n) (b:=nI 26) rfl rfl (eM (by omega))) (oJ (by omega))) (mO (by rw[Str.length_append,l1];show 2+1+1<=_;omega))).trans ?_
 rw[Kz]
theorem Ha{a b c:Sl}(h:ss.length < 80):∃w,w∈zW/\w ∉ ss/\cG 8 (mX (e2 cW (eNew (eN (dy (ag 9)) (aR 0) (b2 ny (ag 0) (ag 1)) (ag 0) [(Str.ofString "one")] [5])) (eC (.int 0)))) (e7 head k m ss a b c (.val (.lst (zW.map .str))))= .ok (.nx (e7 head k m ss a b (.val (.str w)) (.val (.lst (zW.map .str))))):=by
 have hz:sizeLine=16777216:=sizeLine_eq;obtain⟨w,hw,hm,hn⟩:=sj Lq (ss:=ss) (by unfold zW;simp;exact h)
 refine⟨w,hm,hn,bf (δ:=e7 head k m ss a b c (.val (.lst (zW.map .str)))) (o4 (ax (a:= .lst ((zW.filter fun s=>!ss.contains s).map .str)) (b:= .int (0:Nat)) (b8 (eX (ds:=zW.map .str) ?_ (by unfold zW;simp;omega) ?_)) rfl (NT.cf (by rw[List.getElem?_map,hw];rfl))) rfl) (by show 8 < 10;omega)⟩
 .refine gM ?_;cases a <;> cases b <;> cases c <;> rfl
 .rw [show qx [(Str.ofString "one")] [5] (lH (e7 head k m ss a b c (.val (.lst (zW.map .str)))))=[.un, .val (.lst (ss.map .str))] by cases a <;> cases b <;> cases c <;> rfl]
  exact NT.nP (fun s=>!ss.contains s) D.str D.str fun s hs=>⟨[.val (.str s), .val (.lst (ss.map .str))],rfl,dc (a:= .str s) (b:= .lst (ss.map .str)) rfl rfl (Ds _ _),fun _=>rfl⟩
theorem D2{a b e:Sl}(h:ss.length < 80):nB 5 (ag 8) (e7 head k m ss a b (.val (.str w)) e)= .ok (.nx (e7 head k m (ss++[w]) a b (.val (.str w)) e)):=by
 have hz:sizeLine=16777216:=sizeLine_eq;rw[g7 (d:= .str w) (ds:=ss.map .str) rfl rfl (by rw[List.length_map,hz];omega)]
 show R.ok (Out.nx (_ ::_ ::_ ::_ ::_ ::Sl.bld (ss.map D.str++[.str w]) ::_))=_;rw[show ss.map D.str++[.str w]=(ss++[w]).map .str by simp]
theorem Bj{j:Nat}{b c e:Sl}(h:ss.length < 80)(hs:∀s∈ss,isNm s=true):∃w b' c' e',isNm w=true/\w ∉ ss/\hJ (e7 head k m ss (.val (nI j)) b c e)= .ok (.nx (e7 head k m (ss++[w]) (.val (nI j)) b' c' e')):=by
 have hz:sizeLine=16777216:=sizeLine_eq;unfold hJ;obtain⟨r,hr⟩:∃r,stN head (k+j)=r:=⟨_,rfl⟩;have s1:cG 7 (aK aT (ai (ag 0) (ai (e2 eu (ag 1) (ag 6)) aI))) (e7 head k m ss (.val (nI j)) b c e)= .ok (.nx (e7 head k m ss (.val (nI j)) (.val (nI r)) c e)):=
  bf (δ:=e7 head k m ss (.val (nI j)) b c e) ((aw (ds:=[.int head,nI (k+j)]) (av rfl (av (ax (a:=nI k) (b:=nI j) rfl rfl (lQ _ _)) rfl)) (lV head (k+j))).trans (by rw[hr])) (by show 7 < 10;omega)
 have g1:=A0 (i:=r % 26) (by omega)
 have g2:=A0 (i:=r / 26 % 26) (by omega)
 have g3:=NO (r:=r / 700 % 7) (by omega)
 have gj:=N0 g1 g2 g3;have lx:(Str.ofString "x").length=1:=by decide+kernel
 have s2:∀c,cG 8 (zc "str" j0 (eC (.str (Str.ofString ""))) (ai (eNew (eS (ai (e2 cW (ag 3) (e2 cR (ag 7) (eC (.int 26)))) (ai (e2 cW (ag 3) (e2 cR (e2 dh (ag 7) (eC (.int 26))) (eC (.int 26)))) (ai (e2 k_ (eC (.str (Str.ofString "x"))) (e2 cR (e2 dh (ag 7) (eC (.int 700))) (eC (.int 7)))) aI))))) aI)) (e7 head k m ss (.val (nI j)) (.val (nI r)) c e)= .ok (.nx (e7 head k m ss (.val (nI j)) (.val (nI r)) (.val (.str (Str.join (Str.ofString "") [gE (r % 26),gE (r / 26 % 26),Txt.mul (Str.ofString "x") (r / 700 % 7:Nat)]))) e)):=fun c=>by
  refine bf (δ:=e7 head k m ss (.val (nI j)) (.val (nI r)) c e) (kE (x:=Str.ofString "") rfl (av (b8 (cF (ds:=[gE (r % 26),gE (r / 26 % 26),Txt.mul (Str.ofString "x") (r / 700 % 7:Nat)].map .str) (av ?_ (av ?_ (av ?_ rfl))) (by show 3<=sizeLine;omega))) rfl) (uO ?_)) (by show 8 < 10;omega)
  .exact ax (a:= .str vW) (b:=nI (r % 26)) rfl (ax (a:=nI r) (b:=nI 26) rfl rfl (eM (by omega))) (oJ (by omega))
  .exact ax (a:= .str vW) (b:=nI (r / 26 % 26)) rfl (ax (a:=nI (r / 26)) (b:=nI 26) (ax (a:=nI r) (b:=nI 26) rfl rfl (mZ (by omega) (by omega))) rfl (eM (by omega))) (oJ (by omega))
  .exact ax (a:= .str (Str.ofString "x")) (b:=nI (r / 700 % 7)) rfl (ax (a:=nI (r / 700)) (b:=nI 7) (ax (a:=nI r) (b:=nI 700) rfl rfl (mZ (by omega) (by omega))) rfl (eM (by omega))) (HW (by omega) (by omega) (by rw[lx];omega))
  .have l1:=g1.len;have l2:=g2.len;have l3:=g3.len;have l4:(Str.ofString "").length=0:=by decide+kernel
   simp only[List.map_cons,List.map_nil,List.sum_cons,List.sum_nil,List.length_cons,List.length_nil,l4];omega
 generalize Str.join (Str.ofString "") [gE (r % 26),gE (r / 26 % 26),Txt.mul (Str.ofString "x") (r / 700 % 7:Nat)]=w0 at gj s2;have gj:=gj.len |> fun _=>gj
 have l0:=gj.len;have s3:cG 8 (BF (ag 8) (ie (e2 cR (e2 dh (ag 7) (eC (.int 5000))) (eC (.int 2)))) kf) (e7 head k m ss (.val (nI j)) (.val (nI r)) (.val (.str w0)) e)= .ok (.nx (e7 head k m ss (.val (nI j)) (.val (nI r)) (.val (.str (Txt.slice w0 (some (r / 5000 % 2:Nat)) none))) e)):=
  bf (δ:=e7 head k m ss (.val (nI j)) (.val (nI r)) _ e) (nq (d:= .str w0) (lo:=some ((r / 5000 % 2:Nat):Int)) (hi:=none) rfl (iu (ax (a:=nI (r / 5000)) (b:=nI 2) (ax (a:=nI r) (b:=nI 5000) rfl rfl (mZ (by omega) (by omega))) rfl (eM (by omega)))) rfl (CV (by omega))) (by show 8 < 10;omega)
 have g4:Lw 8 (Txt.slice w0 (some (r / 5000 % 2:Nat)) none):=gj.slice _ _;generalize Txt.slice w0 (some (r / 5000 % 2:Nat)) none=w1 at g4 s3;have s4:∃w2,Lw 8 w2/\vV (wo (b2 qB (e2 cR (e2 dh (ag 7) (eC (.int 10000))) (eC (.int 4))) (eC (.int 0))) (rN (b2 A2 (ag 5) (eNew (eS aI))))) (cG 8 (BF (e2 eu (mX (e2 cW (ag 5) (e2 cR (e2 dh (ag 7) (eC (.int 40000))) (aK gr (ai (ag 5) aI))))) (ag 8)) kf (ie (eC (.int 8))))) om (e7 head k m ss (.val (nI j)) (.val (nI r)) (.val (.str w1)) e)= .ok (.nx (e7 head k m ss (.val (nI j)) (.val (nI r)) (.val (.str w2)) e)):=by
  have t5:ag 5 (lH (e7 head k m ss (.val (nI j)) (.val (nI r)) (.val (.str w1)) e))= .ok (.lst (ss.map .str)):=by cases e <;> rfl
  have t7:ag 7 (lH (e7 head k m ss (.val (nI j)) (.val (nI r)) (.val (.str w1)) e))= .ok (nI r):=by cases e <;> rfl
  have q:wo (b2 qB (e2 cR (e2 dh (ag 7) (eC (.int 10000))) (eC (.int 4))) (eC (.int 0))) (rN (b2 A2 (ag 5) (eNew (eS aI)))) (e7 head k m ss (.val (nI j)) (.val (nI r)) (.val (.str w1)) e)= .ok (decide (r / 10000 % 4=0) && !ss.isEmpty):=
   AV (dc (a:=nI (r / 10000 % 4)) (b:=nI 0) (ax (a:=nI (r / 10000)) (b:=nI 4) (ax (a:=nI r) (b:=nI 10000) rfl rfl (mZ (by omega) (by omega))) rfl (eM (by omega))) rfl (y7 _ _)) fun _=>dc (a:= .lst (ss.map .str)) (b:= .lst []) t5 (b8 rfl) (Hj fun s SV=>Om (IH (hs s SV)))
  cases hb:(decide (r / 10000 % 4=0) && !ss.isEmpty) with
  | false=>rw [hb] at q;exact⟨w1,g4,rW q rfl⟩
  | true=>
    rw[hb] at q;have qY:0 < ss.length:=by
     cases ss with
     | nil=>simp at hb
     | cons=>simp
    have hi:r / 40000 % ss.length < ss.length:=Nat.mod_lt _ qY;obtain⟨z,Jw⟩:∃z,ss[r / 40000 % ss.length]? =some z:=⟨_,List.getElem?_eq_getElem hi⟩;have gz:=IH (hs z (List.mem_of_getElem? Jw));have lz:=gz.len;have l1:=g4.len;refine⟨Txt.slice (z++w1) none (some 8),⟨Ka _,((gz.app g4).slice none (some 8)).low⟩,rF q (bf (δ:=e7 head k m ss (.val (nI j)) (.val (nI r)) (.val (.str w1)) e) (nq (d:= .str (z++w1)) (lo:=none) (hi:=some 8) (ax (a:= .str z) (b:= .str w1) (o4 (ax (a:= .lst (ss.map .str)) (b:=nI (r / 40000 % ss.length)) t5 (ax (a:=nI (r / 40000)) (b:=nI ss.length) (ax (a:=nI r) (b:=nI 40000) t7 rfl (mZ (by omega) (by omega))) (aw (ds:=[.lst (ss.map .str)]) (av t5 rfl) (by rw[iF,List.length_map])) (eM qY)) (NT.cf (by rw[List.getElem?_map,Jw];rfl))) rfl) rfl (mO (by omega))) rfl (iu rfl) (CV (by rw[Str.length_append];omega))) (by show 8 < 10;omega))⟩
 obtain⟨w2,g5,s4⟩:=s4;have q2:wO (b2 qB (ag 8) (eC (.str (Str.ofString "")))) (wO (rN (b2 yK (ag 8) (ag 5))) (b2 yK (ag 8) (ag 4))) (e7 head k m ss (.val (nI j)) (.val (nI r)) (.val (.str w2)) e)= .ok ((w2==Str.ofString "") || (ss.contains w2 || lB.contains w2)):=
  kD (dc (a:= .str w2) (b:= .str (Str.ofString "")) rfl rfl (u0 _ _)) fun _=>kD (dc (a:= .str w2) (b:= .lst (ss.map .str)) (by cases e <;> rfl) (by cases e <;> rfl) (zk _ _)) fun _=>dc (a:= .str w2) (b:= .lst (lB.map .str)) rfl rfl (zk _ _)
 cases hb:((w2==Str.ofString "") || (ss.contains w2 || lB.contains w2)) with
 | true=>
   rw[hb] at q2;obtain⟨w,Xs,Xp,sp⟩:=Ha (head:=head) (k:=k) (m:=m) (ss:=ss) (a:= .val (nI j)) (b:= .val (nI r)) (c:= .val (.str w2)) h;exact⟨w,_,_,_,LG w Xs,Xp,aC s1 (aC (s2 c) (aC s3 (aC s4 (aC (rF q2 (aC CI sp)) (D2 h)))))⟩
 | false=>
   rw[hb] at q2;obtain⟨b1,SX⟩:=Bool.or_eq_false_iff.mp hb;obtain⟨b3,b4⟩:=Bool.or_eq_false_iff.mp SX;refine⟨w2,_,_,_,g5.nm (fun q=>?_) (fun q=>?_),fun q=>?_,aC s1 (aC (s2 c) (aC s3 (aC s4 (aC (rW q2 rfl) (D2 h)))))⟩
   .rw [q] at b1;exact absurd b1 (by decide+kernel)
   .rw [List.contains_iff_mem.mpr q] at b4;cases b4
   .rw [List.contains_iff_mem.mpr q] at b3;cases b3
end
theorem xo(head:Int)(k m:Nat)(hm:m<=80):∃ss:List Str,fD [.int head,nI k,nI m]= .ok (.lst (ss.map .str))/\ss.length=m/\ss.Nodup/\∀s∈ss,isNm s=true:=by
 have hz:sizeLine=16777216:=sizeLine_eq;obtain⟨cz,h1,ss,a,b,c,e,hδ,hlen,Mb,hg⟩:=eA (t:=aR 6) (body:=hJ) (ds:=(List.range m).map nI) (fun i δ=>∃ss a b c e,δ=e7 head k m ss a b c e/\ss.length=i/\ss.Nodup/\∀s∈ss,isNm s=true)
  (δ:=e7 head k m [] .un .un .un .un) ⟨[],_,_,_,_,rfl,rfl,List.nodup_nil,by simp⟩ (by
    rintro i d δ hd ⟨ss,a,b,c,e,rfl,hl,Mb,hg⟩;obtain⟨j,hj,rfl⟩:=NT.kH hd;obtain⟨hjl,ej⟩:=List.getElem?_eq_some_iff.mp hj;rw[List.length_range] at hjl;obtain⟨w,b',c',e',WR,OB,hs⟩:=Bj (head:=head) (k:=k) (m:=m) (ss:=ss) (j:=j) (b:=b) (c:=c) (e:=e) (by omega) hg
    refine⟨e7 head k m (ss++[w]) (.val (nI j)) b' c' e',?_,ss++[w],_,_,_,_,rfl,by simp [hl],?_,fun s SV=>?_⟩
    .rw [show aR 6 (nI j) (e7 head k m ss a b c e)= .ok (e7 head k m ss (.val (nI j)) b c e) from rfl,R.aH]
     exact hs
    .exact List.nodup_append.mpr ⟨Mb,by simp,fun x hx y hy q=>OB (by rw[List.mem_singleton.mp hy] at q;rw [<-q];exact hx)⟩
    .rcases List.mem_append.mp SV with z | z
     .exact hg s z
     .rw [List.mem_singleton.mp z];exact WR)
 rw[List.length_map,List.length_range] at hlen;refine⟨ss,?_,hlen,Mb,hg⟩;unfold fD qd;refine cQ (aC (bf (d:= .str vW) rfl (by simp [bW,dO])) (aC (bf (d:= .lst (lB.map .str)) (b8 (cF (ds:=lB.map .str) rfl (by show 9<=sizeLine;omega))) (by simp [bW,dO])) (aC (jD (ds:=[]) (cF rfl (by show 0<=sizeLine;omega)) (by simp [bW,dO])) (aC (iY (ds:=(List.range m).map nI) (tU (n:=m) rfl (by omega)) h1) ?_))))
 subst hδ;exact b_ rfl
end K07
end
section
namespace K07
open PySem PySem.Spec PyProof.Rows L2 L3 MT JT TX
theorem wU(cell:Int)(k m count:Nat)(hc:0 < count)(hm:m<=1000):∃l:List Nat,dW [.int cell,nI k,nI m,nI count]= .ok (.tup (l.map nI))/\l.length=m/\∀w∈l,w < count:=by
 have hz:sizeLine=16777216:=sizeLine_eq;obtain⟨cz,h1,l,a,b,hδ,hlen,hg⟩:=eA (t:=aR 5) (body:=jN) (ds:=(List.range m).map nI) (fun i δ=>∃(l:List Nat) (a b:Sl),δ=[.val (.int cell), .val (nI k), .val (nI m), .val (nI count), .bld (l.map nI),a,b]/\l.length=i/\∀w∈l,w < count)
  (δ:=[.val (.int cell), .val (nI k), .val (nI m), .val (nI count), .bld [], .un, .un]) ⟨[],_,_,rfl,rfl,by simp⟩ (by
    rintro i d δ hd ⟨l,a,b,rfl,hl,hg⟩;obtain⟨j,hj,rfl⟩:=NT.kH hd;obtain⟨hjl,ej⟩:=List.getElem?_eq_some_iff.mp hj;rw[List.length_range] at hjl;obtain⟨r,hr⟩:∃r,stN cell (k+j)=r:=⟨_,rfl⟩;have hmn:0 < min count 6:=by omega
    obtain⟨w,hw,hlt⟩:∃w,w=(if 0 < r % 4 then count - 1 - r / 4 % min count 6 else r / 4 % count)/\w < count:=⟨_,rfl,by
     have:=Nat.mod_lt (r / 4) hc;split <;> omega⟩
    refine⟨[.val (.int cell), .val (nI k), .val (nI m), .val (nI count), .bld ((l++[w]).map nI), .val (nI j), .val (nI r)],?_,l++[w],_,_,rfl,by simp [hl],fun y hy=>?_⟩
    .rw [show aR 5 (nI j) [.val (.int cell), .val (nI k), .val (nI m), .val (nI count), .bld (l.map nI),a,b]= .ok [.val (.int cell), .val (nI k), .val (nI m), .val (nI count), .bld (l.map nI), .val (nI j),b] from rfl,R.aH]
     unfold jN;refine aC (bf (d:=nI r) ((aw (ds:=[.int cell,nI (k+j)]) (av rfl (av (ax (a:=nI k) (b:=nI j) rfl rfl (lQ _ _)) rfl)) (lV cell (k+j))).trans (by rw[hr])) (by simp)) ?_
     have e4:∀δ:ao,ag 6 δ= .ok (nI r)->e2 dh (ag 6) (eC (.int 4)) δ= .ok (nI (r / 4)):=fun δ h=>ax (a:=nI r) (b:=nI 4) h rfl (mZ (by omega) (by omega))
     have hlt2:=Nat.mod_lt (r / 4) hmn;refine(g7 (d:=nI w) (ds:=l.map nI) (ax (a:= .lst [nI (r / 4 % count),nI (count - 1 - r / 4 % min count 6)]) (b:= .int (if 0 < r % 4 then 1 else 0)) (b8 (cF (ds:=[nI (r / 4 % count),nI (count - 1 - r / 4 % min count 6)]) (av (ax (a:=nI (r / 4)) (b:=nI count) (e4 _ rfl) rfl (eM hc)) (av (ax (a:=nI (count - 1)) (b:=nI (r / 4 % min count 6)) (ax (a:=nI count) (b:=nI 1) rfl rfl (CK (by omega))) (ax (a:=nI (r / 4)) (b:=nI (min count 6)) (e4 _ rfl) (aw (ds:=[nI count,nI 6]) rfl Nu) (eM hmn)) (CK (by omega))) rfl)) (by show 2<=sizeLine;omega))) (aw (ds:=[.bl (decide (0 < r % 4))]) (av (ax (a:=nI (r % 4)) (b:=nI 0) (ax (a:=nI r) (b:=nI 4) rfl rfl (eM (by omega))) rfl (GV _ _)) rfl) (by by_cases q:0 < r % 4 <;> simp [q] <;> rfl)) ?_) rfl (by rw[List.length_map];omega)).trans ?_
     .by_cases q:0 < r % 4
      .rw [if_pos q] at hw ⊢;rw[hw];exact NT.cf (z:=1) rfl
      .rw [if_neg q] at hw ⊢;rw[hw];exact NT.cf (z:=0) rfl
     .rw [show l.map nI++[nI w]=(l++[w]).map nI by simp];rfl
    .rcases List.mem_append.mp hy with z | z
     .exact hg y z
     .rw [List.mem_singleton.mp z];exact hlt)
 rw[List.length_map,List.length_range] at hlen;refine⟨l,?_,hlen,hg⟩;unfold dW qk;refine cQ (aC (jD (ds:=[]) (cF rfl (by show 0<=sizeLine;omega)) (by simp [bW,mi])) (aC (iY (ds:=(List.range m).map nI) (tU (n:=m) rfl (by omega)) h1) ?_))
 subst hδ;exact b_ (aw (ds:=[.lst (l.map nI)]) rfl rfl)
def FV(r:Nat):Nat:=[1,2,3,4,0,1,3,4].getD (r % 8) 0
theorem GW(cell:Int)(count:Nat)(hc:0 < count):∃g:Gt,je [.int cell,nI count]= .ok (dq g)/\xC count g:=by
 have hz:sizeLine=16777216:=sizeLine_eq;obtain⟨r,hr⟩:∃r,stN cell 0=r:=⟨_,rfl⟩;have hk:FV r<=4:=by
  have:r % 8 < 8:=Nat.mod_lt _ (by omega)
  unfold FV;generalize r % 8=m at this
  match m,this with
  | 0,_=>decide
  | 1,_=>decide
  | 2,_=>decide
  | 3,_=>decide
  | 4,_=>decide
  | 5,_=>decide
  | 6,_=>decide
  | 7,_=>decide
 have ha:=v7 (FV r);obtain⟨l,hl,hll,hlw⟩:=wU cell 1 (ar (FV r)) count hc (by omega)
 refine⟨(FV r,l,decide (r / 8 % 4=0)),?_,hk,hll,hlw⟩;unfold je sI;refine cQ (aC (bf (d:=nI r) ((aw (ds:=[.int cell,nI 0]) rfl (lV cell 0)).trans (by rw[hr])) (by simp [bW,jj])) (aC (bf (d:= .str (kS (FV r))) ?_ (by simp [bW,jj])) (aC (bf (d:=nI (ar (FV r))) (MO hk rfl) (by simp [bW,jj])) (b_ (eF (ds:=[.str (kS (FV r)), .tup (l.map nI), .bl (decide (r / 8 % 4=0))]) (av rfl (av (aw (ds:=[.int cell,nI 1,nI (ar (FV r)),nI count]) rfl hl) (av (ax (a:=nI (r / 8 % 4)) (b:=nI 0) (ax (a:=nI (r / 8)) (b:=nI 4) (ax (a:=nI r) (b:=nI 8) rfl rfl (mZ (by omega) (by omega))) rfl (eM (by omega))) rfl (y7 _ _)) rfl))) (by show 3<=sizeLine;omega))))))
 refine ax (a:= .lst [.str (kS 1), .str (kS 2), .str (kS 3), .str (kS 4), .str (kS 0), .str (kS 1), .str (kS 3), .str (kS 4)]) (b:=nI (r % 8)) rfl (ax (a:=nI r) (b:=nI 8) rfl rfl (eM (by omega))) (NT.cf ?_)
 have:r % 8 < 8:=Nat.mod_lt _ (by omega)
 unfold FV;generalize r % 8=m at this
 match m,this with
 | 0,_=>rfl
 | 1,_=>rfl
 | 2,_=>rfl
 | 3,_=>rfl
 | 4,_=>rfl
 | 5,_=>rfl
 | 6,_=>rfl
 | 7,_=>rfl
theorem GL{ins:YD}(h1:1<=ins.length)(h:∀x∈ins,1<=x.2/\x.2<=3):1<=jA ins/\jA ins<=3*ins.length:=by
 have:=NT.vp h;unfold jA;omega
theorem IU:∀ns:List Nat,(ns.map fun(n:Nat)=>(n:Int)).sum=((ns.sum:Nat):Int)
 | []=>rfl
 | n ::ns=>by rw[List.map_cons,List.sum_cons,List.sum_cons,IU ns];omega
theorem J8(ns:List Nat):w6 [.lst (ns.map nI)]= .ok (nI ns.sum):=by
 rw[show ns.map nI=(ns.map fun(n:Nat)=>(n:Int)).map D.int by rw[List.map_map];rfl]
 show(match ints? ((ns.map fun(n:Nat)=>(n:Int)).map D.int) with | some ns=>R.ok (D.int ns.sum) | none=> .no)=_
 rw[L2.ints_map];show R.ok (D.int (ns.map fun(n:Nat)=>(n:Int)).sum)=_
 rw[IU];rfl
theorem GC{ins:YD}(h:ins.length<=1000){δ:ao}{i:Nat}(hv:ag i δ= .ok (.lst (ins.map MT.inD))):aK w6 (ai (eNew (eN (dy (ag i)) (iR 2 (bX (aR 0) (bX (aR 1) iT))) oS (ag 1) [(Str.ofString "name"),(Str.ofString "width")] [])) aI) δ= .ok (nI (jA ins)):=by
 have hz:sizeLine=16777216:=sizeLine_eq;refine aw (ds:=[.lst ((ins.map (·.2)).map nI)]) (av (b8 (eX (ds:=ins.map MT.inD) (gM hv) (by rw[List.length_map];omega) ?_)) rfl) ?_
 .rw [List.map_map];exact NT.dv MT.inD _ fun x hx=>⟨[.val (.str x.1), .val (nI x.2)],rfl,rfl,rfl⟩
 .exact J8 _
theorem yO(ns:List Int):IA (.lst (ns.map .int)) (some 1) (some 61)= .ok (.lst (((ns.drop 1).take 60).map .int)):=by
 show R.ok (D.lst (L2.cutD (ns.map .int) (some ((1:Nat):Int)) (some ((61:Nat):Int))))=_;unfold L2.cutD;rw[List.length_map,HT.oI,HT.oI,List.map_take,List.map_drop];congr 2;by_cases hn:61<=ns.length
 .rw [Nat.min_eq_left (by omega:1<=ns.length),Nat.min_eq_left hn]
 .have e1:min 61 ns.length=ns.length:=by omega
  rw[e1];by_cases h1:1<=ns.length
  .rw [Nat.min_eq_left h1,List.take_of_length_le (by rw[List.length_drop,List.length_map];omega),List.take_of_length_le (by rw[List.length_drop,List.length_map];omega)]
  .have:ns=[]:=List.length_eq_zero_iff.mp (by omega)
   subst this;rfl
theorem Lz(ns:List Int):∃ins gs os,mC [.lst (ns.map .int)]= .ok (cP ins gs os)/\TN ins gs os/\gs.length=((ns.drop 1).take 60).length:=by
 have hz:sizeLine=16777216:=sizeLine_eq;obtain⟨hd,hhd⟩:∃hd,ns.getD 0 0=hd:=⟨_,rfl⟩;obtain⟨nm,Jz,nml,nmd,nmo⟩:=xo hd 300 6 (by omega)
 obtain⟨Pj,Rz,R_,R4,RV⟩:=xo hd 330 6 (by omega)
 obtain⟨q1,WK⟩:∃q,1+stN hd 320 % 6=q:=⟨_,rfl⟩;obtain⟨q2,W7⟩:∃q,1+stN hd 341 % 6=q:=⟨_,rfl⟩
 let D0:Sl:= .val (.lst (ns.map .int))
 obtain⟨δ1,h1,ins,a4,Iu,il,iw,inm⟩:=eA (t:=aR 4) (body:=lU) (ds:=(List.range q1).map nI) (fun i δ=>∃(ins:YD) (a:Sl),δ=[D0, .val (.int hd), .val (.lst (nm.map .str)), .bld (ins.map MT.inD),a, .un, .un, .un, .un, .un, .un]/\ins.length=i/\(∀x∈ins,1<=x.2/\x.2<=3)/\ins.map (·.1)=nm.take i)
  (δ:=[D0, .val (.int hd), .val (.lst (nm.map .str)), .bld [], .un, .un, .un, .un, .un, .un, .un]) ⟨[],_,rfl,rfl,by simp,rfl⟩ (by
    rintro i d δ Cd ⟨ins,a,rfl,hl,hw,hn⟩;obtain⟨j,hj,rfl⟩:=NT.kH Cd;obtain⟨hjl,ej⟩:=List.getElem?_eq_some_iff.mp hj;rw[List.getElem_range] at ej;subst ej;rw[List.length_range] at hjl;obtain⟨z,Jw⟩:∃z,nm[i]? =some z:=⟨_,List.getElem?_eq_getElem (by omega)⟩
    refine⟨[D0, .val (.int hd), .val (.lst (nm.map .str)), .bld ((ins++[(z,1+stN hd (321+i) % 3)]).map MT.inD), .val (nI i), .un, .un, .un, .un, .un, .un],?_,ins++[(z,1+stN hd (321+i) % 3)],_,rfl,by simp [hl],fun x hx=>?_,?_⟩
    .rw [show aR 4 (nI i) [D0, .val (.int hd), .val (.lst (nm.map .str)), .bld (ins.map MT.inD),a, .un, .un, .un, .un, .un, .un]= .ok [D0, .val (.int hd), .val (.lst (nm.map .str)), .bld (ins.map MT.inD), .val (nI i), .un, .un, .un, .un, .un, .un] from rfl,R.aH]
     unfold lU;refine(g7 (d:=MT.inD (z,1+stN hd (321+i) % 3)) (ds:=ins.map MT.inD) (eF (ds:=[.str z,nI (1+stN hd (321+i) % 3)]) (av (ax (a:= .lst (nm.map .str)) (b:=nI i) rfl rfl (NT.cf (by rw[List.getElem?_map,Jw];rfl))) (av (ax (a:=nI 1) (b:=nI (stN hd (321+i) % 3)) rfl (ax (a:=nI (stN hd (321+i))) (b:=nI 3) (aw (ds:=[.int hd,nI (321+i)]) (av rfl (av (ax (a:=nI 321) (b:=nI i) rfl rfl (lQ _ _)) rfl)) (lV hd (321+i))) rfl (eM (by omega))) (lQ _ _)) rfl)) (by show 2<=sizeLine;omega)) rfl (by rw[List.length_map];omega)).trans ?_
     rw[show ins.map MT.inD++[MT.inD (z,1+stN hd (321+i) % 3)]=(ins++[(z,1+stN hd (321+i) % 3)]).map MT.inD by simp];rfl
    .rcases List.mem_append.mp hx with y | y
     .exact hw x y
     .rw [List.mem_singleton.mp y];exact⟨by show 1<=1+_;omega,by show 1+stN hd (321+i) % 3<=3;omega⟩
    .rw [List.map_append,hn,List.take_add_one,Jw];rfl)
 rw[List.length_map,List.length_range] at il inm;have i1:1<=ins.length:=by omega
 have i6:ins.length<=6:=by omega
 obtain⟨w1,w2⟩:=GL i1 iw;have isl:∀x∈ins,x.1∈nm:=fun x hx=>List.mem_of_mem_take (by rw[<-inm];exact List.mem_map_of_mem hx)
 obtain⟨cs,hcs⟩:∃cs,(ns.drop 1).take 60=cs:=⟨_,rfl⟩;have hcl:cs.length<=60:=by rw[<-hcs,List.length_take];omega
 obtain⟨iB,h2,gs,a7,Ir,gl,gok⟩:=eA (t:=aR 7) (body:=lO) (ds:=cs.map .int) (fun i δ=>∃(gs:List Gt) (a:Sl),δ=[D0, .val (.int hd), .val (.lst (nm.map .str)), .val (.lst (ins.map MT.inD)),a4, .val (nI (jA ins)), .bld (gs.map dq),a, .un, .un, .un]/\gs.length=i/\∀(i:Nat) (x:Gt),gs[i]? =some x->xC (jA ins+i) x)
  (δ:=[D0, .val (.int hd), .val (.lst (nm.map .str)), .val (.lst (ins.map MT.inD)),a4, .val (nI (jA ins)), .bld [], .un, .un, .un, .un]) ⟨[],_,rfl,rfl,by simp⟩ (by
    rintro i d δ Cd ⟨gs,a,rfl,hl,hg⟩;obtain⟨c,hc,rfl⟩:=NT.kH Cd;have hil:=(List.getElem?_eq_some_iff.mp hc).1;obtain⟨g,Xw,Xc⟩:=GW c (jA ins+gs.length) (by omega)
    refine⟨[D0, .val (.int hd), .val (.lst (nm.map .str)), .val (.lst (ins.map MT.inD)),a4, .val (nI (jA ins)), .bld ((gs++[g]).map dq), .val (.int c), .un, .un, .un],?_,gs++[g],_,rfl,by simp [hl],fun j x hx=>?_⟩
    .rw [show aR 7 (.int c) [D0, .val (.int hd), .val (.lst (nm.map .str)), .val (.lst (ins.map MT.inD)),a4, .val (nI (jA ins)), .bld (gs.map dq),a, .un, .un, .un]= .ok [D0, .val (.int hd), .val (.lst (nm.map .str)), .val (.lst (ins.map MT.inD)),a4, .val (nI (jA ins)), .bld (gs.map dq), .val (.int c), .un, .un, .un] from rfl,R.aH]
     unfold lO;refine(g7 (d:=dq g) (ds:=gs.map dq) (aw (ds:=[.int c,nI (jA ins+gs.length)]) (av rfl (av (ax (a:=nI (jA ins)) (b:=nI gs.length) rfl (o4 (aw (ds:=[.lst (gs.map dq)]) (av (by cases a4 <;> rfl) rfl) (by rw[iF,List.length_map])) rfl) (lQ _ _)) rfl)) Xw) rfl (by rw[List.length_map];omega)).trans ?_
     rw[show gs.map dq++[dq g]=(gs++[g]).map dq by simp];rfl
    .by_cases hj:j < gs.length
     .rw [List.getElem?_append_left hj] at hx;exact hg j x hx
     .rw [List.getElem?_append_right (by omega)] at hx
      have h0:j - gs.length=0:=by have:=(List.getElem?_eq_some_iff.mp hx).1;simp at this;omega
      rw[h0] at hx;cases hx;rw[show j=gs.length by omega]
      exact Xc)
 rw[List.length_map] at gl;obtain⟨on,hon,onl,ond,ono⟩:∃on:List Str,(on=if stN hd 340 % 2=0 then nm else Pj)/\on.length=6/\on.Nodup/\∀s∈on,isNm s=true:=by
  refine⟨_,rfl,?_⟩;split
  .exact⟨nml,nmd,nmo⟩
  .exact⟨R_,R4,RV⟩
 obtain⟨OO,h3,os,b4,Yv,Io,ol,ow,onm⟩:=eA (t:=aR 4) (body:=lr) (ds:=(List.range q2).map nI) (fun i δ=>∃(os:YE) (a b:Sl),δ=[D0, .val (.int hd), .val (.lst (nm.map .str)), .val (.lst (ins.map MT.inD)),a, .val (nI (jA ins)), .val (.lst (gs.map dq)),a7, .bld (os.map iE), .val (.lst (on.map .str)),b]/\os.length=i/\(∀x∈os,1<=x.2.length/\x.2.length<=3/\∀w∈x.2,w < jA ins+gs.length)/\os.map (·.1)=on.reverse.take i)
  (δ:=[D0, .val (.int hd), .val (.lst (nm.map .str)), .val (.lst (ins.map MT.inD)),a4, .val (nI (jA ins)), .val (.lst (gs.map dq)),a7, .bld [], .val (.lst (on.map .str)), .un]) ⟨[],_,_,rfl,rfl,by simp,rfl⟩ (by
    rintro i d δ Cd ⟨os,a,b,rfl,hl,hw,hn⟩;obtain⟨j,hj,rfl⟩:=NT.kH Cd;obtain⟨hjl,ej⟩:=List.getElem?_eq_some_iff.mp hj;rw[List.getElem_range] at ej;subst ej;rw[List.length_range] at hjl;obtain⟨z,Jw⟩:∃z,on[5 - i]? =some z:=⟨_,List.getElem?_eq_getElem (by omega)⟩
    obtain⟨r,hr⟩:∃r,stN hd (342+i)=r:=⟨_,rfl⟩;obtain⟨l,OS,OE,Pp⟩:=wU hd (350+3*i) (1+r % 3) (jA ins+gs.length) (by omega) (by omega)
    refine⟨[D0, .val (.int hd), .val (.lst (nm.map .str)), .val (.lst (ins.map MT.inD)), .val (nI i), .val (nI (jA ins)), .val (.lst (gs.map dq)),a7, .bld ((os++[(z,l)]).map iE), .val (.lst (on.map .str)), .val (nI r)],?_,os++[(z,l)],_,_,rfl,by simp [hl],fun x hx=>?_,?_⟩
    .rw [show aR 4 (nI i) [D0, .val (.int hd), .val (.lst (nm.map .str)), .val (.lst (ins.map MT.inD)),a, .val (nI (jA ins)), .val (.lst (gs.map dq)),a7, .bld (os.map iE), .val (.lst (on.map .str)),b]= .ok [D0, .val (.int hd), .val (.lst (nm.map .str)), .val (.lst (ins.map MT.inD)), .val (nI i), .val (nI (jA ins)), .val (.lst (gs.map dq)),a7, .bld (os.map iE), .val (.lst (on.map .str)),b] from rfl,R.aH]
     unfold lr;refine aC (bf (d:=nI r) ((aw (ds:=[.int hd,nI (342+i)]) (av rfl (av (ax (a:=nI 342) (b:=nI i) rfl rfl (lQ _ _)) rfl)) (lV hd (342+i))).trans (by rw[hr])) (by simp)) ?_
     refine(g7 (d:=iE (z,l)) (ds:=os.map iE) (eF (ds:=[.str z, .tup (l.map nI)]) (av (ax (a:= .lst (on.map .str)) (b:=nI (5 - i)) rfl (ax (a:=nI 5) (b:=nI i) rfl rfl (CK (by omega))) (NT.cf (by rw[List.getElem?_map,Jw];rfl))) (av (aw (ds:=[.int hd,nI (350+3*i),nI (1+r % 3),nI (jA ins+gs.length)]) (av rfl (av (ax (a:=nI 350) (b:=nI (3*i)) rfl (ax (a:=nI 3) (b:=nI i) rfl rfl (M9 (.inr (by omega)))) (lQ _ _)) (av (ax (a:=nI 1) (b:=nI (r % 3)) rfl (ax (a:=nI r) (b:=nI 3) rfl rfl (eM (by omega))) (lQ _ _)) (av (ax (a:=nI (jA ins)) (b:=nI gs.length) rfl (aw (ds:=[.lst (gs.map dq)]) rfl (by rw[iF,List.length_map])) (lQ _ _)) rfl)))) OS) rfl)) (by show 2<=sizeLine;omega)) rfl (by rw[List.length_map];omega)).trans ?_
     rw[show os.map iE++[iE (z,l)]=(os++[(z,l)]).map iE by simp];rfl
    .rcases List.mem_append.mp hx with y | y
     .exact hw x y
     .rw [List.mem_singleton.mp y];exact⟨by show 1<=l.length;omega,by show l.length<=3;omega,Pp⟩
    .rw [List.map_append,hn,List.take_add_one,List.getElem?_reverse (by omega),show on.length - 1 - i=5 - i by omega,Jw];rfl)
 rw[List.length_map,List.length_range] at ol onm;refine⟨ins,gs,os,?_,⟨i1,i6,iw,by rw[inm];exact(List.take_sublist _ _).nodup nmd,fun x hx=>nmo _ (isl x hx),by omega,gok,by omega,by omega,by rw[onm];exact(List.take_sublist _ _).nodup (by rw[List.nodup_iff_pairwise_ne,List.pairwise_reverse];exact(List.nodup_iff_pairwise_ne.mp ond).imp fun h=>h.symm),fun x hx=>?_,ow⟩,by rw[gl,hcs]⟩
 .unfold mC uc;refine cQ (aC (bf (d:= .int hd) ((aw (ds:=[.lst (ns.map .int),nI 0]) rfl (vH ns 0)).trans (by rw[hhd])) (by simp [bW,i0])) ?_)
  refine aC (bf (d:= .lst (nm.map .str)) (aw (ds:=[.int hd,nI 300,nI 6]) rfl Jz) (by simp [bW,i0])) ?_
  refine aC (jD (ds:=[]) (cF rfl (by show 0<=sizeLine;omega)) (by simp [bW,i0])) ?_
  refine aC (iY (ds:=(List.range q1).map nI) (tU (n:=q1) ((ax (a:=nI 1) (b:=nI (stN hd 320 % 6)) rfl (ax (a:=nI (stN hd 320)) (b:=nI 6) (aw (ds:=[.int hd,nI 320]) rfl (lV hd 320)) rfl (eM (by omega))) (lQ _ _)).trans (by rw[WK])) (by omega)) h1) ?_
  subst Iu;unfold pP;refine aC (bf (d:=nI (jA ins)) (GC (by omega) rfl) (by simp [ky])) ?_
  refine aC (jD (ds:=[]) (cF rfl (by show 0<=sizeLine;omega)) (by simp [ky])) ?_
  refine aC (iY (ds:=cs.map .int) (gM (nq (d:= .lst (ns.map .int)) (lo:=some 1) (hi:=some 61) rfl (iu rfl) (iu rfl) ((yO ns).trans (by rw[hcs])))) h2) ?_
  subst Ir;refine aC (jD (ds:=[]) (cF rfl (by show 0<=sizeLine;omega)) (by simp [ky])) ?_
  refine aC (bf (d:= .lst (Pj.map .str)) (aw (ds:=[.int hd,nI 330,nI 6]) rfl Rz) (by simp [ky])) ?_
  refine aC (δ1:=[D0, .val (.int hd), .val (.lst (nm.map .str)), .val (.lst (ins.map MT.inD)),a4, .val (nI (jA ins)), .val (.lst (gs.map dq)),a7, .bld [], .val (.lst (on.map .str)), .un]) ?_ ?_
  .have q:b2 qB (e2 cR (aK aT (ai (ag 1) (ai (eC (.int 340)) aI))) (eC (.int 2))) (eC (.int 0)) [D0, .val (.int hd), .val (.lst (nm.map .str)), .val (.lst (ins.map MT.inD)),a4, .val (nI (jA ins)), .val (.lst (gs.map dq)),a7, .bld [], .val (.lst (Pj.map .str)), .un]= .ok (decide (stN hd 340 % 2=0)):=dc (a:=nI (stN hd 340 % 2)) (b:=nI 0) (ax (a:=nI (stN hd 340)) (b:=nI 2) (aw (ds:=[.int hd,nI 340]) rfl (lV hd 340)) rfl (eM (by omega))) rfl (y7 _ _)
   by_cases hb:stN hd 340 % 2=0
   .rw [decide_eq_true hb] at q;rw[if_pos hb] at hon;rw[hon];exact rF q (bf (δ:=[D0, .val (.int hd), .val (.lst (nm.map .str)), .val (.lst (ins.map MT.inD)),a4, .val (nI (jA ins)), .val (.lst (gs.map dq)),a7, .bld [], .val (.lst (Pj.map .str)), .un]) (d:= .lst (nm.map .str)) rfl (by show 9 < 11;omega))
   .rw [decide_eq_false hb] at q;rw[if_neg hb] at hon;rw[hon];exact rW q rfl
  .refine aC (iY (ds:=(List.range q2).map nI) (tU (n:=q2) ((ax (a:=nI 1) (b:=nI (stN hd 341 % 6)) rfl (ax (a:=nI (stN hd 341)) (b:=nI 6) (aw (ds:=[.int hd,nI 341]) rfl (lV hd 341)) rfl (eM (by omega))) (lQ _ _)).trans (by rw[W7])) (by omega)) h3) ?_
   subst Io;exact b_ (eF (ds:=[.lst (ins.map MT.inD), .lst (gs.map dq), .lst (os.map iE)]) rfl (by show 3<=sizeLine;omega))
 .have:x.1∈on.reverse.take q2:=by rw[<-onm];exact List.mem_map_of_mem hx
  exact ono _ (List.mem_reverse.mp (List.mem_of_mem_take this))
end K07
end
section
namespace K07
open PySem PySem.Spec PyProof.Rows L2 L3 MT JT TX
theorem oA{c:ao->R Bool}{body:FS}:∀(m:Nat) (E:Nat->ao) (fuel:Nat),m < fuel->(∀i,i < m->c (E i)= .ok true)->c (E m)= .ok false->(∀i,i < m->body (E i)= .ok (.nx (E (i+1))))->nj fuel c body (E 0)= .ok (.nx (E m))
 | m,E,0,hf,_,_,_=>by omega
 | 0,E,fuel+1,hf,h1,h2,h3=>by
   unfold nj pJ;rw[h2];rfl
 | m+1,E,fuel+1,hf,h1,h2,h3=>by
   unfold nj pJ;rw[h1 0 (by omega),R.aH,if_pos rfl,h3 0 (by omega),R.aH]
   exact oA m (fun i=>E (i+1)) fuel (by omega) (fun i hi=>h1 (i+1) (by omega)) h2 (fun i hi=>h3 (i+1) (by omega))
abbrev XS:Str:=Str.ofString "x"
def xn(b:Str):Nat->Str
 | 0=>b
 | n+1=>XS++xn b n
def mz(p:Nat):Str:=if p < 26 then gE p else gE (p / 26)++gE (p % 26)
theorem vj(b:Str):∀n,(xn b n).length=n+b.length
 | 0=>by show b.length=_;omega
 | n+1=>by
   show(XS++xn b n).length=_;rw[Str.length_append,vj b n,show XS.length=1 from by decide+kernel]
   omega
theorem KC(p:Nat):(mz p).length<=2:=by
 unfold mz;split
 .show 1<=2;omega
 .rw [Str.length_append];show 1+1<=2;omega
theorem we(b:Str)(ss:List Str):∀k:Nat,(∀i,i < k->xn b i∈ss)\/∃m,m < k/\xn b m ∉ ss/\∀i,i < m->xn b i∈ss
 | 0=> .inl fun i hi=>by omega
 | k+1=>by
   rcases we b ss k with h | ⟨m,h1,h2,h3⟩
   .by_cases q:xn b k∈ss
    .exact .inl fun i hi=>by
      rcases Nat.lt_succ_iff_lt_or_eq.mp hi with z | z
      .exact h i z
      .subst z;exact q
    .exact .inr ⟨k,by omega,q,h⟩
   .exact .inr ⟨m,by omega,h2,h3⟩
theorem Ig(b:Str)(ss:List Str)(h:ss.length<=6):∃m,m < 7/\xn b m ∉ ss/\∀i,i < m->xn b i∈ss:=by
 rcases we b ss 7 with h7 | h7
 .exfalso
  have nd:((List.range 7).map (xn b)).Nodup:=by
   rw[List.nodup_iff_pairwise_ne,List.pairwise_map];refine List.Pairwise.imp (fun {x y} hxy e=>hxy ?_) (List.nodup_range (n:=7))
   have:=congrArg Str.length e;rw[vj,vj] at this;omega
  obtain⟨x,_,hx,hn⟩:=sj nd (ss:=ss) (by rw[List.length_map,List.length_range];omega)
  obtain⟨i,hi,rfl⟩:=List.mem_map.mp hx;exact hn (h7 i (List.mem_range.mp hi))
 .exact h7
theorem Js:∀p,p < 60->∀i,i < 7->isNm (xn (mz p) i)=true:=by decide+kernel
theorem Lp:∀p,p < 60->∀i,i < 7->∀q,q < p->∀j,j < 7->xn (mz p) i≠xn (mz q) j:=by decide+kernel
theorem M4{p:Nat}{f:FD}{δ:ao}(h:f δ= .ok (nI p)):e2 cW (eC bw) (e2 cR f (aK gr (ai (eC bw) aI))) δ= .ok (.str (gE (p % 26))):=
 ax (a:= .str vW) (b:=nI (p % 26)) rfl (ax (a:=nI p) (b:=nI 26) h (aw (ds:=[.str vW]) rfl ((TX.len_str (by rw[oU];omega)).trans (by rw[oU]))) (eM (by omega))) (oJ (by omega))
theorem Of{p:Nat}{f:FD}{δ:ao}(h:f δ= .ok (nI p)):e2 dh f (aK gr (ai (eC bw) aI)) δ= .ok (nI (p / 26)):=
 ax (a:=nI p) (b:=nI 26) h (aw (ds:=[.str vW]) rfl ((TX.len_str (by rw[oU];omega)).trans (by rw[oU]))) (mZ (by omega) (by omega))
theorem yq(p:Nat)(hp:p < 60):fQ [nI p]= .ok (.str (mz p)):=by
 have hz:sizeLine=16777216:=sizeLine_eq;unfold fQ oO;refine cQ (aC (δ1:=[.val (nI p), .val (.str (gE (p % 26))), .un]) (bf (M4 rfl) (by show 1 < 3;omega)) (aC (δ1:=[.val (nI p), .val (.str (gE (p % 26))), .val (nI (p / 26))]) (bf (Of rfl) (by show 2 < 3;omega)) ?_))
 by_cases h:p < 26
 .have h0:p / 26=0:=by omega
  have h1:p % 26=p:=by omega
  refine aC (δ1:=[.val (nI p), .val (.str (gE p)), .val (nI 0)]) ?_ (b_ (by show R.ok (D.str (gE p))=_;unfold mz;rw [if_pos h]))
  rw[h0,h1];exact oA 0 (fun _=>[.val (nI p), .val (.str (gE p)), .val (nI 0)]) 1000 (by omega) (fun i hi=>by omega) rfl (fun i hi=>by omega)
 .have h5:p / 26 % 26=p / 26:=by omega
  have h6:p / 26 / 26=0:=by omega
  refine aC (δ1:=[.val (nI p), .val (.str (mz p)), .val (nI 0)]) ?_ (b_ rfl);refine oA 1 (fun n=>match n with | 0=>[.val (nI p), .val (.str (gE (p % 26))), .val (nI (p / 26))] | _=>[.val (nI p), .val (.str (mz p)), .val (nI 0)]) 1000 (by omega) (fun i hi=>?_) rfl (fun i hi=>?_)
  .have:i=0:=by omega
   subst this;exact(dc (a:=nI (p / 26)) (b:=nI 0) rfl rfl (GV _ _)).trans (by rw[decide_eq_true (by omega)])
  .have:i=0:=by omega
   subst this;show ja [.val (nI p), .val (.str (gE (p % 26))), .val (nI (p / 26))]= .ok (.nx [.val (nI p), .val (.str (mz p)), .val (nI 0)]);unfold ja;refine aC (δ1:=[.val (nI p), .val (.str (mz p)), .val (nI (p / 26))]) (bf ((ax (a:= .str (gE (p / 26))) (b:= .str (gE (p % 26))) ((M4 rfl).trans (by rw[h5])) rfl (mO (by show 1+1<=_;omega))).trans (by unfold mz;rw [if_neg h])) (by show 1 < 3;omega)) (bf ((Of rfl).trans (by rw[h6])) (by show 2 < 3;omega))
theorem uZ(p:Nat)(hp:p < 60)(ss:List Str)(hs:ss.length<=6):∃m,m < 7/\xn (mz p) m ∉ ss/\du [nI p, .lst (ss.map .str)]= .ok (.str (xn (mz p) m)):=by
 have hz:sizeLine=16777216:=sizeLine_eq;obtain⟨m,hm,h1,h2⟩:=Ig (mz p) ss hs;have x1:XS.length=1:=by decide+kernel
 have bl:=KC p;refine⟨m,hm,h1,?_⟩;unfold du qq;refine cQ (aC (δ1:=[.val (nI p), .val (.lst (ss.map .str)), .val (.str (mz p))]) (bf (aw (ds:=[nI p]) rfl (yq p hp)) (by show 2 < 3;omega)) (aC (δ1:=[.val (nI p), .val (.lst (ss.map .str)), .val (.str (xn (mz p) m))]) ?_ (b_ rfl)))
 have cond:∀i,i < 7->(wO (b2 yK (ag 2) (eC f7)) (b2 yK (ag 2) (ag 1))) [.val (nI p), .val (.lst (ss.map .str)), .val (.str (xn (mz p) i))]= .ok (ss.contains (xn (mz p) i)):=fun i hi=>by
  have nb:lB.contains (xn (mz p) i)=false:=by
   cases e:lB.contains (xn (mz p) i) with
   | false=>rfl
   | true=>exact absurd (List.contains_iff_mem.mp e) (cZ.mp (Js p hp i hi)).2.2.1
  have q:=kD (dc (a:= .str (xn (mz p) i)) (b:= .tup (lB.map .str)) (δ:=[.val (nI p), .val (.lst (ss.map .str)), .val (.str (xn (mz p) i))]) (fa:=ag 2) (fb:=eC f7) rfl rfl (zp _ lB)) (fun _=>dc (a:= .str (xn (mz p) i)) (b:= .lst (ss.map .str)) (fa:=ag 2) (fb:=ag 1) rfl rfl (zk _ ss))
  rw[nb,Bool.false_or] at q;exact q
 exact oA m (fun i=>[.val (nI p), .val (.lst (ss.map .str)), .val (.str (xn (mz p) i))]) 1000 (by omega) (fun i hi=>by rw[cond i (by omega)];simp [h2 i hi]) (by show(wO _ _) _=_;rw [cond m hm];simp [h1]) (fun i hi=>bf (ax (a:= .str XS) (b:= .str (xn (mz p) i)) rfl rfl (mO (by rw[vj];omega))) (by show 2 < 3;omega))
end K07
end
section
namespace K07
open PySem PySem.Spec PyProof.Rows L2 L3 MT JT TX
section
variable {ins:YD} {gs:List Gt} {os:YE} {gn:List Str}
theorem EZ{W:List Str}{l:List Nat}{g:FD}{δ:ao}{i:Nat}(hl:l.length<=1000)(h:∀w∈l,w < W.length)(hg:g δ= .ok (.tup (l.map nI)))(hk:qx [Str.ofString "wire"] [i] δ=[.un, .val (.lst (W.map .str))]):eNew (eN (dy g) (aR 0) oS (e2 cW (ag 1) (ag 0)) [(Str.ofString "wire")] [i]) δ= .ok (.lst ((tx W l).map .str)):=by
 have hz:sizeLine=16777216:=sizeLine_eq;refine b8 (eX (ds:=l.map nI) (El hg) (by rw[List.length_map];omega) ?_)
 rw[hk,show(tx W l).map D.str=l.map fun w=>D.str (W.getD w Str.empty) from List.map_map]
 refine NT.dv nI _ fun w hw=>⟨[.val (nI w), .val (.lst (W.map .str))],rfl,rfl,ax (a:= .lst (W.map .str)) (b:=nI w) rfl rfl (NT.cf ?_)⟩
 rw[List.getElem?_map,List.getD_eq_getElem?_getD,List.getElem?_eq_getElem (h w hw)];rfl
theorem wg{ws:List Str}(hl:ws.length<=100)(h:∀w∈ws,Wo w):j0 (.str TX.SP) [.lst (ws.map .str)]= .ok (.str (Str.join TX.SP ws)):=by
 refine uO ?_;have:(ws.map (·.length)).sum<=ws.length*10:=by
  have:=u9 (l:=ws.map (·.length)) (m:=10) fun x hx=>by obtain⟨w,hw,rfl⟩:=List.mem_map.mp hx;exact(h w hw).len
  rwa [List.length_map] at this
 have:TX.SP.length=1:=by decide+kernel
 rw[this];omega
theorem xh{W:List Str}{g:Gt}(hn:isNm n=true)(hW:∀y∈W,Wo y)(h3:g.2.1.length<=3)(hg:∀w∈g.2.1,w < W.length):gA [.str n,dq g, .lst (W.map .str)]= .ok (.str (Str.join TX.SP (qz W g n))):=by
 have hz:sizeLine=16777216:=sizeLine_eq;unfold gA r9;obtain⟨sw,sU⟩:∃sw,(if g.2.2 then Str.ofString "sure" else Str.ofString "gate")=sw:=⟨_,rfl⟩
 have e1:MG (qy (e2 cW (ag 1) (eC (.int 2)))) (eC (.str (Str.ofString "sure"))) (eC (.str (Str.ofString "gate"))) (bW gI [.str n,dq g, .lst (W.map .str)])= .ok (.str sw):=by
  have q:qy (e2 cW (ag 1) (eC (.int 2))) (bW gI [.str n,dq g, .lst (W.map .str)])= .ok g.2.2:=mH (ax (a:=dq g) (b:= .int 2) rfl rfl rfl);unfold MG;rw[q,<-sU];cases g.2.2 <;> rfl
 refine cQ (aC (δ1:=[.val (.str n), .val (dq g), .val (.lst (W.map .str)), .val (.str sw)]) (bf e1 (by simp [bW,gI])) (b_ ?_))
 refine kE (x:=TX.SP) rfl (av (ax (a:= .lst ([sw,n,kS g.1].map .str)) (b:= .lst ((tx W g.2.1).map .str)) (b8 (cF (ds:=[sw,n,kS g.1].map .str) (av rfl (av rfl (av (ax (a:=dq g) (b:= .int 0) rfl rfl rfl) rfl))) (by show 3<=sizeLine;omega))) (EZ (by omega) hg (ax (a:=dq g) (b:= .int 1) rfl rfl rfl) rfl) ((AU (by unfold tx;simp;omega)).trans (by rw[<-List.map_append]))) rfl) ?_
 rw[<-sU];exact wg (ws:=qz W g n) (by unfold qz tx;simp;omega) (yR hn hW hg)
theorem yo{W:List Str}{o:Str × List Nat}(hn:isNm o.1=true)(hW:∀y∈W,Wo y)(h3:o.2.length<=3)(hg:∀w∈o.2,w < W.length):kl [iE o, .lst (W.map .str)]= .ok (.str (Str.join TX.SP (sS W o))):=by
 have hz:sizeLine=16777216:=sizeLine_eq;unfold kl ub;refine cQ (b_ (kE (x:=TX.SP) rfl (av (ax (a:= .lst ([Str.ofString "out",o.1].map .str)) (b:= .lst ((tx W o.2).map .str)) (b8 (cF (ds:=[Str.ofString "out",o.1].map .str) (av rfl (av (ax (a:=iE o) (b:= .int 0) rfl rfl rfl) rfl)) (by show 2<=sizeLine;omega))) (EZ (by omega) hg (ax (a:=iE o) (b:= .int 1) rfl rfl rfl) rfl) ((AU (by unfold tx;simp;omega)).trans (by rw[<-List.map_append]))) rfl) ?_))
 exact wg (ws:=sS W o) (by unfold sS tx;simp;omega) (yB hn hW hg)
theorem DF(T:TN ins gs os):∃gn,GN ins gs.length gn/\∀(i:Nat) (nm:Str),gn[i]? =some nm->du [nI i, .lst ((ins.map (·.1)).map .str)]= .ok (.str nm):=by
 have h6:=T.i6;have h60:=T.g60;have ch:∀p,p < 60->∃m,m < 7/\xn (mz p) m ∉ ins.map (·.1)/\du [nI p, .lst ((ins.map (·.1)).map .str)]= .ok (.str (xn (mz p) m)):=fun p hp=>uZ p hp _ (by rw[List.length_map];exact h6)
 let m:Nat->Nat:=fun p=>if h:p < 60 then Classical.choose (ch p h) else 0
 have ms:∀p,p < 60->m p < 7/\xn (mz p) (m p) ∉ ins.map (·.1)/\du [nI p, .lst ((ins.map (·.1)).map .str)]= .ok (.str (xn (mz p) (m p))):=fun p hp=>by
  have:m p=Classical.choose (ch p hp):=dif_pos hp;rw[this];exact Classical.choose_spec (ch p hp)
 refine⟨(List.range gs.length).map fun p=>xn (mz p) (m p),⟨by simp,?_,fun s hs=>?_,fun s hs=>?_⟩,fun i nm h=>?_⟩
 .rw [List.nodup_iff_pairwise_ne,List.pairwise_map];refine(List.pairwise_lt_range (n:=gs.length)).imp_of_mem ?_;intro a b ha hb hab e;have ha:=List.mem_range.mp ha;have hb:=List.mem_range.mp hb;exact Lp b (by omega) (m b) (ms b (by omega)).1 a hab (m a) (ms a (by omega)).1 e.symm
 .obtain⟨p,hp,rfl⟩:=List.mem_map.mp hs;have hp:=List.mem_range.mp hp;exact Js p (by omega) _ (ms p (by omega)).1
 .obtain⟨p,hp,rfl⟩:=List.mem_map.mp hs;have hp:=List.mem_range.mp hp;exact(ms p (by omega)).2.1
 .rw [List.getElem?_map] at h;obtain⟨j,hj,rfl⟩:=Option.map_eq_some_iff.mp h;obtain⟨hl,e⟩:=List.getElem?_eq_some_iff.mp hj;rw[List.length_range] at hl;rw[List.getElem_range] at e;subst e;exact(ms i (by omega)).2.2
theorem BQ{x:Str × Nat}(hx:isNm x.1=true)(hw:1<=x.2/\x.2<=3){δ:ao}(h4:ag 4 δ= .ok (.str x.1))(h5:ag 5 δ= .ok (nI x.2)):cD (bu (eC (.str (Str.ofString "in "))) (bu (iV (ag 4)) (bu (eC (.str (Str.ofString " "))) (bu (iV (ag 5)) lE)))) δ= .ok (.str (Str.join TX.SP (uK x))):=by
 have hz:sizeLine=16777216:=sizeLine_eq;have hl:=(cZ.mp hx).2.1;have hs:(toString ((x.2:Nat):Int):Str)=wS x.2:=by
  rcases(show x.2=1\/x.2=2\/x.2=3 by omega) with e | e | e <;> rw[e] <;> decide+kernel
 have ll:((x.2:Nat):Int).natAbs.log2 < 1920:=by
  rcases(show x.2=1\/x.2=2\/x.2=3 by omega) with e | e | e <;> rw[e] <;> decide+kernel
 have e:Str.empty++Str.ofString "in "++x.1++Str.ofString " "++wS x.2=Str.join TX.SP (uK x):=by
  show _=Str.ofString "in"++TX.SP++(x.1++TX.SP++wS x.2);rw[show Str.ofString "in "=Str.ofString "in"++TX.SP by decide+kernel]
  exact jI (by simp only[fm,List.append_assoc,show Str.empty.cps.toList=[] from rfl,List.nil_append])
 have rl:=(qR (ws:=uK x) (by unfold uK;simp) (yx hx)).len
 refine Eq.trans (kI (dC rfl (dC (sf h4 (by omega)) (dC rfl (dC (oC h5 ll) rfl)))) ?_) ?_
 .show(Str.empty++Str.ofString "in "++x.1++Str.ofString " "++(toString ((x.2:Nat):Int):Str)).length<=_;rw[hs,e];omega
 .show R.ok (D.str (Str.empty++Str.ofString "in "++x.1++Str.ofString " "++(toString ((x.2:Nat):Int):Str)))=_;rw[hs,e]
end
end K07
end
section
namespace K07
open PySem PySem.Spec PyProof.Rows L2 L3 MT JT TX
section
variable {ins:YD} {gs:List Gt} {os:YE} {gn:List Str}
abbrev sE(x0 x1 x2 x3 x4 x5 x6 x7 x8:Sl):ao:=[x0,x1,x2,x3,x4,x5,x6,x7,x8]
theorem wq(T:TN ins gs os):∃gn,GN ins gs.length gn/\kB [cP ins gs os]= .ok (.str (vS ins gs os gn)):=by
 have hz:sizeLine=16777216:=sizeLine_eq;obtain⟨gn,G,hgn⟩:=DF T;refine⟨gn,G,?_⟩;have h6:=T.i6;have h60:=T.g60;have ho6:=T.o6;have hgl:=G.len;have hWo:=Hd T G;obtain⟨W,hW⟩:∃W,gL ins++gn=W:=⟨_,rfl⟩;have hWl:W.length=jA ins+gs.length:=by rw[<-hW,List.length_append,fk,hgl]
 have w18:∀i,(gL (ins.take i)).length<=18:=fun i=>by
  rw[fk];have:=NT.vp (l:=ins.take i) fun x hx=>T.iw x (List.mem_of_mem_take hx)
  unfold jA;rw[List.length_take] at this;omega
 let N:Sl:= .val (cP ins gs os)
 let I:Sl:= .val (.lst ((ins.map (·.1)).map .str))
 let R0:List Str:=ins.map fun x=>Str.join TX.SP (uK x)
 let RG:List Str:=(gs.zip gn).map fun p=>Str.join TX.SP (qz W p.1 p.2)
 have zl:(gs.zip gn).length=gs.length:=by rw[List.length_zip,hgl];omega
 obtain⟨δ1,WS,a4,a5,Iu⟩:=eA (t:=iR 2 (bX (aR 4) (bX (aR 5) iT))) (body:=mK) (ds:=ins.map MT.inD)
  (fun i δ=>∃a4 a5,δ=sE N I (.bld ((R0.take i).map .str)) (.bld ((gL (ins.take i)).map .str)) a4 a5 .un .un .un)
  (δ:=sE N I (.bld []) (.bld []) .un .un .un .un .un) ⟨_,_,rfl⟩ (by
    rintro i dd δ hd ⟨a4,a5,rfl⟩;obtain⟨x,hx,rfl⟩:=NT.kH hd;have hxm:=List.mem_of_getElem? hx;have hil:=(List.getElem?_eq_some_iff.mp hx).1;have w1:=w18 i;obtain⟨x1,x3⟩:=T.iw x hxm;have e1:gL (ins.take (i+1))=gL (ins.take i)++pQ x.1 x.2:=by rw[List.take_add_one,hx];unfold gL;simp
    have e2:R0.take (i+1)=R0.take i++[Str.join TX.SP (uK x)]:=by rw[List.take_add_one,show R0[i]? =some (Str.join TX.SP (uK x)) by show(ins.map _)[i]? =_;rw [List.getElem?_map,hx];rfl];rfl
    refine⟨_,?_, .val (.str x.1), .val (nI x.2),rfl⟩;rw[e1,e2,List.map_append,List.map_append];show mK (sE N I (.bld ((R0.take i).map .str)) (.bld ((gL (ins.take i)).map .str)) (.val (.str x.1)) (.val (nI x.2)) .un .un .un)=_;unfold mK;refine aC (g7 (i:=2) (d:= .str (Str.join TX.SP (uK x))) (ds:=(R0.take i).map .str) (BQ (T.inm x hxm) ⟨x1,x3⟩ rfl rfl) rfl (by rw[List.length_map,List.length_take];omega)) ?_
    exact G7 (aw (ds:=[.str x.1,nI x.2]) rfl (qe (by have:=(cZ.mp (T.inm x hxm)).2.1;omega) x3)) rfl (by rw[List.length_map,List.length_map,qP];omega))
 rw[List.length_map,List.take_length,show R0.take ins.length=R0 from List.take_of_length_le (by show(ins.map _).length<=_;rw [List.length_map];exact Nat.le_refl _)] at Iu
 have w0:=w18 ins.length;rw[List.take_length] at w0;have r0l:R0.length=ins.length:=List.length_map ..;have rgl:RG.length=gs.length:=by show((gs.zip gn).map _).length=_;rw [List.length_map,zl]
 obtain⟨iB,Xk,b4,b6,b7,Ir⟩:=eA (t:=iR 2 (bX (aR 6) (bX (aR 7) iT))) (body:=mF) (ds:=gq (gs.map dq))
  (fun i δ=>∃b4 b6 b7,δ=sE N I (.bld ((R0++RG.take i).map .str)) (.bld ((gL ins++gn.take i).map .str)) b4 a5 b6 b7 .un)
  (δ:=sE N I (.bld (R0.map .str)) (.bld ((gL ins).map .str)) a4 a5 .un .un .un) ⟨_,_,_,by rw[List.take_zero,List.take_zero,List.append_nil,List.append_nil]⟩ (by
    rintro i dd δ hd ⟨b4,b6,b7,rfl⟩;have Cd:∃g,gs[i]? =some g/\dd= .tup [nI i,dq g]:=by
     unfold gq at hd;rw[List.getElem?_map,List.getElem?_zipIdx,List.getElem?_map] at hd;cases q:gs[i]? with
     | none=>rw [q] at hd;cases hd
     | some g=>rw [q] at hd;cases hd;exact⟨g,rfl,by simp [nI]⟩
    obtain⟨g,hg,rfl⟩:=Cd;have hil:=(List.getElem?_eq_some_iff.mp hg).1;obtain⟨n,hn⟩:∃n,gn[i]? =some n:=⟨_,List.getElem?_eq_getElem (by omega)⟩
    have gok:=T.gok i g hg;have al:=v7 g.1;have hz2:(gs.zip gn)[i]? =some (g,n):=List.getElem?_zip_eq_some.mpr ⟨hg,hn⟩;have e2:RG.take (i+1)=RG.take i++[Str.join TX.SP (qz W g n)]:=by rw[List.take_add_one,show RG[i]? =some (Str.join TX.SP (qz W g n)) by show((gs.zip gn).map _)[i]? =_;rw [List.getElem?_map,hz2];rfl];rfl
    have e3:gn.take (i+1)=gn.take i++[n]:=by rw[List.take_add_one,hn];rfl
    have wl:(gL ins++gn.take i).length=jA ins+i:=by rw[List.length_append,fk,List.length_take];omega
    have hwi:∀w∈g.2.1,w < (gL ins++gn.take i).length:=fun w hw=>by rw[wl];exact gok.2.2 w hw
    have row:gA [.str n,dq g, .lst ((gL ins++gn.take i).map .str)]= .ok (.str (Str.join TX.SP (qz W g n))):=by
     have:=xh (W:=gL ins++gn.take i) (g:=g) (G.nm n (List.mem_of_getElem? hn)) (fun y hy=>(hWo y (by
      rcases List.mem_append.mp hy with z | z
      .exact List.mem_append_left _ z
      .exact List.mem_append_right _ (List.mem_of_mem_take z))).1) (by rw[gok.2.1];exact al) hwi
     rw[this];have:tx (gL ins++gn.take i) g.2.1=tx W g.2.1:=by
      unfold tx;refine List.map_congr_left fun w hw=>?_
      have h1:=hwi w hw;have e:W=(gL ins++gn.take i)++gn.drop i:=by rw[<-hW,List.append_assoc,List.take_append_drop]
      rw[List.getD_eq_getElem?_getD,List.getD_eq_getElem?_getD,e,List.getElem?_append_left h1]
     unfold qz;rw[this]
    refine⟨_,?_, .val (.str n), .val (nI i), .val (dq g),rfl⟩;rw[e2,e3,<-List.append_assoc,<-List.append_assoc,List.map_append (l₁:=R0++RG.take i),List.map_append (l₁:=gL ins++gn.take i)];show mF (sE N I (.bld ((R0++RG.take i).map .str)) (.bld ((gL ins++gn.take i).map .str)) b4 a5 (.val (nI i)) (.val (dq g)) .un)=_;unfold mF;have tw:∀c:Sl,ag 3 (lH (sE N I (.bld ((R0++RG.take i).map .str)) (.bld ((gL ins++gn.take i).map .str)) (.val (.str n)) c (.val (nI i)) (.val (dq g)) .un))= .ok (.lst ((gL ins++gn.take i).map .str)):=fun c=>by cases c <;> rfl
    refine aC (δ1:=sE N I (.bld ((R0++RG.take i).map .str)) (.bld ((gL ins++gn.take i).map .str)) (.val (.str n)) a5 (.val (nI i)) (.val (dq g)) .un) (bf (d:= .str n) (aw (ds:=[nI i, .lst ((ins.map (·.1)).map .str)]) rfl (hgn i n hn)) (by show 4 < 9;omega)) ?_
    refine aC (g7 (d:= .str (Str.join TX.SP (qz W g n))) (ds:=(R0++RG.take i).map .str) (o4 (aw (ds:=[.str n,dq g, .lst ((gL ins++gn.take i).map .str)]) (av (by cases a5 <;> rfl) (av (by cases a5 <;> rfl) (av (tw a5) rfl))) row) rfl) rfl (by rw[List.length_map,List.length_append,List.length_take];omega)) ?_
    exact g7 (d:= .str n) (ds:=(gL ins++gn.take i).map .str) rfl rfl (by rw[List.length_map,wl];have:=fk ins;omega))
 have tl:(gq (gs.map dq)).length=gs.length:=by unfold gq;rw [List.length_map,List.length_zipIdx,List.length_map]
 rw[tl,show RG.take gs.length=RG from List.take_of_length_le (by omega),show gn.take gs.length=gn from List.take_of_length_le (by omega),hW] at Ir
 let RO:Nat->List Str:=fun i=>(os.take i).map fun o=>Str.join TX.SP (sS W o)
 obtain⟨OO,W6,c8,Io⟩:=eA (t:=aR 8) (body:=mL) (ds:=os.map iE)
  (fun i δ=>∃c8,δ=sE N I (.bld ((R0++RG++RO i).map .str)) (.val (.lst (W.map .str))) b4 a5 b6 b7 c8)
  (δ:=sE N I (.bld ((R0++RG).map .str)) (.val (.lst (W.map .str))) b4 a5 b6 b7 .un) ⟨_,by show _=sE N I (.bld ((R0++RG++[]).map .str)) _ _ _ _ _ _;rw [List.append_nil]⟩ (by
    rintro i dd δ hd ⟨c8,rfl⟩;obtain⟨o,ho,rfl⟩:=NT.kH hd;have hom:=List.mem_of_getElem? ho;have hil:=(List.getElem?_eq_some_iff.mp ho).1;obtain⟨o1,o2,o3⟩:=T.ow o hom;have rol:(RO i).length=min i os.length:=by show((os.take i).map _).length=_;rw [List.length_map,List.length_take]
    have e1:RO (i+1)=RO i++[Str.join TX.SP (sS W o)]:=by
     show(os.take (i+1)).map _=_;rw[List.take_add_one,ho];simp [RO]
    refine⟨_,?_, .val (iE o),rfl⟩;rw[e1,<-List.append_assoc,List.map_append (l₁:=R0++RG++RO i)];show mL (sE N I (.bld ((R0++RG++RO i).map .str)) (.val (.lst (W.map .str))) b4 a5 b6 b7 (.val (iE o)))=_;unfold mL;exact g7 (d:= .str (Str.join TX.SP (sS W o))) (ds:=(R0++RG++RO i).map .str) (aw (ds:=[iE o, .lst (W.map .str)]) rfl (yo (T.onm o hom) (fun y hy=>(hWo y (by rw[hW];exact hy)).1) o2 fun w hw=>by have:=o3 w hw;omega)) rfl (by rw[List.length_map,List.length_append,List.length_append,rol];omega))
 rw[List.length_map] at Io;have nl:∀δ:ao,eS aI δ= .ok []:=fun δ=>cF rfl (by show 0<=sizeLine;omega)
 have all:R0++RG++RO os.length=(vR ins gs os gn).map (Str.join TX.SP):=by
  show(ins.map fun x=>Str.join TX.SP (uK x))++((gs.zip gn).map fun p=>Str.join TX.SP (qz W p.1 p.2))++((os.take os.length).map fun o=>Str.join TX.SP (sS W o))=_
  unfold vR;rw[List.take_length,hW,List.map_append,List.map_append,List.map_map,List.map_map,List.map_map];rfl
 unfold kB zQ;refine cQ (aC (δ1:=sE N I .un .un .un .un .un .un .un) (bf (d:= .lst ((ins.map (·.1)).map .str)) (b8 (eX (ds:=ins.map MT.inD) (gM (ax (a:=cP ins gs os) (b:= .int 0) rfl rfl rfl)) (by rw[List.length_map];omega) ?_)) (by simp [bW,qK])) ?_)
 .rw [List.map_map];exact NT.dv MT.inD _ fun x hx=>⟨[.val (.str x.1), .val (nI x.2)],rfl,rfl,rfl⟩
 refine aC (jD (nl _) (by show 2 < 9;omega)) (aC (jD (nl _) (by show 3 < 9;omega)) ?_)
 refine aC (iY (ds:=ins.map MT.inD) (gM (ax (a:=cP ins gs os) (b:= .int 0) rfl rfl rfl)) WS) ?_;subst Iu;refine aC (iY (ds:=gq (gs.map dq)) (DS (ax (a:=cP ins gs os) (b:= .int 1) (by cases a4 <;> cases a5 <;> rfl) rfl rfl)) Xk) ?_
 subst Ir;have fz:ky 3 (sE N I (.bld ((R0++RG).map .str)) (.bld (W.map .str)) b4 a5 b6 b7 .un)=sE N I (.bld ((R0++RG).map .str)) (.val (.lst (W.map .str))) b4 a5 b6 b7 .un:=rfl;unfold pP;rw[fz];refine aC (iY (ds:=os.map iE) (gM (ax (a:=cP ins gs os) (b:= .int 2) (by cases b4 <;> cases a5 <;> cases b6 <;> cases b7 <;> rfl) rfl rfl)) W6) ?_
 subst Io;rw[all];refine b_ (kE (x:=NL) rfl (av (d:= .lst (((vR ins gs os gn).map (Str.join TX.SP)).map .str)) (by cases b4 <;> cases a5 <;> cases b6 <;> cases b7 <;> cases c8 <;> rfl) rfl) (BH (by rw[List.length_map,vI T G];omega) (yp T G)))
end
end K07
end
section
namespace K07
open PySem PySem.Spec PyProof.Rows L2 L3 MT JT TX
abbrev SB:List Str:=[Str.ofString "a",Str.ofString "b",Str.ofString "x",Str.ofString "ba",Str.ofString "c",Str.ofString "z"]
abbrev MV:List Str:=[Str.ofString "a",Str.ofString "b",Str.ofString "c",Str.ofString "x",Str.ofString "y",Str.ofString "z"]
abbrev Jq:List Str:=[Str.ofString "xa",Str.ofString "xxa",Str.ofString "xb",Str.ofString "a",Str.ofString "xx",Str.ofString "x"]
def Mj(b:Str)(q p:Nat):Str:=if q=1 then Txt.mul (Str.ofString "x") p++b else if q=2 then MV.getD p Str.empty else Jq.getD p Str.empty
theorem KP:∀b∈SB,∀q,q < 4->0 < q->((List.range 6).map (Mj b q)).Nodup:=by decide+kernel
theorem JI:∀b∈SB,∀q,q < 4->0 < q->∀p,p < 6->isNm (Mj b q p)=true:=by decide+kernel
def nf(b:Str)(q p:Nat)(name:Str):Str:=if q=0 then name else Mj b q p
theorem Nx{l:List Str}{i:Nat}(h:i < l.length):∃w∈l,cW (.lst (l.map .str)) (nI i)= .ok (.str w):=⟨l[i],List.getElem_mem h,NT.cf (by rw[List.getElem?_map,List.getElem?_eq_getElem h];rfl)⟩
theorem MJ{i:Nat}(h:i < 7):k_ (.str (Str.ofString "x")) (nI i)= .ok (.str (Txt.mul (Str.ofString "x") i)):=by
 have hz:sizeLine=16777216:=sizeLine_eq;show R.aS (decide (-(2 ^ 63)<=(i:Int)/\(i:Int) < 2 ^ 63/\(Str.ofString "x").length*(i:Int).toNat<=sizeLine)) (R.ok (D.str (Txt.mul (Str.ofString "x") (i:Int))))=_;exact bx _ ⟨by omega,by omega,by rw[Int.toNat_natCast,show(Str.ofString "x").length=1 by decide+kernel];omega⟩
section
variable {ins:YD}
abbrev tE(x0 x1 x2 x3 x4 x5 x6 x7 x8:Sl):ao:=[x0,x1,x2,x3,x4,x5,x6,x7,x8]
theorem zh(cell:Int)(h6:ins.length<=6)(Mb:(ins.map (·.1)).Nodup)(Jz:∀x∈ins,isNm x.1=true):∃ins':YD,dH [.int cell, .lst (ins.map MT.inD)]= .ok (.lst (ins'.map MT.inD))/\ins'.map (·.2)=ins.map (·.2)/\(ins'.map (·.1)).Nodup/\∀x∈ins',isNm x.1=true:=by
 have hz:sizeLine=16777216:=sizeLine_eq;obtain⟨n,hn⟩:∃n,stN cell 500=n:=⟨_,rfl⟩;obtain⟨b,hb,eb⟩:=Nx (l:=SB) (i:=n / 4 % 6) (by show n / 4 % 6 < 6;omega)
 obtain⟨q,hq⟩:∃q,n % 4=q:=⟨_,rfl⟩;have q4:q < 4:=by omega
 have bl:∀b∈SB,b.length<=2:=by decide+kernel
 have bl:=bl b hb
 let J:Nat->YD:=fun i=>(ins.zipIdx.take i).map fun p=>(nf b q p.2 p.1.1,p.1.2)
 have zl:ins.zipIdx.length=ins.length:=List.length_zipIdx;obtain⟨δ1,lp,a5,a6,a7,a8,hδ⟩:=eA (t:=iR 2 (bX (aR 5) (bX (iR 2 (bX (aR 6) (bX (aR 7) iT))) iT))) (body:=eR) (ds:=gq (ins.map MT.inD))
  (fun i δ=>∃a5 a6 a7 a8,δ=tE (.val (.int cell)) (.val (.lst (ins.map MT.inD))) (.val (nI n)) (.val (.str b)) (.bld ((J i).map MT.inD)) a5 a6 a7 a8)
  (δ:=tE (.val (.int cell)) (.val (.lst (ins.map MT.inD))) (.val (nI n)) (.val (.str b)) (.bld []) .un .un .un .un) ⟨_,_,_,_,rfl⟩ (by
    rintro i dd δ hd ⟨a5,a6,a7,a8,rfl⟩;have Cd:∃x,ins[i]? =some x/\dd= .tup [nI i,MT.inD x]:=by
     unfold gq at hd;rw[List.getElem?_map,List.getElem?_zipIdx,List.getElem?_map] at hd;cases q:ins[i]? with
     | none=>rw [q] at hd;cases hd
     | some g=>rw [q] at hd;cases hd;exact⟨g,rfl,by simp [nI]⟩
    obtain⟨x,hx,rfl⟩:=Cd;have hil:=(List.getElem?_eq_some_iff.mp hx).1;have e1:J (i+1)=J i++[(nf b q i x.1,x.2)]:=by
     show(ins.zipIdx.take (i+1)).map _=_;rw[List.take_add_one,List.getElem?_zipIdx,hx];simp [J]
    have jl:(J i).length<=6:=by show((ins.zipIdx.take i).map _).length<=6;rw [List.length_map,List.length_take,zl];omega
    have ml:(Txt.mul (Str.ofString "x") i).length<=6:=(NO (r:=i) (by omega)).len
    have em:=MJ (i:=i) (by omega)
    have e2:cW (.str (Str.ofString "abcxyz")) (nI i)= .ok (.str (MV.getD i Str.empty)):=by
     rcases(show i=0\/i=1\/i=2\/i=3\/i=4\/i=5 by omega) with e | e | e | e | e | e <;> rw[e] <;> rfl
    have e3:cW (.lst (Jq.map .str)) (nI i)= .ok (.str (Jq.getD i Str.empty)):=by
     rcases(show i=0\/i=1\/i=2\/i=3\/i=4\/i=5 by omega) with e | e | e | e | e | e <;> rw[e] <;> rfl
    have e4:cW (.lst [.str x.1, .str (Txt.mul (Str.ofString "x") i++b), .str (MV.getD i Str.empty), .str (Jq.getD i Str.empty)]) (nI q)= .ok (.str (nf b q i x.1)):=by
     unfold nf Mj;rcases(show q=0\/q=1\/q=2\/q=3 by omega) with e | e | e | e <;> rw[e]
     .exact NT.cf (z:=0) rfl
     .exact NT.cf (z:=1) rfl
     .exact NT.cf (z:=2) rfl
     .exact NT.cf (z:=3) rfl
    refine⟨_,?_, .val (nI i), .val (.str x.1), .val (nI x.2), .val (.str (nf b q i x.1)),rfl⟩;rw[e1,List.map_append];rw[show iR 2 (bX (aR 5) (bX (iR 2 (bX (aR 6) (bX (aR 7) iT))) iT)) (.tup [nI i,MT.inD x]) (tE (.val (.int cell)) (.val (.lst (ins.map MT.inD))) (.val (nI n)) (.val (.str b)) (.bld ((J i).map MT.inD)) a5 a6 a7 a8)= .ok (tE (.val (.int cell)) (.val (.lst (ins.map MT.inD))) (.val (nI n)) (.val (.str b)) (.bld ((J i).map MT.inD)) (.val (nI i)) (.val (.str x.1)) (.val (nI x.2)) a8) from rfl,R.aH]
    unfold eR;refine aC (δ1:=tE (.val (.int cell)) (.val (.lst (ins.map MT.inD))) (.val (nI n)) (.val (.str b)) (.bld ((J i).map MT.inD)) (.val (nI i)) (.val (.str x.1)) (.val (nI x.2)) (.val (.str (nf b q i x.1)))) (bf (d:= .str (nf b q i x.1)) (ax (a:= .lst [.str x.1, .str (Txt.mul (Str.ofString "x") i++b), .str (MV.getD i Str.empty), .str (Jq.getD i Str.empty)]) (b:=nI q) (b8 (cF (ds:=[.str x.1, .str (Txt.mul (Str.ofString "x") i++b), .str (MV.getD i Str.empty), .str (Jq.getD i Str.empty)]) (av rfl (av (ax (a:= .str (Txt.mul (Str.ofString "x") i)) (b:= .str b) (ax (a:= .str (Str.ofString "x")) (b:=nI i) rfl rfl em) rfl (mO (by omega))) (av (ax (a:= .str (Str.ofString "abcxyz")) (b:=nI i) rfl rfl e2) (av (ax (a:= .lst (Jq.map .str)) (b:=nI i) (b8 (cF (ds:=Jq.map .str) rfl (by show 6<=sizeLine;omega))) rfl e3) rfl)))) (by show 4<=sizeLine;omega))) ((ax (a:=nI n) (b:=nI 4) rfl rfl (eM (by omega))).trans (by rw[hq])) e4) (by show 8 < 9;omega)) ?_
    generalize nf b q i x.1=nw;generalize J i=Ji at jl;exact g7 (d:=MT.inD (nw,x.2)) (ds:=Ji.map MT.inD) (eF (ds:=[.str nw,nI x.2]) rfl (by show 2<=sizeLine;omega)) rfl (by rw[List.length_map];omega))
 have tl:(gq (ins.map MT.inD)).length=ins.length:=by unfold gq;rw [List.length_map,List.length_zipIdx,List.length_map]
 rw[tl] at hδ;obtain⟨I',hI⟩:∃I',J ins.length=I':=⟨_,rfl⟩;have hI2:I'=ins.zipIdx.map fun p=>(nf b q p.2 p.1.1,p.1.2):=by rw[<-hI];show(ins.zipIdx.take ins.length).map _=_;rw [<-zl,List.take_length]
 rw[hI] at hδ;refine⟨I',?_,?_,?_,?_⟩
 .unfold dH jH;refine cQ (aC (δ1:=tE (.val (.int cell)) (.val (.lst (ins.map MT.inD))) (.val (nI n)) .un .un .un .un .un .un) (bf (d:=nI n) (aw (ds:=[.int cell,nI 500]) rfl (by rw[lV,hn])) (by simp [bW,fL])) ?_)
  refine aC (bf (d:= .str b) (ax (a:= .lst (SB.map .str)) (b:=nI (n / 4 % 6)) (b8 (cF (ds:=SB.map .str) rfl (by show 6<=sizeLine;omega))) (ax (a:=nI (n / 4)) (b:=nI 6) (ax (a:=nI n) (b:=nI 4) rfl rfl (mZ (by omega) (by omega))) rfl (eM (by omega))) eb) (by show 3 < 9;omega)) ?_
  refine aC (jD (ds:=[]) (cF rfl (by show 0<=sizeLine;omega)) (by show 4 < 9;omega)) (aC (iY (ds:=gq (ins.map MT.inD)) (DS rfl) lp) ?_)
  subst hδ;rfl
 .rw [hI2,List.map_map];refine List.ext_getElem? fun i=>?_
  rw[List.getElem?_map,List.getElem?_map,List.getElem?_zipIdx];cases ins[i]? <;> rfl
 .rw [hI2,List.map_map];by_cases h0:q=0
  .have:ins.zipIdx.map ((fun x:Str × Nat=>x.1) ∘ fun p:(Str × Nat) × Nat=>(nf b q p.2 p.1.1,p.1.2))=ins.map (·.1):=by
    refine List.ext_getElem? fun i=>?_
    rw[List.getElem?_map,List.getElem?_map,List.getElem?_zipIdx];cases ins[i]? with
    | none=>rfl
    | some x=>show some (nf b q _ x.1)=some x.1;unfold nf;rw [if_pos h0]
   rw[this];exact Mb
  .have:ins.zipIdx.map ((fun x:Str × Nat=>x.1) ∘ fun p:(Str × Nat) × Nat=>(nf b q p.2 p.1.1,p.1.2))=((List.range 6).map (Mj b q)).take ins.length:=by
    refine List.ext_getElem? fun i=>?_
    rw[List.getElem?_map,List.getElem?_zipIdx,List.getElem?_take];by_cases hi:i < ins.length
    .rw [if_pos hi,List.getElem?_map,List.getElem?_range (show i < 6 by omega),List.getElem?_eq_getElem hi]
     show some (nf b q (0+i) _)=some (Mj b q i);unfold nf;rw [if_neg h0,Nat.zero_add]
    .rw [if_neg hi,List.getElem?_eq_none (by omega)];rfl
   rw[this];exact(List.take_sublist _ _).nodup (KP b hb q q4 (by omega))
 .intro x hx;rw[hI2] at hx;obtain⟨⟨y,i⟩,hp,rfl⟩:=List.mem_map.mp hx;obtain⟨m,hm⟩:=List.mem_iff_getElem?.mp hp;rw[List.getElem?_zipIdx] at hm;obtain⟨y',hy,e⟩:=Option.map_eq_some_iff.mp hm;cases e;have hml:=(List.getElem?_eq_some_iff.mp hy).1;show isNm (nf b q (0+m) y.1)=true;unfold nf;by_cases h0:q=0
  .rw [if_pos h0];exact Jz y (List.mem_of_getElem? hy)
  .rw [if_neg h0];exact JI b hb q q4 (by omega) _ (by omega)
end
end K07
end
section
namespace K07
open PySem PySem.Spec PyProof.Rows L2 L3 MT JT TX
theorem sk:∀l:List Nat,j9 (l.map nI)=true
 | []=>rfl
 | a ::l=>by rw[List.map_cons];unfold j9;rw [sk l];rfl
theorem Hh(g:Gt):sV (dq g)=true:=by
 show j9 [.str (kS g.1), .tup (g.2.1.map nI), .bl g.2.2]=true;show(true && (j9 (g.2.1.map nI) && (true && true)))=true;rw[sk];rfl
theorem Au(o:Str × List Nat):sV (iE o)=true:=by
 show(true && (j9 (o.2.map nI) && true))=true;rw[sk];rfl
theorem Ku(gs:List Gt):A2 (.lst (gs.map dq)) (.lst [])= .ok (.bl (!gs.isEmpty)):=by
 have f:iC 3 (.lst (gs.map dq)):=iC.lst (n:=2) fun d hd=>by
  obtain⟨x,hx,rfl⟩:=List.mem_map.mp hd;exact iC.tup (n:=1) fun d hd=>by
   simp only[List.mem_cons,List.not_mem_nil,or_false] at hd;rcases hd with rfl | rfl | rfl
   .exact(Et _).mono (by omega)
   .exact y_ _
   .exact(iC.bl _).mono (by omega)
 have f2:iC 1 (.lst []):=iC.lst fun d hd=>by cases hd
 show(Cu (.lst _) (.lst [])).bind _=_;rw[show Cu (.lst (gs.map dq)) (.lst [])=R.aS (cq (.lst (gs.map dq)) && cq (.lst []) && SeqAt.shaped (toPy (.lst (gs.map dq))) && SeqAt.shaped (toPy (.lst []))) (.ok (PyData.eqv (toPy (.lst (gs.map dq))) (toPy (.lst [])))) from rfl,f.pl,f.sh (by omega),f2.pl,f2.sh (by omega)]
 cases gs <;> rfl
theorem Jg(l:List Nat):L2.cutD (l.map nI) (some 1) none=(l.drop 1).map nI:=by
 unfold L2.cutD;rw[show(some (1:Int))=some ((1:Nat):Int) from rfl,HT.oI,HT.r6,List.length_map]
 by_cases h:1<=l.length
 .rw [Nat.min_eq_left h,List.take_of_length_le (by rw[List.length_drop,List.length_map];omega),List.map_drop]
 .rw [Nat.min_eq_right (by omega)]
  have:l=[]:=List.length_eq_zero_iff.mp (by omega)
  rw[this];rfl
theorem N1(l:List Nat):L2.cutD (l.map nI) none (some 1)=(l.take 1).map nI:=by
 unfold L2.cutD;rw[show(some (1:Int))=some ((1:Nat):Int) from rfl,HT.oI,HT.r6,List.length_map,List.drop_zero,Nat.sub_zero]
 by_cases h:1<=l.length
 .rw [Nat.min_eq_left h,List.map_take]
 .have:l=[]:=List.length_eq_zero_iff.mp (by omega)
  rw[this];rfl
theorem z6{a b:List D}(h:a.length+b.length<=1000):rm (.tup a) (.tup b)= .ok (.tup (a++b)):=by
 have hz:sizeLine=16777216:=sizeLine_eq;show R.aS (decide (a.length+b.length<=sizeLine)) (R.ok (D.tup (a++b)))=_;exact bx _ (by omega)
def Gk(k:Nat):Nat:=[0,2,3,1,4].getD k 0
theorem JA{k:Nat}(h:k<=4):Gk k<=4/\ar (Gk k)=ar k/\Ik (Gr [((Str.ofString "and"),(Str.ofString "or")),((Str.ofString "or"),(Str.ofString "xor")),((Str.ofString "xor"),(Str.ofString "and")),((Str.ofString "vote"),(Str.ofString "vote")),((Str.ofString "not"),(Str.ofString "not"))]) (.str (kS k))= .ok (.str (kS (Gk k))):=by
 rcases(show k=0\/k=1\/k=2\/k=3\/k=4 by omega) with rfl | rfl | rfl | rfl | rfl
 .exact⟨by decide,rfl,rfl⟩
 .exact⟨by decide,rfl,rfl⟩
 .exact⟨by decide,rfl,rfl⟩
 .exact⟨by decide,rfl,rfl⟩
 .exact⟨by decide,rfl,rfl⟩
section
variable {ins:YD} {gs:List Gt} {os:YE}
theorem TN.PL(T:TN ins gs os){i:Nat}{g g':Gt}(hg:gs[i]? =some g)(h:∀n,xC n g->xC n g'):TN ins (gs.set i g') os:=by
 have hl:(gs.set i g').length=gs.length:=List.length_set;refine {T with g60:=by rw[hl];exact T.g60,gok:=fun j x hx=>?_,ow:=by rw[hl];exact T.ow}
 have hil:=(List.getElem?_eq_some_iff.mp hg).1;by_cases e:i=j
 .subst e;rw[List.getElem?_set_self hil] at hx;cases hx;exact h _ (T.gok i g hg)
 .rw [List.getElem?_set_ne e] at hx;exact T.gok j x hx
theorem TN.Oc(T:TN ins gs os){i:Nat}{o o':Str × List Nat}(ho:os[i]? =some o)(h1:o'.1=o.1\/o'.1 ∉ os.map (·.1))(h2:isNm o'.1=true)(h3:1<=o'.2.length/\o'.2.length<=3/\∀w∈o'.2,w < jA ins+gs.length):TN ins gs (os.set i o'):=by
 have hl:(os.set i o').length=os.length:=List.length_set;have hil:=(List.getElem?_eq_some_iff.mp ho).1;have mem:∀x∈os.set i o',x=o'\/x∈os:=fun x hx=>(List.mem_or_eq_of_mem_set hx).symm
 refine {T with o1:=by rw[hl];exact T.o1,o6:=by rw[hl];exact T.o6,ond:=?_,onm:=fun x hx=>?_,ow:=fun x hx=>?_}
 .rw [List.map_set];rcases h1 with e | e
  .have:(os.map (·.1)).set i o'.1=os.map (·.1):=by
    rw[e];refine List.ext_getElem? fun j=>?_
    by_cases q:i=j
    .subst q;rw [List.getElem?_set_self (by rw[List.length_map];exact hil),List.getElem?_map,ho];rfl
    .rw [List.getElem?_set_ne q]
   rw[this];exact T.ond
  .rw [List.nodup_iff_pairwise_ne,List.pairwise_iff_getElem];intro a b ha hb hab q;have nd:=List.pairwise_iff_getElem.mp (List.nodup_iff_pairwise_ne.mp T.ond);rw[List.length_set] at ha hb;rw[List.getElem_set,List.getElem_set] at q;split at q
   .split at q
    .omega
    .exact e (by rw[q];exact List.getElem_mem _)
   .split at q
    .exact e (by rw[<-q];exact List.getElem_mem _)
    .exact nd a b ha hb hab q
 .rcases mem x hx with rfl | z
  .exact h2
  .exact T.onm x z
 .rcases mem x hx with rfl | z
  .exact h3
  .exact T.ow x z
end
end K07
end
section
namespace K07
open PySem PySem.Spec PyProof.Rows L2 L3 MT JT TX
section
variable {ins:YD} {gs:List Gt} {os:YE}
abbrev ZZ:List Str:=[Str.ofString "za",Str.ofString "zb",Str.ofString "zc",Str.ofString "zd",Str.ofString "ze",Str.ofString "zf",Str.ofString "zg"]
theorem Ny:ZZ.Nodup:=by decide+kernel
theorem NX:∀z∈ZZ,isNm z=true:=by decide+kernel
theorem DJ(T:TN ins gs os)(cell:Int){Q:V3->aP->Prop}(h:∀lb la,TN ins lb la->Q (.d (cP ins lb la)) []):W3 (kJ [.d (.int cell), .d (cP ins gs os)] []) Q:=by
 have hz:sizeLine=16777216:=sizeLine_eq;have f0:Flat ([]:aP):=Flat.nil;have h6:=T.i6;have h60:=T.g60;have ho6:=T.o6;have ho1:=T.o1;unfold kJ;refine IV f0.ML (TK rfl ?_);simp only[dE,dX,List.map,List.length,List.replicate,List.cons_append,List.nil_append,Nat.reduceAdd,Nat.reduceSub];unfold lP;refine eO <| EF <| Ee <| EC (ds:=[.lst (ins.map MT.inD), .lst (gs.map dq), .lst (os.map iE)]) (El rfl) ⟨by show 3<=sizeLine;omega,[.loc 0, .loc 1, .loc 2],[.lst (ins.map MT.inD), .lst (gs.map dq), .lst (os.map iE)],rfl,⟨_,rfl,⟨_,rfl,?_⟩⟩⟩
 simp only[List.set];obtain⟨kd,hkd⟩:∃kd,stN cell 510 % 5=kd:=⟨_,rfl⟩;refine eO <| kU (by simp) <| gu (d:=nI kd) ((ax (a:=nI (stN cell 510)) (b:=nI 5) (aw (ds:=[.int cell,nI 510]) rfl (lV _ 510)) rfl (eM (by omega))).trans (by rw[hkd])) ⟨_,rfl,?_⟩
 simp only[List.set];refine eO (W3.mono (Q:=fun o S1=>∃lb la cz,TN ins lb la/\(∃T',S1=[.lst (ins.map MT.inD), .lst (lb.map dq), .lst (la.map iE)]++T')/\o= .nx cz/\cz[2]? =some (some (.loc 0))/\cz[3]? =some (some (.loc 1))/\cz[4]? =some (some (.loc 2))) ?_ ?_)
 rotate_left
 .rintro o S1 ⟨lb,la,cz,T',⟨T2,rfl⟩,rfl,d2,d3,d4⟩;exact⟨_,rfl,AB <| Jm <| b0 <| w_var d2 <| b0 <| w_var d3 <| b0 <| w_var d4 <| fM ⟨by show 3<=sizeLine;omega,_,rfl,rfl,⟨_,rfl⟩,cP ins lb la,rfl,h lb la T'⟩⟩
 have st511:∀(m:Nat) (δ:ao) (f:FD),0 < m->ag 0 δ= .ok (.int cell)->f δ= .ok (nI m)->e2 cR (aK aT (ai (ag 0) (ai (eC (.int 511)) aI))) f δ= .ok (nI (stN cell 511 % m)):=fun m δ f hm h hf=>ax (a:=nI (stN cell 511)) (b:=nI m) (aw (ds:=[.int cell,nI 511]) (av h rfl) (lV _ 511)) hf (eM hm)
 refine KI <| QR (b:=decide (kd < 3) && !gs.isEmpty) (AV (dc (a:=nI kd) (b:=nI 3) rfl rfl (BC _ _)) fun _=>dc (a:= .lst (gs.map dq)) (b:= .lst []) rfl (b8 (cF rfl (by show 0<=sizeLine;omega))) (Ku gs)) ?_
 obtain⟨a,ha⟩:∃a,stN cell 511 % os.length=a:=⟨_,rfl⟩;have hal:a < os.length:=by rw[<-ha];exact Nat.mod_lt _ ho1
 obtain⟨o,ho⟩:∃o,os[a]? =some o:=⟨_,List.getElem?_eq_getElem hal⟩;obtain⟨o1,o2,o3⟩:=T.ow o (List.mem_of_getElem? ho);have w1:1<=jA ins:=by have:=NT.vp T.iw;have:=T.i1;unfold jA;omega
 by_cases hc:(decide (kd < 3) && !gs.isEmpty)=true
 .rw [hc];rw[Bool.and_eq_true,decide_eq_true_eq] at hc;have gl:0 < gs.length:=by cases gs with | nil=>cases hc.2 | cons _ _=>simp
  obtain⟨b,hb⟩:∃b,stN cell 511 % gs.length=b:=⟨_,rfl⟩;have hbl:b < gs.length:=by rw[<-hb];exact Nat.mod_lt _ gl
  obtain⟨g,hg⟩:∃g,gs[b]? =some g:=⟨_,List.getElem?_eq_getElem hbl⟩;have gok:=T.gok b g hg;have al:=v7 g.1;obtain⟨k4,kar,kget⟩:=JA gok.1;refine eO <| kU (by simp) <| Ms (d:=nI b) ((st511 gs.length _ _ gl rfl (aw (ds:=[.lst (gs.map dq)]) rfl (by rw[iF,List.length_map]))).trans (by rw[hb])) rfl ⟨_,rfl,?_⟩
  simp only[List.set];refine eO <| EF <| Ms (d:=dq g) (ax (a:= .lst (gs.map dq)) (b:=nI b) rfl rfl (NT.cf (by rw[List.getElem?_map,hg];rfl))) (Hh g) ⟨_,rfl,⟨_,rfl,?_⟩⟩
  simp only[List.set];refine eO <| kU (by simp) <| gu rfl ⟨_,rfl,?_⟩
  simp only[List.set];have rl:(g.2.1.drop 1++g.2.1.take 1).length=g.2.1.length:=by rw[List.length_append,List.length_drop,List.length_take];omega
  obtain⟨g',gi,eg⟩:∃g':Gt,(∀n,xC n g->xC n g')/\cW (.lst [dq (g.1,g.2.1,!g.2.2),dq (Gk g.1,g.2.1,g.2.2),dq (g.1,g.2.1.drop 1++g.2.1.take 1,g.2.2)]) (nI kd)= .ok (dq g'):=by
   rcases(show kd=0\/kd=1\/kd=2 by omega) with e | e | e <;> rw[e]
   .exact⟨(g.1,g.2.1,!g.2.2),fun n q=>q,NT.cf (z:=0) rfl⟩
   .exact⟨(Gk g.1,g.2.1,g.2.2),fun n q=>⟨k4,by show _=ar (Gk g.1);rw [kar];exact q.2.1,q.2.2⟩,NT.cf (z:=1) rfl⟩
   .exact⟨(g.1,g.2.1.drop 1++g.2.1.take 1,g.2.2),fun n q=>⟨q.1,by show(g.2.1.drop 1++g.2.1.take 1).length=_;rw [rl];exact q.2.1,fun w hw=>q.2.2 w (by
     rcases List.mem_append.mp hw with z | z
     .exact List.mem_of_mem_drop z
     .exact List.mem_of_mem_take z)⟩,NT.cf (z:=2) rfl⟩
  refine D_ <| gu (d:=dq g') (ax (a:= .lst [dq (g.1,g.2.1,!g.2.2),dq (Gk g.1,g.2.1,g.2.2),dq (g.1,g.2.1.drop 1++g.2.1.take 1,g.2.2)]) (b:=nI kd) (b8 (cF (ds:=[dq (g.1,g.2.1,!g.2.2),dq (Gk g.1,g.2.1,g.2.2),dq (g.1,g.2.1.drop 1++g.2.1.take 1,g.2.2)]) (av (eF (ds:=[.str (kS g.1), .tup (g.2.1.map nI), .bl (!g.2.2)]) rfl (by show 3<=sizeLine;omega)) (av (eF (ds:=[.str (kS (Gk g.1)), .tup (g.2.1.map nI), .bl g.2.2]) (av (ax rfl rfl kget) rfl) (by show 3<=sizeLine;omega)) (av (eF (ds:=[.str (kS g.1), .tup ((g.2.1.drop 1++g.2.1.take 1).map nI), .bl g.2.2]) (av rfl (av ?rot rfl)) (by show 3<=sizeLine;omega)) rfl))) (by show 3<=sizeLine;omega))) rfl eg) <| w_var rfl <| gu rfl ⟨_,1,(b:Int),gs.map dq,b,rfl,rfl,rfl,rfl,NT.qQ (by rw[List.length_map];exact hbl),gs.set b g',os,_,TN.PL T hg gi,⟨[],?_⟩,rfl,rfl,rfl,rfl⟩
  case rot=>
   refine(ax (a:= .tup ((g.2.1.drop 1).map nI)) (b:= .tup ((g.2.1.take 1).map nI)) (g:=rm) ?_ ?_ ((z6 (by simp only[List.length_map,List.length_drop,List.length_take];have:=gok.2.1;omega)).trans (by rw[<-List.map_append])))
   .show R.ok (D.tup (L2.cutD (g.2.1.map nI) (some 1) none))=_;rw[Jg]
   .show R.ok (D.tup (L2.cutD (g.2.1.map nI) none (some 1)))=_;rw[N1]
  rw[List.map_set];rfl
 .rw [Bool.not_eq_true] at hc;rw[hc];refine KI <| Dm (b:=decide (kd=3)) (dc (a:=nI kd) (b:=nI 3) rfl rfl (y7 _ _)) ?_
  have io:∀δ:ao,ag 4 δ= .ok (.lst (os.map iE))->ag 6 δ= .ok (nI a)->e2 cW (ag 4) (ag 6) δ= .ok (iE o):=fun δ h1 h2=>ax (a:= .lst (os.map iE)) (b:=nI a) h1 h2 (NT.cf (by rw[List.getElem?_map,ho];rfl))
  by_cases h3:kd=3
  .rw [decide_eq_true h3];refine eO <| kU (by simp) <| Ms (d:=nI a) ((st511 os.length _ _ ho1 rfl (aw (ds:=[.lst (os.map iE)]) rfl (by rw[iF,List.length_map]))).trans (by rw[ha])) rfl ⟨_,rfl,?_⟩
   simp only[List.set];refine D_ <| Ms (d:=iE (o.1,o.2.drop 1++[0])) (eF (ds:=[.str o.1, .tup ((o.2.drop 1++[0]).map nI)]) (av (ax (a:=iE o) (b:= .int 0) (io _ rfl rfl) rfl rfl) (av (ax (a:= .tup ((o.2.drop 1).map nI)) (b:= .tup [nI 0]) (g:=rm) ?cut (eF (ds:=[nI 0]) rfl (by show 1<=sizeLine;omega)) ((z6 (by simp only[List.length_map,List.length_drop];show _+1<=_;omega)).trans (by rw[List.map_append];rfl))) rfl)) (by show 2<=sizeLine;omega)) (Au _) <| w_var rfl <| gu rfl ⟨_,2,(a:Int),os.map iE,a,rfl,rfl,rfl,rfl,NT.qQ (by rw[List.length_map];exact hal),gs,os.set a (o.1,o.2.drop 1++[0]),_,TN.Oc T ho (.inl rfl) (T.onm o (List.mem_of_getElem? ho)) ⟨by simp,by simp;omega,fun w hw=>?_⟩,⟨[],?_⟩,rfl,rfl,rfl,rfl⟩
   case cut=>
    unfold E6;rw[ax (a:=iE o) (b:= .int 1) (io _ rfl rfl) rfl rfl];show R.ok (D.tup (L2.cutD (o.2.map nI) (some 1) none))=_;rw[Jg]
   .rcases List.mem_append.mp hw with z | z
    .exact o3 w (List.mem_of_mem_drop z)
    .rw [List.mem_singleton.mp z];omega
   .rw [List.map_set];rfl
  .rw [decide_eq_false h3];refine eO <| kU (by simp) <| Ms (d:=nI a) ((st511 os.length _ _ ho1 rfl (aw (ds:=[.lst (os.map iE)]) rfl (by rw[iF,List.length_map]))).trans (by rw[ha])) rfl ⟨_,rfl,?_⟩
   simp only[List.set];have tds:∀l:List Str,j9 (l.map .str)=true:=fun l=>by
    induction l with
    | nil=>rfl
    | cons a l ih=>rw [List.map_cons];unfold j9;rw [ih];rfl
   refine eO <| kU (by simp) <| LP (ds:=(os.map (·.1)).map .str) (eX (ds:=os.map iE) (gM rfl) (by rw[List.length_map];omega) (by rw[List.map_map];exact NT.dv iE _ fun x hx=>⟨[.val (.str x.1), .val (.tup (x.2.map nI))],rfl,rfl,rfl⟩)) (tds _) ⟨_,rfl,?_⟩
   simp only[List.set];obtain⟨x,hx,hxm,hxn⟩:=sj Ny (ss:=os.map (·.1)) (by rw[List.length_map];show _ < 7;omega)
   refine D_ <| Ms (d:=iE (x,o.2)) (eF (ds:=[.str x, .tup (o.2.map nI)]) (av (ax (a:= .lst ((ZZ.filter fun s=>!(os.map (·.1)).contains s).map .str)) (b:= .int 0) (b8 (eX (ds:=ZZ.map .str) (gM (b8 (cF (ds:=ZZ.map .str) rfl (by show 7<=sizeLine;omega)))) (by show 7<=sizeLine;omega) (NT.nP (fun s=>!(os.map (·.1)).contains s) D.str D.str fun s _=>⟨[.val (.str s), .val (.lst ((os.map (·.1)).map .str))],rfl,dc (a:= .str s) (b:= .lst ((os.map (·.1)).map .str)) rfl rfl (Ds _ _),fun _=>rfl⟩))) rfl (NT.cf (z:=0) (by rw[List.getElem?_map,hx];rfl))) (av (ax (a:=iE o) (b:= .int 1) (io _ rfl rfl) rfl rfl) rfl)) (by show 2<=sizeLine;omega)) (Au _) <| w_var rfl <| gu rfl ⟨_,2,(a:Int),os.map iE,a,rfl,rfl,rfl,rfl,NT.qQ (by rw[List.length_map];exact hal),gs,os.set a (x,o.2),_,TN.Oc T ho (.inr hxn) (NX x hxm) ⟨o1,o2,o3⟩,⟨[.lst ((os.map (·.1)).map .str)],?_⟩,rfl,rfl,rfl,rfl⟩
   rw[List.map_set];rfl
end
end K07
end
section
namespace K07
open PySem PySem.Spec PyProof.Rows L2 L3 MT JT TX
section
variable {ins:YD} {gs:List Gt} {os:YE} {gn:List Str}
theorem Fg(T:TN ins gs os)(G:GN ins gs.length gn)(S:aP):W3 (iU [.d (.str (vS ins gs os gn))] S) fun v S1=>v= .tup [.loc (S.length+1), .loc (S.length+2), .loc (S.length+3)]/\∃d:Dr,d.ins=ins/\d.gs=gs/\d.os=os/\S1=iS S d:=by
 have h6:=T.i6;have h60:=T.g60;have ho6:=T.o6;have i1:=T.i1;have hl:((vR ins gs os gn).map (Str.join SP)).length=ins.length+gs.length+os.length:=by rw[List.length_map,vI T G]
 have hro:=yp T G;have hs:=sL (rs:=(vR ins gs os gn).map (Str.join SP)) (fun e=>by rw[e] at hl;simp only[List.length_nil] at hl;omega) hro
 unfold vS;rcases HF (S:=S) (text:=Str.join NL ((vR ins gs os gn).map (Str.join SP))) ⟨by have:=DP (by omega) hro;omega,fun c hc=>by have:=ER hro c hc;omega⟩ with⟨v,S1,e,d,hd,ok,hv,hS⟩ | ⟨c,S1,e,hc,_⟩
 .rw [hs,pk T G] at hd;cases hd;exact⟨v,S1,e,hv,_,rfl,rfl,rfl,hS⟩
 .rw [hs,pk T G] at hc;cases hc
theorem zA(T:TN ins gs os)(G:GN ins gs.length gn){S:aP}(hS:O8 S){Q:V3->aP->Prop}(h:Q (.d (cP ins gs os)) S):W3 (F9 iU [.d (.str (vS ins gs os gn))] S) Q:=by
 refine UY hS <| (Fg T G S).mono ?_
 rintro v S1 ⟨rfl,d,rfl,rfl,rfl,rfl⟩;have e1:(iS S d)[S.length+1]? =some (.lst (d.ins.map MT.inD)):=by rw[b5];rfl
 have e2:(iS S d)[S.length+2]? =some (.lst (d.gs.map dq)):=by rw[b5];rfl
 have e3:(iS S d)[S.length+3]? =some (.lst (d.os.map iE)):=by rw[b5];rfl
 refine⟨?_,⟨_,rfl⟩,cP d.ins d.gs d.os,?_,h⟩
 .simp [mh,n6]
 .simp only[res,wu,e1,e2,e3];rfl
end
end K07
end
section
namespace K07
open PySem PySem.Spec PyProof.Rows L2 L3 MT JT TX
theorem MF{p q:FB}{δ:DE}{S:aP}{Q:Bool->aP->Prop}(h:W3 (p δ S) fun b S1=>b=false/\W3 (q δ S1) Q):W3 (Ja p q δ S) Q:=by
 unfold Ja;exact W3.bind (h.mono fun b S1 ⟨e,h2⟩=>by subst e;exact h2)
section
variable {ins:YD} {gs lb:List Gt} {os la:YE} {gn L8:List Str}
theorem tT(T:TN ins gs os)(G:GN ins gs.length gn):t4 (Txt.split (vS ins gs os gn) NL)= .ok ⟨ins,gs,os,ins.map (·.1)++gn,gL ins++gn⟩:=by
 have i1:=T.i1;have hl:((vR ins gs os gn).map (Str.join TX.SP)).length=ins.length+gs.length+os.length:=by rw[List.length_map,vI T G]
 unfold vS;rw[sL (rs:=(vR ins gs os gn).map (Str.join TX.SP)) (fun e=>by rw[e] at hl;simp only[List.length_nil] at hl;omega) (yp T G)]
 exact pk T G
theorem HX(T:TN ins gs os)(G:GN ins gs.length gn)(T':TN ins lb la)(G':GN ins lb.length L8)(h:vS ins lb la L8=vS ins gs os gn):lb=gs/\la=os:=by
 have a:=tT T G;have b:=tT T' G';rw[h,a] at b;have e:=Except.ok.inj b;exact⟨(congrArg Dr.gs e).symm,(congrArg Dr.os e).symm⟩
end
theorem Fb(ns:List Int)(hn:ns.length<=63):A3 [.lst (ns.map D.int)]= .ok (.bl true):=by
 have hz:sizeLine=16777216:=sizeLine_eq;have f0:Flat ([]:aP):=Flat.nil;obtain⟨Cm,gs,os,hnet,T0,_⟩:=Lz ns;obtain⟨ins,hstr,OB,Mb,Jz⟩:=zh (ins:=Cm) (ns.getD 0 0) T0.i6 T0.ind T0.inm;have hl:ins.length=Cm.length:=by have:=congrArg List.length OB;rwa [List.length_map,List.length_map] at this
 have hwd:jA ins=jA Cm:=by unfold jA;rw [OB]
 have T:TN ins gs os:=by
  refine⟨by rw[hl];exact T0.i1,by rw[hl];exact T0.i6,fun x hx=>?_,Mb,Jz,T0.g60,by rw[hwd];exact T0.gok,T0.o1,T0.o6,T0.ond,T0.onm,by rw[hwd];exact T0.ow⟩
  have:x.2∈Cm.map (·.2):=by rw[<-OB];exact List.mem_map_of_mem hx
  obtain⟨y,hy,e⟩:=List.mem_map.mp this;rw[<-e];exact T0.iw y hy
 obtain⟨gn,G,hsh⟩:=wq T;have key:W3 (ye qb sH [.d (.lst (ns.map .int))] []) fun v S1=>v= .d (.bl true)/\S1=[]:=by
  refine IV f0.ML (TK rfl ?_);simp only[dE,qb,List.map,List.length,List.replicate,List.cons_append,List.nil_append,Nat.reduceAdd,Nat.reduceSub];unfold sH;refine eO <| EF <| gu (d:=cP Cm gs os) (aw (ds:=[.lst (ns.map .int)]) rfl hnet) ⟨_,rfl,⟨_,rfl,?_⟩⟩
  simp only[List.set];refine eO <| kU (by simp) <| gu (d:=cP ins gs os) (eF (ds:=[.lst (ins.map MT.inD), .lst (gs.map dq), .lst (os.map iE)]) (av (aw (ds:=[.int (ns.getD 0 0), .lst (Cm.map MT.inD)]) (av (aw (ds:=[.lst (ns.map .int),nI 0]) rfl (vH ns 0)) rfl) hstr) rfl) (by show 3<=sizeLine;omega)) ⟨_,rfl,?_⟩
  simp only[List.set];refine eO <| kU (by simp) <| gu (d:= .str (vS ins gs os gn)) (aw (ds:=[cP ins gs os]) rfl hsh) ⟨_,rfl,?_⟩
  simp only[List.set];refine eO <| KI <| MF <| E7 <| vd <| pS <| b0 <| gu rfl <| fM <| zA T G f0.ML <| gu rfl ⟨_,_,false,rfl,rfl,LZ T,rfl,E7 <| z7 <| b0 <| vd <| pS <| b0 <| gu rfl <| fM <| zA T G f0.ML <| fM ⟨[cP ins gs os],_,rfl,hsh,gu rfl ⟨_,_,false,rfl,rfl,?_,JS ⟨_,rfl,?_⟩⟩⟩⟩
  .show R.ok (D.bl (!decide (vS ins gs os gn=vS ins gs os gn)))=_;rw[decide_eq_true rfl];rfl
  refine eO <| kU (by simp) <| vd <| b0 <| gu (d:= .int (ns.getD 1 0)) (aw (ds:=[.lst (ns.map .int),nI 1]) rfl (vH ns 1)) <| b0 <| gu (d:=cP ins gs os) rfl <| fM <| DJ T _ fun lb la T'=>⟨_,rfl,?_⟩
  simp only[List.set];obtain⟨L8,G',Il⟩:=wq T';have same:decide (vS ins lb la L8=vS ins gs os gn)=decide (lb=gs/\la=os):=by
   refine decide_eq_decide.mpr ⟨fun e=>HX T G T' G' e,fun⟨e1,e2⟩=>?_⟩
   subst e1 e2;rw[hsh] at Il;exact(D.str.inj (R.ok.inj Il)).symm
  refine AB <| w_and <| gu (d:= .bl true) (ax (a:= .bl (decide (vS ins lb la L8=vS ins gs os gn))) (b:= .bl (decide (lb=gs/\la=os))) (ax (a:= .str (vS ins lb la L8)) (b:= .str (vS ins gs os gn)) (aw (ds:=[cP ins lb la]) rfl Il) rfl rfl) (ax (a:=cP ins lb la) (b:=cP ins gs os) rfl rfl (GO T' T)) ?_) ⟨rfl,Tu <| vd <| pS <| b0 <| gu (d:= .str (vS ins lb la L8)) (aw (ds:=[cP ins lb la]) rfl Il) <| fM <| zA T' G' f0.ML <| gu rfl ⟨_,_,_,rfl,rfl,EM T',_,rfl,rfl,⟨_,rfl⟩,_,rfl,rfl,trivial⟩⟩
  rw[same];cases decide (lb=gs/\la=os) <;> rfl
 obtain⟨v,S1,e1,qt,e3⟩:=key;unfold A3 Pe;show(match ye qb sH ([D.lst (ns.map D.int)].map V3.d) [] with | .ok (.d d) []=>R.aS d.atom (R.ok d) | _=> .no)=_
 rw[show [D.lst (ns.map D.int)].map V3.d=[V3.d (.lst (ns.map .int))] from rfl,e1,qt,e3]
 rfl
end K07
end
open PySem PySem.W PyProof.Rows
set_option maxRecDepth 100000 in
set_option maxHeartbeats 0 in
theorem PySem.Challenge.cw_bearfaults_k07_whole_shown_read_again_holds : PySem.Challenge.rw_bearfaults_k07_whole_shown_read_again.Holds := by
 w_on;o_law;k_head;(case hw=>w_witness2)
 k_fill
 refine L2.Nh (l:=PySem.Challenge.rw_bearfaults_k07_whole_shown_read_again) (n:=63) (k:=7) (x:="script") (g:=K07.A3) rfl (by decide) rfl ⟨rfl,by decide,by decide⟩ (fun w h Y=>PySem.W.kIn_of Y) ?F K07.Fb
 case F=>
  intro w mg fa h KX G OD
  have p9:L2.Def (L2.dN KX) mg "is_name" K07.j6:=by
   dsimp only[L2.dN]
   refine' L2.cL KX G ?a ?l ?c ?k
   (case a=>k_is);(case l=>k_is);(case c=>k_is);(case k=>k_is)
  have nY:L2.Def (L2.dN KX) mg "in_wires" K07.i7:=by
   dsimp only[L2.dN]
   refine' L2.cL KX G ?a ?l ?c ?k
   (case a=>k_is);(case l=>k_is);(case c=>k_is);(case k=>k_is)
  have jx:L2.Def (L2.dN KX) mg "is_wire_form" K07.d9:=by
   dsimp only[L2.dN]
   refine' L2.cL KX G ?a ?l ?c ?k
   (case a=>k_is);(case l=>k_is);(case c=>k_is);(case k=>k_is)
  have gU:L2.Def (L2.dN KX) mg "are_wire_forms" K07.dj:=by
   dsimp only[L2.dN]
   refine' L2.cL KX G ?a ?l ?c ?k
   (case a=>k_is);(case l=>k_is);(case c=>k_is);(case k=>k_is)
  have kK:L2.Def (L2.dN KX) mg "is_in_form" K07.fY:=by
   dsimp only[L2.dN]
   refine' L2.cL KX G ?a ?l ?c ?k
   (case a=>k_is);(case l=>k_is);(case c=>k_is);(case k=>k_is)
  have jt:L2.Def (L2.dN KX) mg "is_gate_form" K07.dQ:=by
   dsimp only[L2.dN]
   refine' L2.cL KX G ?a ?l ?c ?k
   (case a=>k_is);(case l=>k_is);(case c=>k_is);(case k=>k_is)
  have jT:L2.Def (L2.dN KX) mg "is_out_form" K07.eY:=by
   dsimp only[L2.dN]
   refine' L2.cL KX G ?a ?l ?c ?k
   (case a=>k_is);(case l=>k_is);(case c=>k_is);(case k=>k_is)
  have nX:L2.Def (L2.dN KX) mg "read_row" K07.i5:=by
   dsimp only[L2.dN]
   refine' L2.cL KX G ?a ?l ?c ?k
   (case a=>k_is);(case l=>k_is);(case c=>k_is);(case k=>k_is)
  have zP:L2.Def (L2.dN KX) mg "read" K07.rS:=by
   dsimp only[L2.dN]
   refine' L2.cL KX G ?a ?l ?c ?k
   (case a=>k_is);(case l=>k_is);(case c=>k_is);(case k=>k_is)
  have kO:L2.Def (L2.dN KX) mg "letters_of" K07.fR:=by
   dsimp only[L2.dN]
   refine' L2.cL KX G ?a ?l ?c ?k
   (case a=>k_is);(case l=>k_is);(case c=>k_is);(case k=>k_is)
  have mn:L2.Def (L2.dN KX) mg "gate_name" K07.ij:=by
   dsimp only[L2.dN]
   refine' L2.cL KX G ?a ?l ?c ?k
   (case a=>k_is);(case l=>k_is);(case c=>k_is);(case k=>k_is)
  have n0:L2.Def (L2.dN KX) mg "gate_row" K07.jc:=by
   dsimp only[L2.dN]
   refine' L2.cL KX G ?a ?l ?c ?k
   (case a=>k_is);(case l=>k_is);(case c=>k_is);(case k=>k_is)
  have p6:L2.Def (L2.dN KX) mg "out_row" K07.kg:=by
   dsimp only[L2.dN]
   refine' L2.cL KX G ?a ?l ?c ?k
   (case a=>k_is);(case l=>k_is);(case c=>k_is);(case k=>k_is)
  have vQ:L2.Def (L2.dN KX) mg "shown" K07.o8:=by
   dsimp only[L2.dN]
   refine' L2.cL KX G ?a ?l ?c ?k
   (case a=>k_is);(case l=>k_is);(case c=>k_is);(case k=>k_is)
  have jS:L2.Def (L2.dN KX) mg "_law_cell_at" K07.eZ:=by
   dsimp only[L2.dN]
   refine' L2.cL KX G ?a ?l ?c ?k
   (case a=>k_is);(case l=>k_is);(case c=>k_is);(case k=>k_is)
  have nS:L2.Def (L2.dN KX) mg "_law_stir" K07.jk:=by
   dsimp only[L2.dN]
   refine' L2.cL KX G ?a ?l ?c ?k
   (case a=>k_is);(case l=>k_is);(case c=>k_is);(case k=>k_is)
  have mr:L2.Def (L2.dN KX) mg "_law_names" K07.ib:=by
   dsimp only[L2.dN]
   refine' L2.cL KX G ?a ?l ?c ?k
   (case a=>k_is);(case l=>k_is);(case c=>k_is);(case k=>k_is)
  have mj:L2.Def (L2.dN KX) mg "_law_wires" K07.iy:=by
   dsimp only[L2.dN]
   refine' L2.cL KX G ?a ?l ?c ?k
   (case a=>k_is);(case l=>k_is);(case c=>k_is);(case k=>k_is)
  have nU:L2.Def (L2.dN KX) mg "_law_gate" K07.ji:=by
   dsimp only[L2.dN]
   refine' L2.cL KX G ?a ?l ?c ?k
   (case a=>k_is);(case l=>k_is);(case c=>k_is);(case k=>k_is)
  have p7:L2.Def (L2.dN KX) mg "_law_net" K07.jZ:=by
   dsimp only[L2.dN]
   refine' L2.cL KX G ?a ?l ?c ?k
   (case a=>k_is);(case l=>k_is);(case c=>k_is);(case k=>k_is)
  have gf:L2.Def (L2.dN KX) mg "_law_strange_ins" K07.c2:=by
   dsimp only[L2.dN]
   refine' L2.cL KX G ?a ?l ?c ?k
   (case a=>k_is);(case l=>k_is);(case c=>k_is);(case k=>k_is)
  have mq:L2.Def (L2.dN KX) mg "_law_other" K07.hX:=by
   dsimp only[L2.dN]
   refine' L2.cL KX G ?a ?l ?c ?k
   (case a=>k_is);(case l=>k_is);(case c=>k_is);(case k=>k_is)
  have D_law:L2.Def (L2.dN KX) mg "law" K07.Ao:=by
   dsimp only[L2.dN]
   refine' L2.cL KX G ?a ?l ?c ?k
   (case a=>k_is);(case l=>k_is);(case c=>k_is);(case k=>k_is)
  have sP:L2.Glob (L2.dN KX) mg "MOST_LETTERS" K07.d6:=by
   dsimp only[L2.dN]
   refine' L2.j_ KX G ?a
   (case a=>k_is)
  have FP:L2.Glob (L2.dN KX) mg "BARRED" K07.f7:=by
   dsimp only[L2.dN]
   refine' L2.xr KX G ["in","gate","sure","out","not","and","or","xor","vote"] ?a ?l ?c ?d ?z ?r
   (case a=>k_is);(case l=>k_is);(case c=>rfl);(case d=>rfl);(case z=>decide);(case r=>exact .cons ⟨_,rfl⟩ (.cons ⟨_,rfl⟩ (.cons ⟨_,rfl⟩ (.cons ⟨_,rfl⟩ (.cons ⟨_,rfl⟩ (.cons ⟨_,rfl⟩ (.cons ⟨_,rfl⟩ (.cons ⟨_,rfl⟩ (.cons ⟨_,rfl⟩ (.nil))))))))))
  have Cg:L2.Glob (L2.dN KX) mg "LETTERS" K07.bw:=by
   dsimp only[L2.dN]
   refine' L2.Dj KX G ?a
   (case a=>k_is)
  have Ce:L2.Glob (L2.dN KX) mg "FIGURES" K07.jW:=by
   dsimp only[L2.dN]
   refine' L2.xr KX G ["0","1","2","3","4","5","6","7","8","9"] ?a ?l ?c ?d ?z ?r
   (case a=>k_is);(case l=>k_is);(case c=>rfl);(case d=>rfl);(case z=>decide);(case r=>exact .cons ⟨_,rfl⟩ (.cons ⟨_,rfl⟩ (.cons ⟨_,rfl⟩ (.cons ⟨_,rfl⟩ (.cons ⟨_,rfl⟩ (.cons ⟨_,rfl⟩ (.cons ⟨_,rfl⟩ (.cons ⟨_,rfl⟩ (.cons ⟨_,rfl⟩ (.cons ⟨_,rfl⟩ (.nil)))))))))))
  have p8:L2.Glob (L2.dN KX) mg "MOST_OUT_WIRES" K07.dg:=by
   dsimp only[L2.dN]
   refine' L2.j_ KX G ?a
   (case a=>k_is)
  have zK:L2.Glob (L2.dN KX) mg "MOST_INS" K07.i8:=by
   dsimp only[L2.dN]
   refine' L2.j_ KX G ?a
   (case a=>k_is)
  have vO:L2.Glob (L2.dN KX) mg "MOST_GATES" K07.fX:=by
   dsimp only[L2.dN]
   refine' L2.j_ KX G ?a
   (case a=>k_is)
  have x_:L2.Glob (L2.dN KX) mg "MOST_OUTS" K07.h_:=by
   dsimp only[L2.dN]
   refine' L2.j_ KX G ?a
   (case a=>k_is)
  have xY:L2.Glob (L2.dN KX) mg "MOST_ROWS" K07.iq:=by
   dsimp only[L2.dN]
   refine' L2.j_ KX G ?a
   (case a=>k_is)
  have Ck:L2.lI PySem.Challenge.rw_bearfaults_k07_whole_shown_read_again.prog w (L2.dN KX) mg "WIDTHS" K07.mJ:=by
   dsimp only[L2.dN]
   refine' L2.wY KX G [("1",_,1,_),("2",_,2,_),("3",_,3,_)] ?a ?l ?s ?k ?d ?m ?z
   (case a=>k_is);(case l=>k_is);(case s=>rfl);(case k=>rfl);(case d=>decide);(case m=>rfl);(case z=>decide)
  have tK:L2.lI PySem.Challenge.rw_bearfaults_k07_whole_shown_read_again.prog w (L2.dN KX) mg "KIND_WIRES" K07.g9:=by
   dsimp only[L2.dN]
   refine' L2.wY KX G [("not",_,1,_),("and",_,2,_),("or",_,2,_),("xor",_,2,_),("vote",_,3,_)] ?a ?l ?s ?k ?d ?m ?z
   (case a=>k_is);(case l=>k_is);(case s=>rfl);(case k=>rfl);(case d=>decide);(case m=>rfl);(case z=>decide)
  obtain⟨cl,CF⟩:∃cl,K07.Cf (L2.dN KX) mg cl:=by
   dsimp only[L2.dN]
   refine' K07.Nv KX G ?RW ?Sa ?RF ?Sk ?RK ?Rf ?Sr ?zN ?sO ?vN ?sN ?kM ?nW ?Rk ?Ry ?Rh ?RL ?SJ ?S6 ?SA ?RA ?S5 ?RU ?SR ?Ss ?R6 ?Sb ?Sz ?RQ ?RC ?Ri ?S8 ?RN ?SQ ?RB ?Rm ?RS ?SH ?Sj ?SD ?Rn ?S7 ?Rj ?Rx ?RM ?RY ?Si ?Sq ?Rc ?Sy ?SK ?RJ ?SM ?SU ?Rt ?Rg ?SN ?S9 ?Ru ?Sd ?SG ?So ?R5 ?RD ?Sn ?Sg ?Sv ?RX ?Rv ?Rq ?Iw ?Iq ?js ?jq ?jw ?dP ?gc ?er ?el ?eo ?cj ?c5 ?gW ?gS ?gZ ?di ?eL ?iQ ?iM ?iO ?dz ?fq ?gP ?g6 ?gQ ?df ?gR
   (case RW=>k_is)
   (case Sa=>k_is)
   (case RF=>k_is)
   (case Sk=>k_is)
   (case RK=>k_is)
   (case Rf=>k_is)
   (case Sr=>k_is)
   (case zN=>k_is)
   (case sO=>k_is)
   (case vN=>k_is)
   (case sN=>k_is)
   (case kM=>k_is)
   (case nW=>k_is)
   (case Rk=>k_is)
   (case Ry=>k_is)
   (case Rh=>k_is)
   (case RL=>k_is)
   (case SJ=>k_is)
   (case S6=>k_is)
   (case SA=>k_is)
   (case RA=>k_is)
   (case S5=>kernel_rfl)
   (case RU=>k_is)
   (case SR=>k_is)
   (case Ss=>k_is)
   (case R6=>k_is)
   (case Sb=>k_is)
   (case Sz=>kernel_rfl)
   (case RQ=>kernel_rfl)
   (case RC=>k_is)
   (case Ri=>k_is)
   (case S8=>k_is)
   (case RN=>k_is)
   (case SQ=>k_is)
   (case RB=>kernel_rfl)
   (case Rm=>kernel_rfl)
   (case RS=>k_is)
   (case SH=>k_is)
   (case Sj=>k_is)
   (case SD=>k_is)
   (case Rn=>k_is)
   (case S7=>kernel_rfl)
   (case Rj=>kernel_rfl)
   (case Rx=>k_is)
   (case RM=>k_is)
   (case RY=>k_is)
   (case Si=>k_is)
   (case Sq=>k_is)
   (case Rc=>kernel_rfl)
   (case Sy=>kernel_rfl)
   (case SK=>k_is)
   (case RJ=>k_is)
   (case SM=>k_is)
   (case SU=>k_is)
   (case Rt=>k_is)
   (case Rg=>kernel_rfl)
   (case SN=>kernel_rfl)
   (case S9=>k_is)
   (case Ru=>k_is)
   (case Sd=>k_is)
   (case SG=>k_is)
   (case So=>k_is)
   (case R5=>kernel_rfl)
   (case RD=>kernel_rfl)
   (case Sn=>k_is)
   (case Sg=>k_is)
   (case Sv=>k_is)
   (case RX=>k_is)
   (case Rv=>k_is)
   (case Rq=>kernel_rfl)
   (case Iw=>k_is)
   (case Iq=>k_is)
   (case js=>k_is)
   (case jq=>k_is)
   (case jw=>k_is)
   (case dP=>k_is)
   (case gc=>k_is)
   (case er=>k_is)
   (case el=>k_is)
   (case eo=>k_is)
   (case cj=>k_is)
   (case c5=>k_is)
   (case gW=>k_is)
   (case gS=>k_is)
   (case gZ=>k_is)
   (case di=>k_is)
   (case eL=>k_is)
   (case iQ=>k_is)
   (case iM=>k_is)
   (case iO=>k_is)
   (case dz=>k_is)
   (case fq=>k_is)
   (case gP=>k_is)
   (case g6=>k_is)
   (case gQ=>k_is)
   (case df=>k_is)
   (case gR=>k_is)
  have ei:=CF.ei
  have cu:=CF.cu
  have dn:=CF.dn
  have dD:=CF.dD
  have dm:=CF.dm
  have T:K07.Tp PySem.Challenge.rw_bearfaults_k07_whole_shown_read_again.prog w (L2.dN KX) mg cl:=by
   dsimp only[L2.dN]
   refine' ⟨PySem.W.mg_none_of KX G ?z_len,PySem.W.mg_none_of KX G ?z_all,PySem.W.mg_none_of KX G ?z_range,PySem.W.mg_none_of KX G ?z_tuple,PySem.W.mg_none_of KX G ?z_enumerate,PySem.W.mg_none_of KX G ?z_min,PySem.W.mg_none_of KX G ?z_int,PySem.W.mg_none_of KX G ?z_sum,PySem.W.mg_none_of KX G ?z_list,sP,FP,Cg,Ce,p8,zK,vO,x_,xY,Ck,tK,CF.C_Draft,CF.N_Draft_ins,CF.N_Draft_gates,CF.N_Draft_outs,CF.N_Draft_names,CF.N_Draft_out_names,CF.N_Draft_numbers,CF.M_Draft,CF.M_FaultError,CF.M_TooLong,CF.M_NoForm,CF.M_NoPlace,CF.M_Twice,CF.M_Full,CF.M_NoWire,CF.M_Open,CF.X_TooLong,CF.X_NoForm,CF.X_NoPlace,CF.X_Twice,CF.X_Full,CF.X_NoWire,CF.X_Open⟩
   (case z_len=>k_is);(case z_all=>k_is);(case z_range=>k_is);(case z_tuple=>k_is);(case z_enumerate=>k_is);(case z_min=>k_is);(case z_int=>k_is);(case z_sum=>k_is);(case z_list=>k_is)
  obtain⟨fl,fd,Fl,hl⟩:=D_law
  have e0:=OD.symm.trans hl
  cases e0
  refine' ⟨fd,?b,fun base kb nb=>K07.Ky T p9 nY jx gU kK jt jT ei cu dn dD nX dm zP kO mn n0 p6 vQ jS nS mr mj nU p7 gf mq Fl⟩
  obtain⟨_,_,_,_,_,_,_,_,_,e,_,_⟩:=Fl.ex
  subst e
  exact fun s u=> .of_eq rfl
