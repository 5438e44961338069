import PyProof.Rows.All
import Wide.All
import OpenK.AllK
import Wide.FinOn
import Lean
import PyProof.EqAt
import PyProof.EqKinds
import PyProof.TupleCall
import PyProof.Rows.StrJoin2
import PyProof.TupleOfGen
import PyProof.ListRange
import PyProof.Draws
import PyProof.Rows.StrClose3
import KE.KSortedM
import PyProof.Rows.SortWalk
import PyProof.WalkInts
import PyProof.Rows.Range3
import PyProof.ZipIter
import PyProof.ConsumeWalk
import PyProof.Rows.SeqMore
import KE.KRevIter
import KE.KRevSl
import KE.KUnpack
import PySem.Challenge.RW_bearfaults_k15_what_each_alone_does
noncomputable section
set_option bootstrap.genMatcherCode false
def PySem.W.Fast.tw7216389793740997813:=0
def PySem.W.Fast.tw14095868734172523819:=0
def PySem.W.Fast.tw12401964281171032272:=0
def PySem.W.Fast.tw3749626436456089613:=0
def PySem.W.Fast.tw3074522453339376268:=0
def PySem.W.Fast.tw7096911941379862302:=0
def PySem.W.Fast.tw8818078000468331274:=0
def PySem.W.Fast.tw8290761295355812236:=0
def PySem.W.Fast.tw7987825122893700276:=0
def PySem.W.Fast.tw14652881148014373492:=0
def PySem.W.Fast.tw6758013337257799691:=0
def PySem.W.Fast.tw14461582225257178275:=0
def PySem.W.Fast.tw9398175454407546383:=0
def PySem.W.Fast.tw11459112486716345878:=0
def PySem.W.Fast.tw7674103518208468427:=0
def PySem.W.Fast.tw4410385133189363941:=0
def PySem.W.Fast.tw9725301926694215296:=0
def PySem.W.Fast.tw16281058386106165619:=0
def PySem.W.Fast.tw6135614348859132659:=0
def PySem.W.Fast.tw14525378981406152545:=0
def PySem.W.Fast.tw5982110221243276802:=0
def PySem.W.Fast.tw5501336257939248288:=0
def PySem.W.Fast.tw4026139631142494069:=0
def PySem.W.Fast.tw18075084007306619423:=0
def PySem.W.Fast.tw972950712430320691:=0
def PySem.W.Fast.tw3369008344325114161:=0
def PySem.W.Fast.tw16547011858974628161:=0
def PySem.W.Fast.tw10518420301142828402:=0
def PySem.W.Fast.tw15849374604952290774:=0
def PySem.W.Fast.tw3059129855753413920:=0
def PySem.W.Fast.tw10582482821740419663:=0
def PySem.W.Fast.tw4213016406425357146:=0
def PySem.W.Fast.tw1947603933255833375:=0
def PySem.W.Fast.tw8281547516528987787:=0
def PySem.W.Fast.tw6629551649582494822:=0
def PySem.W.Fast.tw2863489367453039709:=0
def PySem.W.Fast.tw16944380971207652384:=0
def PySem.W.Fast.tw5667747681213927217:=0
def PySem.W.Fast.tw2466889904712453608:=0
def PySem.W.Fast.tw5030056691428531355:=0
set_option Elab.async false
set_option linter.all false
set_option maxRecDepth 100000
set_option maxHeartbeats 4000000
section
set_option maxRecDepth 100000
namespace L2
open PySem PySem.Spec PyProof.Rows
noncomputable abbrev Key:=Sum Int Str
noncomputable def su:Key→Value→Bool
 | .inl k,v=>Value.isInt k v
 | .inr x,v=>Value.isStrOf x v
noncomputable def Jf(w:World):Key→Int
 | .inl k=>hashInt k
 | .inr x=>hashStr w x
theorem dm:∀{k:Key} {v:Value},su k v=true→(∃i t,k=Sum.inl i∧v=Value.int i t)∨(∃x t,k=Sum.inr x∧v=Value.str x t)
 | .inl i,v,h=>by
   obtain⟨t,e⟩:=Value.isInt_shape (k:=i) (v:=v) h
   exact .inl ⟨i,t,rfl,e⟩
 | .inr x,v,h=>by
   obtain⟨t,e⟩:=Value.isStrOf_shape (x:=x) (v:=v) h
   exact .inr ⟨x,t,rfl,e⟩
theorem y1(i:Int)(t:Tok):su (.inl i) (.int i t)=true:=by simp [su,Value.isInt]
theorem yC(x:Str)(t:Tok):su (.inr x) (.str x t)=true:=by simp [su,Value.isStrOf]
theorem EW(a b:Int):decide ((Sum.inl a:Key)=Sum.inl b)=(a==b):=by
 by_cases e:a=b
 ·subst e;simp
 ·have h:¬(Sum.inl a:Key)=Sum.inl b:=fun q=>e (Sum.inl.inj q)
  rw[decide_eq_false h]
  exact(beq_eq_false_iff_ne.mpr e).symm
theorem Gd(a b:Str):decide ((Sum.inr a:Key)=Sum.inr b)=decide (a=b):=by
 by_cases e:a=b
 ·subst e;simp
 ·have h:¬(Sum.inr a:Key)=Sum.inr b:=fun q=>e (Sum.inr.inj q)
  rw[decide_eq_false h,decide_eq_false e]
theorem Gb(a:Int)(b:Str):decide ((Sum.inl a:Key)=Sum.inr b)=false:=decide_eq_false (fun q=>nomatch q)
theorem F0(a:Str)(b:Int):decide ((Sum.inr a:Key)=Sum.inl b)=false:=decide_eq_false (fun q=>nomatch q)
noncomputable def dn(prog:Program)(w:World):PySem.KeyKind prog w Key where
 is:=su
 hash:=Jf w
 inj:=fun v a b ha hb=>by
  rcases dm ha with⟨i,t,rfl,rfl⟩ | ⟨x,t,rfl,rfl⟩
  ·rcases dm hb with⟨j,u,rfl,e⟩ | ⟨y,u,rfl,e⟩
   ·injection e with e1 _;rw [e1]
   ·exact nomatch e
  ·rcases dm hb with⟨j,u,rfl,e⟩ | ⟨y,u,rfl,e⟩
   ·exact nomatch e
   ·injection e with e1 _;rw [e1]
 byValue:=fun k v h=>by
  rcases dm h with⟨i,t,rfl,rfl⟩ | ⟨x,t,rfl,rfl⟩ <;> rfl
 pyHash:=fun hv h=>by
  rcases dm hv with⟨i,t,rfl,rfl⟩ | ⟨x,t,rfl,rfl⟩
  ·exact wpAny_pyHash_int h
  ·exact wpAny_pyHash_str h
 eqBool:=fun hu hv h=>by
  rcases dm hu with⟨i,t,rfl,rfl⟩ | ⟨x,t,rfl,rfl⟩
  ·rcases dm hv with⟨j,u,rfl,rfl⟩ | ⟨y,u,rfl,rfl⟩
   ·rw[EW] at h;exact wpAny_eqBool_int h
   ·rw[Gb] at h;exact SeqAt.EqAt.int_str i t y u _ _ _ _ h
  ·rcases dm hv with⟨j,u,rfl,rfl⟩ | ⟨y,u,rfl,rfl⟩
   ·rw[F0] at h;exact SeqAt.EqAt.str_int x t j u _ _ _ _ h
   ·rw[Gd] at h;exact wpAny_eqBool_str h
 «strs»:=fun k x t v h=>by
  rcases dm h with⟨i,u,rfl,e⟩ | ⟨y,u,rfl,e⟩
  ·exact nomatch e
  ·injection e with e1 _
   subst e1
   cases v <;> rfl
theorem uv(prog:Program)(w:World)(i:Int)(t:Tok):(dn prog w).is (.inl i) (.int i t)=true:=y1 i t
theorem uH(prog:Program)(w:World)(x:Str)(t:Tok):(dn prog w).is (.inr x) (.str x t)=true:=yC x t
end L2
namespace L2
open PySem PySem.Spec PyProof.Rows
inductive V where
 | cq | bl (b:Bool) | int (i:Int) | str (x:Str) | byt (b:Array UInt8) | flt (b:UInt64) | ref (a:Addr) | ty (n:String)
 deriving DecidableEq
noncomputable def RelV:V→Value→Prop
 | .cq,u=>u=Value.none
 | .bl b,u=>u=Value.bool b
 | .int i,u=>∃t,u=Value.int i t
 | .str x,u=>∃t,u=Value.str x t
 | .byt b,u=>∃t,u=Value.bytes b t
 | .flt b,u=>∃t,u=Value.float b t
 | .ref a,u=>u=Value.ref a
 | .ty n,u=>u=Value.type n
noncomputable abbrev Vals:List V→List Value→Prop:=Paired RelV
theorem Vals.length{xs:List V}{us:List Value}(r:Vals xs us):xs.length=us.length:=Paired.length r
theorem Vals.get:∀{xs:List V} {us:List Value} {i:Nat} {x:V},Vals xs us→xs[i]? =some x→∃u,us[i]? =some u∧RelV x u
 | _,_,_,_, .nil,e=>by simp at e
 | _,_,0,_, .cons r _,e=>by simp at e;subst e;exact⟨_,rfl,r⟩
 | _,_,i+1,x, .cons _ t,e=>by
   obtain⟨u,h1,h2⟩:=Vals.get (i:=i) (x:=x) t (by simpa using e)
   exact⟨u,by simpa using h1,h2⟩
theorem Vals.set{x:V}{u:Value}(r:RelV x u):∀{xs:List V} {us:List Value} (i:Nat),Vals xs us→Vals (xs.set i x) (us.set i u)
 | _,_,_, .nil=> .nil
 | _,_,0, .cons _ t=> .cons r t
 | _,_,i+1, .cons q t=> .cons q (Vals.set r i t)
theorem Vals.append:∀{xs ys:List V} {us ws:List Value},Vals xs us→Vals ys ws→Vals (xs++ys) (us++ws)
 | _,_,_,_, .nil,s=>s
 | _,_,_,_, .cons r t,s=> .cons r (Vals.append t s)
theorem Vals.take:∀{xs:List V} {us:List Value} (n:Nat),Vals xs us→Vals (xs.take n) (us.take n)
 | _,_,0,_=> .nil
 | _,_,_+1, .nil=> .nil
 | _,_,n+1, .cons r t=> .cons r (Vals.take n t)
theorem Vals.drop:∀{xs:List V} {us:List Value} (n:Nat),Vals xs us→Vals (xs.drop n) (us.drop n)
 | _,_,0,r=>r
 | _,_,_+1, .nil=> .nil
 | _,_,n+1, .cons _ t=>Vals.drop n t
noncomputable def mU:Option V→Option Value→Prop
 | some v,some u=>RelV v u
 | none,none=>True
 | _,_=>False
noncomputable def KV{κ:Type}:List (κ × V)→List (κ × Value)→Prop:=Paired fun(p:κ × V) (q:κ × Value)=>p.1=q.1∧RelV p.2 q.2
noncomputable def kV:Key→V
 | .inl i=> .int i
 | .inr x=> .str x
inductive HO where
 | lst (xs:List V)
 | tup (xs:List V)
 | dK (kvs:List (Key × V)) | dT (kvs:List (List Key × V))
 | set (S:Int→Bool) (n:Nat)
 | ins (C dx:Addr) (fs:List (Str × V))
 | own (x:Addr)
 | xd (fs:List (Str × V))
 | met (f x:Addr)
 | rng (lo hi:Int)
 | ik (o:Obj) (u:HO)
 | tbl (ps:Array Value)
 | ext (φ:Heap→Prop)
noncomputable abbrev Hp:=Addr→Option HO
noncomputable def upd(H:Hp)(a:Addr)(o:HO):Hp:=fun b=>if b=a then some o else H b
theorem bb{H:Hp}{a:Addr}{o:HO}:upd H a o a=some o:=by unfold upd;rw [if_pos rfl]
theorem bg{H:Hp}{a b:Addr}{o:HO}(h:b≠a):upd H a o b=H b:=by unfold upd;rw [if_neg h]
theorem CA{H:Hp}{a:Addr}{o u:HO}:upd (upd H a o) a u=upd H a u:=by
 funext b;unfold upd;split <;> rfl
theorem cj{H:Hp}{a b:Addr}{o:HO}(h:H a=some o)(h':H b=none):a≠b:=by
 intro e;subst e;rw [h] at h';cases h'
section
variable (P:Program) (w:World)
noncomputable def dU(H:Hp)(h:Heap)(a:Addr):HO→Prop
 | .lst xs=>xs.length≤sizeLine∧∃(its:List Value) (n:Nat),Vals xs its∧h.get? a=some {cls:= .type "list",data:= .seq its.toArray n}
 | .tup xs=>xs.length≤sizeLine∧∃its:List Value,Vals xs its∧IsTup h a its.toArray
 | .dK kvs=>kvs.length≤sizeLine∧(a==sysModules)=false∧∃vs,KV kvs vs∧h.DictOf (dn P w) a vs
 | .dT kvs=>kvs.length≤sizeLine∧(a==sysModules)=false∧∃xs:List (List Key × Addr × Value),
    Paired (fun(p:List Key × V) (q:List Key × Addr × Value)=>p.1=q.1∧H q.2.1=some (.tup (p.1.map kV))∧RelV p.2 q.2.2) kvs xs∧
    ∃o es ep,h.get? a=some o∧o.ExactDict∧o.data= .dict es ep∧es.toList=xs.map (entryOfKey (tupleKind (dn P w)))∧(xs.map (·.1)).Nodup
 | .set S n=>h.SetOf (intKind P w) a S n
 | .ins C dx fs=>H dx=some (.own a)∧fs.length≤1000∧dx≠a∧h.get? a=some (PySem.W.instObj C dx)∧
    ∃mA,h.Ns1 dx mA∧(∀f,mU (fs.lookup f) (mA f))∧PySem.Within mA (fs.map (·.1))
 | .own _=>∃o,h.get? a=some o
 | .xd fs=>∃mA,h.Ns1 a mA∧∀f,mU (fs.lookup f) (mA f)
 | .rng lo hi=>∃t u v,h.get? a=some {cls:= .type "range",data:= .fields #[.int lo t, .int hi u, .int 1 v]}
 | .ik o u=>h.get? a=some o∧dU H h a u
 | .tbl ps=>h.get? a=some {cls:= .none,data:= .fields ps}
 | .met f x=>h.get? a=some (PySem.W.methodObj (.ref f) (.ref x))
 | .ext φ=>φ h∧(∃o,h.get? a=some o)∧∀h1 h2:Heap,φ h1→(∀o,h1.get? a=some o→h2.get? a=some o)→φ h2
noncomputable def lH(H:Hp)(h:Heap):Prop:=∀a o,H a=some o→dU P w H h a o
end
section
variable {P:Program} {w:World} {H H':Hp} {h h':Heap} {a:Addr} {o:HO}
theorem dU.lt(x:dU P w H h a o):a < h.objs.size:=by
 cases o with
 | lst xs=>obtain⟨_,_,_,_,e⟩:=x;exact Heap.lt_size e
 | tup xs=>obtain⟨_,_,_,p⟩:=x;exact p.lt
 | dK kvs=>obtain⟨_,_,_,_,o,_,_,e,_⟩:=x;exact Heap.lt_size e
 | dT kvs=>obtain⟨_,_,_,_,o,_,_,e,_⟩:=x;exact Heap.lt_size e
 | set S n=>obtain⟨o,_,_,_,e,_⟩:=x;exact Heap.lt_size e
 | ins C dx fs=>obtain⟨_,_,_,e,_⟩:=x;exact Heap.lt_size e
 | own y=>obtain⟨_,e⟩:=x;exact Heap.lt_size e
 | xd fs=>obtain⟨_,⟨_,_,_,e,_⟩,_⟩:=x;exact Heap.lt_size e
 | rng lo hi=>obtain⟨_,_,_,e⟩:=x;exact Heap.lt_size e
 | ik ob u=>obtain⟨e,_⟩:=x;exact Heap.lt_size e
 | tbl ps=>exact Heap.lt_size (show h.get? a=some _ from x)
 | met f y=>exact Heap.lt_size (show h.get? a=some _ from x)
 | ext φ=>obtain⟨_,⟨_,e⟩,_⟩:=x;exact Heap.lt_size e
theorem Paired.HM{α β:Type}{F G:α→β→Prop}:∀{l₁:List α} {l₂:List β},Paired F l₁ l₂→(∀a b,F a b→G a b)→Paired G l₁ l₂
 | _,_, .nil,_=> .nil
 | _,_, .cons r t,f=> .cons (f _ _ r) (Paired.HM t f)
theorem dU.sI(x:dU P w H h a o)(k:∀b u,(b=a∨H b=some (.own a))→h.get? b=some u→h'.get? b=some u)
 (ho:∀b,H b=some (.own a)→H' b=some (.own a)) (ht:∀b xs,H b=some (.tup xs)→H' b=some (.tup xs)):dU P w H' h' a o:=by
 induction o with
 | lst xs=>obtain⟨z,its,n,r,e⟩:=x;exact⟨z,its,n,r,k _ _ (.inl rfl) e⟩
 | tup xs=>obtain⟨z,its,r,ob,e,c⟩:=x;exact⟨z,its,r,ob,k _ _ (.inl rfl) e,c⟩
 | dK kvs=>obtain⟨z,y,vs,r,ob,es,ep,e,c⟩:=x;exact⟨z,y,vs,r,ob,es,ep,k _ _ (.inl rfl) e,c⟩
 | dT kvs=>
   obtain⟨z,y,xs,r,ob,es,ep,e,c⟩:=x
   exact⟨z,y,xs,Paired.HM r fun p q z=>⟨z.1,ht _ _ z.2.1,z.2.2⟩,ob,es,ep,k _ _ (.inl rfl) e,c⟩
 | set S n=>obtain⟨ob,es,ep,t,e,c⟩:=x;exact⟨ob,es,ep,t,k _ _ (.inl rfl) e,c⟩
 | ins C dx fs=>
   obtain⟨d,z,ne,e,mA,⟨od,es,ep,e2,c⟩,r⟩:=x
   exact⟨ho _ d,z,ne,k _ _ (.inl rfl) e,mA,⟨od,es,ep,k _ _ (.inr d) e2,c⟩,r⟩
 | own y=>obtain⟨ob,e⟩:=x;exact⟨ob,k _ _ (.inl rfl) e⟩
 | xd fs=>obtain⟨mA,⟨od,es,ep,e,c⟩,r⟩:=x;exact⟨mA,⟨od,es,ep,k _ _ (.inl rfl) e,c⟩,r⟩
 | rng lo hi=>obtain⟨t,u,v,e⟩:=x;exact⟨t,u,v,k _ _ (.inl rfl) e⟩
 | ik ob u ih=>obtain⟨e,q⟩:=x;exact⟨k _ _ (.inl rfl) e,ih q⟩
 | tbl ps=>
   have e:h.get? a=some {cls:= .none,data:= .fields ps}:=x
   show h'.get? a=some {cls:= .none,data:= .fields ps}
   exact k a _ (.inl rfl) e
 | met f y=>
   have e:h.get? a=some (PySem.W.methodObj (.ref f) (.ref y)):=x
   show h'.get? a=some (PySem.W.methodObj (.ref f) (.ref y))
   exact k a _ (.inl rfl) e
 | ext φ=>obtain⟨p,⟨o,e⟩,st⟩:=x;exact⟨st _ _ p fun o q=>k _ _ (.inl rfl) q,⟨o,k _ _ (.inl rfl) e⟩,st⟩
theorem lH.lt(x:lH P w H h)(e:H a=some o):a < h.objs.size:=(x a o e).lt
theorem lH.fresh(x:lH P w H h)(e:h.objs.size≤a):H a=none:=by
 cases q:H a with
 | none=>rfl
 | some u=>exact absurd (Nat.lt_of_lt_of_le (x.lt q) e) (Nat.lt_irrefl _)
theorem lH.kept(x:lH P w H h)(k:∀b u,h.get? b=some u→h'.get? b=some u):lH P w H h':=fun a o e=>
 (x a o e).sI (fun b u _ q=>k b u q) (fun _ q=>q) fun _ _ q=>q
theorem lH.laid(x:lH P w H h)(k:∀b u,h.get? b=some u→h'.get? b=some u)(hp:h.objs.size≤a)(new:dU P w (upd H a o) h' a o):lH P w (upd H a o) h':=fun b u e=>by
 have hn:=x.fresh hp
 by_cases hb:b=a
 ·subst hb;rw [bb] at e;cases e;exact new
 ·rw[bg hb] at e
  exact(x b u e).sI (fun c v _ q=>k c v q) (fun c q=>by rw[bg (cj q hn)];exact q) fun c xs q=>by rw[bg (cj q hn)];exact q
end
noncomputable def Rd(H:Hp)(a:Addr)(u:HO):Prop:=H a=some u∨∃o,H a=some (.ik o u)
theorem Rd.ok{P:Program}{w:World}{H:Hp}{h:Heap}{a:Addr}{u:HO}(r:Rd H a u)(x:lH P w H h):dU P w H h a u:=by
 rcases r with r | ⟨o,r⟩
 ·exact x a u r
 ·obtain⟨_,q⟩:=x a _ r
  exact q
noncomputable def GP:Option HO→Prop
 | some (.lst _)=>True
 | some (.dK _)=>True
 | some (.dT _)=>True
 | some (.set _ _)=>True
 | some (.ins _ _ _)=>True
 | some (.ext _)=>True
 | _=>False
section
variable {P:Program} {w:World} {H:Hp} {h h':Heap} {x e:Addr} {o':HO}
theorem lH.write(ok:lH P w H h)(mu:GP (H x))(he:e=x∨H e=some (.own x))(k:∀b u,b≠e→h.get? b=some u→h'.get? b=some u)(heo:∃u,h'.get? e=some u)
 (new:dU P w (upd H x o') h' x o'):lH P w (upd H x o') h':=fun b u q=>by
 have nown:∀c y,H c=some (.own y)→c≠x:=fun c y r z=>by subst z;rw [r] at mu;exact mu
 have ntup:∀c xs,H c=some (.tup xs)→c≠x:=fun c xs r z=>by subst z;rw [r] at mu;exact mu
 by_cases hb:b=x
 ·subst hb;rw [bb] at q;cases q;exact new
 ·rw[bg hb] at q
  by_cases hbe:b=e
  ·have q':H b=some (.own x):=by
    rcases he with z | z
    ·exact absurd (hbe.trans z) hb
    ·rw[hbe];exact z
   rw[q] at q';cases q'
   obtain⟨v,hv⟩:=heo
   exact⟨v,by rw[hbe];exact hv⟩
  ·refine(ok b u q).sI (fun c v hc r=>k c v ?_ r) (fun c r=>by rw[bg (nown c b r)];exact r) fun c xs r=>by rw[bg (ntup c xs r)];exact r
   rcases hc with rfl | hc
   ·exact hbe
   ·rintro rfl
    rcases he with z | z
    ·exact nown c b hc z
    ·rw[hc] at z;cases z;exact hb rfl
end
structure Un (fs ex:List Addr) (H H':Hp) (h h':Heap):Prop where
 keep:∀b o,h.get? b=some o→H b=none→b ∉ fs→b ∉ ex→h'.get? b=some o
 slot:∀b o,h.get? b=some o→H b=none→b∈fs→b ∉ ex→∃sl,h'.get? b=some {o with slots:=sl}
 free:∀b o,h.get? b=some o→H b=none→b ∉ ex→H' b=none
 there:∀b o,h.get? b=some o→b ∉ ex→∃o',h'.get? b=some o'
 tups:∀b xs,H b=some (.tup xs)→H' b=some (.tup xs)
 frzs:∀b o u,H b=some (.ik o u)→H' b=some (.ik o u)
 tbls:∀b ps,H b=some (.tbl ps)→∃more,H' b=some (.tbl (ps++more))
section
variable {fs fs' ex ex':List Addr} {H H1 H2:Hp} {h h1 h2 h':Heap} {a x e:Addr} {o:HO}
theorem Un.any(u:Un fs ex H H1 h h1){b:Addr}{ob:Obj}(q:h.get? b=some ob)(n:H b=none)(hx:b ∉ ex):∃sl,h1.get? b=some {ob with slots:=sl}:=by
 by_cases hb:b∈fs
 ·exact u.slot b ob q n hb hx
 ·exact⟨ob.slots,u.keep b ob q n hb hx⟩
theorem Un.kept(k:∀b u,h.get? b=some u→h'.get? b=some u):Un fs ex H H h h':=
 ⟨fun b ob q _ _ _=>k b ob q,fun b ob q _ _ _=>⟨ob.slots,k b ob q⟩,fun _ _ _ n _=>n,fun b ob q _=>⟨ob,k b ob q⟩,fun _ _ q=>q,fun _ _ _ q=>q,fun _ ps q=>⟨#[],by rw[q];simp⟩⟩
theorem Un.refl:Un fs ex H H h h:=Un.kept fun _ _ q=>q
theorem Un.laid(k:∀b u,h.get? b=some u→h'.get? b=some u)(hp:h.objs.size≤a)(hn:H a=none):Un fs ex H (upd H a o) h h' where
 keep:=fun b u q _ _ _=>k b u q
 slot:=fun b u q _ _ _=>⟨u.slots,k b u q⟩
 free:=fun b u q n _=>by rw[bg (Nat.ne_of_lt (Nat.lt_of_lt_of_le (Heap.lt_size q) hp))];exact n
 there:=fun b u q _=>⟨u,k b u q⟩
 tups:=fun b xs q=>by rw[bg (cj q hn)];exact q
 frzs:=fun b u xs q=>by rw[bg (cj q hn)];exact q
 tbls:=fun b ps q=>⟨#[],by rw[bg (cj q hn),q];simp⟩
theorem Un.write(mu:GP (H x))(he:e=x∨H e=some (.own x))(k:∀b u,b≠e→h.get? b=some u→h'.get? b=some u)(heo:∃u,h'.get? e=some u):Un fs ex H (upd H x o) h h':=by
 have hx:∀b,H b=none→b≠x:=fun b n z=>by subst z;rw [n] at mu;exact mu
 have hb:∀b,H b=none→b≠e:=fun b n z=>by
  subst z
  rcases he with r | r
  ·exact hx b n r
  ·rw[n] at r;cases r
 have hm:∀b u,H b=some u→¬GP (some u)→b≠x:=fun b u q nm z=>by subst z;rw [q] at mu;exact nm mu
 refine⟨fun b u q n _ _=>k b u (hb b n) q,fun b u q n _ _=>⟨u.slots,k b u (hb b n) q⟩,fun b u q n _=>by rw[bg (hx b n)];exact n,fun b u q _=>?_,
  fun b xs q=>by rw[bg (hm b _ q fun z=>z)];exact q,fun b u xs q=>by rw[bg (hm b _ q fun z=>z)];exact q,fun b ps q=>⟨#[],by rw[bg (hm b _ q fun z=>z),q];simp⟩⟩
 by_cases hbe:b=e
 ·subst hbe;exact heo
 ·exact⟨u,k b u hbe q⟩
end
noncomputable def IC(h:Heap)(H:Hp):List Addr:=(List.range h.objs.size).filter fun a=>(H a).isSome
noncomputable def sW(h:Heap)(H:Hp):Heap:=PySem.W.hideAll h (IC h H)
theorem yR(h:Heap)(H:Hp):(sW h H).objs.size=h.objs.size:=PySem.W.hideAll_size _ _
theorem A_{h:Heap}{H:Hp}{b:Addr}{o:Obj}(e:h.get? b=some o)(n:H b=none):(sW h H).get? b=some o:=
 PySem.W.hideAll_get _ e fun hm=>by
  have q:(H b).isSome=true:=(List.mem_filter.mp hm).2
  rw[n] at q;simp at q
theorem DY{h:Heap}{H:Hp}{b:Addr}{o:Obj}(e:(sW h H).get? b=some o):h.get? b=some o∧H b=none:=by
 have e':h.get? b=some o:=PySem.W.of_hideAll (IC h H) e
 refine⟨e',?_⟩
 cases q:H b with
 | none=>rfl
 | some x=>
   have hm:b∈IC h H:=List.mem_filter.mpr ⟨List.mem_range.mpr (Heap.lt_size e'),by simp [q]⟩
   have z:(sW h H).get? b=none:=PySem.W.hideAll_none (IC h H) hm
   rw[z] at e;cases e
noncomputable def Dw(g h:Heap)(L:Addr):List (Addr × Obj):=(List.range h.objs.size).filterMap fun a=>if a=L∨(g.get? a).isSome=true then none else(h.get? a).map fun o=>(a,o)
noncomputable def rest(g h:Heap)(L d:Addr):List (Addr × Obj):=(Dw g h L).filter fun p=>decide (p.1≠d)
end L2
namespace L2
open PySem PySem.Spec PyProof.Rows
structure Mod (K:PySem.W.Frag) (mg:Str→Option Value) (base:Heap):Prop where
 kin:K.In base
 glob:base.Ns mainGlobals mg
 blt:∃mb,base.Ns builtinsNs mb∧∀x:Str,x≠"__name__"→mb x=bootBuiltins x
 nolimit:base.NoLimit
structure Cx where
 prog:Program
 w:World
 K:PySem.W.Frag
 mg:Str→Option Value
 base:Heap
 A:Around
 N:List Str
 s₀:Shared
 H₀:Hp
 env:Env
 outer:List Env
 stack:List Env
 ex:List Addr
 fn:Str→Bool
 calm:Bool
 pn:List (Addr × Obj)
 xe:Value→Shared→Prop
noncomputable def zp(l:List Env):List Addr:=l.filterMap (·.frame)
noncomputable abbrev Cx.fs(X:Cx):List Addr:=zp X.outer
noncomputable def Ee(sc:Scope)(x:Str):Prop:=sc.names.lookup x=some .local∨sc.names.lookup x=some .cell∨sc.names.lookup x=some .free
noncomputable def Loc(sc:Scope)(x:Str):Prop:=sc.names.lookup x=some .local∨sc.names.lookup x=some .cell
noncomputable def Look(env:Env)(h:Heap)(m:Str→Option Value)(x:Str)(u:Value):Prop:=
 (env.kindOf x=some .local∧m x=some u)∨((env.kindOf x=some .cell∨env.kindOf x=some .free)∧∃c,env.cells.lookup x=some c∧h.IsCell c (some u))
structure Cx.Ok (X:Cx):Prop where
 mod:Mod X.K X.mg X.base
 kind:X.env.scope.kind= .function
 glob:X.env.globals=mainGlobals
 blt:X.env.builtins=builtinsNs
 above:X.s₀.heap.objs.size≤X.env.locals
 inj:∀x y c,X.env.cells.lookup x=some c→X.env.cells.lookup y=some c→x=y
 has:∀x,(X.env.kindOf x=some .cell∨X.env.kindOf x=some .free)→∃c,X.env.cells.lookup x=some c
 cab:∀x c,X.fn x=true→X.env.cells.lookup x=some c→X.s₀.heap.objs.size≤c
 hd:X.calm=true→X.A.handled=none
 frames:X.A.frames=some X.stack
 stk:X.stack=X.outer∨(X.stack=X.env ::X.outer∧X.env.frame=some X.env.locals)
 exf:∀b∈X.ex,b≠X.env.locals∧∀x c,X.env.cells.lookup x=some c→c≠b
 bs:∀b o,X.base.get? b=some o→X.s₀.heap.get? b=some o∧X.H₀ b=none
 bsz:X.base.objs.size≤X.s₀.heap.objs.size
 noex:∀b o,X.base.get? b=some o→b ∉ X.ex
 exfs:∀b∈X.ex,b ∉ X.fs
 o5:X.s₀.heap.FunFrames X.base X.outer
 frf:∀b∈X.fs,X.H₀ b=none
structure Inv (X:Cx) (pins:List (Addr × Obj)) (σ:List (Option V)) (H:Hp) (s:Shared):Prop where
 ok:X.Ok
 os:s.os=X.s₀.os
 bare:AllBare s.gens
 base:Un X.fs X.ex X.H₀ H X.s₀.heap s.heap
 loc:∃m,s.heap.Ns X.env.locals m∧∀(i:Nat) (x:Str) (v:V),X.N[i]? =some x→σ[i]? =some (some v)→Ee X.env.scope x→∃u,RelV v u∧Look X.env s.heap m x u
 cell:∀x c,X.env.cells.lookup x=some c→∃v,s.heap.IsCell c v
 free:H X.env.locals=none
 freeC:∀x c,X.env.cells.lookup x=some c→H c=none
 pin:∀p∈X.pn++pins,s.heap.get? p.1=some p.2∧H p.1=none∧p.1≠X.env.locals∧p.1 ∉ X.fs∧∀v,p.2.data≠ .cell v
 hok:lH X.prog X.w H s.heap
 len:σ.length=X.N.length
section
variable {X:Cx} {pins:List (Addr × Obj)} {σ:List (Option V)} {H H':Hp} {s:Shared} {h':Heap}
theorem Cx.Ok.IQ(ok:X.Ok){b:Addr}{o:Obj}(e:X.base.get? b=some o):b ∉ X.fs:=fun hb=>by
 have:=(ok.o5.mem hb).1
 rw[e] at this;cases this
theorem Inv.bs(I:Inv X pins σ H s):∀b o,X.base.get? b=some o→s.heap.get? b=some o∧H b=none:=fun b o e=>
 ⟨I.base.keep b o (I.ok.bs b o e).1 (I.ok.bs b o e).2 (I.ok.IQ e) (I.ok.noex b o e),I.base.free b o (I.ok.bs b o e).1 (I.ok.bs b o e).2 (I.ok.noex b o e)⟩
theorem Inv.bk(I:Inv X pins σ H s):∀b o,X.base.get? b=some o→s.heap.get? b=some o:=fun b o e=>(I.bs b o e).1
theorem Inv.mod(I:Inv X pins σ H s):Mod X.K X.mg X.base:=I.ok.mod
theorem Inv.n_(I:Inv X pins σ H s):X.K.In s.heap:=I.ok.mod.kin.keeps I.bk
theorem Inv.lt(I:Inv X pins σ H s):X.env.locals < s.heap.objs.size:=let⟨_,hn,_⟩:=I.loc;hn.lt
theorem Inv.sz(I:Inv X pins σ H s):X.s₀.heap.objs.size≤s.heap.objs.size:=Nat.le_trans I.ok.above (Nat.le_of_lt I.lt)
theorem Inv.IM(I:Inv X pins σ H s){a:Addr}(h:s.heap.objs.size≤a):a ∉ X.fs:=fun hb=>by
 obtain⟨_,o,ho,_⟩:=I.ok.o5.mem hb
 exact absurd (Nat.lt_of_lt_of_le (Heap.lt_size ho) (Nat.le_trans I.sz h)) (Nat.lt_irrefl _)
theorem Inv.EN(I:Inv X pins σ H s):∀x c,X.env.cells.lookup x=some c→c≠X.env.locals:=fun x c e z=>by
 obtain⟨v,o,ho,hd⟩:=I.cell x c e
 obtain⟨m,⟨o',es,ep,ho',hd',_⟩,_⟩:=I.loc
 rw[z,ho'] at ho;cases ho;rw [hd'] at hd;cases hd
theorem Inv.o5(I:Inv X pins σ H s):s.heap.FunFrames X.base X.outer:=by
 have all:∀(l:List Env),(∀b∈zp l,b∈X.fs)→X.s₀.heap.FunFrames X.base l→s.heap.FunFrames X.base l:=by
  intro l
  induction l with
  | nil=>intro _ _;trivial
  | cons env r ih=>
    intro hs hl
    obtain⟨hk,⟨L,o,hf,hn,ho,hd⟩,hr⟩:=hl
    have hL:L∈X.fs:=hs L (by unfold zp;rw [List.filterMap_cons,hf];exact List.mem_cons_self)
    obtain⟨sl,e⟩:=I.base.slot L o ho (I.ok.frf L hL) hL fun z=>I.ok.exfs L z hL
    exact⟨hk,⟨L,_,hf,hn,e,hd⟩,ih (fun b hb=>hs b (by unfold zp;rw [List.filterMap_cons,hf];exact List.mem_cons_of_mem _ hb)) hr⟩
 exact all X.outer (fun _ hb=>hb) I.ok.o5
theorem Inv.stack(I:Inv X pins σ H s):s.heap.FunFrames X.base X.stack:=by
 rcases I.ok.stk with e | ⟨e,hf⟩
 ·rw[e];exact I.o5
 ·rw[e]
  obtain⟨m,hn,_⟩:=I.loc
  refine .cons (by rw[I.ok.kind];decide) hf hn ?_ I.o5
  exact Heap.get?_none_of_le (Nat.le_trans I.ok.bsz I.ok.above)
theorem Inv.vP(I:Inv X pins σ H s):∀b∈zp X.stack,b∈X.env.locals ::X.fs:=fun b hb=>by
 rcases I.ok.stk with e | ⟨e,hf⟩
 ·rw[e] at hb;exact List.mem_cons_of_mem _ hb
 ·rw[e] at hb
  unfold zp at hb
  rw[List.filterMap_cons,hf] at hb
  exact hb
theorem Inv.w6(I:Inv X pins σ H s):∀b∈zp X.stack,H b=none:=fun b hb=>by
 rcases List.mem_cons.mp (I.vP b hb) with e | hb
 ·rw[e];exact I.free
 ·obtain⟨_,o,ho,_⟩:=I.ok.o5.mem hb
  exact I.base.free b o ho (I.ok.frf b hb) fun z=>I.ok.exfs b z hb
theorem Inv.step{g':Array GenState}{t':Nat}{d':Drawn}{ch:List Addr}(I:Inv X pins σ H s)
 (hch:∀b∈ch,(b∈X.ex∨X.s₀.heap.objs.size≤b)∧b≠X.env.locals∧(∀x c,X.env.cells.lookup x=some c→c≠b)∧∀p∈X.pn++pins,p.1≠b)
 (keep:∀b o,b≠X.env.locals→b ∉ X.fs→b ∉ ch→s.heap.get? b=some o→H b=none→h'.get? b=some o)
 (slot:∀b o,b≠X.env.locals→b∈X.fs→b ∉ ch→s.heap.get? b=some o→H b=none→∃sl,h'.get? b=some {o with slots:=sl}) (free:∀b o,b ∉ ch→s.heap.get? b=some o→H b=none→H' b=none)
 (there:∀b o,b ∉ ch→s.heap.get? b=some o→∃o',h'.get? b=some o')
 (tups:∀b xs,H b=some (.tup xs)→H' b=some (.tup xs)) (frzs:∀b o u,H b=some (.ik o u)→H' b=some (.ik o u)) (tbls:∀b ps,H b=some (.tbl ps)→∃more,H' b=some (.tbl (ps++more)))
 (ns:∀m,s.heap.Ns X.env.locals m→h'.Ns X.env.locals m) (hok:lH X.prog X.w H' h') (hg:AllBare g') :
 Inv X pins σ H' {s with heap:=h',gens:=g',drawn:=d',toks:=t'}:=by
 have neL:∀b o,X.s₀.heap.get? b=some o→b≠X.env.locals:=fun b o e=>Nat.ne_of_lt (Nat.lt_of_lt_of_le (Heap.lt_size e) I.ok.above)
 have neC:∀b o,X.s₀.heap.get? b=some o→b ∉ X.ex→b ∉ ch:=fun b o e hx hb=>by
  rcases(hch b hb).1 with z | z
  ·exact hx z
  ·exact absurd (Nat.lt_of_lt_of_le (Heap.lt_size e) z) (Nat.lt_irrefl _)
 have cellK:∀x c,X.env.cells.lookup x=some c→∀v,s.heap.IsCell c v→h'.IsCell c v:=fun x c e v ⟨o,ho,hd⟩=>by
  have nch:c ∉ ch:=fun z=>(hch c z).2.2.1 x c e rfl
  by_cases hc:c∈X.fs
  ·obtain⟨sl,q⟩:=slot c o (I.EN x c e) hc nch ho (I.freeC x c e)
   exact⟨_,q,hd⟩
  ·exact⟨o,keep c o (I.EN x c e) hc nch ho (I.freeC x c e),hd⟩
 refine⟨I.ok,I.os,hg,⟨fun b o e n hb hx=>?_,fun b o e n hb hx=>?_,fun b o e n hx=>?_,fun b o e hx=>?_,fun b xs e=>tups b xs (I.base.tups b xs e),fun b o xs e=>frzs b o xs (I.base.frzs b o xs e),fun b ps e=>?_⟩,?_,fun x c e=>?_,?_,fun x c e=>?_,fun p hp=>?_,hok,I.len⟩
 ·exact keep b o (neL b o e) hb (neC b o e hx) (I.base.keep b o e n hb hx) (I.base.free b o e n hx)
 ·obtain⟨sl,e1⟩:=I.base.slot b o e n hb hx
  obtain⟨sl',e2⟩:=slot b _ (neL b o e) hb (neC b o e hx) e1 (I.base.free b o e n hx)
  exact⟨sl',e2⟩
 ·obtain⟨o',e1⟩:=I.base.there b o e hx
  exact free b o' (neC b o e hx) e1 (I.base.free b o e n hx)
 ·obtain⟨o',e1⟩:=I.base.there b o e hx
  exact there b o' (neC b o e hx) e1
 ·obtain⟨m1,e1⟩:=I.base.tbls b ps e
  obtain⟨m2,e2⟩:=tbls b _ e1
  exact⟨m1++m2,by rw[e2,Array.append_assoc]⟩
 ·obtain⟨m,hn,hl⟩:=I.loc
  refine⟨m,ns m hn,fun i x v e1 e2 e3=>?_⟩
  obtain⟨u,r,l⟩:=hl i x v e1 e2 e3
  refine⟨u,r,?_⟩
  rcases l with l | ⟨k,c,e,z⟩
  ·exact .inl l
  ·exact .inr ⟨k,c,e,cellK x c e _ z⟩
 ·obtain⟨v,z⟩:=I.cell x c e
  exact⟨v,cellK x c e v z⟩
 ·obtain⟨m,⟨o,_,_,ho,_⟩,_⟩:=I.loc
  exact free _ o (fun z=>(hch _ z).2.1 rfl) ho I.free
 ·obtain⟨v,o,ho,hd⟩:=I.cell x c e
  exact free c o (fun z=>(hch c z).2.2.1 x c e rfl) ho (I.freeC x c e)
 ·obtain⟨e,n,ne,nf,d⟩:=I.pin p hp
  have nch:p.1 ∉ ch:=fun z=>(hch p.1 z).2.2.2 p hp rfl
  exact⟨keep p.1 p.2 ne nf nch e n,free p.1 p.2 nch e n,ne,nf,d⟩
theorem Inv.un{t':Nat}(I:Inv X pins σ H s)(u:Un X.fs [] H H' s.heap h')(hok:lH X.prog X.w H' h'):Inv X pins σ H' {s with heap:=h',toks:=t'}:=by
 obtain⟨m,⟨o,es,ep,ho,r⟩,_⟩:=id I.loc
 obtain⟨sl,hL⟩:=u.any ho I.free (by simp)
 exact I.step (g':=s.gens) (d':=s.drawn) (ch:=[]) (fun _ z=>nomatch z) (fun b o _ hb _ e n=>u.keep b o e n hb (by simp)) (fun b o _ hb _ e n=>u.slot b o e n hb (by simp)) (fun b o _ e n=>u.free b o e n (by simp)) (fun b o _ e=>u.there b o e (by simp)) u.tups u.frzs u.tbls (fun m' hm=>by
  obtain⟨o',es',ep',ho',r'⟩:=hm
  rw[ho] at ho';cases ho'
  exact⟨_,es',ep',hL,r'⟩) hok I.bare
theorem Inv.call{g':Array GenState}{t':Nat}{d':Drawn}{ch:List Addr}(I:Inv X pins σ H s)(u:Un (zp X.stack) ch H H' s.heap h')(hok:lH X.prog X.w H' h')(hg:AllBare g')
 (hch:∀b∈ch,(b∈X.ex∨X.s₀.heap.objs.size≤b)∧b≠X.env.locals∧(∀x c,X.env.cells.lookup x=some c→c≠b)∧∀p∈X.pn++pins,p.1≠b) :
 Inv X pins σ H' {s with heap:=h',gens:=g',drawn:=d',toks:=t'}:=by
 obtain⟨m,⟨o,es,ep,ho,r⟩,_⟩:=id I.loc
 obtain⟨sl,hL⟩:=u.any ho I.free fun z=>(hch _ z).2.1 rfl
 exact I.step (ch:=ch) hch (fun b o hL hb hc e n=>u.keep b o e n (fun z=>(List.mem_cons.mp (I.vP b z)).elim hL hb) hc) (fun b o _ _ hc e n=>u.any e n hc) (fun b o hc e n=>u.free b o e n hc) (fun b o hc e=>u.there b o e hc) u.tups u.frzs u.tbls (fun m' hm=>by
  obtain⟨o',es',ep',ho',r'⟩:=hm
  rw[ho] at ho';cases ho'
  exact⟨_,es',ep',hL,r'⟩) hok hg
theorem Inv.turned{t':Nat}{it:Addr}(I:Inv X pins σ H s)(k:∀b o,b≠it→s.heap.get? b=some o→h'.get? b=some o)(hn:H it=none)(hL:it≠X.env.locals)
 (h1:it∈X.ex∨X.s₀.heap.objs.size≤it) (h2:∀x c,X.env.cells.lookup x=some c→c≠it) (h3:∀p∈X.pn++pins,p.1≠it):Inv X pins σ H {s with heap:=h',toks:=t'}:=by
 have nit:∀b u,H b=some u→b≠it:=fun b u e z=>by rw[z,hn] at e;cases e
 refine I.step (g':=s.gens) (d':=s.drawn) (ch:=[it]) (fun b hb=>?_) (fun b o _ _ hc e _=>k b o (fun z=>hc (by simp [z])) e) (fun b o _ _ hc e _=>⟨o.slots,k b o (fun z=>hc (by simp [z])) e⟩) (fun _ _ _ _ n=>n)
  (fun b o hc e=>⟨o,k b o (fun z=>hc (by simp [z])) e⟩) (fun _ _ e=>e) (fun _ _ _ e=>e) (fun b ps e=>⟨#[],by rw[e];simp⟩) (fun m hm=>?_) (fun b u e=>?_) I.bare
 ·have e:b=it:=by simpa using hb
  subst e
  exact⟨h1,hL,h2,h3⟩
 ·obtain⟨o,es,ep,ho,r⟩:=hm
  exact⟨o,es,ep,k _ o (Ne.symm hL) ho,r⟩
 ·refine(I.hok b u e).sI (fun c v hc q=>k c v ?_ q) (fun _ q=>q) fun _ _ q=>q
  rcases hc with z | z
  ·rw[z];exact nit b u e
  ·exact nit c _ z
theorem Inv.tok(I:Inv X pins σ H s)(t:Nat):Inv X pins σ H {s with toks:=t}:=I.un (h':=s.heap) (t':=t) Un.refl I.hok
theorem Inv.kept{t':Nat}(I:Inv X pins σ H s)(k:∀b u,s.heap.get? b=some u→h'.get? b=some u):Inv X pins σ H {s with heap:=h',toks:=t'}:=I.un (Un.kept k) (I.hok.kept k)
theorem Inv.laid{a:Addr}{o:HO}{t':Nat}(I:Inv X pins σ H s)(k:∀b u,s.heap.get? b=some u→h'.get? b=some u)(hp:s.heap.objs.size≤a)(new:dU X.prog X.w (upd H a o) h' a o) :
 Inv X pins σ (upd H a o) {s with heap:=h',toks:=t'}:=I.un (Un.laid k hp (I.hok.fresh hp)) (I.hok.laid k hp new)
theorem Inv.write{x e:Addr}{o:HO}{t':Nat}(I:Inv X pins σ H s)(mu:GP (H x))(he:e=x∨H e=some (.own x))(k:∀b u,b≠e→s.heap.get? b=some u→h'.get? b=some u)(heo:∃u,h'.get? e=some u)
 (new:dU X.prog X.w (upd H x o) h' x o):Inv X pins σ (upd H x o) {s with heap:=h',toks:=t'}:=I.un (Un.write mu he k heo) (I.hok.write mu he k heo new)
theorem Inv.xi{pins':List (Addr × Obj)}(I:Inv X pins σ H s)(h:∀p∈pins',s.heap.get? p.1=some p.2∧H p.1=none∧p.1≠X.env.locals∧p.1 ∉ X.fs∧∀v,p.2.data≠ .cell v):Inv X pins' σ H s:=
 ⟨I.ok,I.os,I.bare,I.base,I.loc,I.cell,I.free,I.freeC,fun p hp=>(List.mem_append.mp hp).elim (fun z=>I.pin p (List.mem_append_left _ z)) (h p),I.hok,I.len⟩
theorem u0{N:List Str}(hN:N.Nodup){i j:Nat}{x:Str}(a:N[i]? =some x)(b:N[j]? =some x):i=j:=by
 obtain⟨h1,e1⟩:=List.getElem?_eq_some_iff.mp a
 obtain⟨h2,e2⟩:=List.getElem?_eq_some_iff.mp b
 exact(List.getElem_inj hN).mp (e1.trans e2.symm)
theorem rB{M:Model}{A:Around}{E:Value→Shared→Prop}{i:Nat}{x:Str}{v:V}{u:Value}{Q:Unit→Shared→Prop}(I:Inv X pins σ H s)(hN:X.N.Nodup)(hi:X.N[i]? =some x)(hx:Loc X.env.scope x)(r:RelV v u)
 (h:∀s',Inv X pins (σ.set i (some v)) H s'→(∃a,Heap.SameBut a s.heap s'.heap∧(a=X.env.locals∨X.env.cells.lookup x=some a))→Q () s') (hf:X.fn x=true∨X.env.scope.names.lookup x=some .local:=by first | exact .inl rfl | exact .inr rfl | assumption):wpAny M A (storeName X.env x u) Q E s:=by
 obtain⟨m,hn,hl⟩:=id I.loc
 have hcls:(X.env.scope.kind== .class || (X.env.scope.kind== .module && X.env.locals !=X.env.globals))=false:=by rw[I.ok.kind];rfl
 have hiσ:i < σ.length:=by rw[I.len];exact(List.getElem?_eq_some_iff.mp hi).1
 have EN:=I.EN
 have tracked:∀{a:Addr} {h':Heap},(∃o,s.heap.get? a=some o∧H a=none)→Heap.SameBut a s.heap h'→lH X.prog X.w H h':=fun {a h'} ha hs b ob e=>by
  obtain⟨_,_,hfree⟩:=ha
  refine(I.hok b ob e).sI (fun c w' hc q=>(hs.2 c ?_).trans q) (fun _ q=>q) fun _ _ q=>q
  rintro rfl
  rcases hc with rfl | hc
  ·rw[hfree] at e;cases e
  ·rw[hfree] at hc;cases hc
 rcases hx with hk | hk
 ·refine wpAny_storeName_local hk hn (fun h' hn' hs=>?_) hcls
  obtain⟨oL,_,_,hoL,_⟩:=id hn
  refine h _ ⟨I.ok,I.os,I.bare,⟨fun b o e n hb hx=>?_,fun b o e n hb hx=>?_,I.base.free,fun b o e hx=>?_,I.base.tups,I.base.frzs,I.base.tbls⟩,⟨_,hn',fun j y v' e1 e2 e3=>?_⟩,fun y c e=>?_,I.free,I.freeC,fun p hp=>?_,tracked ⟨oL,hoL,I.free⟩ hs,by simpa using I.len⟩ ⟨_,hs, .inl rfl⟩
  ·exact(hs.2 b (Nat.ne_of_lt (Nat.lt_of_lt_of_le (Heap.lt_size e) I.ok.above))).trans (I.base.keep b o e n hb hx)
  ·obtain⟨sl,e1⟩:=I.base.slot b o e n hb hx
   exact⟨sl,(hs.2 b (Nat.ne_of_lt (Nat.lt_of_lt_of_le (Heap.lt_size e) I.ok.above))).trans e1⟩
  ·obtain⟨o',e1⟩:=I.base.there b o e hx
   exact⟨o',(hs.2 b (Nat.ne_of_lt (Nat.lt_of_lt_of_le (Heap.lt_size e) I.ok.above))).trans e1⟩
  ·by_cases hj:j=i
   ·subst hj
    rw[hi] at e1;cases e1
    rw[List.getElem?_set_self hiσ] at e2
    cases e2
    exact⟨u,r, .inl ⟨hk,by simp⟩⟩
   ·rw[List.getElem?_set_ne (Ne.symm hj)] at e2
    obtain⟨u',r',q⟩:=hl j y v' e1 e2 e3
    refine⟨u',r',?_⟩
    rcases q with⟨k,e⟩ | ⟨k,c,e,z⟩
    ·refine .inl ⟨k,?_⟩
     have:y≠x:=fun e=>hj (u0 hN e1 (e▸hi))
     simp [this,e]
    ·exact .inr ⟨k,c,e,z.sameBut hs (EN y c e)⟩
  ·obtain⟨w',z⟩:=I.cell y c e
   exact⟨w',z.sameBut hs (EN y c e)⟩
  ·obtain⟨e,n,ne,nf,d⟩:=I.pin p hp
   exact⟨(hs.2 p.1 ne).trans e,n,ne,nf,d⟩
 ·have hfn:X.fn x=true:=by
   rcases hf with z | z
   ·exact z
   ·rw[z] at hk;cases hk
  obtain⟨c,hc⟩:=I.ok.has x (.inl hk)
  obtain⟨w',z⟩:=I.cell x c hc
  refine wpAny_storeName_cell I.ok.kind hk hc z (fun h' hc' hs=>?_)
  obtain⟨oc,hoc,hocd⟩:=id z
  refine h {s with heap:=h'} ⟨I.ok,I.os,I.bare,⟨fun b o e n hb hx=>?_,fun b o e n hb hx=>?_,I.base.free,fun b o e hx=>?_,I.base.tups,I.base.frzs,I.base.tbls⟩,⟨m,hn.sameBut hs (Ne.symm (EN x c hc)),fun j y v' e1 e2 e3=>?_⟩,fun y c' e=>?_,I.free,I.freeC,fun p hp=>?_,tracked ⟨oc,hoc,I.freeC x c hc⟩ hs,by simpa using I.len⟩ ⟨c,hs, .inr hc⟩
  ·exact(hs.2 b (Nat.ne_of_lt (Nat.lt_of_lt_of_le (Heap.lt_size e) (I.ok.cab x c hfn hc)))).trans (I.base.keep b o e n hb hx)
  ·obtain⟨sl,e1⟩:=I.base.slot b o e n hb hx
   exact⟨sl,(hs.2 b (Nat.ne_of_lt (Nat.lt_of_lt_of_le (Heap.lt_size e) (I.ok.cab x c hfn hc)))).trans e1⟩
  ·obtain⟨o',e1⟩:=I.base.there b o e hx
   exact⟨o',(hs.2 b (Nat.ne_of_lt (Nat.lt_of_lt_of_le (Heap.lt_size e) (I.ok.cab x c hfn hc)))).trans e1⟩
  ·by_cases hj:j=i
   ·subst hj
    rw[hi] at e1;cases e1
    rw[List.getElem?_set_self hiσ] at e2
    cases e2
    exact⟨u,r, .inr ⟨.inl hk,c,hc,hc'⟩⟩
   ·rw[List.getElem?_set_ne (Ne.symm hj)] at e2
    obtain⟨u',r',q⟩:=hl j y v' e1 e2 e3
    refine⟨u',r',?_⟩
    rcases q with q | ⟨k,c',e,z'⟩
    ·exact .inl q
    ·refine .inr ⟨k,c',e,z'.sameBut hs ?_⟩
     rintro rfl
     exact hj (u0 hN e1 (I.ok.inj _ _ _ e hc▸hi))
  ·by_cases hcc:c'=c
   ·subst hcc;exact⟨_,hc'⟩
   ·obtain⟨w2,z2⟩:=I.cell y c' e
    exact⟨w2,z2.sameBut hs hcc⟩
  ·obtain⟨e,n,ne,nf,d⟩:=I.pin p hp
   refine⟨(hs.2 p.1 ?_).trans e,n,ne,nf,d⟩
   intro q
   rw[q,hoc] at e
   have q':oc=p.2:=Option.some.inj e
   exact d w' (by rw[←q'];exact hocd)
theorem uR{M:Model}{A:Around}{E:Value→Shared→Prop}{i:Nat}{x:Str}{v:V}{u:Value}{Q:Unit→Shared→Prop}(I:Inv X pins σ H s)(hN:X.N.Nodup)(hi:X.N[i]? =some x)(hx:Loc X.env.scope x)(r:RelV v u)
 (h:∀s',Inv X pins (σ.set i (some v)) H s'→Q () s') (hf:X.fn x=true∨X.env.scope.names.lookup x=some .local:=by first | exact .inl rfl | exact .inr rfl | assumption):wpAny M A (storeName X.env x u) Q E s:=
 rB I hN hi hx r (fun s' I' _=>h s' I') hf
theorem Inv.Ha{s':Shared}{ch:List Addr}(I:Inv X pins σ H s)(ho:s'.os=s.os)(u:Un (zp X.stack) ch H H' s.heap s'.heap)(hok:lH X.prog X.w H' s'.heap)(hg:AllBare s'.gens)
 (hch:∀b∈ch,(b∈X.ex∨X.s₀.heap.objs.size≤b)∧b≠X.env.locals∧(∀x c,X.env.cells.lookup x=some c→c≠b)∧∀p∈X.pn++pins,p.1≠b):Inv X pins σ H' s':=by
 obtain⟨h',g',d',t',o'⟩:=s'
 have e:o'=s.os:=ho
 subst e
 exact I.call (g':=g') (t':=t') (d':=d') u hok hg hch
end
noncomputable abbrev XK:=Value→Option Addr→Hp→Prop
noncomputable abbrev St:=List (Option V)
noncomputable abbrev VK:=V→Hp→Prop
noncomputable abbrev TE:=St→Hp→VK→Prop
noncomputable abbrev TT:=St→Hp→(Bool→Hp→Prop)→Prop
noncomputable abbrev TA:=St→Hp→(List V→Hp→Prop)→Prop
structure Ends where
 nx:St→Hp→Prop
 rt:VK
 bk:St→Hp→Prop:=fun _ _=>False
 ct:St→Hp→Prop:=fun _ _=>False
noncomputable abbrev TS:=Ends→St→Hp→Prop
noncomputable def EP(X:Cx)(pins:List (Addr × Obj))(σ:St)(Q:VK)(u:Value)(s':Shared):Prop:=∃v H',Inv X pins σ H' s'∧RelV v u∧Q v H'
noncomputable def TP(X:Cx)(pins:List (Addr × Obj))(σ:St)(Q:Bool→Hp→Prop)(b:Bool)(s':Shared):Prop:=∃H',Inv X pins σ H' s'∧Q b H'
noncomputable def AP(X:Cx)(pins:List (Addr × Obj))(σ:St)(Q:List V→Hp→Prop)(us:List Value)(s':Shared):Prop:=∃vs H',Inv X pins σ H' s'∧Vals vs us∧Q vs H'
noncomputable def SP(X:Cx)(pins:List (Addr × Obj))(D:Ends)(f:Flow)(s':Shared):Prop:=
 match f with
 | .next=>∃σ' H',Inv X pins σ' H' s'∧D.nx σ' H'
 | .brk=>∃σ' H',Inv X pins σ' H' s'∧D.bk σ' H'
 | .cont=>∃σ' H',Inv X pins σ' H' s'∧D.ct σ' H'
 | .ret u=>∃v σ' H',Inv X pins σ' H' s'∧RelV v u∧D.rt v H'
noncomputable def PE(X:Cx)(e:Expr)(t:TE):Prop:=
 ∀(pins:List (Addr × Obj)) (s:Shared) (σ:St) (H:Hp) (Q:VK),Inv X pins σ H s→t σ H Q→wpAny (model X.prog X.w) X.A (eval e X.env) (EP X pins σ Q) X.xe s
noncomputable def PT(X:Cx)(e:Expr)(t:TT):Prop:=
 ∀(pins:List (Addr × Obj)) (s:Shared) (σ:St) (H:Hp) (Q:Bool→Hp→Prop),Inv X pins σ H s→t σ H Q→wpAny (model X.prog X.w) X.A (isTrue e X.env (eval e X.env)) (TP X pins σ Q) X.xe s
noncomputable def PW(X:Cx)(e:Expr)(t:TT):Prop:=
 ∀(whole:Sem Value) (pins:List (Addr × Obj)) (s:Shared) (σ:St) (H:Hp) (Q:Bool→Hp→Prop),Inv X pins σ H s→t σ H Q→wpAny (model X.prog X.w) X.A (isTrue e X.env whole) (TP X pins σ Q) X.xe s
theorem PW.pt{X:Cx}{e:Expr}{t:TT}(h:PW X e t):PT X e t:=h _
noncomputable def PA(X:Cx)(es:List Expr)(t:TA):Prop:=
 ∀(pos:Pos) (pins:List (Addr × Obj)) (s:Shared) (σ:St) (H:Hp) (Q:List V→Hp→Prop),Inv X pins σ H s→t σ H Q→wpAny (model X.prog X.w) X.A (spliced (backTo pos (starEach es X.env))) (AP X pins σ Q) X.xe s
noncomputable def PS(X:Cx)(st:Stmt)(t:TS):Prop:=
 ∀(pins:List (Addr × Obj)) (s:Shared) (σ:St) (H:Hp) (D:Ends),Inv X pins σ H s→t D σ H→wpAny (model X.prog X.w) X.A (exec st X.env) (SP X pins D) X.xe s
noncomputable def tV(X:Cx)(st:List Stmt)(t:TS):Prop:=
 ∀(pins:List (Addr × Obj)) (s:Shared) (σ:St) (H:Hp) (D:Ends),Inv X pins σ H s→t D σ H→wpAny (model X.prog X.w) X.A (execs st X.env) (SP X pins D) X.xe s
theorem dW{α:Type}{t:Sem α}{Q Q':α→Shared→Prop}{M:Model}{A:Around}{E:Value→Shared→Prop}{s:Shared}(h:wpAny M A t Q E s)(hQ:∀a s,Q a s→Q' a s):wpAny M A t Q' E s:=wpAny_mono h hQ fun _ _ x=>x
end L2
namespace L2
open PySem PySem.Spec PyProof.Rows
section
variable {X:Cx}
noncomputable def IV(i:Nat):TE:=fun σ H Q=>∃v,σ[i]? =some (some v)∧Q v H
noncomputable def tC(v:V):TE:=fun _ H Q=>Q v H
theorem sG{i:Nat}{x:Str}{pos:Pos}(hN:X.N[i]? =some x)(hv:Ee X.env.scope x)(hd:(x==("__debug__":Str))=false:=by decide)(hcd:(x==("__classdict__":Str))=false:=by decide):PE X (.Name x pos) (IV i):=by
 intro pins s σ H Q I h
 obtain⟨v,e,h⟩:=h
 obtain⟨m,hn,hl⟩:=I.loc
 obtain⟨u,r,l⟩:=hl i x v hN e hv
 have fin:EP X pins σ Q u s:=⟨v,H,I,r,h⟩
 rcases l with⟨hk,hm⟩ | ⟨hk,c,hc,hcell⟩
 ·exact wpAny_Name (wpAny_loadName_local I.ok.kind hk hn hm fin) hd
 ·rcases hk with hk | hk
  ·exact wpAny_Name (wpAny_loadName_cell I.ok.kind hk hc hcell fin) hd
  ·exact wpAny_Name (wpAny_loadName_free I.ok.kind hk hc hcell fin hcd) hd
theorem pZ{i j pos}:PE X (.Constant (.int i) j pos) (tC (.int i)):=fun _ _ _ H _ I h=>wpAny_Constant_int ⟨.int i,H,I.tok _,⟨_,rfl⟩,h⟩
theorem Hb{b j pos}:PE X (.Constant (.bool b) j pos) (tC (.bl b)):=fun _ _ _ H _ I h=>Constant_bool ⟨.bl b,H,I,rfl,h⟩
theorem Fw{j pos}:PE X (.Constant .none j pos) (tC .cq):=fun _ _ _ H _ I h=>Constant_none ⟨.cq,H,I,rfl,h⟩
theorem qg{x j pos}:PE X (.Constant (.str x) j pos) (tC (.str x)):=fun _ _ _ H _ I h=>Calls.Constant_str ⟨.str x,H,I.tok _,⟨_,rfl⟩,h⟩
noncomputable def Gl(X:Cx)(x:Str):Prop:=X.env.kindOf x=some .globalImplicit
theorem xF{E:Value→Shared→Prop}{pins:List (Addr × Obj)}{s:Shared}{σ:St}{H:Hp}{x:Str}{u:Value}{pos:Pos}{Q:Value→Shared→Prop}(I:Inv X pins σ H s)(hg:Gl X x)(hm:X.mg x=some u)(h:Q u s)
 (hd:(x==("__debug__":Str))=false:=by decide):wpAny (model X.prog X.w) X.A (eval (.Name x pos) X.env) Q E s:=
 Calls.Name_function_global I.ok.kind hg (Calls.loadGlobal_global (by rw[I.ok.glob];exact I.mod.glob.keeps I.bk) hm h) hd
theorem k8{E:Value→Shared→Prop}{pins:List (Addr × Obj)}{s:Shared}{σ:St}{H:Hp}{x:Str}{u:Value}{pos:Pos}{Q:Value→Shared→Prop}(I:Inv X pins σ H s)(hg:Gl X x)(hm:X.mg x=none)(hv:bootBuiltins x=some u)(h:Q u s)
 (hn:x≠"__name__":=by decide) (hd:(x==("__debug__":Str))=false:=by decide):wpAny (model X.prog X.w) X.A (eval (.Name x pos) X.env) Q E s:=by
 obtain⟨mb,h1,h2⟩:=I.mod.blt
 exact Calls.Name_function_global I.ok.kind hg (Calls.loadGlobal_builtin (by rw[I.ok.glob];exact I.mod.glob.keeps I.bk) hm (by rw[I.ok.blt];exact h1.keeps I.bk) ((h2 x hn).trans hv) h) hd
theorem CV{x:Str}{v:V}{u:Value}{pos:Pos}(hg:Gl X x)(hm:X.mg x=none)(hv:bootBuiltins x=some u)(r:RelV v u)(hn:x≠"__name__":=by decide)(hd:(x==("__debug__":Str))=false:=by decide):PE X (.Name x pos) (tC v):=
 fun _ _ _ H _ I h=>k8 I hg hm hv ⟨v,H,I,r,h⟩ hn hd
noncomputable def Iz(ta tb:TE)(k:Int→Int→Hp→Prop):St→Hp→Prop:=fun σ H=>ta σ H fun x H1=>tb σ H1 fun y H2=>∃i j,x= .int i∧y= .int j∧k i j H2
noncomputable def K6(ta tb:TE):TE:=fun σ H Q=>Iz ta tb (fun i j H2=>Q (.int (i+j)) H2) σ H
noncomputable def KN(ta tb:TE):TE:=fun σ H Q=>Iz ta tb (fun i j H2=>Q (.int (i - j)) H2) σ H
noncomputable def KO(ta tb:TE):TE:=fun σ H Q=>Iz ta tb (fun i j H2=>(-(2 ^ 64) < i∧i < 2 ^ 64)∧Q (.int (i*j)) H2) σ H
variable {a b:Expr} {ta tb:TE} {pos:Pos}
noncomputable def PC(X:Cx)(op:CmpOp)(a b:Expr)(t:TE):Prop:=
 ∀(pins:List (Addr × Obj)) (s:Shared) (σ:St) (H:Hp) (Q:VK),Inv X pins σ H s→t σ H Q→
  wpAny (model X.prog X.w) X.A (eval a X.env) (fun v s₁=>wpAny (model X.prog X.w) X.A (eval b X.env) (fun u s₂=>wpAny (model X.prog X.w) X.A (compareOp op v u) (EP X pins σ Q) X.xe s₂) X.xe s₁) X.xe s
noncomputable def yo(p:Int→Int→Bool)(ta tb:TE):TE:=fun σ H Q=>Iz ta tb (fun i j H2=>Q (.bl (p i j)) H2) σ H
noncomputable abbrev Lw:TE→TE→TE:=yo fun i j=>decide (i < j)
noncomputable abbrev LM:TE→TE→TE:=yo fun i j=>decide (i≤j)
noncomputable abbrev LO:TE→TE→TE:=yo fun i j=>decide (j < i)
noncomputable abbrev LH:TE→TE→TE:=yo fun i j=>decide (j≤i)
noncomputable abbrev Lu:TE→TE→TE:=yo fun i j=>decide (i=j)
noncomputable abbrev KQ:TE→TE→TE:=yo fun i j=>!decide (i=j)
noncomputable def Kn(ta:TE):TE:=fun σ H Q=>ta σ H fun x H1=>Q (.bl (decide (x= .cq))) H1
noncomputable def Ka(ta:TE):TE:=fun σ H Q=>ta σ H fun x H1=>Q (.bl (!decide (x= .cq))) H1
noncomputable def tB(t:TE):TT:=fun σ H Q=>t σ H fun x H1=>∃c,x= .bl c∧Q c H1
variable {tA tB':TT} {rest:List Expr}
noncomputable def JD(t u:TT):TT:=fun σ H Q=>t σ H fun c H1=>if c=true then u σ H1 Q else Q false H1
noncomputable def K1(t u:TT):TT:=fun σ H Q=>t σ H fun c H1=>if c=true then Q true H1 else u σ H1 Q
noncomputable def JL(t:TT):TT:=fun σ H Q=>t σ H fun c H1=>Q (!c) H1
theorem xK(ha:PT X a tA):PW X (.BoolOp .And [a] pos) tA:=by
 intro wh pins s σ H Q I h
 refine isTrue_and (dW (ha pins s σ H Q I h) fun c s1 e=>?_)
 cases c with
 | true=>exact isTrue_and_nil e
 | false=>exact e
theorem Gp(ha:PT X a tA):PW X (.BoolOp .Or [a] pos) tA:=by
 intro wh pins s σ H Q I h
 refine isTrue_or (dW (ha pins s σ H Q I h) fun c s1 e=>?_)
 cases c with
 | false=>exact isTrue_or_nil e
 | true=>exact e
theorem Bi(ha:PT X a tA)(hb:PW X (.BoolOp .And (b ::rest) pos) tB'):PW X (.BoolOp .And (a ::b ::rest) pos) (JD tA tB'):=by
 intro wh pins s σ H Q I h
 refine isTrue_and (dW (ha pins s σ H _ I h) fun c s1 ⟨H1,I1,q1⟩=>?_)
 cases c with
 | true=>exact hb wh pins s1 σ H1 Q I1 q1
 | false=>exact⟨H1,I1,q1⟩
theorem Hr(ha:PT X a tA)(hb:PW X (.BoolOp .Or (b ::rest) pos) tB'):PW X (.BoolOp .Or (a ::b ::rest) pos) (K1 tA tB'):=by
 intro wh pins s σ H Q I h
 refine isTrue_or (dW (ha pins s σ H _ I h) fun c s1 ⟨H1,I1,q1⟩=>?_)
 cases c with
 | true=>exact⟨H1,I1,q1⟩
 | false=>exact hb wh pins s1 σ H1 Q I1 q1
theorem ET(ha:PT X a tA):PT X (.UnaryOp .Not a pos) (JL tA):=by
 intro pins s σ H Q I h
 exact isTrue_not (ha pins s σ H (fun c H1=>Q (!c) H1) I h)
noncomputable def HG(ta tb:TE):TE:=fun σ H Q=>ta σ H fun x H1=>∃c,x= .bl c∧if c=true then tb σ H1 Q else Q (.bl false) H1
noncomputable def Ku(ta tb:TE):TE:=fun σ H Q=>ta σ H fun x H1=>∃c,x= .bl c∧if c=true then Q (.bl true) H1 else tb σ H1 Q
noncomputable def G8(ta:TE):TE:=fun σ H Q=>ta σ H fun x H1=>∃c,x= .bl c∧Q (.bl (!c)) H1
theorem Af{op}{t:TE}(h:PE X a t):PE X (.BoolOp op [a] pos) t:=fun pins s σ H Q I hw=>BoolOp_one (h pins s σ H Q I hw)
theorem zC(ha:PE X a ta)(hb:PE X (.BoolOp .And (b ::rest) pos) tb):PE X (.BoolOp .And (a ::b ::rest) pos) (HG ta tb):=by
 intro pins s σ H Q I h
 refine BoolOp_and (dW (ha pins s σ H _ I h) fun v s1 ⟨x,H1,I1,r1,q1⟩=>?_)
 obtain⟨c,rfl,q1⟩:=q1
 cases r1
 refine wpAny_truthy_bool ?_
 cases c with
 | true=>exact hb pins s1 σ H1 Q I1 q1
 | false=>exact⟨.bl false,H1,I1,rfl,q1⟩
theorem F9(ha:PE X a ta):PE X (.UnaryOp .Not a pos) (G8 ta):=by
 intro pins s σ H Q I h
 refine UnaryOp_ (dW (ha pins s σ H _ I h) fun v s1 ⟨x,H1,I1,r1,q1⟩=>?_)
 obtain⟨c,rfl,q1⟩:=q1
 cases r1
 exact not_of (wpAny_truthy_bool ⟨.bl (!c),H1,I1,rfl,q1⟩)
noncomputable def KC(t:TT)(ta tb:TE):TE:=fun σ H Q=>t σ H fun c H1=>if c=true then ta σ H1 Q else tb σ H1 Q
theorem A9{c:Expr}(hc:PT X c tA)(ha:PE X a ta)(hb:PE X b tb):PE X (.IfExp c a b pos) (KC tA ta tb):=by
 intro pins s σ H Q I h
 refine wpAny_IfExp (dW (hc pins s σ H _ I h) fun d s1 ⟨H1,I1,q1⟩=>?_)
 cases d with
 | true=>exact ha pins s1 σ H1 Q I1 q1
 | false=>exact hb pins s1 σ H1 Q I1 q1
end
end L2
namespace L2
open PySem PySem.Spec PyProof.Rows
noncomputable def mw(K:PySem.W.Frag)(H:Hp)(a:Addr)(xs:List V):Prop:=
 Rd H a (.lst xs)∨
  ∃(o:Obj) (its:Array Value) (n:Nat),K.lookup a=some o∧o.cls= .type "list"∧o.dict=none∧o.data= .seq its n∧its.size≤sizeLine∧Vals xs its.toList
noncomputable def oQ(K:PySem.W.Frag)(H:Hp)(a:Addr)(xs:List V):Prop:=
 Rd H a (.tup xs)∨
  ∃(o:Obj) (its:Array Value) (n:Nat),K.lookup a=some o∧o.cls= .type "tuple"∧o.data= .seq its n∧its.size≤sizeLine∧Vals xs its.toList
noncomputable def Jd:Value→Option V
 | .none=>some .cq
 | .bool b=>some (.bl b)
 | .int i _=>some (.int i)
 | .str x _=>some (.str x)
 | .bytes b _=>some (.byt b)
 | .float b _=>some (.flt b)
 | .ref a=>some (.ref a)
 | .type n=>some (.ty n)
 | _=>none
theorem RelV.abs{x:V}{u:Value}(r:RelV x u):Jd u=some x:=by
 cases x with
 | cq=>cases r;rfl
 | bl _=>cases r;rfl
 | int _=>obtain⟨t,rfl⟩:=r;rfl
 | str _=>obtain⟨t,rfl⟩:=r;rfl
 | byt _=>obtain⟨t,rfl⟩:=r;rfl
 | flt _=>obtain⟨t,rfl⟩:=r;rfl
 | ref _=>cases r;rfl
 | ty _=>cases r;rfl
theorem RelV.inj{x y:V}{u:Value}(r:RelV x u)(q:RelV y u):x=y:=Option.some.inj (r.abs.symm.trans q.abs)
theorem Vals.inj:∀{xs ys:List V} {us:List Value},Vals xs us→Vals ys us→xs=ys
 | _,_,_, .nil, .nil=>rfl
 | _,_,_, .cons r t, .cons r' t'=>by rw[r.inj r',Vals.inj t t']
section
variable {X:Cx} {pins:List (Addr × Obj)} {σ:St} {H:Hp} {s:Shared} {a:Addr} {xs ys:List V}
theorem mw.of{K:PySem.W.Frag}(h:H a=some (.lst xs)):mw K H a xs:= .inl (.inl h)
theorem Inv.list(I:Inv X pins σ H s)(h:mw X.K H a xs):∃its:List Value,Vals xs its∧PlainL s.heap a its.toArray∧xs.length≤sizeLine:=by
 rcases h with h | ⟨o,its,n,hk,hc,hd,hs,hz,r⟩
 ·obtain⟨z,its,n,r,e⟩:=h.ok I.hok
  exact⟨its,r,⟨_,n,e,rfl,rfl,rfl⟩,z⟩
 ·refine⟨its.toList,r,⟨o,n,I.n_ a o hk,hc,hd,by simpa using hs⟩,?_⟩
  have e:=r.length
  simp only[Array.length_toList] at e
  omega
theorem Inv.tuple(I:Inv X pins σ H s)(h:oQ X.K H a xs):∃its:List Value,Vals xs its∧IsTup s.heap a its.toArray∧xs.length≤sizeLine:=by
 rcases h with h | ⟨o,its,n,hk,hc,hs,hz,r⟩
 ·obtain⟨z,its,r,p⟩:=h.ok I.hok
  exact⟨its,r,p,z⟩
 ·refine⟨its.toList,r,⟨o,I.n_ a o hk,hc,n,by simpa using hs⟩,?_⟩
  have e:=r.length
  simp only[Array.length_toList] at e
  omega
theorem Inv.m8(I:Inv X pins σ H s)(h:mw X.K H a xs)(h':mw X.K H a ys):xs=ys:=by
 obtain⟨its,r,⟨o,n,e,_,_,d⟩,_⟩:=I.list h
 obtain⟨its',r',⟨o',n',e',_,_,d'⟩,_⟩:=I.list h'
 rw[e] at e';cases e'
 rw[d] at d'
 injection d' with d1 _
 have:its=its':=by simpa using congrArg Array.toList d1
 subst this
 exact r.inj r'
theorem Inv.nR(I:Inv X pins σ H s)(h:oQ X.K H a xs)(h':oQ X.K H a ys):xs=ys:=by
 obtain⟨its,r,⟨o,e,_,n,d⟩,_⟩:=I.tuple h
 obtain⟨its',r',⟨o',e',_,n',d'⟩,_⟩:=I.tuple h'
 rw[e] at e';cases e'
 rw[d] at d'
 injection d' with d1 _
 have:its=its':=by simpa using congrArg Array.toList d1
 subst this
 exact r.inj r'
end
noncomputable abbrev Cx.q9(X:Cx)(E:Value→Shared→Prop):Cx:={X with xe:=E}
noncomputable abbrev Cx.DG(X:Cx):Cx:=X.q9 fun _ _=>False
theorem Cx.Ok.q9{X:Cx}(ok:X.Ok)(E:Value→Shared→Prop):(X.q9 E).Ok:=
 ⟨ok.mod,ok.kind,ok.glob,ok.blt,ok.above,ok.inj,ok.has,ok.cab,ok.hd,ok.frames,ok.stk,ok.exf,ok.bs,ok.bsz,ok.noex,ok.exfs,ok.o5,ok.frf⟩
theorem Cx.Ok.k6{X:Cx}{E:Value→Shared→Prop}(ok:(X.q9 E).Ok):X.Ok:=
 ⟨ok.mod,ok.kind,ok.glob,ok.blt,ok.above,ok.inj,ok.has,ok.cab,ok.hd,ok.frames,ok.stk,ok.exf,ok.bs,ok.bsz,ok.noex,ok.exfs,ok.o5,ok.frf⟩
section
variable {X:Cx} {pins:List (Addr × Obj)} {σ:St} {H:Hp} {s:Shared} {E:Value→Shared→Prop}
theorem Inv.q9(I:Inv X pins σ H s)(E:Value→Shared→Prop):Inv (X.q9 E) pins σ H s:=⟨I.ok.q9 E,I.os,I.bare,I.base,I.loc,I.cell,I.free,I.freeC,I.pin,I.hok,I.len⟩
theorem Inv.k6(I:Inv (X.q9 E) pins σ H s):Inv X pins σ H s:=⟨I.ok.k6,I.os,I.bare,I.base,I.loc,I.cell,I.free,I.freeC,I.pin,I.hok,I.len⟩
theorem SP.k6{D:Ends}{f:Flow}{s':Shared}(h:SP (X.q9 E) pins D f s'):SP X pins D f s':=by
 cases f with
 | next=>obtain⟨σ',H',I,q⟩:=h;exact⟨σ',H',I.k6,q⟩
 | brk=>obtain⟨σ',H',I,q⟩:=h;exact⟨σ',H',I.k6,q⟩
 | cont=>obtain⟨σ',H',I,q⟩:=h;exact⟨σ',H',I.k6,q⟩
 | ret u=>obtain⟨v,σ',H',I,r,q⟩:=h;exact⟨v,σ',H',I.k6,r,q⟩
theorem tV.DG{st:List Stmt}{t:TS}(h:tV X.DG st t):tV X st t:=fun pins s σ H D I hw=>
 wpAny_mono (h pins s σ H D (I.q9 _) hw) (fun _ _ q=>q.k6) fun _ _ z=>False.elim z
end
section
variable {X:Cx} {st:Stmt} {rest:List Stmt} {t u:TS} {e:Expr} {te:TE} {pos:Pos}
noncomputable def G1:TS:=fun D σ H=>D.nx σ H
noncomputable def HB(t u:TS):TS:=fun D σ H=>t {D with nx:=u D} σ H
theorem xQ:tV X [] G1:=fun _ _ σ H _ I h=>wpAny_execs_nil ⟨σ,H,I,h⟩
theorem uW(h1:PS X st t)(h2:tV X rest u):tV X (st ::rest) (HB t u):=by
 intro pins s σ H D I h
 refine wpAny_execs_cons (dW (h1 pins s σ H {D with nx:=u D} I h) fun f s1 q=>?_)
 cases f with
 | next=>
   obtain⟨σ',H',I',q⟩:=q
   exact h2 pins s1 σ' H' D I' q
 | ret v=>exact q
 | brk=>exact q
 | cont=>exact q
theorem xo(h1:PS X st t):tV X [st] t:=by
 intro pins s σ H D I h
 refine wpAny_execs_cons (dW (h1 pins s σ H D I h) fun f s1 q=>?_)
 cases f with
 | next=>exact wpAny_execs_nil q
 | ret v=>exact q
 | brk=>exact q
 | cont=>exact q
noncomputable def JO:TS:=fun D σ H=>D.bk σ H
noncomputable def JU:TS:=fun D σ H=>D.ct σ H
theorem Inv.quiet{pins:List (Addr × Obj)}{σ:St}{H:Hp}{s:Shared}(I:Inv X pins σ H s):interactive X.env=false:=by simp [interactive,I.ok.kind]
noncomputable def Hc(te:TE):TS:=fun D σ H=>te σ H fun _ H1=>D.nx σ H1
theorem xI(he:PE X e te)(hs:swapsWith e none pos.line X.env=pure false:=by rfl):PS X (.Expr e pos) (Hc te):=by
 intro pins s σ H D I h
 exact wpAny_Expr_any (dW (he pins s σ H _ I h) fun v s1 ⟨x,H1,I1,r1,q1⟩=>⟨σ,H1,I1,q1⟩) I.quiet hs
noncomputable def Jc(te:TE):TS:=fun D σ H=>te σ H D.rt
theorem AD(he:PE X e te):PS X (.Return (some e) pos) (Jc te):=by
 intro pins s σ H D I h
 exact wpAny_Return_some (dW (he pins s σ H _ I h) fun v s1 ⟨x,H1,I1,r1,q1⟩=>⟨x,σ,H1,I1,r1,q1⟩)
noncomputable def JW:TS:=fun D _ H=>D.rt .cq H
noncomputable def IG(c:TT)(t u:TS):TS:=fun D σ H=>c σ H fun b H1=>if b=true then t D σ H1 else u D σ H1
theorem Eh{c:Expr}{a b:List Stmt}{tc:TT}(hc:PT X c tc)(ha:tV X a t)(hb:tV X b u):PS X (.If c a b pos) (IG tc t u):=by
 intro pins s σ H D I h
 refine wpAny_If (dW (hc pins s σ H _ I h) fun d s1 ⟨H1,I1,q1⟩=>?_)
 cases d with
 | true=>exact ha pins s1 σ H1 D I1 q1
 | false=>exact hb pins s1 σ H1 D I1 q1
noncomputable def JJ:TS:=fun _ _ _=>False
end
noncomputable abbrev TG:=V→St→Hp→(St→Hp→Prop)→Prop
noncomputable abbrev AW:=List V→St→Hp→(St→Hp→Prop)→Prop
noncomputable def PG(X:Cx)(target:Expr)(t:TG):Prop:=
 ∀(pins:List (Addr × Obj)) (s:Shared) (σ:St) (H:Hp) (v:V) (u:Value) (Q:St→Hp→Prop),Inv X pins σ H s→RelV v u→t v σ H Q→
  wpAny (model X.prog X.w) X.A (assign target X.env u) (fun _ s'=>∃σ' H',Inv X pins σ' H' s'∧Q σ' H') X.xe s
noncomputable def Ct(X:Cx)(ts:List Expr)(t:AW):Prop:=
 ∀(pins:List (Addr × Obj)) (s:Shared) (σ:St) (H:Hp) (vs:List V) (us:List Value) (Q:St→Hp→Prop),Inv X pins σ H s→Vals vs us→t vs σ H Q→
  wpAny (model X.prog X.w) X.A (assignInOrder ((assignEach ts X.env).map (·.2)) us) (fun _ s'=>∃σ' H',Inv X pins σ' H' s'∧Q σ' H') X.xe s
noncomputable abbrev Ce:=V→V→V→Hp→(Hp→Prop)→Prop
noncomputable def HE(X:Cx)(t:Ce):Prop:=
 ∀(pins:List (Addr × Obj)) (s:Shared) (σ:St) (H:Hp) (o i v:V) (ov iv u:Value) (Q:Hp→Prop),Inv X pins σ H s→RelV o ov→RelV i iv→RelV v u→t o i v H Q→
  wpAny (model X.prog X.w) X.A (setItem ov iv u) (fun _ s'=>∃H',Inv X pins σ H' s'∧Q H') X.xe s
noncomputable abbrev Ik:=V→V→Hp→VK→Prop
noncomputable def LL(X:Cx)(op:Operator)(t:Ik):Prop:=
 ∀(pins:List (Addr × Obj)) (s:Shared) (σ:St) (H:Hp) (x y:V) (v u:Value) (Q:VK),Inv X pins σ H s→RelV x v→RelV y u→t x y H Q→
  wpAny (model X.prog X.w) X.A (inplaceOp op v u) (EP X pins σ Q) X.xe s
section
variable {X:Cx} {pos:Pos}
noncomputable def pN(i:Nat):TG:=fun v σ H Q=>Q (σ.set i (some v)) H
theorem xx{i:Nat}{x:Str}(hN:X.N.Nodup)(hi:X.N[i]? =some x)(hx:Loc X.env.scope x)(hf:X.fn x=true∨X.env.scope.names.lookup x=some .local:=by first | exact .inl rfl | exact .inr rfl | assumption):PG X (.Name x pos) (pN i):=by
 intro pins s σ H v u Q I r h
 exact wpAny_assign_Name (uR I hN hi hx r (fun s' I'=>⟨_,H,I',h⟩) hf)
noncomputable def JK:AW:=fun vs σ H Q=>vs=[]∧Q σ H
noncomputable def G6(t:TG)(u:AW):AW:=fun vs σ H Q=>∃v r,vs=v ::r∧t v σ H fun σ' H'=>u r σ' H' Q
theorem xX:Ct X [] JK:=by
 intro pins s σ H vs us Q I r h
 obtain⟨e,h⟩:=h
 subst e
 cases r
 exact assignInOrder_nil ⟨σ,H,I,h⟩
theorem ug{e:Expr}{es:List Expr}{t:TG}{u:AW}(h1:PG X e t)(h2:Ct X es u)
 (hs:(assignEach (e ::es) X.env).map (·.2)=assign e X.env ::(assignEach es X.env).map (·.2):=by rfl):Ct X (e ::es) (G6 t u):=by
 intro pins s σ H vs us Q I r h
 obtain⟨v,vr,e1,h⟩:=h
 subst e1
 cases r with
 | cons r rr=>
   rw[hs]
   refine assignInOrder_cons (dW (h1 pins s σ H _ _ _ I r h) fun _ s1 ⟨σ1,H1,I1,q1⟩=>?_)
   exact h2 pins s1 σ1 H1 _ _ Q I1 rr q1
noncomputable def JI(K:PySem.W.Frag)(n:Nat)(t:AW):TG:=fun v σ H Q=>∃a xs,v= .ref a∧oQ K H a xs∧xs.length=n∧t xs σ H Q
theorem A8{es:List Expr}{k:Nat}{t:AW}{n:Nat}(hc:X.calm=true)(h:Ct X es t)
 (hn:(assignEach es X.env).length=n:=by rfl) (hst:(assignEach es X.env).findIdx? (·.1)=none:=by rfl):PG X (.Tuple es k pos) (JI X.K n t):=by
 intro pins s σ H v u Q I r hw
 obtain⟨a,xs,e1,hq,hl,hw⟩:=hw
 subst e1
 cases r
 obtain⟨its,rv,ht,hz⟩:=I.tuple hq
 refine assign_Tuple_tuple (I.ok.hd hc) ht (by simp [hn,←hl,rv.length]) hst fun h' hx=>?_
 have I1:Inv X pins σ H {s with heap:=h'}:=I.kept (t':=s.toks) fun b o e=>hx b o (Nat.ne_of_lt (Heap.lt_size e)) e
 exact h pins _ σ H xs _ Q I1 (by simpa using rv) hw
noncomputable def Hx(to ti:TE)(t:Ce):TG:=fun v σ H Q=>to σ H fun o H1=>ti σ H1 fun i H2=>t o i v H2 fun H3=>Q σ H3
theorem sO{o i:Expr}{to ti:TE}{t:Ce}(ho:PE X o to)(hi:PE X i ti)(hs:HE X t)
 (ha:∀v,assign (.Subscript o i pos) X.env v=(do
   let ov ←holding [v] (eval o X.env)
   let iv ←holding [v,ov] (eval i X.env)
   standAt pos
   holding [v,ov,iv] (setItem ov iv v)
   release [v,ov,iv] []):=by intro _;rfl):PG X (.Subscript o i pos) (Hx to ti t):=by
 intro pins s σ H v u Q I r h
 rw[ha]
 refine wpAny_bind (wpAny_holding (dW (ho pins s σ H _ I h) fun ov s1 ⟨x,H1,I1,r1,q1⟩=>?_))
 refine wpAny_bind (wpAny_holding (dW (hi pins s1 σ H1 _ I1 q1) fun iv s2 ⟨y,H2,I2,r2,q2⟩=>?_))
 refine wpAny_bind (wpAny_standAt (wpAny_bind (wpAny_holding (dW (hs pins s2 σ H2 x y v ov iv u _ I2 r1 r2 r q2) fun _ s3 ⟨H3,I3,q3⟩=>?_))))
 exact wpAny_release ⟨σ,H3,I3,q3⟩
noncomputable def yy(te:TE)(g:TG):TS:=fun D σ H=>te σ H fun x H1=>g x σ H1 D.nx
theorem zy{tg e:Expr}{te:TE}{g:TG}(he:PE X e te)(hg:PG X tg g)(hs:swapsWithSole [tg] e pos.line X.env=pure false:=by rfl)(hw:swappedStores [tg] e X.env=pure none:=by rfl)
 (h1:(assignEach [tg] X.env).map (·.2)=[assign tg X.env]:=by rfl):PS X (.Assign [tg] e pos) (yy te g):=by
 intro pins s σ H D I h
 refine wpAny_Assign_stores (dW (he pins s σ H _ I h) fun v s1 ⟨x,H1,I1,r1,q1⟩=>?_) hs hw
 rw[h1]
 exact dW (hg pins s1 σ H1 x v _ I1 r1 q1) fun _ s2 q=>q
theorem vJ{i:Nat}{x:Str}{e:Expr}{te:TE}{pos':Pos}(hN:X.N.Nodup)(hi:X.N[i]? =some x)(hx:Loc X.env.scope x)(he:PE X e te)(hs:swapsWith e (some (.Name x pos')) pos.line X.env=pure false:=by rfl)(hf:X.fn x=true∨X.env.scope.names.lookup x=some .local:=by first | exact .inl rfl | exact .inr rfl | assumption) :
 PS X (.Assign [.Name x pos'] e pos) (yy te (pN i)):=by
 intro pins s σ H D I h
 refine wpAny_Assign_Name (dW (he pins s σ H _ I h) fun v s1 ⟨y,H1,I1,r1,q1⟩=>?_) hs
 exact uR I1 hN hi hx r1 (fun s2 I2=>⟨_,H1,I2,q1⟩) hf
noncomputable def KL(i j:Nat)(ta:TA):TS:=fun D σ H=>ta σ H fun vs H1=>∃v w,vs=[v,w]∧D.nx ((σ.set i (some v)).set j (some w)) H1
noncomputable def KG(i:Nat)(te:TE)(ti:Ik):TS:=fun D σ H=>∃x,σ[i]? =some (some x)∧te σ H fun y H1=>ti x y H1 fun z H2=>D.nx (σ.set i (some z)) H2
noncomputable def J6(to ti te:TE)(tget:V→V→Hp→VK→Prop)(tip:Ik)(tset:Ce):TS:=fun D σ H=>to σ H fun o H1=>ti σ H1 fun i H2=>tget o i H2 fun x H3=>te σ H3 fun y H4=>tip x y H4 fun z H5=>tset o i z H5 fun H6=>D.nx σ H6
noncomputable def Lg(X:Cx)(t:V→V→Hp→VK→Prop):Prop:=
 ∀(pins:List (Addr × Obj)) (s:Shared) (σ:St) (H:Hp) (o i:V) (ov iv:Value) (Q:VK),Inv X pins σ H s→RelV o ov→RelV i iv→t o i H Q→
  wpAny (model X.prog X.w) X.A (getItem ov iv) (EP X pins σ Q) X.xe s
noncomputable def Ly(f:Int→Int→Int):Ik:=fun x y H Q=>∃i j,x= .int i∧y= .int j∧Q (.int (f i j)) H
end
section
variable {X:Cx} {pos:Pos}
noncomputable def FP(c:TT)(tb:TS):TS:=fun D σ H=>∃W:Nat→St→Hp→Prop,(∃m,W m σ H)∧∀m σ H,W m σ H→
 c σ H fun b H1=>if b=true then ∃N:St→Hp→Prop,(∀σ' H',N σ' H'→∃m',m' < m∧W m' σ' H')∧tb {D with nx:=N,ct:=N,bk:=D.nx} σ H1 else D.nx σ H1
theorem zA{c:Expr}{body:List Stmt}{tc:TT}{tb:TS}(hp:PassesOwn (model X.prog X.w) X.A X.env X.xe)(hc:PT X c tc)(hb:tV X body tb):PS X (.While c body [] pos) (FP tc tb):=by
 intro pins s σ H D I h
 obtain⟨W,⟨m0,w0⟩,turn⟩:=h
 refine wpAny_While (codeAny_whileLoop (fun n s'=>∃σ' H',Inv X pins σ' H' s'∧W n σ' H') ?_ m0 ⟨σ,H,I,w0⟩)
 rintro n s1 ⟨σ1,H1,I1,w1⟩
 refine wpAny_passesOwn hp (dW (hc pins s1 σ1 H1 _ I1 (turn n σ1 H1 w1)) fun b s2 ⟨H2,I2,q2⟩=>?_)
 cases b with
 | true=>
   obtain⟨N,hN,q2⟩:=q2
   rw[if_pos rfl]
   refine wpAny_passesOwn hp (dW (hb pins s2 σ1 H2 _ I2 q2) fun f s3 q3=>?_)
   cases f with
   | next=>
     obtain⟨σ3,H3,I3,n3⟩:=q3
     obtain⟨m',hm,w3⟩:=hN σ3 H3 n3
     exact⟨m',hm,σ3,H3,I3,w3⟩
   | cont=>
     obtain⟨σ3,H3,I3,n3⟩:=q3
     obtain⟨m',hm,w3⟩:=hN σ3 H3 n3
     exact⟨m',hm,σ3,H3,I3,w3⟩
   | brk=>exact q3
   | ret v=>exact q3
 | false=>
   rw[if_neg Bool.false_ne_true]
   exact wpAny_execs_nil ⟨σ1,H2,I2,q2⟩
end
structure It where
 go:Nat→Hp→Prop
 yld:Nat→Hp→V→Hp→Prop
 stop:Nat→Hp→Prop
noncomputable def o7(X:Cx)(pins:List (Addr × Obj))(H:Hp)(b:Addr):Prop:=
 H b=none∧b≠X.env.locals∧b ∉ X.fs∧(b∈X.ex∨X.s₀.heap.objs.size≤b)∧(∀x c,X.env.cells.lookup x=some c→c≠b)∧∀p∈X.pn++pins,p.1≠b
theorem Inv.qP{X:Cx}{pins:List (Addr × Obj)}{σ:St}{H H':Hp}{s:Shared}{b:Addr}(I:Inv X pins σ H s)(hb:s.heap.objs.size≤b)(hn:H' b=none):o7 X pins H' b:=by
 refine⟨hn,Nat.ne_of_gt (Nat.lt_of_lt_of_le I.lt hb),I.IM hb, .inr (Nat.le_trans I.sz hb),fun x c e z=>?_,fun p hp z=>?_⟩
 ·obtain⟨v,q⟩:=I.cell x c e
  exact absurd (Nat.lt_of_lt_of_le q.lt (by rw[z];exact hb)) (Nat.lt_irrefl _)
 ·exact absurd (Nat.lt_of_lt_of_le (Heap.lt_size (I.pin p hp).1) (by rw[z];exact hb)) (Nat.lt_irrefl _)
structure Turn (P:Program) (w:World) (K:PySem.W.Frag) (tg:Expr) (J:It) (fp:List Addr) (it:Addr) (tn:Nat→Heap→Prop):Prop where
 mem:it∈fp
 obj:∀i h,tn i h→∀b∈fp,∃o,h.get? b=some o∧∀v,o.data≠ .cell v
 keep:∀i h h',tn i h→(∀b∈fp,∀o,h.get? b=some o→h'.get? b=some o)→tn i h'
 item:∀(X:Cx),X.prog=P→X.w=w→X.K=K→X.calm=true→∀(i:Nat) (pins:List (Addr × Obj)) (s:Shared) (σ:St) (H:Hp) (E:Value→Shared→Prop),Inv X pins σ H s→(∀b∈fp,o7 X pins H b)→tn i s.heap→J.go i H→
  wpAny (model P w) X.A (pyNext (.ref it)) (fun r s1=>∃u,r=some u∧
   wpAny (model P w) X.A (letOwnedTupleGo tg (.ref it) u) (fun _ s2=>∃x H',Inv X pins σ H' s2∧RelV x u∧J.yld i H x H'∧tn (i+1) s2.heap∧∀b∈fp,H' b=none) E s1) E s
 done:∀(X:Cx),X.prog=P→X.w=w→X.K=K→X.calm=true→∀(i:Nat) (pins:List (Addr × Obj)) (s:Shared) (σ:St) (H:Hp) (E:Value→Shared→Prop),Inv X pins σ H s→(∀b∈fp,o7 X pins H b)→tn i s.heap→J.stop i H→
  wpAny (model P w) X.A (pyNext (.ref it)) (fun r s1=>r=none∧Inv X pins σ H s1) E s
 self:∀(A:Around) (i:Nat) (s:Shared) (Q:Value→Shared→Prop) (E:Value→Shared→Prop),tn i s.heap→Q (.ref it) s→wpAny (model P w) A (pyIter (.ref it)) Q E s
noncomputable abbrev TI:=St→Hp→(It→Hp→Prop)→Prop
noncomputable def Kf(X:Cx)(pins:List (Addr × Obj))(σ:St)(tg:Expr)(R:It→Hp→Prop)(itv:Value)(s2:Shared):Prop:=
 ∃(it:Addr) (fp:List Addr) (tn:Nat→Heap→Prop) (J:It) (H':Hp),itv= .ref it∧Inv X pins σ H' s2∧Turn X.prog X.w X.K tg J fp it tn∧tn 0 s2.heap∧(∀b∈fp,o7 X pins H' b)∧R J H'
noncomputable def PI(X:Cx)(tg iter:Expr)(wi:TI):Prop:=
 ∀(pins:List (Addr × Obj)) (s:Shared) (σ:St) (H:Hp) (R:It→Hp→Prop),Inv X pins σ H s→wi σ H R→
  wpAny (model X.prog X.w) X.A (eval iter X.env) (fun v s1=>wpAny (model X.prog X.w) X.A (pyIter v) (Kf X pins σ tg R) X.xe s1) X.xe s
theorem xZ{M:Model}{A:Around}{E:Value→Shared→Prop}{s:Shared}{tg:Expr}{it:Addr}{u:Value}{o:Obj}{n:String}{vs:Array Value}{Q:Unit→Shared→Prop}(ho:s.heap.get? it=some o)(hc:o.cls= .type n)(hd:o.data= .fields vs)
 (hn:["enumerate","zip","dict_itemiterator","dict_reverseitemiterator","odict_iterator","itertools.zip_longest","itertools.pairwise"].contains n=false) (hQ:Q () s):wpAny M A (letOwnedTupleGo tg (.ref it) u) Q E s:=by
 unfold letOwnedTupleGo
 cases tg <;> first
  | exact wpAny_pure hQ
  | (cases u <;> first
      | exact wpAny_pure hQ
      | (refine wpAny_bind (wpAny_load ho ?_)
         rw[hc,hd]
         show wpAny M A (if(["enumerate","zip","dict_itemiterator","dict_reverseitemiterator","odict_iterator","itertools.zip_longest","itertools.pairwise"].contains n && vs[0]? ==some (rawInt _))=true then _ else _) Q E s
         rw[if_neg (by intro h;rw [hn,Bool.false_and] at h;cases h)]
         exact wpAny_pure hQ))
noncomputable def JS(K:PySem.W.Frag)(a:Addr):It:=
 ⟨fun i H=>∃xs x,mw K H a xs∧xs[i]? =some x,fun i H x H'=>H'=H∧∀xs,mw K H a xs→xs[i]? =some x,fun i H=>∃xs,mw K H a xs∧xs.length≤i⟩
noncomputable def J7(K:PySem.W.Frag)(a:Addr):It:=
 ⟨fun i H=>∃xs x,oQ K H a xs∧xs[i]? =some x,fun i H x H'=>H'=H∧∀xs,oQ K H a xs→xs[i]? =some x,fun i H=>∃xs,oQ K H a xs∧xs.length≤i⟩
noncomputable def HU(lo:Int)(n:Nat):It:=⟨fun i _=>i < n,fun i H x H'=>H'=H∧x= .int (lo+i),fun i _=>n≤i⟩
theorem rQ{P:Program}{w:World}{K:PySem.W.Frag}{tg:Expr}(a it:Addr):Turn P w K tg (JS K a) [it] it (fun i h=>h.IsListIter it a i) where
 mem:=by simp
 obj:=fun i h st b hb=>by
  have e:b=it:=by simpa using hb
  subst e
  obtain⟨o,e,c,d⟩:=st
  exact⟨o,e,fun v z=>by rw[d] at z;cases z⟩
 keep:=fun i h h' st k=>st.at fun o e=>k it (by simp) o e
 item:=by
  intro X hP hw hK hc i pins s σ H E I hf st hg
  subst hP hw hK
  obtain⟨xs,x,hq,hx⟩:=hg
  obtain⟨its,rv,p,hz⟩:=I.list hq
  obtain⟨u,hu,ru⟩:=rv.get hx
  obtain⟨f0,f1,f2,f3,f4,f5⟩:=hf it (by simp)
  refine wpAny_pyNext_list_item st p.isList (x:=u) (by simpa using hu) fun h' st' sb=>?_
  have I1:Inv X pins σ H {s with heap:=h'}:=I.turned (t':=s.toks) (fun b o hb e=>(sb.2 b hb).trans e) f0 f1 f3 f4 f5
  obtain⟨o,e,c,d⟩:=id st'
  exact⟨u,rfl,xZ (s:={s with heap:=h'}) e c d (by decide) ⟨x,H,I1,ru,⟨rfl,fun ys hy=>by rw[I.m8 hy hq];exact hx⟩,st',fun b hb=>(hf b hb).1⟩⟩
 done:=by
  intro X hP hw hK hc i pins s σ H E I hf st hg
  subst hP hw hK
  obtain⟨xs,hq,hx⟩:=hg
  obtain⟨its,rv,p,hz⟩:=I.list hq
  obtain⟨f0,f1,f2,f3,f4,f5⟩:=hf it (by simp)
  have hl:=rv.length
  exact wpAny_pyNext_list_end (I.ok.hd hc) st p.isList (by simp;omega) fun h' eb=>⟨rfl,I.turned (t':=s.toks) (fun b o hb e=>eb b o hb e) f0 f1 f3 f4 f5⟩
 self:=fun _ _ _ _ _ st h=>wpAny_pyIter_listiter st h
theorem vQ{P:Program}{w:World}{K:PySem.W.Frag}{tg:Expr}(a it:Addr):Turn P w K tg (J7 K a) [it] it (fun i h=>h.IsTupleIter it a i) where
 mem:=by simp
 obj:=fun i h st b hb=>by
  have e:b=it:=by simpa using hb
  subst e
  obtain⟨o,e,c,d⟩:=st
  exact⟨o,e,fun v z=>by rw[d] at z;cases z⟩
 keep:=fun i h h' st k=>st.at fun o e=>k it (by simp) o e
 item:=by
  intro X hP hw hK hc i pins s σ H E I hf st hg
  subst hP hw hK
  obtain⟨xs,x,hq,hx⟩:=hg
  obtain⟨its,rv,p,hz⟩:=I.tuple hq
  obtain⟨u,hu,ru⟩:=rv.get hx
  obtain⟨f0,f1,f2,f3,f4,f5⟩:=hf it (by simp)
  refine wpAny_pyNext_tuple_item st (show s.heap.IsTuple a its.toArray from p) (x:=u) (by simpa using hu) fun h' st' sb=>?_
  have I1:Inv X pins σ H {s with heap:=h'}:=I.turned (t':=s.toks) (fun b o hb e=>(sb.2 b hb).trans e) f0 f1 f3 f4 f5
  obtain⟨o,e,c,d⟩:=id st'
  exact⟨u,rfl,xZ (s:={s with heap:=h'}) e c d (by decide) ⟨x,H,I1,ru,⟨rfl,fun ys hy=>by rw[I.nR hy hq];exact hx⟩,st',fun b hb=>(hf b hb).1⟩⟩
 done:=by
  intro X hP hw hK hc i pins s σ H E I hf st hg
  subst hP hw hK
  obtain⟨xs,hq,hx⟩:=hg
  obtain⟨its,rv,p,hz⟩:=I.tuple hq
  obtain⟨f0,f1,f2,f3,f4,f5⟩:=hf it (by simp)
  have hl:=rv.length
  exact wpAny_pyNext_tuple_end (I.ok.hd hc) st (show s.heap.IsTuple a its.toArray from p) (by simp;omega) fun h' eb=>⟨rfl,I.turned (t':=s.toks) (fun b o hb e=>eb b o hb e) f0 f1 f3 f4 f5⟩
 self:=fun _ _ _ _ _ st h=>wpAny_pyIter_tupleiter st h
theorem vG{P:Program}{w:World}{K:PySem.W.Frag}{tg:Expr}(it:Addr)(lo:Int)(n:Nat):Turn P w K tg (HU lo n) [it] it (fun i h=>IsRangeIter h it (lo+(i:Nat)*1) ((n:Int) - (i:Nat)) 1) where
 mem:=by simp
 obj:=fun i h st b hb=>by
  have e:b=it:=by simpa using hb
  subst e
  exact⟨_,st,fun v z=>by
   have z':Data.fields _=Data.cell v:=z
   cases z'⟩
 keep:=fun i h h' st k=>k it (by simp) _ st
 item:=by
  intro X hP hw hK hc i pins s σ H E I hf st hg
  subst hP hw hK
  obtain⟨f0,f1,f2,f3,f4,f5⟩:=hf it (by simp)
  have W:=Walks.range (prog:=X.prog) (w:=X.w) (I.ok.hd hc) it lo 1 n
  refine W.item i s _ _ hg st fun v h' tk hv st' kk=>?_
  obtain⟨t,rfl⟩:=hv
  have I1:Inv X pins σ H {s with heap:=h',toks:=tk}:=I.turned (fun b o hb e=>kk b o (by simpa using hb) e) f0 f1 f3 f4 f5
  refine⟨_,rfl,xZ (s:={s with heap:=h',toks:=tk}) (n:="range_iterator") st' rfl rfl (by decide) ⟨.int (lo+i),H,I1,⟨t,?_⟩,⟨rfl,rfl⟩,st',fun b hb=>(hf b hb).1⟩⟩
  rw[Int.mul_one]
 done:=by
  intro X hP hw hK hc i pins s σ H E I hf st hg
  subst hP hw hK
  obtain⟨f0,f1,f2,f3,f4,f5⟩:=hf it (by simp)
  exact wpAny_pyNext_range_end (I.ok.hd hc) st (by have:n≤i:=hg;omega) fun h' eb=>⟨rfl,I.turned (t':=s.toks) (fun b o hb e=>eb b o hb e) f0 f1 f3 f4 f5⟩
 self:=fun _ _ _ _ _ st h=>wpAny_pyIter_rangeiter st h
end L2
namespace L2
open PySem PySem.Spec PyProof.Rows
section
variable {X:Cx} {tg:Expr}
noncomputable def J_(K:PySem.W.Frag)(tl:TE):TI:=fun σ H R=>tl σ H fun x H1=>∃a,x= .ref a∧(∃xs,mw K H1 a xs)∧R (JS K a) H1
noncomputable def Jr(K:PySem.W.Frag)(tl:TE):TI:=fun σ H R=>tl σ H fun x H1=>∃a,x= .ref a∧(∃xs,oQ K H1 a xs)∧R (J7 K a) H1
theorem zD{pins:List (Addr × Obj)}{σ:St}{H:Hp}{s:Shared}{R:It→Hp→Prop}{E:Value→Shared→Prop}{lo hi:Int}{t u v:Tok}{tk:Nat}(I:Inv X pins σ H s)(h1: -(2 ^ 62)≤lo)(h2:lo < 2 ^ 62)(h3: -(2 ^ 62)≤hi)(h4:hi < 2 ^ 62)
 (q:R (HU lo (hi - lo).toNat) H):wpAny (model X.prog X.w) X.A (pyIter (.ref s.heap.objs.size)) (Kf X pins σ tg R) E {s with heap:=s.heap.push {cls:= .type "range",data:= .fields #[.int lo t, .int hi u, .int 1 v]},toks:=tk}:=by
 refine wpAny_pyIter_range (IsRange.new ..) (small_one h1 h2 h3 h4) ?_
 have I1:Inv X pins σ H {s with heap:=s.heap.push {cls:= .type "range",data:= .fields #[.int lo t, .int hi u, .int 1 v]},toks:=tk}:=I.kept fun b o e=>Heap.get?_push_of_some _ e
 refine⟨(s.heap.push {cls:= .type "range",data:= .fields #[.int lo t, .int hi u, .int 1 v]}).objs.size,[(s.heap.push {cls:= .type "range",data:= .fields #[.int lo t, .int hi u, .int 1 v]}).objs.size],_,_,H,rfl,
  I1.kept (t':=tk) fun b o e=>Heap.get?_push_of_some _ e,vG _ lo (hi - lo).toNat,?_,fun b hb=>?_,q⟩
 ·have e1:lo+((0:Nat):Int)*1=lo:=by simp
  have e2:(((hi - lo).toNat:Nat):Int) - ((0:Nat):Int)=Builtin.Range.rangeSize lo hi 1:=by rw[rangeSize_one];split <;> omega
  show IsRangeIter _ _ (lo+((0:Nat):Int)*1) ((((hi - lo).toNat:Nat):Int) - ((0:Nat):Int)) 1
  rw[e1,e2]
  exact Heap.get?_push_size _ rfl
 ·have e:b=(s.heap.push {cls:= .type "range",data:= .fields #[.int lo t, .int hi u, .int 1 v]}).objs.size:=by simpa using hb
  subst e
  exact I1.qP (Nat.le_refl _) (I1.hok.fresh (Nat.le_refl _))
noncomputable def lO(ta:TA):TI:=fun σ H R=>ta σ H fun vs H1=>∃j:Int,vs=[.int j]∧ -(2 ^ 62)≤j∧j < 2 ^ 62∧R (HU 0 j.toNat) H1
noncomputable def J9(ta:TA):TI:=fun σ H R=>ta σ H fun vs H1=>∃i j:Int,vs=[.int i, .int j]∧(-(2 ^ 62)≤i∧i < 2 ^ 62∧ -(2 ^ 62)≤j∧j < 2 ^ 62)∧R (HU i (j - i).toNat) H1
theorem sj{a:Expr}{ta:TA}{p pos:Pos}(hg:Gl X "range")(hm:X.mg "range"=none)(ha:PA X [a] ta)(hs:starEach [a] X.env=[(false,eval a X.env)]:=by rfl):PI X tg (.Call (.Name "range" p) [a] [] pos) (lO ta):=by
 intro pins s σ H R I h
 refine Call_ (k8 I hg hm boot_range (PyProof.Rows.callWith_type1 (dW (ha pos pins s σ H _ I h) fun us s1 ⟨vs,H1,I1,r1,q1⟩=>?_) hs rfl))
 obtain⟨j,e,q1,q2,q⟩:=q1
 subst e
 cases r1 with
 | cons r rr=>
   cases rr
   obtain⟨t,rfl⟩:=r
   exact call_range_1 (zD I1 (by omega) (by omega) q1 q2 (by simpa using q))
noncomputable def JM(wi:TI)(g:TG)(tb:TS):TS:=fun D σ H=>wi σ H fun J H1=>∃W:Nat→Nat→St→Hp→Prop,(∃m,W 0 m σ H1)∧∀i m σ H,W i m σ H→
 (J.stop i H∧D.nx σ H)∨(J.go i H∧∃N:St→Hp→Prop,(∀σ' H',N σ' H'→∃m',m' < m∧W (i+1) m' σ' H')∧∀x H',J.yld i H x H'→g x σ H' fun σ2 H2=>tb {D with nx:=N,ct:=N,bk:=D.nx} σ2 H2)
noncomputable def l3(fp:List Addr)(h:Heap):List (Addr × Obj):=fp.filterMap fun b=>(h.get? b).map fun o=>(b,o)
theorem jS{fp:List Addr}{h:Heap}{b:Addr}{o:Obj}(hb:b∈fp)(e:h.get? b=some o):(b,o)∈l3 fp h:=List.mem_filterMap.mpr ⟨b,hb,by rw[e];rfl⟩
theorem yr{fp:List Addr}{h:Heap}{p:Addr × Obj}(hp:p∈l3 fp h):p.1∈fp∧h.get? p.1=some p.2:=by
 obtain⟨b,hb,e⟩:=List.mem_filterMap.mp hp
 cases q:h.get? b with
 | none=>rw [q] at e;cases e
 | some o=>
   rw[q] at e
   have e':(b,o)=p:=Option.some.inj e
   subst e'
   exact⟨hb,q⟩
theorem Inv.pinned{pins:List (Addr × Obj)}{σ:St}{H:Hp}{s:Shared}{fp:List Addr}(I:Inv X pins σ H s)(hf:∀b∈fp,o7 X pins H b)(ho:∀b∈fp,∃o,s.heap.get? b=some o∧∀v,o.data≠ .cell v):Inv X (pins++l3 fp s.heap) σ H s:=
 I.xi fun p hp=>(List.mem_append.mp hp).elim (fun z=>I.pin p (List.mem_append_right _ z)) fun z=>by
  obtain⟨hb,e⟩:=yr z
  obtain⟨f0,f1,f2,_⟩:=hf p.1 hb
  obtain⟨o,e',d⟩:=ho p.1 hb
  rw[e] at e';cases e'
  exact⟨e,f0,f1,f2,d⟩
theorem Inv.nh{pins pl:List (Addr × Obj)}{σ:St}{H:Hp}{s:Shared}(I:Inv X (pins++pl) σ H s):Inv X pins σ H s:=I.xi fun p hp=>I.pin p (List.mem_append_right _ (List.mem_append_left _ hp))
theorem Ah{iter:Expr}{body:List Stmt}{wi:TI}{g:TG}{tb:TS}{pos:Pos}(hp:PassesOwn (model X.prog X.w) X.A X.env X.xe)(hc:X.calm=true)(hi:PI X tg iter wi)(hg:PG X tg g)(hb:tV X body tb)
 (hs:∀x,foldedSetIterable iter X.env x=pure x:=by intro _;rfl):PS X (.For tg iter body [] pos) (JM wi g tb):=by
 intro pins s σ H D I h
 refine wpAny_For (dW (hi pins s σ H _ I h) fun v s1 h1=>dW h1 fun itv s2 h2=>?_) hs
 obtain⟨it,fp,tn,J,H2,e,I2,T,st2,f2,W,⟨m0,w0⟩,turn⟩:=h2
 subst e
 have stat:∀{H':Hp},(∀b∈fp,H' b=none)→∀b∈fp,o7 X pins H' b:=fun hn b hb=>⟨hn b hb,(f2 b hb).2⟩
 refine codeAny_forLoop_any (fun n s'=>∃i σ' H',Inv X pins σ' H' s'∧tn i s'.heap∧(∀b∈fp,H' b=none)∧W i n σ' H') ?_ m0 ⟨0,σ,H2,I2,st2,fun b hb=>(f2 b hb).1,w0⟩
 rintro n s3 ⟨i,σ3,H3,I3,st3,fr3,w3⟩
 rcases turn i n σ3 H3 w3 with⟨stop,qn⟩ | ⟨go,N,hN,step⟩
 ·refine wpAny_passesOwn hp (dW (T.done X rfl rfl rfl hc i pins s3 σ3 H3 X.xe I3 (stat fr3) st3 stop) fun r s4 ⟨hr,I4⟩=>?_)
  subst hr
  exact wpAny_execs_nil ⟨σ3,H3,I4,qn⟩
 ·refine wpAny_passesOwn hp (dW (T.item X rfl rfl rfl hc i pins s3 σ3 H3 X.xe I3 (stat fr3) st3 go) fun r s4 ⟨u,hr,h4⟩=>?_)
  subst hr
  refine wpAny_passesOwn hp (dW h4 fun _ s5 ⟨x,H5,I5,r5,y5,st5,fr5⟩=>?_)
  have I5':=I5.pinned (stat fr5) (T.obj _ _ st5)
  refine wpAny_passesOwn hp (dW (hg _ s5 σ3 H5 x u _ I5' r5 (step x H5 y5)) fun _ s6 ⟨σ6,H6,I6,q6⟩=>?_)
  refine wpAny_passesOwn hp (dW (hb _ s6 σ6 H6 _ I6 q6) fun f s7 q7=>?_)
  have again:∀{σ7:St} {H7:Hp},Inv X (pins++l3 fp s5.heap) σ7 H7 s7→N σ7 H7→∃m,m < n∧∃i σ' H',Inv X pins σ' H' s7∧tn i s7.heap∧(∀b∈fp,H' b=none)∧W i m σ' H':=fun {σ7 H7} I7 n7=>by
   obtain⟨m',hm,w7⟩:=hN σ7 H7 n7
   refine⟨m',hm,i+1,σ7,H7,I7.nh,T.keep _ _ _ st5 fun b hb o e=>(I7.pin (b,o) (List.mem_append_right _ (List.mem_append_right _ (jS hb e)))).1,fun b hb=>?_,w7⟩
   obtain⟨o,e,d⟩:=T.obj _ _ st5 b hb
   exact(I7.pin (b,o) (List.mem_append_right _ (List.mem_append_right _ (jS hb e)))).2.1
  cases f with
  | next=>obtain⟨σ7,H7,I7,n7⟩:=q7;exact again I7 n7
  | cont=>obtain⟨σ7,H7,I7,n7⟩:=q7;exact again I7 n7
  | brk=>obtain⟨σ7,H7,I7,q7⟩:=q7;exact⟨σ7,H7,I7.nh,q7⟩
  | ret v=>obtain⟨x7,σ7,H7,I7,r7,q7⟩:=q7;exact⟨x7,σ7,H7,I7.nh,r7,q7⟩
end
end L2
namespace L2
open PySem PySem.Spec PyProof.Rows
noncomputable abbrev R2:=V→V→Hp→VK→Prop
noncomputable def kz(X:Cx)(f:Value→Value→Sem Value)(r:R2):Prop:=
 ∀(pins:List (Addr × Obj)) (s:Shared) (σ:St) (H:Hp) (x y:V) (v u:Value) (Q:VK),Inv X pins σ H s→RelV x v→RelV y u→r x y H Q→
  wpAny (model X.prog X.w) X.A (f v u) (EP X pins σ Q) X.xe s
noncomputable def I0(X:Cx)(f:Value→Sem Value)(r:V→Hp→VK→Prop):Prop:=
 ∀(pins:List (Addr × Obj)) (s:Shared) (σ:St) (H:Hp) (x:V) (v:Value) (Q:VK),Inv X pins σ H s→RelV x v→r x H Q→
  wpAny (model X.prog X.w) X.A (f v) (EP X pins σ Q) X.xe s
noncomputable def jJ(X:Cx)(f:Value)(r:List V→Hp→VK→Prop):Prop:=
 ∀(pins:List (Addr × Obj)) (s:Shared) (σ:St) (H:Hp) (xs:List V) (us:List Value) (Q:VK),Inv X pins σ H s→Vals xs us→r xs H Q→
  wpAny (model X.prog X.w) X.A (call f us) (EP X pins σ Q) X.xe s
noncomputable def Jw(X:Cx)(r:V→Hp→(Bool→Hp→Prop)→Prop):Prop:=
 ∀(pins:List (Addr × Obj)) (s:Shared) (σ:St) (H:Hp) (x:V) (v:Value) (Q:Bool→Hp→Prop),Inv X pins σ H s→RelV x v→r x H Q→
  wpAny (model X.prog X.w) X.A (truthy v) (TP X pins σ Q) X.xe s
noncomputable def GN(r:R2)(ta tb:TE):TE:=fun σ H Q=>ta σ H fun x H1=>tb σ H1 fun y H2=>r x y H2 Q
noncomputable def K4(r:V→Hp→VK→Prop)(ta:TE):TE:=fun σ H Q=>ta σ H fun x H1=>r x H1 Q
noncomputable def rI(C:Int→Int→Prop)(g:Int→Int→V):R2:=fun x y H Q=>∃i j,x= .int i∧y= .int j∧C i j∧Q (g i j) H
noncomputable def zl(g:Int→Int→V):R2:=fun x y H Q=>∃i j,x= .int i∧y= .int j∧Q (g i j) H
noncomputable def rU(g:Int→V):V→Hp→VK→Prop:=fun x H Q=>∃i,x= .int i∧Q (g i) H
section
variable {X:Cx} {a b c:Expr} {ta tb tc:TE} {pos:Pos}
theorem ER(ha:PE X a ta)(hb:PE X b tb){pins:List (Addr × Obj)}{s:Shared}{σ:St}{H:Hp}{R:V→V→Hp→Prop}(I:Inv X pins σ H s)
 (h:ta σ H fun x H1=>tb σ H1 fun y H2=>R x y H2) {Q:Value→Shared→Prop} {f:Value→Value→Sem Value}
 (hf:∀v u s2 x y H2,Inv X pins σ H2 s2→RelV x v→RelV y u→R x y H2→wpAny (model X.prog X.w) X.A (f v u) Q X.xe s2) :
 wpAny (model X.prog X.w) X.A (eval a X.env) (fun v s₁=>wpAny (model X.prog X.w) X.A (eval b X.env) (fun u s₂=>wpAny (model X.prog X.w) X.A (f v u) Q X.xe s₂) X.xe s₁) X.xe s:=by
 refine dW (ha pins s σ H _ I h) fun v s1 ⟨x,H1,I1,r1,q1⟩=>?_
 refine dW (hb pins s1 σ H1 _ I1 q1) fun u s2 ⟨y,H2,I2,r2,q2⟩=>?_
 exact hf v u s2 x y H2 I2 r1 r2 q2
theorem xf{op:Operator}{r:R2}(ho:kz X (binaryOp op) r)(ha:PE X a ta)(hb:PE X b tb):PE X (.BinOp a op b pos) (GN r ta tb):=by
 intro pins s σ H Q I h
 exact wpAny_BinOp (ER ha hb I h fun v u s2 x y H2 I2 rx ry q=>ho pins s2 σ H2 x y v u Q I2 rx ry q)
theorem GV{op:UnaryOp}{r:V→Hp→VK→Prop}(ho:I0 X (unaryOp op) r)(ha:PE X a ta):PE X (.UnaryOp op a pos) (K4 r ta):=by
 intro pins s σ H Q I h
 exact UnaryOp_ (dW (ha pins s σ H _ I h) fun v s1 ⟨x,H1,I1,r1,q1⟩=>ho pins s1 σ H1 x v Q I1 r1 q1)
theorem Ic{f:Value→Value→Sem Value}{C:Int→Int→Prop}{g:Int→Int→Int}
 (rule:∀(i j:Int) (t u:Tok) (s:Shared) (Q:Value→Shared→Prop) (E:Value→Shared→Prop),C i j→Q (.int (g i j) s.toks) {s with toks:=s.toks+1}→wpAny (model X.prog X.w) X.A (f (.int i t) (.int j u)) Q E s) :
 kz X f (rI C fun i j=> .int (g i j)):=by
 intro pins s σ H x y v u Q I rx ry h
 obtain⟨i,j,rfl,rfl,hc,q⟩:=h
 obtain⟨t,rfl⟩:=rx
 obtain⟨t',rfl⟩:=ry
 exact rule i j t t' s _ _ hc ⟨.int (g i j),H,I.tok _,⟨_,rfl⟩,q⟩
theorem zI{f:Value→Value→Sem Value}{g:Int→Int→Int}
 (rule:∀(i j:Int) (t u:Tok) (s:Shared) (Q:Value→Shared→Prop) (E:Value→Shared→Prop),Q (.int (g i j) s.toks) {s with toks:=s.toks+1}→wpAny (model X.prog X.w) X.A (f (.int i t) (.int j u)) Q E s) :
 kz X f (zl fun i j=> .int (g i j)):=by
 intro pins s σ H x y v u Q I rx ry h
 obtain⟨i,j,rfl,rfl,q⟩:=h
 obtain⟨t,rfl⟩:=rx
 obtain⟨t',rfl⟩:=ry
 exact rule i j t t' s _ _ ⟨.int (g i j),H,I.tok _,⟨_,rfl⟩,q⟩
theorem Gf{f:Value→Value→Sem Value}{g:Int→Int→Bool}
 (rule:∀(i j:Int) (t u:Tok) (s:Shared) (Q:Value→Shared→Prop) (E:Value→Shared→Prop),Q (.bool (g i j)) s→wpAny (model X.prog X.w) X.A (f (.int i t) (.int j u)) Q E s) :
 kz X f (zl fun i j=> .bl (g i j)):=by
 intro pins s σ H x y v u Q I rx ry h
 obtain⟨i,j,rfl,rfl,q⟩:=h
 obtain⟨t,rfl⟩:=rx
 obtain⟨t',rfl⟩:=ry
 exact rule i j t t' s _ _ ⟨.bl (g i j),H,I,rfl,q⟩
noncomputable def Ks(i j:Int):Prop:=0 < j∧j < 1073741824
noncomputable def JZ(i j:Int):Prop:=j≠0∧j.natAbs < 1073741824
noncomputable def JF(i j:Int):Prop:=0≤j∧j≤1000000∧i.natAbs < 2 ^ 64
noncomputable def En(i j:Int):Prop:=(-(2 ^ 64) < i∧i < 2 ^ 64)∨(-(2 ^ 64) < j∧j < 2 ^ 64)
theorem En.ok{i j:Int}(h:En i j):IntMulOk i j:=by
 rcases h with⟨h1,h2⟩ | ⟨h1,h2⟩
 ·exact .of_left (intBits_le_64 h1 h2)
 ·exact .of_right (intBits_le_64 h1 h2)
theorem wc(k:Nat):(0:Int)≤2 ^ k:=by
 rw[two_pow_cast]
 exact Int.natCast_nonneg _
theorem Gq:kz X (binaryOp .Add) (zl fun i j=> .int (i+j)):=zI fun _ _ _ _ _ _ _ q=>add_int q
theorem GD:kz X (binaryOp .Sub) (zl fun i j=> .int (i - j)):=zI fun _ _ _ _ _ _ _ q=>sub_int q
theorem FU:kz X (binaryOp .Mult) (rI En fun i j=> .int (i*j)):=Ic fun _ _ _ _ _ _ _ hc q=>mul_int q hc.ok
theorem Fh:kz X (binaryOp .Mod) (rI (fun _ j=>0 < j) fun i j=> .int (i % j)):=Ic fun i j _ _ _ _ _ hc q=>by
 have h1:(0:Int) < j:=hc
 exact mod_int' (by omega) (by rw[Int.fmod_eq_emod_of_nonneg i (by omega)];exact q)
theorem E_:kz X (binaryOp .Pow) (rI JF fun i j=> .int (i ^ j.toNat)):=Ic fun _ _ _ _ _ _ _ hc q=>pow_int_small hc.1 hc.2.1 hc.2.2 q
theorem Fg:kz X (binaryOp .RShift) (rI (fun _ j=>0≤j) fun i j=> .int (i / 2 ^ j.toNat)):=Ic fun i j _ _ _ _ _ hc q=>
 rshift_int hc (by rw[Int.fdiv_eq_ediv_of_nonneg i (wc _)];exact q)
theorem F8:kz X (binaryOp .BitAnd) (zl fun i j=> .int (Builtin.bitAnd i j)):=zI fun _ _ _ _ _ _ _ q=>and_int q
theorem G4:kz X (binaryOp .BitOr) (zl fun i j=> .int (Builtin.bitOr i j)):=zI fun _ _ _ _ _ _ _ q=>or_int q
theorem EV:kz X (binaryOp .BitXor) (zl fun i j=> .int (Builtin.bitXor i j)):=zI fun _ _ _ _ _ _ _ q=>xor_int q
theorem KY{f:Value→Sem Value}{g:Int→Int}
 (rule:∀(i:Int) (t:Tok) (s:Shared) (Q:Value→Shared→Prop) (E:Value→Shared→Prop),Q (.int (g i) s.toks) {s with toks:=s.toks+1}→wpAny (model X.prog X.w) X.A (f (.int i t)) Q E s) :
 I0 X f (rU fun i=> .int (g i)):=by
 intro pins s σ H x v Q I rx h
 obtain⟨i,rfl,q⟩:=h
 obtain⟨t,rfl⟩:=rx
 exact rule i t s _ _ ⟨.int (g i),H,I.tok _,⟨_,rfl⟩,q⟩
theorem Fb:I0 X (unaryOp .USub) (rU fun i=> .int (-i)):=KY fun _ _ _ _ _ q=>neg_int q
end
noncomputable def Hq:V→V→Bool
 | .cq, .cq=>true | .cq, .int _=>true | .int _, .cq=>true | .cq, .bl _=>true | .bl _, .cq=>true | .cq, .str _=>true | .str _, .cq=>true
 | .int _, .int _=>true | .bl _, .bl _=>true | .str _, .str _=>true | .byt _, .byt _=>true
 | .int _, .str _=>true | .str _, .int _=>true | .bl _, .str _=>true | .str _, .bl _=>true
 | _,_=>false
noncomputable def Ll:R2:=fun x y H Q=>Hq x y=true∧Q (.bl (decide (x=y))) H
noncomputable def KZ:R2:=fun x y H Q=>Hq x y=true∧Q (.bl (!decide (x=y))) H
theorem yc{i j:Int}:decide (V.int i=V.int j)=(i==j):=by
 rw[Bool.eq_iff_iff]
 simp
theorem zY{i j:Bool}:decide (V.bl i=V.bl j)=(i==j):=by
 rw[Bool.eq_iff_iff]
 simp
theorem x3{i j:Str}:decide (V.str i=V.str j)=(i==j):=by
 rw[Bool.eq_iff_iff]
 simp
theorem xm{i j:Array UInt8}:decide (V.byt i=V.byt j)=(i.toList==j.toList):=by
 rw[Bool.eq_iff_iff]
 cases i
 cases j
 simp
section
variable {X:Cx} {a b c:Expr} {ta tb tc:TE} {pos:Pos}
theorem bV{pins:List (Addr × Obj)}{σ:St}{H:Hp}{s:Shared}{Q:VK}{k k':Bool}(I:Inv X pins σ H s)(q:Q (.bl k) H)(e:k=k'):EP X pins σ Q (.bool k') s:=by
 subst e
 exact⟨.bl k,H,I,rfl,q⟩
theorem A1:kz X (compareOp .Eq) Ll:=by
 intro pins s σ H x y v u Q I rx ry h
 obtain⟨hs,q⟩:=h
 cases x with
 | cq=>
   cases rx
   cases y with
   | cq=>cases ry;exact PySem.EqNone.eq_none_none (bV I q (by simp))
   | bl j=>cases ry;exact PySem.EqNone.eq_none_bool (bV I q (by simp))
   | int j=>obtain⟨t',rfl⟩:=ry;exact PySem.EqNone.eq_none_int (bV I q (by simp))
   | str j=>obtain⟨t',rfl⟩:=ry;exact PySem.EqNone.eq_none_str (bV I q (by simp))
   | _=>exact absurd (show false=true from hs) Bool.false_ne_true
 | bl i=>
   cases rx
   cases y with
   | cq=>cases ry;exact PySem.EqNone.eq_bool_none (bV I q (by simp))
   | bl j=>cases ry;exact eq_bool (bV I q zY)
   | str j=>obtain⟨t',rfl⟩:=ry;exact PySem.EqMixed.eq_bool_str (bV I q (by simp))
   | _=>exact absurd (show false=true from hs) Bool.false_ne_true
 | int i=>
   obtain⟨t,rfl⟩:=rx
   cases y with
   | cq=>cases ry;exact PySem.EqNone.eq_int_none (bV I q (by simp))
   | int j=>obtain⟨t',rfl⟩:=ry;exact eq_int (bV I q yc)
   | str j=>obtain⟨t',rfl⟩:=ry;exact PySem.EqMixed.eq_int_str (bV I q (by simp))
   | _=>exact absurd (show false=true from hs) Bool.false_ne_true
 | str i=>
   obtain⟨t,rfl⟩:=rx
   cases y with
   | cq=>cases ry;exact PySem.EqNone.eq_str_none (bV I q (by simp))
   | bl j=>cases ry;exact PySem.EqMixed.eq_str_bool (bV I q (by simp))
   | int j=>obtain⟨t',rfl⟩:=ry;exact PySem.EqMixed.eq_str_int (bV I q (by simp))
   | str j=>obtain⟨t',rfl⟩:=ry;exact eq_str (bV I q x3)
   | _=>exact absurd (show false=true from hs) Bool.false_ne_true
 | byt i=>
   obtain⟨t,rfl⟩:=rx
   cases y with
   | byt j=>obtain⟨t',rfl⟩:=ry;exact PySem.W.eq_bytes (bV I q xm)
   | _=>exact absurd (show false=true from hs) Bool.false_ne_true
 | _=>cases y <;> exact absurd (show false=true from hs) Bool.false_ne_true
theorem Aq:kz X (compareOp .NotEq) KZ:=by
 intro pins s σ H x y v u Q I rx ry h
 obtain⟨hs,q⟩:=h
 cases x with
 | cq=>
   cases rx
   cases y with
   | cq=>cases ry;exact PySem.EqNone.ne_none_none (bV I q (by simp))
   | bl j=>cases ry;exact PySem.EqNone.ne_none_bool (bV I q (by simp))
   | int j=>obtain⟨t',rfl⟩:=ry;exact PySem.EqNone.ne_none_int (bV I q (by simp))
   | str j=>obtain⟨t',rfl⟩:=ry;exact PySem.EqNone.ne_none_str (bV I q (by simp))
   | _=>exact absurd (show false=true from hs) Bool.false_ne_true
 | bl i=>
   cases rx
   cases y with
   | cq=>cases ry;exact PySem.EqNone.ne_bool_none (bV I q (by simp))
   | bl j=>cases ry;exact ne_bool (bV I q (congrArg not zY))
   | str j=>obtain⟨t',rfl⟩:=ry;exact PySem.EqMixed.ne_bool_str (bV I q (by simp))
   | _=>exact absurd (show false=true from hs) Bool.false_ne_true
 | int i=>
   obtain⟨t,rfl⟩:=rx
   cases y with
   | cq=>cases ry;exact PySem.EqNone.ne_int_none (bV I q (by simp))
   | int j=>obtain⟨t',rfl⟩:=ry;exact ne_int (bV I q (congrArg not yc))
   | str j=>obtain⟨t',rfl⟩:=ry;exact PySem.EqMixed.ne_int_str (bV I q (by simp))
   | _=>exact absurd (show false=true from hs) Bool.false_ne_true
 | str i=>
   obtain⟨t,rfl⟩:=rx
   cases y with
   | cq=>cases ry;exact PySem.EqNone.ne_str_none (bV I q (by simp))
   | bl j=>cases ry;exact PySem.EqMixed.ne_str_bool (bV I q (by simp))
   | int j=>obtain⟨t',rfl⟩:=ry;exact PySem.EqMixed.ne_str_int (bV I q (by simp))
   | str j=>obtain⟨t',rfl⟩:=ry;exact ne_str (bV I q (congrArg not x3))
   | _=>exact absurd (show false=true from hs) Bool.false_ne_true
 | byt i=>
   obtain⟨t,rfl⟩:=rx
   cases y with
   | byt j=>obtain⟨t',rfl⟩:=ry;exact PySem.W.ne_bytes (bV I q (congrArg not xm))
   | _=>exact absurd (show false=true from hs) Bool.false_ne_true
 | _=>cases y <;> exact absurd (show false=true from hs) Bool.false_ne_true
theorem GQ:kz X (compareOp .Lt) (zl fun i j=> .bl (decide (i < j))):=Gf fun _ _ _ _ _ _ _ q=>lt_int q
theorem Hw:kz X (compareOp .Gt) (zl fun i j=> .bl (decide (j < i))):=Gf fun _ _ _ _ _ _ _ q=>gt_int q
theorem Hf:kz X (compareOp .GtE) (zl fun i j=> .bl (decide (j≤i))):=Gf fun _ _ _ _ _ _ _ q=>ge_int q
theorem y9:kz X (compareOp .In) (fun x y H Q=>∃i j,x= .str i∧y= .str j∧Q (.bl (!(Builtin.Str.occurrences j i 0 j.length 1).isEmpty)) H):=by
 intro pins s σ H x y v u Q I rx ry h
 obtain⟨i,j,rfl,rfl,q⟩:=h
 obtain⟨t,rfl⟩:=rx
 obtain⟨t',rfl⟩:=ry
 exact in_str (bV I q rfl)
theorem F5:kz X (compareOp .Is) (fun x y H Q=>y= .cq∧Q (.bl (decide (x= .cq))) H):=by
 intro pins s σ H x y v u Q I rx ry h
 obtain⟨rfl,q⟩:=h
 cases ry
 refine is_none_gen (bV I q ?_)
 cases x <;> first
  | (cases rx;rfl)
  | (obtain⟨t,rfl⟩:=rx;rfl)
theorem C4:kz X (compareOp .IsNot) (fun x y H Q=>y= .cq∧Q (.bl (!decide (x= .cq))) H):=by
 intro pins s σ H x y v u Q I rx ry h
 obtain⟨rfl,q⟩:=h
 cases ry
 refine isnot_none_gen (bV I q ?_)
 cases x <;> first
  | (cases rx;rfl)
  | (obtain⟨t,rfl⟩:=rx;rfl)
noncomputable def isObj:HO→Bool
 | .lst _=>true
 | .ins _ _ _=>true
 | _=>false
theorem bG(b:Expr){op:CmpOp}(h:op≠ .In:=by decide)(h2:op≠ .NotIn:=by decide):behindInMarks op b=false:=by
 have e1:(op==CmpOp.In)=false:=by cases op <;> first | rfl | exact absurd rfl h
 have e2:(op==CmpOp.NotIn)=false:=by cases op <;> first | rfl | exact absurd rfl h2
 cases b <;> simp [behindInMarks,e1,e2]
theorem w_{op:CmpOp}{r:R2}(ho:kz X (compareOp op) r)(ha:PE X a ta)(hb:PE X b tb)(hm:behindInMarks op b=false):PE X (.Compare a [op] [b] pos) (GN r ta tb):=by
 intro pins s σ H Q I h
 exact wpAny_Compare1 (ER ha hb I h fun v u s2 x y H2 I2 rx ry q=>ho pins s2 σ H2 x y v u Q I2 rx ry q) hm
noncomputable def Hk(t:TE):TT:=fun σ H Q=>t σ H fun x H'=>∃k,x= .bl k∧Q k H'
theorem xU{op:CmpOp}{r:R2}(ho:kz X (compareOp op) r)(ha:PE X a ta)(hb:PE X b tb)(hm:behindInMarks op b=false):PT X (.Compare a [op] [b] pos) (Hk (GN r ta tb)):=by
 intro pins s σ H Q I h
 refine wpAny_isTrue_Compare1 (dW (ha pins s σ H _ I h) fun v s1 ⟨x,H1,I1,r1,q1⟩=>dW (hb pins s1 σ H1 _ I1 q1) fun u s2 ⟨y,H2,I2,r2,q2⟩=>
  dW (ho pins s2 σ H2 x y v u _ I2 r1 r2 q2) fun c s3 ⟨z,H3,I3,r3,k,e,q3⟩=>?_) hm
 subst e
 cases r3
 exact wpAny_truthy_bool ⟨H3,I3,q3⟩
noncomputable def IL(r r':R2)(ta tb tc:TE):TE:=fun σ H Q=>ta σ H fun x H1=>tb σ H1 fun y H2=>r x y H2 fun z H3=>∃k,z= .bl k∧
 (if k=true then tc σ H3 fun w' H4=>r' y w' H4 Q else Q (.bl false) H3)
noncomputable def Fi(K:PySem.W.Frag)(x:V)(H:Hp)(k:Bool):Prop:=
 match x with
 | .cq=>k=false
 | .bl b=>k=b
 | .int i=>k=(i !=0)
 | .str y=>y.length≤sizeLine∧k=((y.length:Int) !=0)
 | .byt y=>y.size≤sizeLine∧k=((y.size:Int) !=0)
 | .ref p=>(∃xs,mw K H p xs∧k=!xs.isEmpty)∨(∃xs,oQ K H p xs∧k=!xs.isEmpty)∨∃kvs,H p=some (.dK kvs)∧k=!kvs.isEmpty
 | _=>False
theorem vD{κ:Type}{kvs:List (κ × V)}{vs:List (κ × Value)}(r:KV kvs vs):(!vs.isEmpty)=!kvs.isEmpty:=by
 cases r <;> rfl
theorem pT{xs:List V}{its:List Value}(r:Vals xs its):(!its.toArray.isEmpty)=!xs.isEmpty:=by
 cases r <;> simp
theorem oa:(sizeLine:Nat) < 2 ^ 63:=by rw[sizeLine_eq];decide
theorem F_:Jw X (fun x H Q=>∃k,Fi X.K x H k∧Q k H):=by
 intro pins s σ H x v Q I rx h
 obtain⟨k,e,q⟩:=h
 have hl:=oa
 have hs:sizeLine=16777216:=sizeLine_eq
 cases x with
 | cq=>
   cases rx
   have e':k=false:=e
   subst e'
   exact truthy_none ⟨H,I,q⟩
 | bl b=>
   cases rx
   have e':k=b:=e
   subst e'
   exact wpAny_truthy_bool ⟨H,I,q⟩
 | int i=>
   obtain⟨t,rfl⟩:=rx
   have e':k=(i !=0):=e
   subst e'
   exact PySem.P.truthy_int ⟨H,I,q⟩
 | str y=>
   obtain⟨t,rfl⟩:=rx
   obtain⟨hy,e'⟩:y.length≤sizeLine∧k=((y.length:Int) !=0):=e
   subst e'
   exact PySem.P.truthy_str (by omega) ⟨H,I.tok _,q⟩
 | byt y=>
   obtain⟨t,rfl⟩:=rx
   obtain⟨hy,e'⟩:y.size≤sizeLine∧k=((y.size:Int) !=0):=e
   subst e'
   exact PySem.W.truthy_bytes (by omega) ⟨H,I.tok _,q⟩
 | ref p=>
   cases rx
   have e':(∃xs,mw X.K H p xs∧k=!xs.isEmpty)∨(∃xs,oQ X.K H p xs∧k=!xs.isEmpty)∨∃kvs,H p=some (.dK kvs)∧k=!kvs.isEmpty:=e
   rcases e' with⟨xs,hx,e'⟩ | ⟨xs,hx,e'⟩ | ⟨kvs,hx,e'⟩
   ·subst e'
    obtain⟨its,r,pl,hz⟩:=I.list hx
    have hlen:=r.length
    exact wpAny_truthy_list pl.isList (by simp only[List.size_toArray];omega) ⟨H,I.tok _,by rw[pT r];exact q⟩
   ·subst e'
    obtain⟨its,r,pl,hz⟩:=I.tuple hx
    have hlen:=r.length
    exact truthy_tuple pl (by simp only[List.size_toArray];omega) ⟨H,I.tok _,by rw[pT r];exact q⟩
   ·subst e'
    obtain⟨hz,hS,vs,r,m⟩:kvs.length≤sizeLine∧(p==sysModules)=false∧∃vs,KV kvs vs∧s.heap.DictOf (dn X.prog X.w) p vs:=I.hok p _ hx
    have hlen:kvs.length=vs.length:=Paired.length r
    exact wpAny_truthy_dict hS m (by omega) ⟨H,I.tok _,by rw[vD r];exact q⟩
 | _=>exact(show False from e).elim
theorem By(ha:PE X a ta)(he:∀whole,isTrue a X.env whole=(do let v ←whole;standAt a.pos;holding [v] (truthy v))) :
 PT X a (fun σ H Q=>ta σ H fun x H'=>∃k,Fi X.K x H' k∧Q k H'):=by
 intro pins s σ H Q I h
 exact isTrue_plain (dW (ha pins s σ H _ I h) fun v s1 ⟨x,H1,I1,r1,q1⟩=>F_ pins s1 σ H1 x v Q I1 r1 q1) (he _)
theorem vv:kz X (binaryOp .Add) (fun x y H Q=>∃i j,x= .str i∧y= .str j∧i.length+j.length≤sizeLine∧Q (.str (i++j)) H):=by
 intro pins s σ H x y v u Q I rx ry h
 obtain⟨i,j,rfl,rfl,hz,q⟩:=h
 obtain⟨t,rfl⟩:=rx
 obtain⟨t',rfl⟩:=ry
 exact add_str (fun t' tk=>⟨.str (i++j),H,I.tok _,⟨_,rfl⟩,q⟩) hz
noncomputable def G5(b:Expr):Prop:=∀o i,subscripted b false o i=operate [o,i] (getItem o i)
theorem vals1{x:V}{us:List Value}(r:Vals [x] us):∃u,us=[u]∧RelV x u:=by
 cases r with
 | cons r1 r2=>cases r2;exact⟨_,rfl,r1⟩
theorem vals2{x y:V}{us:List Value}(r:Vals [x,y] us):∃u w',us=[u,w']∧RelV x u∧RelV y w':=by
 cases r with
 | cons r1 r2=>
   cases r2 with
   | cons r3 r4=>cases r4;exact⟨_,_,rfl,r1,r3⟩
theorem zM:jJ X (.builtin "abs") (fun xs H Q=>∃i,xs=[.int i]∧Q (.int (if i < 0 then -i else i)) H):=by
 intro pins s σ H xs us Q I r h
 obtain⟨i,rfl,q⟩:=h
 obtain⟨u,rfl,t,rfl⟩:=vals1 r
 exact call_abs_int fun u tk=>⟨.int (if i < 0 then -i else i),H,I.tok _,⟨_,rfl⟩,q⟩
theorem y0(hc:X.calm=true):jJ X (.builtin "max") (fun xs H Q=>∃i j,xs=[.int i, .int j]∧Q (.int (if j > i then j else i)) H):=by
 intro pins s σ H xs us Q I r h
 obtain⟨i,j,rfl,q⟩:=h
 obtain⟨u,w',rfl,⟨t,rfl⟩,⟨t',rfl⟩⟩:=vals2 r
 refine max_two_ints (I.ok.hd hc) fun h' tk k=>⟨_,H,I.kept k,?_,q⟩
 by_cases hj:j > i
 ·rw[if_pos hj,if_pos hj];exact⟨_,rfl⟩
 ·rw[if_neg hj,if_neg hj];exact⟨_,rfl⟩
theorem y3(hc:X.calm=true):jJ X (.builtin "min") (fun xs H Q=>∃i j,xs=[.int i, .int j]∧Q (.int (if j < i then j else i)) H):=by
 intro pins s σ H xs us Q I r h
 obtain⟨i,j,rfl,q⟩:=h
 obtain⟨u,w',rfl,⟨t,rfl⟩,⟨t',rfl⟩⟩:=vals2 r
 refine min_two_ints (I.ok.hd hc) fun h' tk k=>⟨_,H,I.kept k,?_,q⟩
 by_cases hj:j < i
 ·rw[if_pos hj,if_pos hj];exact⟨_,rfl⟩
 ·rw[if_neg hj,if_neg hj];exact⟨_,rfl⟩
theorem zh:jJ X (.type "int") (fun xs H Q=>(∃i,xs=[.int i]∧Q (.int i) H)∨∃k,xs=[.bl k]∧Q (.int (if k then 1 else 0)) H):=by
 intro pins s σ H xs us Q I r h
 rcases h with⟨i,rfl,q⟩ | ⟨k,rfl,q⟩
 ·obtain⟨u,rfl,t,rfl⟩:=vals1 r
  exact call_int_int ⟨.int i,H,I,⟨_,rfl⟩,q⟩
 ·obtain⟨u,rfl,r1⟩:=vals1 r
  cases r1
  exact call_int_bool ⟨.int (if k then 1 else 0),H,I.tok _,⟨_,rfl⟩,q⟩
noncomputable def Js(K:PySem.W.Frag)(x:V)(H:Hp)(n:Nat):Prop:=
 match x with
 | .str y=>y.length≤sizeLine∧n=y.length
 | .byt y=>y.size≤sizeLine∧n=y.size
 | .ref p=>(∃xs,mw K H p xs∧n=xs.length)∨∃xs,oQ K H p xs∧n=xs.length
 | _=>False
theorem AM:jJ X (.builtin "len") (fun xs H Q=>∃x n,xs=[x]∧Js X.K x H n∧Q (.int n) H):=by
 intro pins s σ H xs us Q I r h
 obtain⟨x,n,rfl,e,q⟩:=h
 obtain⟨u,rfl,rx⟩:=vals1 r
 have hl:=oa
 have hs:sizeLine=16777216:=sizeLine_eq
 cases x with
 | str y=>
   obtain⟨t,rfl⟩:=rx
   obtain⟨hy,e'⟩:y.length≤sizeLine∧n=y.length:=e
   subst e'
   exact len_str (by omega) ⟨.int _,H,I.tok _,⟨_,rfl⟩,q⟩
 | byt y=>
   obtain⟨t,rfl⟩:=rx
   obtain⟨hy,e'⟩:y.size≤sizeLine∧n=y.size:=e
   subst e'
   exact PySem.W.len_bytes (by omega) ⟨.int _,H,I.tok _,⟨_,rfl⟩,q⟩
 | ref p=>
   cases rx
   have e':(∃xs,mw X.K H p xs∧n=xs.length)∨∃xs,oQ X.K H p xs∧n=xs.length:=e
   rcases e' with⟨xs,hx,e'⟩ | ⟨xs,hx,e'⟩
   ·subst e'
    obtain⟨its,r',pl,hz⟩:=I.list hx
    have hlen:=r'.length
    exact Calls.call_len_list pl.isList (by simp only[List.size_toArray];omega) ⟨.int xs.length,H,I.tok _,⟨_,by simp only[List.size_toArray];rw [hlen]⟩,q⟩
   ·subst e'
    obtain⟨its,r',pl,hz⟩:=I.tuple hx
    have hlen:=r'.length
    exact len_tuple pl (by simp only[List.size_toArray];omega) ⟨.int xs.length,H,I.tok _,⟨_,by simp only[List.size_toArray];rw [hlen]⟩,q⟩
 | _=>exact(show False from e).elim
end
end L2
namespace L2
open PySem PySem.Spec PyProof.Rows
structure wg (h:Heap) (x dx C:Addr) (mA:Str→Option Value):Prop where
 obj:h.get? x=some (PySem.W.instObj C dx)
 ns:h.Ns1 dx mA
 ne:dx≠x
theorem y_{h:Heap}{dx:Addr}{mA:Str→Option Value}(n:h.Ns1 dx mA):∃od,h.get? dx=some od∧∀name,PySem.W.lookIn name od=some (mA name):=by
 obtain⟨o,es,ep,ho,hd,hk,_,hm⟩:=n
 refine⟨o,ho,fun name=>?_⟩
 have e:=hm name
 unfold nsFind findBy at e
 rw[←Array.find?_toList] at e
 unfold PySem.W.lookIn
 rw[hd]
 dsimp only
 split
 ·rename_i y q
  rw[q] at e
  exact congrArg some e
 ·rename_i q
  rw[q] at e
  have a:es.toList.any (·.refKey)=false:=by
   rw[List.any_eq_false]
   intro y hy
   obtain⟨z,t,hkey⟩:=hk y (Array.mem_toList_iff.mp hy)
   simp [DictEntry.refKey,hkey]
  have a':¬es.toList.any (·.refKey)=true:=by rw[a];exact Bool.false_ne_true
  rw[if_neg a']
  exact congrArg some e
theorem wg.look{h:Heap}{x dx C:Addr}{mA:Str→Option Value}(I:wg h x dx C mA):∃od,PySem.W.InstAt h x (PySem.W.instObj C dx) C (some od)∧∀name,PySem.W.lookIn name od=some (mA name):=
 let⟨od,ho,hl⟩:=y_ I.ns
 ⟨od,⟨I.obj,rfl,rfl,ho⟩,hl⟩
section
variable {prog:Program} {w:World} {A:Around} {E:Value→Shared→Prop} {s:Shared} {K:PySem.W.Frag} {x dx C f:Addr} {mA:Str→Option Value} {name:Str} {v:Value}
theorem get_map{expr:Bool}{Q:Value→Shared→Prop}(X:K.In s.heap)(I:wg s.heap x dx C mA)(hg:PySem.W.plainGet K C name=true)(hh:PySem.W.hasDictIn K C=true)
 (ha:PySem.W.findIn K (.ref C) name=some none) (hv:mA name=some v) (hv':PySem.W.handedIn v=true) (h:Q v {s with toks:=s.toks+1}) :
 wpAny (model prog w) A (getAttr (.ref x) name expr) Q E s:=by
 obtain⟨od,J,hl⟩:=I.look
 exact PySem.W.get_value X J (PySem.W.plainGet_of hg).1 (PySem.W.findObj_own hh ha rfl (by rw[hl,hv])) hv' h
theorem Bp{pl:Sem Bool}{Q:Value × List Value→Shared→Prop}(X:K.In s.heap)(I:wg s.heap x dx C mA)(hg:PySem.W.plainGet K C name=true)
 (hf:PySem.W.findIn K (.ref C) name=some (some (.ref f))) (ht:PySem.W.isFn K (.ref f)=true) (hv:mA name=none) (h:Q (.ref f,[.ref x]) s) :
 wpAny (model prog w) A (getMethod (.ref x) name pl) Q E s:=by
 obtain⟨od,J,hl⟩:=I.look
 exact PySem.W.method_fn X J (PySem.W.plainGet_of hg).1 (PySem.W.plainGet_of hg).2 hf (beq_iff_eq.mp ht) (by show(PySem.W.lookIn name od).map (·.isSome)=some false;rw [hl,hv];rfl) h
theorem C2{ns:List Str}{Q:Unit→Shared→Prop}(X:K.In s.heap)(I:wg s.heap x dx C mA)
 (hs:PySem.W.findIn K (.ref C) "__setattr__"=some (some (.builtin "object.__setattr__"))) (hp:PySem.W.plainOver K C=true) (ht:PySem.W.takerIn K C name=some none) (hh:PySem.W.hasDictIn K C=true)
 (hw:PySem.Within mA ns) (hsz:ns.length≤sizeLine)
 (h:∀h',wg h' x dx C (fun y=>if y=name then some v else mA y)→Heap.SameBut dx s.heap h'→Q () {s with heap:=h',toks:=s.toks+2}) :
 wpAny (model prog w) A (setAttr (.ref x) name v) Q E s:=by
 obtain⟨od,J,hl⟩:=I.look
 refine PySem.W.set_plain X J hs (PySem.W.osa_open (s:={s with toks:=s.toks+1}) (r:=none) X J hp ht fun b=>?_)
 obtain⟨cd,hc,hd'⟩:=PySem.W.any_some hh
 have hx:s.heap.get? x=some ⟨.ref C,some dx, .plain,#[]⟩:=I.obj
 refine wpAny_bind (wpAny_pure (wpAny_bind (wpAny_bind (wpAny_loadPart hx (wpAny_bind (PySem.W.Looks.here (s:={s with toks:=s.toks+1}) (PySem.W.looks_clsIn X hc) ?_))))))
 rw[hd']
 refine wpAny_pure (a:=some dx) (wpAny_bind (wpAny_pure (wpAny_bind ?_)))
 refine wpAny_nsSet1 (s:={s with toks:=s.toks+1}) I.ns fun h' hn2 hs2=>?_
 obtain⟨oD,esD,epD,hoD,hdD,hcD⟩:=hn2.count (PySem.Within.cons name v hw)
 refine wpAny_bind (wpAny_lookBehind hoD (by rw[hdD];exact pastItsLine_dict (Nat.le_trans hcD (by rw[List.length_cons];omega))) ?_)
 exact wpAny_pure (h _ ⟨(hs2.2 _ (Ne.symm I.ne)).trans I.obj,hn2,I.ne⟩ hs2)
theorem zT{R:Result→Shared→Prop}{vs:List Value}{kw:List (Str × Value)}(X:K.In s.heap)(hm:PySem.W.makesIn K C=true)
 (hi:PySem.W.findIn K (.ref C) "__init__"=some (some (.ref f))) (hf:PySem.W.typeIn K (.ref f)=some (.type "function"))
 (h:codeAny (model prog w) (A.under (.builtin "type.__call__" ⟨.ref C ::vs,kw⟩)) (.call (.ref f) ⟨.ref (s.heap.objs.size+1) ::vs,kw⟩) (PySem.W.InitBack (s.heap.objs.size+1) R)
   {s with heap:=(s.heap.push PySem.W.emptyDict).push (PySem.W.instObj C s.heap.objs.size)}) :
 codeAny (model prog w) A (.call (.ref C) ⟨vs,kw⟩) R s:=by
 obtain⟨hh,g,d,t,os⟩:=s
 exact PySem.W.make_core (PySem.W.makes_of X hm) (PySem.W.looks_findIn X hi) (fun self=>PySem.W.bind_fn X self hf) (.inl rfl) h
end
noncomputable def ju(f:Str)(v:V):List (Str × V)→List (Str × V)
 | []=>[(f,v)]
 | (g,x) ::r=>if g=f then(g,v) ::r else(g,x) ::ju f v r
theorem oy(f g:Str)(v:V):∀fs:List (Str × V),(ju f v fs).lookup g=if g=f then some v else fs.lookup g
 | []=>by
   show List.lookup g [(f,v)]=_
   by_cases h:g=f
   ·have hb:(g==f)=true:=beq_iff_eq.mpr h
    simp only[List.lookup,hb,if_pos h]
   ·have hb:(g==f)=false:=beq_eq_false_iff_ne.mpr h
    simp only[List.lookup,hb,if_neg h]
 | (k,x) ::r=>by
   have ih:=oy f g v r
   rw[show ju f v ((k,x) ::r)=(if k=f then(k,v) ::r else(k,x) ::ju f v r) from rfl]
   by_cases hk:k=f
   ·rw[if_pos hk]
    by_cases h:g=k
    ·have hb:(g==k)=true:=beq_iff_eq.mpr h
     simp only[List.lookup,hb,if_pos (h.trans hk)]
    ·have hb:(g==k)=false:=beq_eq_false_iff_ne.mpr h
     simp only[List.lookup,hb,if_neg (fun e:g=f=>h (e.trans hk.symm))]
   ·rw[if_neg hk]
    by_cases h:g=k
    ·have hb:(g==k)=true:=beq_iff_eq.mpr h
     simp only[List.lookup,hb,if_neg (fun e:g=f=>hk (h.symm.trans e))]
    ·have hb:(g==k)=false:=beq_eq_false_iff_ne.mpr h
     simp only[List.lookup,hb]
     exact ih
theorem n9(f:Str)(v:V):∀fs:List (Str × V),f∈(ju f v fs).map (·.1)∧∀g,g∈fs.map (·.1)→g∈(ju f v fs).map (·.1)
 | []=>⟨by simp [ju],fun g h=>by simp at h⟩
 | (k,x) ::r=>by
   obtain⟨i1,i2⟩:=n9 f v r
   rw[show ju f v ((k,x) ::r)=(if k=f then(k,v) ::r else(k,x) ::ju f v r) from rfl]
   by_cases hk:k=f
   ·rw[if_pos hk]
    subst hk
    exact⟨by simp,fun g h=>by simpa using h⟩
   ·rw[if_neg hk]
    refine⟨?_,fun g h=>?_⟩
    ·rw[List.map_cons]
     exact List.mem_cons_of_mem _ i1
    ·rw[List.map_cons] at h ⊢
     rcases List.mem_cons.mp h with e | e
     ·exact List.mem_cons.mpr (.inl e)
     ·exact List.mem_cons_of_mem _ (i2 g e)
theorem oB(f:Str)(v:V):∀fs:List (Str × V),(ju f v fs).length≤fs.length+1
 | []=>by simp [ju]
 | (k,x) ::r=>by
   have ih:=oB f v r
   rw[show ju f v ((k,x) ::r)=(if k=f then(k,v) ::r else(k,x) ::ju f v r) from rfl]
   by_cases hk:k=f
   ·rw[if_pos hk,List.length_cons,List.length_cons];omega
   ·rw[if_neg hk,List.length_cons,List.length_cons];omega
theorem mU.some_of{v:V}{o:Option Value}(r:mU (some v) o):∃u,o=some u∧RelV v u:=by
 cases o with
 | none=>exact(show False from r).elim
 | some u=>exact⟨u,rfl,r⟩
theorem mU.none_of{o:Option Value}(r:mU none o):o=none:=by
 cases o with
 | none=>rfl
 | some u=>exact(show False from r).elim
theorem yj{v:V}{u:Value}(r:RelV v u):PySem.W.handedIn u=true:=by
 cases v with
 | cq=>cases(show u=Value.none from r);rfl
 | bl b=>cases(show u=Value.bool b from r);rfl
 | int i=>obtain⟨t,e⟩:=(show ∃t,u=Value.int i t from r);cases e;rfl
 | str x=>obtain⟨t,e⟩:=(show ∃t,u=Value.str x t from r);cases e;rfl
 | byt b=>obtain⟨t,e⟩:=(show ∃t,u=Value.bytes b t from r);cases e;rfl
 | flt b=>obtain⟨t,e⟩:=(show ∃t,u=Value.float b t from r);cases e;rfl
 | ref a=>cases(show u=Value.ref a from r);rfl
 | ty n=>cases(show u=Value.type n from r);rfl
section
variable {P:Program} {w:World} {H H':Hp} {h h':Heap} {a C dx:Addr} {fs fs':List (Str × V)}
theorem pz(hok:lH P w H h)(e:H a=some (.ins C dx fs)):∃mA,wg h a dx C mA∧(∀f,mU (fs.lookup f) (mA f))∧PySem.Within mA (fs.map (·.1))∧fs.length≤1000∧H dx=some (.own a):=by
 obtain⟨d,z,ne,ob,mA,n,r,q⟩:=(show dU P w H h a (.ins C dx fs) from hok a _ e)
 exact⟨mA,⟨ob,n,ne⟩,r,q,z,d⟩
end
structure tS (K:PySem.W.Frag) (C:Addr):Prop where
 pg:PySem.W.plainGet K C Str.empty=true
 hd:PySem.W.hasDictIn K C=true
 po:PySem.W.plainOver K C=true
 sa:PySem.W.findIn K (.ref C) "__setattr__"=some (some (.builtin "object.__setattr__"))
theorem tS.get{K:PySem.W.Frag}{C:Addr}(c:tS K C)(f:Str):PySem.W.plainGet K C f=true:=c.pg
noncomputable def dh(K:PySem.W.Frag)(C:Addr)(f:Str):Prop:=PySem.W.findIn K (.ref C) f=some none
theorem dh.Ib{K:PySem.W.Frag}{C:Addr}{f:Str}(n:dh K C f):PySem.W.takerIn K C f=some none:=by
 unfold PySem.W.takerIn
 rw[show PySem.W.findIn K (.ref C) f=some none from n]
 rfl
structure Lr (K:PySem.W.Frag) (C:Addr) (f:Str) (v:V) (u:Value):Prop where
 at_:PySem.W.findIn K (.ref C) f=some (some u)
 rel:RelV v u
 get:PySem.W.specialIn K u "__get__"=some none
 cp:PySem.W.copiedNames.contains f=false
structure Meth (K:PySem.W.Frag) (C:Addr) (m:Str) (f:Addr):Prop where
 at_:PySem.W.findIn K (.ref C) m=some (some (.ref f))
 fn:PySem.W.isFn K (.ref f)=true
 kp:PySem.W.keepIn K (.ref f)=true
section
variable {X:Cx} {pins:List (Addr × Obj)} {σ:St} {H:Hp} {s:Shared} {a C dx:Addr} {fs:List (Str × V)} {f:Str} {v:V} {A:Around} {E:Value→Shared→Prop}
theorem vX{b:Bool}{Q:Value→Shared→Prop}(I:Inv X pins σ H s)(e:H a=some (.ins C dx fs))(c:tS X.K C)(n:dh X.K C f)(l:fs.lookup f=some v)
 (h:∀u s',Inv X pins σ H s'→RelV v u→Q u s'):wpAny (model X.prog X.w) A (getAttr (.ref a) f b) Q E s:=by
 obtain⟨mA,O,r,_,_,_⟩:=pz I.hok e
 obtain⟨u,hu,ru⟩:=mU.some_of (v:=v) (o:=mA f) (by rw[←l];exact r f)
 exact get_map I.n_ O (c.get f) c.hd n hu (yj ru) (h u _ (I.tok _) ru)
theorem wD{m:Str}{g:Addr}{pl:Sem Bool}{Q:Value × List Value→Shared→Prop}(I:Inv X pins σ H s)(e:H a=some (.ins C dx fs))(c:tS X.K C)(k:Meth X.K C m g)(l:fs.lookup m=none)
 (h:Q (.ref g,[.ref a]) s):wpAny (model X.prog X.w) A (getMethod (.ref a) m pl) Q E s:=by
 obtain⟨mA,O,r,_,_,_⟩:=pz I.hok e
 have hn:mA m=none:=mU.none_of (by rw[←l];exact r m)
 exact Bp I.n_ O (c.get m) k.at_ k.fn hn h
theorem vR{y:V}{u:Value}{Q:Unit→Shared→Prop}(I:Inv X pins σ H s)(e:H a=some (.ins C dx fs))(c:tS X.K C)(n:dh X.K C f)(hl:fs.length < 1000)(ry:RelV y u)
 (h:∀s',Inv X pins σ (upd H a (.ins C dx (ju f y fs))) s'→Q () s'):wpAny (model X.prog X.w) A (setAttr (.ref a) f u) Q E s:=by
 obtain⟨mA,O,r,wi,_,ho⟩:=pz I.hok e
 have hz:(fs.map (·.1)).length≤sizeLine:=by rw[List.length_map,sizeLine_eq];omega
 refine C2 I.n_ O c.sa c.po n.Ib c.hd wi hz fun h' O' sb=>h _ ?_
 have hd:∃o,h'.get? dx=some o:=let⟨o,_,_,e',_⟩:=O'.ns;⟨o,e'⟩
 refine I.write (x:=a) (e:=dx) (by rw[e];exact True.intro) (.inr ho) (fun b q hb z=>(sb.2 b hb).trans z) hd ?_
 refine⟨by rw[bg O.ne];exact ho,?_,O.ne,O'.obj,_,O'.ns,fun g=>?_,fun g hg=>?_⟩
 ·have:=oB f y fs;omega
 ·show mU ((ju f y fs).lookup g) (if g=f then some u else mA g)
  rw[oy]
  by_cases q:g=f
  ·rw[if_pos q,if_pos q];exact ry
  ·rw[if_neg q,if_neg q];exact r g
 ·by_cases q:g=f
  ·rw[q];exact(n9 f y fs).1
  ·refine(n9 f y fs).2 g (wi g fun z=>hg ?_)
   show(if g=f then some u else mA g)=none
   rw[if_neg q];exact z
theorem Inv.made(I:Inv X pins σ H s):Inv X pins σ (upd (upd H s.heap.objs.size (.own (s.heap.objs.size+1))) (s.heap.objs.size+1) (.ins C s.heap.objs.size []))
 {s with heap:=(s.heap.push PySem.W.emptyDict).push (PySem.W.instObj C s.heap.objs.size)}:=by
 have e1:(s.heap.push PySem.W.emptyDict).get? s.heap.objs.size=some PySem.W.emptyDict:=Heap.get?_push_size s.heap rfl
 have e2:((s.heap.push PySem.W.emptyDict).push (PySem.W.instObj C s.heap.objs.size)).get? (s.heap.objs.size+1)=some (PySem.W.instObj C s.heap.objs.size):=by
  have:=Heap.get?_push_size (s.heap.push PySem.W.emptyDict) (o:=PySem.W.instObj C s.heap.objs.size) rfl
  rwa [Heap.size_push] at this
 have e3:(s.heap.push PySem.W.emptyDict).Ns s.heap.objs.size (fun _=>none):=⟨PySem.W.emptyDict,#[],_,e1,rfl,(fun e he=>absurd he (by simp)),fun _=>rfl⟩
 have I1:=I.laid (a:=s.heap.objs.size) (o:= .own (s.heap.objs.size+1)) (h':=s.heap.push PySem.W.emptyDict) (t':=s.toks) (fun b u q=>Heap.get?_push_of_some _ q) (Nat.le_refl _) ⟨_,e1⟩
 refine I1.laid (a:=s.heap.objs.size+1) (o:= .ins C s.heap.objs.size []) (t':=s.toks) (fun b u q=>Heap.get?_push_of_some _ q) (Nat.le_of_eq (Heap.size_push _ _)) ?_
 have ne:s.heap.objs.size≠s.heap.objs.size+1:=Nat.ne_of_lt (Nat.lt_succ_self _)
 refine⟨by rw[bg ne,bb],Nat.zero_le _,ne,e2,fun _=>none,(Heap.Ns1.of_empty e3).at fun o q=>Heap.get?_push_of_some _ q,fun _=>True.intro,fun y hy=>absurd rfl hy⟩
theorem Cb{prog:Program}{w:World}{env:Env}{e:Expr}{f:Str}{pos:Pos}{s:Shared}{Q:Value→Shared→Prop}(hb:attributeBase e f env (eval e env)=eval e env)
 (h:wpAny (model prog w) A (eval e env) (fun o s₁=>wpAny (model prog w) A (getAttr o f true) Q E s₁) E s):wpAny (model prog w) A (eval (.Attribute e f pos) env) Q E s:=
 Attribute_any_ h (by rw[arm_eval_Attribute,hb])
end
noncomputable def Jn(K:PySem.W.Frag)(ta:TE)(f:Str):TE:=fun σ H Q=>ta σ H fun x H1=>∃a C dx fs v,x= .ref a∧H1 a=some (.ins C dx fs)∧tS K C∧dh K C f∧fs.lookup f=some v∧Q v H1
noncomputable def Lc(K:PySem.W.Frag)(ta:TE)(f:Str):TE:=fun σ H Q=>ta σ H fun x H1=>∃a C dx fs v u,x= .ref a∧H1 a=some (.ins C dx fs)∧tS K C∧Lr K C f v u∧fs.lookup f=none∧Q v H1
noncomputable def II(K:PySem.W.Frag)(ta tv:TE)(f:Str):TS:=fun D σ H=>tv σ H fun y H1=>ta σ H1 fun x H2=>∃a C dx fs,x= .ref a∧H2 a=some (.ins C dx fs)∧tS K C∧dh K C f∧fs.length < 1000∧
 D.nx σ (upd H2 a (.ins C dx (ju f y fs)))
noncomputable def KJ(X:Cx)(op:Operator)(rd:V→V→Hp→VK→Prop):Prop:=
 ∀(pins:List (Addr × Obj)) (s:Shared) (σ:St) (H:Hp) (x y:V) (u v:Value) (Q:VK),Inv X pins σ H s→RelV x u→RelV y v→rd x y H Q→wpAny (model X.prog X.w) X.A (inplaceOp op u v) (EP X pins σ Q) X.xe s
noncomputable def Ip(K:PySem.W.Frag)(ta tv:TE)(rd:V→V→Hp→VK→Prop)(f:Str):TS:=fun D σ H=>ta σ H fun x H1=>∃a C dx fs v,x= .ref a∧H1 a=some (.ins C dx fs)∧tS K C∧dh K C f∧fs.lookup f=some v∧
 tv σ H1 fun y H2=>rd v y H2 fun z H3=>∃dx' fs',H3 a=some (.ins C dx' fs')∧fs'.length < 1000∧D.nx σ (upd H3 a (.ins C dx' (ju f z fs')))
section
variable {X:Cx} {o e value:Expr} {f:Str} {pos pos' tpos:Pos} {ta tv:TE}
theorem Fp(he:PE X e ta)(hb:attributeBase e f X.env (eval e X.env)=eval e X.env):PE X (.Attribute e f pos) (Jn X.K ta f):=by
 intro pins s σ H Q I h
 refine Cb hb (dW (he pins s σ H _ I h) fun u s1 ⟨x,H1,I1,rx,a,C,dx,fs,v,ex,ea,c,n,l,q⟩=>?_)
 subst ex
 obtain rfl:u=Value.ref a:=rx
 exact vX I1 ea c n l fun u' s2 I2 ru=>⟨v,H1,I2,ru,q⟩
theorem EJ(ha:PE X o ta)(hv:PE X value tv)(hs:swapsWith value (some (.Attribute o f pos')) pos.line X.env=pure false):PS X (.Assign [.Attribute o f pos'] value pos) (II X.K ta tv f):=by
 intro pins s σ H D I h
 refine plainObj_wpAny_Assign_Attribute (dW (hv pins s σ H _ I h) fun u s1 ⟨y,H1,I1,ry,q⟩=>dW (ha pins s1 σ H1 _ I1 q) fun ov s2 ⟨x,H2,I2,rx,a,C,dx,fs,ex,ea,c,n,l,q2⟩=>?_) hs
 subst ex
 obtain rfl:ov=Value.ref a:=rx
 exact vR I2 ea c n l ry fun s3 I3=>⟨σ,_,I3,q2⟩
noncomputable def K7:V→V→Hp→VK→Prop:=fun x y H Q=>∃i j,x= .int i∧y= .int j∧Q (.int (i+j)) H
noncomputable def Lb:V→V→Hp→VK→Prop:=fun x y H Q=>∃i j,x= .int i∧y= .int j∧Q (.int (i - j)) H
end
section
variable {X:Cx} {pins:List (Addr × Obj)} {σ:St} {H:Hp} {s:Shared} {A:Around} {E:Value→Shared→Prop} {Q:Value→Shared→Prop} {c:Value} {b:Bool}
inductive oZ (K:PySem.W.Frag) (H:Hp):V→Value→Prop where
 | cq:oZ K H .cq (.type "NoneType")
 | bl (x:Bool):oZ K H (.bl x) (.type "bool")
 | int (i:Int):oZ K H (.int i) (.type "int")
 | str (x:Str):oZ K H (.str x) (.type "str")
 | flt (x:UInt64):oZ K H (.flt x) (.type "float")
 | lst {a:Addr} {xs:List V} (e:H a=some (.lst xs)):oZ K H (.ref a) (.type "list")
 | ik {a:Addr} {o:Obj} {xs:List V} (e:H a=some (.ik o (.lst xs))):oZ K H (.ref a) (.type "list")
 | tup {a:Addr} {xs:List V} (e:H a=some (.tup xs)):oZ K H (.ref a) (.type "tuple")
 | dK {a:Addr} {kvs:List (Key × V)} (e:H a=some (.dK kvs)):oZ K H (.ref a) (.type "dict")
 | dT {a:Addr} {kvs:List (List Key × V)} (e:H a=some (.dT kvs)):oZ K H (.ref a) (.type "dict")
 | ins {a C dx:Addr} {fs:List (Str × V)} (e:H a=some (.ins C dx fs)) (cl:tS K C) (ha:PySem.W.findIn K (.ref C) "__class__"=some (some (.builtin "object.__class__")))
    (hn:PySem.W.specialIn K (.builtin "object.__class__") "__get__"=some (some (.builtin "getset_descriptor.__get__"))) (htk:PySem.W.takesIn K (.builtin "object.__class__")=some true)
    (hm:PySem.W.mroIn K C (.type "object")=some true):oZ K H (.ref a) (.ref C)
theorem k_{x:V}{u t:Value}(I:Inv X pins σ H s)(rx:RelV x u)(ty:oZ X.K H x t)(e:PySem.W.kitOne X.K t c=some b)(h:∀tk,Q (.bool b) {s with toks:=tk}) :
 wpAny (model X.prog X.w) A (call (.builtin "isinstance") [u,c]) Q E s:=by
 cases ty with
 | cq=>cases(show u=Value.none from rx);exact PySem.W.kia_one PySem.W.kitx_none I.n_ True.intro e (fun z=>nomatch z) h
 | bl y=>cases(show u=Value.bool y from rx);exact PySem.W.kia_one PySem.W.kitx_bool I.n_ True.intro e (fun z=>nomatch z) h
 | int i=>obtain⟨t,q⟩:=(show ∃t,u=Value.int i t from rx);cases q;exact PySem.W.kia_one PySem.W.kitx_int I.n_ True.intro e (fun z=>nomatch z) h
 | str y=>obtain⟨t,q⟩:=(show ∃t,u=Value.str y t from rx);cases q;exact PySem.W.kia_one PySem.W.kitx_str I.n_ True.intro e (fun z=>nomatch z) h
 | flt y=>obtain⟨t,q⟩:=(show ∃t,u=Value.float y t from rx);cases q;exact PySem.W.kia_one PySem.W.kitx_float I.n_ True.intro e (fun z=>nomatch z) h
 | @lst a xs ea=>
   cases(show u=Value.ref a from rx)
   obtain⟨_,_,n,_,h1⟩:=(show dU X.prog X.w H s.heap a (.lst xs) from I.hok a _ ea)
   exact PySem.W.kia_one PySem.W.kitx_list I.n_ ⟨_,h1,rfl⟩ e (fun z=>nomatch z) h
 | @ik a ob xs ea=>
   cases(show u=Value.ref a from rx)
   obtain⟨_,_,_,n,_,h1⟩:=(show dU X.prog X.w H s.heap a (.ik ob (.lst xs)) from I.hok a _ ea)
   exact PySem.W.kia_one PySem.W.kitx_list I.n_ ⟨_,h1,rfl⟩ e (fun z=>nomatch z) h
 | @tup a xs ea=>
   cases(show u=Value.ref a from rx)
   obtain⟨_,_,_,p⟩:=(show dU X.prog X.w H s.heap a (.tup xs) from I.hok a _ ea)
   obtain⟨o,h1,h2,_⟩:=p
   exact PySem.W.kia_one PySem.W.kitx_tuple I.n_ ⟨o,h1,h2⟩ e (fun z=>nomatch z) h
 | @dK a kvs ea=>
   cases(show u=Value.ref a from rx)
   obtain⟨_,_,vs,_,p⟩:=(show dU X.prog X.w H s.heap a (.dK kvs) from I.hok a _ ea)
   obtain⟨o,es,ep,h1,h2,_⟩:=p
   exact PySem.W.kia_one PySem.W.kitx_dict I.n_ ⟨o,h1,h2.1⟩ e (fun z=>nomatch z) h
 | @dT a kvs ea=>
   cases(show u=Value.ref a from rx)
   obtain⟨_,_,xs,_,o,es,ep,h1,h2,_⟩:=(show dU X.prog X.w H s.heap a (.dT kvs) from I.hok a _ ea)
   exact PySem.W.kia_one PySem.W.kitx_dict I.n_ ⟨o,h1,h2.1⟩ e (fun z=>nomatch z) h
 | @ins a C dx fs ea cl ha hn htk hm=>
   cases(show u=Value.ref a from rx)
   obtain⟨mA,O,_⟩:=pz I.hok ea
   obtain⟨od,J,_⟩:=O.look
   exact PySem.W.kia_one (PySem.W.kitx_own (cl.get _) cl.hd ha hn htk hm) I.n_ J e (fun z=>nomatch z) h
end
end L2
namespace L2
open PySem PySem.Spec PyProof.Rows
structure eB (k:Nat) (A:Around):Prop where
 hd:A.handled=none
 dp:A.depth+3*k+5 < recursionLimit
 un:A.units+16*k+200 < cLine
theorem eB.mono{j k:Nat}{A:Around}(r:eB k A)(h:j≤k):eB j A:=⟨r.hd,by have:=r.dp;omega,by have:=r.un;omega⟩
theorem eB.deeper{k:Nat}{A:Around}(r:eB (k+1) A)(env:Env):eB k (A.deeper env):=
 ⟨r.hd,by have:=r.dp;show A.depth+1+3*k+5 < _;omega,by have:=r.un;show A.units+3+16*k+200 < _;omega⟩
theorem wJ{A:Around}{C:Addr}{us:List Value}{kw:List (Str × Value)}:(A.under (.builtin "type.__call__" ⟨.ref C ::us,kw⟩)).depth=A.depth+1:=by
 first | rfl | simp [Around.under,Code.weight,Code.isCreation,Code.isGuard,Code.isCaller,Code.frames,Code.isFrame,guardIds]
theorem wz{A:Around}{C:Addr}{us:List Value}{kw:List (Str × Value)}:(A.under (.builtin "type.__call__" ⟨.ref C ::us,kw⟩)).units=A.units+1:=by
 first | rfl | simp [Around.under,Code.cUnits,Code.frames,Code.isFrame]
theorem eB.make{k:Nat}{A:Around}(r:eB (k+1) A)(C:Addr)(us:List Value)(kw:List (Str × Value)):eB k (A.under (.builtin "type.__call__" ⟨.ref C ::us,kw⟩)):=
 ⟨r.hd,by have:=r.dp;rw [wJ];omega,by have:=r.un;rw [wz];omega⟩
theorem eB.depth{k:Nat}{A:Around}(r:eB k A):A.depth < recursionLimit:=by have:=r.dp;omega
theorem eB.units{k:Nat}{A:Around}(r:eB k A):A.units+64 < cLine:=by have:=r.un;omega
noncomputable def Jm:TA:=fun _ H Q=>Q [] H
noncomputable def Ia(ta:TE)(tr:TA):TA:=fun σ H Q=>ta σ H fun x H1=>tr σ H1 fun xs H2=>Q (x ::xs) H2
section
variable {X:Cx} {e:Expr} {es:List Expr} {te:TE} {t:TA} {pos:Pos}
theorem jy:PA X [] Jm:=fun _ _ _ _ H Q I h=>Calls.spliced_nil ⟨[],H,I, .nil,h⟩
theorem f_(ha:PE X e te)(hr:PA X es t)(hs:starEach (e ::es) X.env=(false,eval e X.env) ::starEach es X.env:=by rfl):PA X (e ::es) (Ia te t):=by
 intro pos pins s σ H Q I h
 rw[hs]
 show wpAny _ _ (spliced ((false,eval e X.env) ::backTo pos (starEach es X.env))) _ _ s
 refine Calls.spliced_cons (dW (ha pins s σ H _ I h) fun u s1 ⟨x,H1,I1,r1,q1⟩=>?_)
 exact dW (hr pos pins s1 σ H1 _ I1 q1) fun us s2 ⟨xs,H2,I2,r2,q2⟩=>⟨x ::xs,H2,I2, .cons r1 r2,q2⟩
noncomputable def Ji(t:TA):TE:=fun σ H Q=>t σ H fun xs H1=>xs.length≤sizeLine∧∀p,H1 p=none→Q (.ref p) (upd H1 p (.tup xs))
noncomputable def JA(t:TA):TE:=fun σ H Q=>t σ H fun xs H1=>xs.length≤sizeLine∧∀p,H1 p=none→Q (.ref p) (upd H1 p (.lst xs))
theorem Ae{x1}(h:PA X es t):PE X (.Tuple es x1 pos) (Ji t):=by
 intro pins s σ H Q I hq
 refine wpAny_Tuple_spliced (dW (h pos pins s σ H _ I hq) fun us s1 ⟨xs,H1,I1,r,z,q⟩=>⟨by rw[←r.length];exact z,?_⟩)
 have hf:H1 s1.heap.objs.size=none:=I1.hok.fresh (Nat.le_refl _)
 refine⟨.ref s1.heap.objs.size,upd H1 s1.heap.objs.size (.tup xs),I1.laid (t':=s1.toks) (fun b u e=>Heap.get?_push_of_some _ e) (Nat.le_refl _) ?_,rfl,q _ hf⟩
 exact⟨z,us,r,⟨_,Heap.get?_push_size _ rfl,rfl,_,rfl⟩⟩
theorem AE(h:PA X es t):PE X (.List es pos) (JA t):=by
 intro pins s σ H Q I hq
 refine wpAny_List_spliced (dW (h pos pins s σ H _ I hq) fun us s1 ⟨xs,H1,I1,r,z,q⟩=>⟨by rw[←r.length];exact z,?_⟩)
 have hf:H1 s1.heap.objs.size=none:=I1.hok.fresh (Nat.le_refl _)
 refine⟨.ref s1.heap.objs.size,upd H1 s1.heap.objs.size (.lst xs),I1.laid (t':=s1.toks) (fun b u e=>Heap.get?_push_of_some _ e) (Nat.le_refl _) ?_,rfl,q _ hf⟩
 exact⟨z,us,0,r,Heap.get?_push_size _ rfl⟩
end
noncomputable abbrev Sp:=List V→Hp→VK→XK→Prop
noncomputable abbrev zq:=List Env→Hp→Shared→XK→Value→Shared→Prop
structure wC (P:Program) (w:World) (K:PySem.W.Frag) (mg:Str→Option Value) (base:Heap) (A:Around) (outer:List Env) (s:Shared) (H:Hp):Prop where
 frames:A.frames=some outer
 mod:Mod K mg base
 bs:∀b o,base.get? b=some o→s.heap.get? b=some o∧H b=none
 bsz:base.objs.size≤s.heap.objs.size
 o5:s.heap.FunFrames base outer
 frf:∀b∈zp outer,H b=none
 hok:lH P w H s.heap
 bare:AllBare s.gens
noncomputable def CE(outer:List Env)(P:Program)(w:World)(H:Hp)(s:Shared)(Q:VK)(u:Value)(s':Shared):Prop:=
 ∃v H',s'.os=s.os∧AllBare s'.gens∧Un (zp outer) [] H H' s.heap s'.heap∧lH P w H' s'.heap∧RelV v u∧Q v H'
noncomputable def CR(CX:zq)(outer:List Env)(P:Program)(w:World)(H:Hp)(s:Shared)(Q:VK)(E:XK)(r:Result)(s':Shared):Prop:=
 match r with
 | .ok (.ret u)=>CE outer P w H s Q u s'
 | .ok _=>False
 | .error e=>CX outer H s E e s'
structure ip (P:Program) (w:World) (K:PySem.W.Frag) (mg:Str→Option Value) (base:Heap) (CX:zq) (k:Nat) (f:Addr) (fd:FuncData) (ps:List Str) (sp:Sp):Prop where
 len:∀vs H Q E,sp vs H Q E→vs.length=ps.length
 run:∀(A:Around) (outer:List Env) (s:Shared) (H:Hp) (args:Args) (us:List Value) (vs:List V) (Q:VK) (E:XK),eB k A→wC P w K mg base A outer s H→BindsTo s fd args (ps.zip us)→Vals vs us→sp vs H Q E→
  codeAny (model P w) A (.call (.ref f) args) (CR CX outer P w H s Q E) s
theorem ip.imp{P:Program}{w:World}{K:PySem.W.Frag}{mg:Str→Option Value}{base:Heap}{CX:zq}{k:Nat}{f:Addr}{fd:FuncData}{ps:List Str}{sp sp':Sp}(F:ip P w K mg base CX k f fd ps sp)
 (h:∀vs H Q E,sp' vs H Q E→sp vs H Q E):ip P w K mg base CX k f fd ps sp':=
 ⟨fun vs H Q E q=>F.len vs H Q E (h _ _ _ _ q),fun A outer s H args us vs Q E hr he hb hv hs=>F.run A outer s H args us vs Q E hr he hb hv (h _ _ _ _ hs)⟩
theorem wC.make{P:Program}{w:World}{K:PySem.W.Frag}{mg:Str→Option Value}{base:Heap}{A:Around}{outer:List Env}{s:Shared}{H:Hp}(e:wC P w K mg base A outer s H)(C:Addr)(us:List Value)(kw:List (Str × Value)) :
 wC P w K mg base (A.under (.builtin "type.__call__" ⟨.ref C ::us,kw⟩)) outer s H:=⟨by first | exact e.frames | (simpa [Around.under,Code.envs,Code.isFrame,pushEnvs] using e.frames),e.mod,e.bs,e.bsz,e.o5,e.frf,e.hok,e.bare⟩
section
variable {X:Cx} {pins:List (Addr × Obj)} {σ:St} {H:Hp} {s s':Shared}
theorem Inv.G3(I:Inv X pins σ H s):wC X.prog X.w X.K X.mg X.base X.A X.stack s H:=
 ⟨I.ok.frames,I.ok.mod,I.bs,Nat.le_trans I.ok.bsz I.sz,I.stack,I.w6,I.hok,I.bare⟩
theorem Inv.after{Q:VK}{u:Value}(I:Inv X pins σ H s)(h:CE X.stack X.prog X.w H s Q u s'):EP X pins σ Q u s':=by
 obtain⟨v,H',os,bare,un,hok,r,q⟩:=h
 obtain⟨hh,g,d,t,os'⟩:=s'
 obtain rfl:os'=s.os:=os
 exact⟨v,H',I.call (h':=hh) (g':=g) (d':=d) (t':=t) (ch:=[]) un hok bare (fun b z=>absurd z (by simp)),r,q⟩
end
noncomputable def G_(sp:Sp)(dvs:List V)(E:XK)(t:TA):TE:=fun σ H Q=>t σ H fun vs H1=>sp (vs++dvs) H1 Q E
noncomputable def HP(C:Addr)(m:Str)(sp:Sp)(dvs:List V)(E:XK)(ta:TE)(t:TA):TE:=fun σ H Q=>ta σ H fun x H1=>∃a dx fs,x= .ref a∧H1 a=some (.ins C dx fs)∧fs.lookup m=none∧
 t σ H1 fun vs H2=>sp (x ::(vs++dvs)) H2 Q E
noncomputable def Ht(C:Addr)(sp:Sp)(dvs:List V)(E:XK)(t:TA):TE:=fun σ H Q=>t σ H fun vs H1=>∀x dx,H1 x=none→H1 dx=none→dx≠x→
 sp (.ref x ::(vs++dvs)) (upd (upd H1 dx (.own x)) x (.ins C dx [])) (fun v H2=>v= .cq∧Q (.ref x) H2) E
noncomputable def Binds(K:PySem.W.Frag)(fd:FuncData)(ps:List Str)(ds:List Value):Prop:=
 ∀(s:Shared) (us:List Value),K.In s.heap→(us++ds).length=ps.length→BindsTo s fd ⟨us,[]⟩ (ps.zip (us++ds))
theorem Binds.all{K:PySem.W.Frag}{fd:FuncData}{ps:List Str}(h:∀us:List Value,us.length=ps.length→bindArgs fd ⟨us,[]⟩=pure (ps.zip us)):Binds K fd ps []:=fun s us _ hl=>by
 rw[List.append_nil] at hl ⊢
 exact .of_eq (h us hl)
noncomputable def Passes(CX:zq)(X:Cx)(E:XK):Prop:=∀(pins:List (Addr × Obj)) (σ:St) (H:Hp) (s:Shared) (e:Value) (s':Shared),Inv X pins σ H s→CX X.stack H s E e s'→X.xe e s'
section
variable {X:Cx} {CX:zq} {k:Nat} {f C:Addr} {fd:FuncData} {ps:List Str} {sp:Sp} {dvs:List V} {ds:List Value} {E:XK} {x m:Str} {p pos apos:Pos} {e o:Expr} {es:List Expr} {ta:TE} {t:TA}
theorem A7{pins:List (Addr × Obj)}{σ:St}{H:Hp}{s:Shared}{Q:VK}{us:List Value}{vs:List V}(F:ip X.prog X.w X.K X.mg X.base CX k f fd ps sp)(hr:eB k X.A)(hb:Binds X.K fd ps ds)(hd:Vals dvs ds)(hx:Passes CX X E)
 (I:Inv X pins σ H s) (r:Vals vs us) (h:sp (vs++dvs) H Q E):wpAny (model X.prog X.w) X.A (call (.ref f) us) (EP X pins σ Q) X.xe s:=by
 have r2:Vals (vs++dvs) (us++ds):=r.append hd
 have hl:(us++ds).length=ps.length:=by rw[←r2.length];exact F.len _ _ _ _ h
 refine wpAny_call (codeAny_mono (F.run X.A X.stack s H ⟨us,[]⟩ (us++ds) (vs++dvs) Q E hr I.G3 (hb s us I.n_ hl) r2 h) fun r s' hq=>?_)
 cases r with
 | error e=>exact hx pins σ H s e s' I hq
 | ok fl=>
   cases fl with
   | ret u=>exact I.after hq
   | next=>exact False.elim hq
   | brk=>exact False.elim hq
   | cont=>exact False.elim hq
theorem sT(F:ip X.prog X.w X.K X.mg X.base CX k f fd ps sp)(hr:eB k X.A)(hg:Gl X x)(hm:X.mg x=some (.ref f))(hk:PySem.W.keepIn X.K (.ref f)=true)(hb:Binds X.K fd ps ds)(hd:Vals dvs ds)(hx:Passes CX X E)
 (ha:PA X (e ::es) t) (hdb:(x==("__debug__":Str))=false:=by decide) (he:starEach (e ::es) X.env=(false,eval e X.env) ::starEach es X.env:=by rfl) (hpl:(backTo pos (starEach es X.env)).any (·.1)=false:=by rfl) :
 PE X (.Call (.Name x p) (e ::es) [] pos) (G_ sp dvs E t):=by
 intro pins s σ H Q I h
 refine wpAny_Call_Name_kw (xF I hg hm ?_ hdb)
 refine PySem.W.callWith_K (h₀:=X.base) I.ok.mod.kin hk (dW (ha pos pins s σ H _ I h) fun us s1 ⟨vs,H1,I1,r,q⟩=>⟨I1.n_,?_⟩) he hpl
 exact A7 F hr hb hd hx I1 r q
theorem Co{pl:Sem Bool}(he:PE X o ta)(c:tS X.K C)(hm:Meth X.K C m f)(F:ip X.prog X.w X.K X.mg X.base CX k f fd ps sp)(hr:eB k X.A)(hb:Binds X.K fd ps ds)(hd:Vals dvs ds)(hx:Passes CX X E)(ha:PA X (e ::es) t)
 (hst:starEach (e ::es) X.env=(false,eval e X.env) ::starEach es X.env:=by rfl) (hpl:(backTo pos (starEach es X.env)).any (·.1)=false:=by rfl)
 (ht:eval (.Call (.Attribute o m apos) (e ::es) [] pos) X.env=(do
   let ov ←eval o X.env
   standAt apos.atName
   let(f,first) ←holding [ov] (getMethod ov m pl)
   callWith pos f first (backTo pos (starEach (e ::es) X.env)) (backToKw pos (keywordEach [] X.env))):=by rfl) :
 PE X (.Call (.Attribute o m apos) (e ::es) [] pos) (HP C m sp dvs E ta t):=by
 intro pins s σ H Q I h
 refine PySem.W.methodCall_KW (pl:=pl) (dW (he pins s σ H _ I h) fun u s1 ⟨x,H1,I1,rx,a,dx,fs,ex,ea,l,q⟩=>?_) ht
 subst ex
 obtain rfl:u=Value.ref a:=rx
 refine wD I1 ea c hm l ?_
 refine PySem.W.callWith_K (first:=[.ref a]) (h₀:=X.base) I.ok.mod.kin hm.kp (dW (ha pos pins s1 σ H1 _ I1 q) fun us s2 ⟨vs,H2,I2,r,q2⟩=>⟨I2.n_,?_⟩) hst hpl
 exact A7 (us:= .ref a ::us) (vs:= .ref a ::vs) F hr hb hd hx I2 (.cons rfl r) q2
structure Mk (K:PySem.W.Frag) (C f:Addr):Prop where
 makes:PySem.W.makesIn K C=true
 init:PySem.W.findIn K (.ref C) "__init__"=some (some (.ref f))
 fn:PySem.W.isFn K (.ref f)=true
 kp:PySem.W.keepIn K (.ref C)=true
theorem AZ{pins:List (Addr × Obj)}{σ:St}{H:Hp}{s:Shared}{Q:VK}{us:List Value}{vs:List V}(M:Mk X.K C f)(F:ip X.prog X.w X.K X.mg X.base CX k f fd ps sp)(hr:eB (k+1) X.A)(hb:Binds X.K fd ps ds)(hd:Vals dvs ds)
 (hx:Passes CX X E) (I:Inv X pins σ H s) (r:Vals vs us)
 (h:∀x dx,H x=none→H dx=none→dx≠x→sp (.ref x ::(vs++dvs)) (upd (upd H dx (.own x)) x (.ins C dx [])) (fun v H2=>v= .cq∧Q (.ref x) H2) E) :
 wpAny (model X.prog X.w) X.A (call (.ref C) us) (EP X pins σ Q) X.xe s:=by
 have hq:=h (s.heap.objs.size+1) s.heap.objs.size (I.hok.fresh (Nat.le_succ _)) (I.hok.fresh (Nat.le_refl _)) (Nat.ne_of_lt (Nat.lt_succ_self _))
 have I2:=Inv.made (C:=C) I
 have r2:Vals (V.ref (s.heap.objs.size+1) ::(vs++dvs)) (Value.ref (s.heap.objs.size+1) ::(us++ds)):= .cons rfl (r.append hd)
 have hl:(Value.ref (s.heap.objs.size+1) ::us++ds).length=ps.length:=by
  have e:=r2.length
  rw[F.len _ _ _ _ hq] at e
  exact e.symm
 refine wpAny_call (zT (f:=f) I.n_ M.makes M.init (beq_iff_eq.mp M.fn) (codeAny_mono (F.run _ X.stack _ _ ⟨Value.ref (s.heap.objs.size+1) ::us,[]⟩ (Value.ref (s.heap.objs.size+1) ::(us++ds)) _ _ E (hr.make C us [])
  (I2.G3.make C us []) (hb _ (Value.ref (s.heap.objs.size+1) ::us) I2.n_ hl) r2 hq) fun r s' hq'=>?_))
 cases r with
 | error e=>exact hx pins σ _ _ e s' I2 hq'
 | ok fl=>
   cases fl with
   | ret u=>
     obtain⟨v,H',I3,rv,ev,q3⟩:=I2.after hq'
     subst ev
     exact⟨rv,⟨V.ref (s.heap.objs.size+1),H',I3,rfl,q3⟩⟩
   | next=>exact False.elim hq'
   | brk=>exact False.elim hq'
   | cont=>exact False.elim hq'
theorem Di(M:Mk X.K C f)(F:ip X.prog X.w X.K X.mg X.base CX k f fd ps sp)(hr:eB (k+1) X.A)(hg:Gl X x)(hm:X.mg x=some (.ref C))(hb:Binds X.K fd ps ds)(hd:Vals dvs ds)(hx:Passes CX X E)
 (ha:PA X (e ::es) t) (hdb:(x==("__debug__":Str))=false:=by decide) (he:starEach (e ::es) X.env=(false,eval e X.env) ::starEach es X.env:=by rfl) (hpl:(backTo pos (starEach es X.env)).any (·.1)=false:=by rfl) :
 PE X (.Call (.Name x p) (e ::es) [] pos) (Ht C sp dvs E t):=by
 intro pins s σ H Q I h
 refine wpAny_Call_Name_kw (xF I hg hm ?_ hdb)
 refine PySem.W.callWith_K (h₀:=X.base) I.ok.mod.kin M.kp (dW (ha pos pins s σ H _ I h) fun us s1 ⟨vs,H1,I1,r,q⟩=>⟨I1.n_,?_⟩) he hpl
 exact AZ M F hr hb hd hx I1 r q
end
noncomputable def PK(X:Cx)(kws:List Keyword)(t:TA):Prop:=
 ∀(pos:Pos) (pins:List (Addr × Obj)) (s:Shared) (σ:St) (H:Hp) (Q:List V→Hp→Prop),Inv X pins σ H s→t σ H Q→wpAny (model X.prog X.w) X.A (evalAll ((backToKw pos (keywordEach kws X.env)).map (·.2))) (AP X pins σ Q) X.xe s
section
variable {X:Cx} {CX:zq} {k:Nat} {f C:Addr} {fd:FuncData} {ps ks:List Str} {sp:Sp} {E:XK} {x m:Str} {p pos apos kpos:Pos} {e o:Expr} {es:List Expr} {kws:List Keyword} {te ta:TE} {t tk:TA} {nm:Option Str}
structure IJ (K:PySem.W.Frag) (fd:FuncData) (ps ks:List Str) (g:List Value→List Value→List Value) (gV:List V→List V→List V):Prop where
 to:∀(s:Shared) (us ws:List Value),K.In s.heap→(g us ws).length=ps.length→BindsTo s fd ⟨us,ks.zip ws⟩ (ps.zip (g us ws))
 rel:∀{vs:List V} {us:List Value} {zs:List V} {ws:List Value},Vals vs us→Vals zs ws→Vals (gV vs zs) (g us ws)
noncomputable def IT(sp:Sp)(gV:List V→List V→List V)(E:XK)(t tk:TA):TE:=fun σ H Q=>t σ H fun vs H1=>tk σ H1 fun zs H2=>sp (gV vs zs) H2 Q E
variable {g:List Value→List Value→List Value} {gV:List V→List V→List V}
end
structure ba (N P:List Str) (sc:Scope):Prop where
 kind:sc.kind= .function
 co:sc.isCoroutine=false
 gen:sc.isGenerator=false
 nd:N.Nodup
 pre:N.take P.length=P
 par:∀x∈P,sc.names.lookup x=some .local∨sc.names.lookup x=some .cell
 nofree:∀y∈sc.names,y.2≠ .free
theorem rL{kindOf:Str→Option NameKind}{x:Str}:∀{binds:List (Str × Value)} {m:Str→Option Value},(∀v,(x,v) ∉ binds)→bindL kindOf binds m x=m x
 | [],_,_=>rfl
 | (n,v) ::r,m,h=>by
   unfold bindL
   rw[rL fun w hw=>h w (List.mem_cons_of_mem _ hw)]
   split
   ·have:x≠n:=by rintro rfl;exact h v List.mem_cons_self
    simp [this]
   ·rfl
theorem sg{kindOf:Str→Option NameKind}{x:Str}:∀{binds:List (Str × Value)} {m:Str→Option Value},(∀v,(x,v) ∉ binds)→bindC kindOf binds m x=m x
 | [],_,_=>rfl
 | (n,v) ::r,m,h=>by
   unfold bindC
   rw[sg fun w hw=>h w (List.mem_cons_of_mem _ hw)]
   split
   ·rfl
   ·have:x≠n:=by rintro rfl;exact h v List.mem_cons_self
    simp [this]
theorem rN{kindOf:Str→Option NameKind}{x:Str}{v:Value}:∀{P:List Str} {vs:List Value} {i:Nat} {m:Str→Option Value},P.Nodup→P[i]? =some x→vs[i]? =some v→kindOf x=some .local→
 bindL kindOf (P.zip vs) m x=some v
 | [],_,_,_,_,h,_,_=>by simp at h
 | _ ::_,[],_,_,_,_,h,_=>by simp at h
 | p ::P,w ::vs,0,m,nd,h1,h2,hk=>by
   simp at h1 h2;subst h1;subst h2
   show bindL kindOf ((p,w) ::P.zip vs) m p=_
   unfold bindL
   rw[rL fun v hv=>(List.nodup_cons.mp nd).1 (List.of_mem_zip hv).1,if_pos hk]
   simp
 | p ::P,w ::vs,i+1,m,nd,h1,h2,hk=>by
   show bindL kindOf ((p,w) ::P.zip vs) m x=_
   unfold bindL
   exact rN (i:=i) (List.nodup_cons.mp nd).2 (by simpa using h1) (by simpa using h2) hk
theorem rq{kindOf:Str→Option NameKind}{x:Str}{v:Value}:∀{P:List Str} {vs:List Value} {i:Nat} {m:Str→Option Value},P.Nodup→P[i]? =some x→vs[i]? =some v→kindOf x≠some .local→
 bindC kindOf (P.zip vs) m x=some v
 | [],_,_,_,_,h,_,_=>by simp at h
 | _ ::_,[],_,_,_,_,h,_=>by simp at h
 | p ::P,w ::vs,0,m,nd,h1,h2,hk=>by
   simp at h1 h2;subst h1;subst h2
   show bindC kindOf ((p,w) ::P.zip vs) m p=_
   unfold bindC
   rw[sg fun v hv=>(List.nodup_cons.mp nd).1 (List.of_mem_zip hv).1,if_neg hk]
   simp
 | p ::P,w ::vs,i+1,m,nd,h1,h2,hk=>by
   show bindC kindOf ((p,w) ::P.zip vs) m x=_
   unfold bindC
   exact rq (i:=i) (List.nodup_cons.mp nd).2 (by simpa using h1) (by simpa using h2) hk
noncomputable def start(N:List Str)(vs:List V):St:=vs.map some++List.replicate (N.length - vs.length) none
noncomputable def p6(CX:zq)(P:Program)(w:World)(K:PySem.W.Frag)(mg:Str→Option Value)(base:Heap)(N:List Str)(qual:Str)(scope:Scope)(f:Addr)(cd:Value)(A:Around)(outer:List Env)(s:Shared)(H:Hp)(E:XK):Cx where
 prog:=P
 w:=w
 K:=K
 mg:=mg
 base:=base
 A:=A.deeper (envOfC qual scope s.heap.objs.size f cd)
 N:=N
 s₀:=s
 H₀:=H
 env:=envOfC qual scope s.heap.objs.size f cd
 outer:=outer
 stack:=envOfC qual scope s.heap.objs.size f cd ::outer
 ex:=[]
 calm:=true
 fn:=fun _=>true
 pn:=[]
 xe:=fun e s'=>wpAny (model P w) (A.deeper (envOfC qual scope s.heap.objs.size f cd)) (leaving (envOfC qual scope s.heap.objs.size f cd) e) (fun _ s''=>CX outer H s E e s'') (fun e' s''=>CX outer H s E e' s'') s'
theorem vg{sc:Scope}{n:Nat}{x:Str}(h:sc.names.lookup x=some .cell):∃c,(cellsFrom n sc.names []).lookup x=some c:=by
 have q:=PySem.W.cellsFrom_some sc.names n [] (.inl h)
 exact Option.isSome_iff_exists.mp q
theorem yz{CX:zq}{P:Program}{w:World}{K:PySem.W.Frag}{mg:Str→Option Value}{base:Heap}{N ps:List Str}{qual:Str}{scope:Scope}{f:Addr}{cd:Value}{A:Around}{outer:List Env}{s s1:Shared}{H:Hp}{E:XK}{us:List Value}{vs:List V}
 (S:ba N ps scope) (hd:A.handled=none) (e0:wC P w K mg base A outer s H) (hl:vs.length=ps.length) (r:Vals vs us)
 (x:InCallC s s.heap.objs.size (bindL (envOfC qual scope s.heap.objs.size f cd).kindOf (ps.zip us) fun _=>none) (cellsFrom (s.heap.objs.size+1) scope.names []) (bindC (envOfC qual scope s.heap.objs.size f cd).kindOf (ps.zip us) fun _=>none) s1) :
 Inv (p6 CX P w K mg base N qual scope f cd A outer s H E) [] (start N vs) H s1:=by
 have hpl:ps.length≤N.length:=by have:=congrArg List.length S.pre;rw [List.length_take] at this;omega
 obtain⟨h1,tk,rfl,hk⟩:=x.done
 have noA:∀b:Addr,b ∉ (p6 CX P w K mg base N qual scope f cd A outer s H E).ex:=fun b z=>absurd (show b∈([]:List Addr) from z) (by simp)
 refine⟨⟨e0.mod,S.kind,rfl,rfl,Nat.le_refl _,fun y z c h1 h2=>?_,fun y hy=>?_,fun y c _ h=>?_,fun _=>hd,Around.frames_deeper e0.frames, .inr ⟨rfl,rfl⟩,fun b z=>absurd z (noA b),e0.bs,e0.bsz,fun b _ _=>noA b,fun b z=>absurd z (noA b),e0.o5,e0.frf⟩,
  rfl,e0.bare,Un.kept hk,⟨_,x.toInCall.ns,fun i y v h1 h2 h3=>?_⟩,fun y c h=>⟨_,x.cell y c h⟩,e0.hok.fresh (Nat.le_refl _),fun y c h=>?_,fun p hp=>absurd (show p∈([]:List (Addr × Obj)) from hp) (by simp),e0.hok.kept hk,?_⟩
 ·exact name_of_addr x.apart (PySem.mem_of_lookup h1) (PySem.mem_of_lookup h2)
 ·have hy:scope.names.lookup y=some .cell∨scope.names.lookup y=some .free:=hy
  rcases hy with hy | hy
  ·exact vg hy
  ·exact absurd rfl (S.nofree _ (PySem.mem_of_lookup hy))
 ·exact Nat.le_of_lt (x.above y c (PySem.mem_of_lookup h))
 ·have hi:i < vs.length:=by
   unfold start at h2
   by_cases hi:i < vs.length
   ·exact hi
   ·rw[List.getElem?_append_right (by simpa using hi)] at h2
    rw[List.getElem?_replicate] at h2
    split at h2 <;> cases h2
  have ha:vs[i]? =some v:=by
   unfold start at h2
   rw[List.getElem?_append_left (by simpa using hi),List.getElem?_map] at h2
   cases e:vs[i]? with
   | none=>rw [e] at h2;cases h2
   | some a=>rw [e] at h2;cases h2;rfl
  obtain⟨u,hu,rv⟩:=r.get ha
  have hp:ps[i]? =some y:=by
   rw[←S.pre,List.getElem?_take_of_lt (by omega)];exact h1
  have ndP:ps.Nodup:=by rw[←S.pre];exact S.nd.sublist (List.take_sublist _ _)
  refine⟨u,rv,?_⟩
  rcases S.par y (List.mem_of_getElem? hp) with k | k
  ·exact .inl ⟨k,rN ndP hp hu k⟩
  ·obtain⟨c,e⟩:=vg (n:=s.heap.objs.size+1) k
   refine .inr ⟨.inl k,c,e,?_⟩
   have q:=x.cell y c e
   rw[rq ndP hp hu (by show scope.names.lookup y≠_;rw [k];decide)] at q
   exact q
 ·exact e0.hok.fresh (Nat.le_of_lt (x.above y c (PySem.mem_of_lookup h)))
 ·unfold start
  show _=N.length
  rw[List.length_append,List.length_map,List.length_replicate]
  omega
theorem HQ{CX:zq}{P:Program}{w:World}{K:PySem.W.Frag}{mg:Str→Option Value}{base:Heap}{k:Nat}{f:Addr}{name qual:Str}{params:Arguments}{body:List Stmt}{scope:Scope}{dV kV doc pm cdv ct oc:Value}{an od:Option Addr}
 {osl:Array (Option Value)} {N ps:List Str} {sp:Sp} (lk:K.lookup f=some ⟨oc,od, .func (PySem.W.fnOf name qual params body scope dV kV doc pm an cdv ct),osl⟩) (hcd:PySem.W.codeIn K cdv qual=true) (S:ba N ps scope)
 (len:∀vs H Q E,sp vs H Q E→vs.length=ps.length)
 (hbody:∀(A:Around) (outer:List Env) (s:Shared) (H:Hp) (vs:List V) (Q:VK) (E:XK),eB k (A.deeper (envOfC qual scope s.heap.objs.size f cdv))→sp vs H Q E→
   ∃t,tV (p6 CX P w K mg base N qual scope f cdv A outer s H E) body t∧t {nx:=fun _ H'=>Q .cq H',rt:=Q} (start N vs) H) :
 ip P w K mg base CX (k+1) f (PySem.W.fnOf name qual params body scope dV kV doc pm an cdv ct) ps sp:=by
 refine⟨len,fun A outer s H args us vs Q E hr e0 hb r hsp=>?_⟩
 have hl:=len _ _ _ _ hsp
 have KX:K.In s.heap:=e0.mod.kin.keeps fun b o e=>(e0.bs b o e).1
 have lim:s.heap.NoLimit:=e0.mod.nolimit.keeps fun b o e=>(e0.bs b o e).1
 have hkind:∀y∈ps.zip us,scope.names.lookup y.1=some .local∨(scope.names.lookup y.1=some .cell∧((cellsFrom (s.heap.objs.size+1) scope.names []).lookup y.1).isSome=true):=fun⟨n,v⟩ hy=>by
  rcases S.par n (List.of_mem_zip hy).1 with q | q
  ·exact .inl q
  ·exact .inr ⟨q,PySem.W.cellsFrom_some _ _ _ (.inl q)⟩
 refine codeAny_call_function hr.depth (KX _ _ lk) rfl S.co S.gen rfl (PySem.W.codeRec_of KX hcd) (hb _ _ _ _ ?_)
 refine wpAny_newFunctionEnv_cells S.kind hkind fun env he s1 x=>?_
 subst he
 refine⟨lim.keeps x.toInCall.keep,codeAny_func ?_⟩
 obtain⟨t,ht,hq⟩:=hbody A outer s H vs Q E (hr.deeper _) hsp
 have I:Inv (p6 CX P w K mg base N qual scope f cdv A outer s H E) [] (start N vs) H s1:=yz S hr.hd e0 hl r x
 refine wpAny_mono (ht [] s1 (start N vs) H _ I hq) (fun fl s' hs=>?_) fun e s' hs=>hs
 have fin:∀{σ':St} {H':Hp} {v:V} {u:Value},Inv (p6 CX P w K mg base N qual scope f cdv A outer s H E) [] σ' H' s'→RelV v u→Q v H'→CE outer P w H s Q u s':=
  fun {σ' H' v u} J rv q=>⟨v,H',J.os,J.bare,J.base,J.hok,rv,q⟩
 cases fl with
 | ret u=>
   obtain⟨v,σ',H',J,rv,q⟩:=hs
   exact fin J rv q
 | next=>
   obtain⟨σ',H',J,q⟩:=hs
   exact fin (v:=V.cq) (u:=Value.none) J rfl q
 | brk=>
   obtain⟨_,_,_,q⟩:=hs
   exact False.elim q
 | cont=>
   obtain⟨_,_,_,q⟩:=hs
   exact False.elim q
end L2
namespace L2
open PySem PySem.Spec PyProof.Rows
section
variable {X:Cx} {x:Str} {p pos:Pos} {e:Expr} {es:List Expr} {t:TA} {id T:String} {r:List V→Hp→VK→Prop}
noncomputable def JP(r:List V→Hp→VK→Prop)(t:TA):TE:=fun σ H Q=>t σ H fun vs H1=>r vs H1 Q
theorem qJ(hc:jJ X (.builtin id) r)(hg:Gl X x)(hm:X.mg x=none)(hv:bootBuiltins x=some (.builtin id))(ha:PA X (e ::es) t)(hn:x≠"__name__":=by decide)(hdb:(x==("__debug__":Str))=false:=by decide)
 (he:starEach (e ::es) X.env=(false,eval e X.env) ::starEach es X.env:=by rfl) (hpl:(backTo pos (starEach es X.env)).any (·.1)=false:=by rfl):PE X (.Call (.Name x p) (e ::es) [] pos) (JP r t):=by
 intro pins s σ H Q I h
 refine wpAny_Call_Name_kw (k8 I hg hm hv ?_ hn hdb)
 exact PyProof.Rows.callWith_builtin1 (dW (ha pos pins s σ H _ I h) fun us s1 ⟨vs,H1,I1,r1,q1⟩=>hc pins s1 σ H1 vs us Q I1 r1 q1) he hpl
theorem yN(hc:jJ X (.type T) r)(hg:Gl X x)(hm:X.mg x=none)(hv:bootBuiltins x=some (.type T))(ha:PA X (e ::es) t)(hn:x≠"__name__":=by decide)(hdb:(x==("__debug__":Str))=false:=by decide)
 (he:starEach (e ::es) X.env=(false,eval e X.env) ::starEach es X.env:=by rfl) (hpl:(backTo pos (starEach es X.env)).any (·.1)=false:=by rfl):PE X (.Call (.Name x p) (e ::es) [] pos) (JP r t):=by
 intro pins s σ H Q I h
 refine wpAny_Call_Name_kw (k8 I hg hm hv ?_ hn hdb)
 exact PyProof.Rows.callWith_type1 (dW (ha pos pins s σ H _ I h) fun us s1 ⟨vs,H1,I1,r1,q1⟩=>hc pins s1 σ H1 vs us Q I1 r1 q1) he hpl
end
end L2
namespace L2
open PySem PySem.Spec PyProof.Rows
section
variable {κ:Type} [DecidableEq κ]
noncomputable def kF(kvs:List (κ × V))(k:κ):Option V:=(kvs.find? fun kv=>decide (kv.1=k)).map (·.2)
noncomputable def putK(kvs:List (κ × V))(k:κ)(v:V):List (κ × V):=
 if(kvs.any fun kv=>decide (kv.1=k))=true then kvs.map (fun kv=>if kv.1=k then(kv.1,v) else kv) else kvs++[(k,v)]
noncomputable def AN(kvs:List (κ × V))(k:κ):List (κ × V):=kvs.filter fun kv=>decide (kv.1≠k)
theorem vh{p:κ × V}{r:List (κ × V)}{k:κ}(e:p.1=k):kF (p ::r) k=some p.2:=by simp [kF,List.find?_cons,e]
theorem ur{p:κ × V}{r:List (κ × V)}{k:κ}(e:¬p.1=k):kF (p ::r) k=kF r k:=by simp [kF,List.find?_cons,e]
theorem uw(kvs:List (κ × V))(k:κ)(v:V):(putK kvs k v).length≤kvs.length+1:=by
 unfold putK
 split
 ·rw[List.length_map];omega
 ·rw[List.length_append,List.length_cons,List.length_nil];omega
theorem mU.getD{o:Option V}{u:Option Value}{d:V}{d':Value}(r:mU o u)(rd:RelV d d'):RelV (o.getD d) (u.getD d'):=by
 cases o with
 | none=>cases u with
   | none=>exact rd
   | some _=>exact(show False from r).elim
 | some _=>cases u with
   | none=>exact(show False from r).elim
   | some _=>exact r
theorem KV.val{kvs:List (κ × V)}{vs:List (κ × Value)}(r:KV kvs vs)(k:κ):mU (kF kvs k) (valueAt vs k):=by
 unfold KV at r
 induction r with
 | nil=>exact True.intro
 | @cons p q ps qs h t ih=>
   obtain⟨h1,h2⟩:=h
   by_cases e:p.1=k
   ·have e':q.1=k:=h1.symm.trans e
    have b:valueAt (q ::qs) k=some q.2:=by simp [valueAt,List.find?_cons,e']
    rw[vh e,b];exact h2
   ·have e':¬q.1=k:=fun z=>e (h1.trans z)
    have b:valueAt (q ::qs) k=valueAt qs k:=by simp [valueAt,List.find?_cons,e']
    rw[ur e,b];exact ih
theorem KV.any{kvs:List (κ × V)}{vs:List (κ × Value)}(r:KV kvs vs)(k:κ):(kvs.any fun kv=>decide (kv.1=k))=vs.any fun kv=>decide (kv.1=k):=by
 unfold KV at r
 induction r with
 | nil=>rfl
 | cons h t ih=>rw [List.any_cons,List.any_cons,ih,h.1]
theorem KV.IP{kvs:List (κ × V)}{vs:List (κ × Value)}(r:KV kvs vs)(k:κ){y:V}{u:Value}(ry:RelV y u) :
 KV (kvs.map fun kv=>if kv.1=k then(kv.1,y) else kv) (vs.map fun kv=>if kv.1=k then(kv.1,u) else kv):=by
 unfold KV at r ⊢
 induction r with
 | nil=>exact .nil
 | @cons p q ps qs h t ih=>
   rw[List.map_cons,List.map_cons]
   refine .cons ?_ ih
   obtain⟨h1,h2⟩:=h
   by_cases e:p.1=k
   ·rw[if_pos e,if_pos (h1.symm.trans e)];exact⟨h1,ry⟩
   ·rw[if_neg e,if_neg (fun z=>e (h1.trans z))];exact⟨h1,h2⟩
theorem KV.put{kvs:List (κ × V)}{vs:List (κ × Value)}(r:KV kvs vs)(k:κ){y:V}{u:Value}(ry:RelV y u):KV (putK kvs k y) (stored vs k u):=by
 unfold putK stored
 rw[r.any k]
 by_cases e:(vs.any fun kv=>decide (kv.1=k))=true
 ·rw[if_pos e,if_pos e];exact r.IP k ry
 ·rw[if_neg e,if_neg e];exact Paired.snoc r ⟨rfl,ry⟩
end
theorem Bh{P:Program}{w:World}{k:Key}{u:Value}(r:RelV (kV k) u):(dn P w).is k u=true:=by
 cases k with
 | inl i=>obtain⟨t,e⟩:=(show ∃t,u=Value.int i t from r);subst e;exact uv P w i t
 | inr x=>obtain⟨t,e⟩:=(show ∃t,u=Value.str x t from r);subst e;exact uH P w x t
theorem rn{P:Program}{w:World}:∀{ks:List Key} {us:List Value},Vals (ks.map kV) us→ItemsAre (dn P w) ks us
 | [],_,r=>by rw[List.map_nil] at r;cases r;exact .nil
 | k ::ks,_,r=>by
   rw[List.map_cons] at r
   cases r with
   | cons h t=>exact .cons (Bh h) (rn t)
noncomputable abbrev KT(H:Hp):List (List Key × V)→List (List Key × Addr × Value)→Prop:=Paired fun p q=>p.1=q.1∧H q.2.1=some (.tup (p.1.map kV))∧RelV p.2 q.2.2
theorem KT.val{H:Hp}{kvs:List (List Key × V)}{xs:List (List Key × Addr × Value)}(r:KT H kvs xs)(k:List Key):mU (kF kvs k) ((atKey xs k).map (·.2)):=by
 induction r with
 | nil=>exact True.intro
 | @cons p q ps qs h t ih=>
   obtain⟨h1,_,h2⟩:=h
   by_cases e:p.1=k
   ·have e':q.1=k:=h1.symm.trans e
    have b:atKey (q ::qs) k=some q.2:=by simp [atKey,List.find?_cons,e']
    rw[vh e,b];exact h2
   ·have e':¬q.1=k:=fun z=>e (h1.trans z)
    have b:atKey (q ::qs) k=atKey qs k:=by simp [atKey,List.find?_cons,e']
    rw[ur e,b];exact ih
section
variable {P:Program} {w:World} {H:Hp} {h:Heap} {a:Addr}
theorem D6{u:HO}(ok:lH P w H h)(e:Rd H a u):dU P w H h a u:=e.ok ok
theorem z8{kvs:List (Key × V)}(ok:lH P w H h)(e:Rd H a (.dK kvs)):kvs.length≤sizeLine∧(a==sysModules)=false∧∃vs,KV kvs vs∧h.DictOf (dn P w) a vs:=
 show dU P w H h a (.dK kvs) from D6 ok e
theorem HR{kvs:List (Key × V)}(ok:lH P w H h)(e:H a=some (.dK kvs)):kvs.length≤sizeLine∧(a==sysModules)=false∧∃vs,KV kvs vs∧h.DictOf (dn P w) a vs:=z8 ok (.inl e)
theorem zO{ks:List Key}(ok:lH P w H h)(e:H a=some (.tup (ks.map kV))):(tupleKind (dn P w)).is h ks a:=by
 obtain⟨_,its,r,o,h1,h2,n,h3⟩:=(show dU P w H h a (.tup (ks.map kV)) from ok a _ e)
 exact⟨o,its.toArray,n,h1,h2,h3,by simpa using rn r⟩
theorem Ea{kvs:List (List Key × V)}(ok:lH P w H h)(e:Rd H a (.dT kvs)):kvs.length≤sizeLine∧(a==sysModules)=false∧
 ∃xs,KT H kvs xs∧h.DictOfH (tupleKind (dn P w)) a xs:=by
 obtain⟨z,y,xs,r,o,es,ep,h1,h2,h3,h4,h5⟩:=(show dU P w H h a (.dT kvs) from D6 ok e)
 refine⟨z,y,xs,r,o,es,ep,h1,h2,h3,h4,fun x hx=>?_,h5⟩
 have all:∀{l:List (List Key × V)} {m:List (List Key × Addr × Value)},KT H l m→∀x∈m,(tupleKind (dn P w)).is h x.1 x.2.1:=by
  intro l m q
  induction q with
  | nil=>intro x hx;exact nomatch hx
  | @cons p q ps qs hq t ih=>
    intro x hx
    rcases List.mem_cons.mp hx with e | hx
    ·subst e
     exact zO ok (by rw[←hq.1];exact hq.2.1)
    ·exact ih x hx
 exact all r x hx
end
noncomputable def qQ(H:Hp)(a:Addr)(y:V)(r:Option V):Prop:=
 (∃kvs k,Rd H a (.dK kvs)∧y=kV k∧r=kF kvs k)∨∃kvs k b,Rd H a (.dT kvs)∧y= .ref b∧H b=some (.tup (k.map kV))∧r=kF kvs k
noncomputable def H_(H:Hp)(a:Addr)(y v:V)(H':Hp):Prop:=
 (∃kvs k,H a=some (.dK kvs)∧y=kV k∧kvs.length < sizeLine∧H'=upd H a (.dK (putK kvs k v)))∨
 ∃kvs k b,H a=some (.dT kvs)∧y= .ref b∧H b=some (.tup (k.map kV))∧kvs.length < sizeLine∧H'=upd H a (.dT (putK kvs k v))
theorem qQ.k{H:Hp}{a:Addr}{kvs:List (Key × V)}{k:Key}(e:H a=some (.dK kvs)):qQ H a (kV k) (kF kvs k):= .inl ⟨kvs,k, .inl e,rfl,rfl⟩
section
variable {X:Cx} {pins:List (Addr × Obj)} {σ:St} {H:Hp} {s:Shared} {a:Addr} {y v:V} {u r:Value} {o:Option V} {A:Around} {E:Value→Shared→Prop}
theorem Inv.big(I:Inv X pins σ H s):sysModules < s.heap.objs.size:=by
 have h:mainGlobals < s.heap.objs.size:=(I.mod.glob.keeps I.bk).lt
 exact Nat.lt_trans (by decide) h
theorem Df{h':Heap}{t':Nat}{ob:HO}(I:Inv X pins σ H s)(mu:GP (H a))(hs:Heap.SameBut a s.heap h')(he:∃q,h'.get? a=some q)(new:dU X.prog X.w (upd H a ob) h' a ob) :
 Inv X pins σ (upd H a ob) {s with heap:=h',toks:=t'}:=
 I.write (x:=a) (e:=a) mu (.inl rfl) (fun b q hb z=>(hs.2 b hb).trans z) he new
theorem FJ{P:Program}{w:World}{H':Hp}{h':Heap}{kvs:List (Key × V)}{vs:List (Key × Value)}(z:kvs.length≤sizeLine)(hd:(a==sysModules)=false)(rel:KV kvs vs)(dd:h'.DictOf (dn P w) a vs) :
 dU P w H' h' a (.dK kvs):=⟨z,hd,vs,rel,dd⟩
end
section
variable {X:Cx} {pins:List (Addr × Obj)} {σ:St} {H:Hp} {s:Shared} {a:Addr} {kvs:List (Key × V)} {k:Key} {u:Value} {A:Around} {E:Value→Shared→Prop}
end
noncomputable def Kx(i:Expr):Prop:=∀ov iv,subscripted i false ov iv=operate [ov,iv] (getItem ov iv)
noncomputable def J0(td ty:TE):TE:=fun σ H Q=>td σ H fun x H1=>ty σ H1 fun y H2=>∃a v,x= .ref a∧qQ H2 a y (some v)∧Q v H2
noncomputable def Ld(ty td:TE):TE:=fun σ H Q=>ty σ H fun y H1=>td σ H1 fun x H2=>∃a o,x= .ref a∧qQ H2 a y o∧Q (.bl o.isSome) H2
noncomputable def Iu(ty td:TE):TE:=fun σ H Q=>ty σ H fun y H1=>td σ H1 fun x H2=>∃a o,x= .ref a∧qQ H2 a y o∧Q (.bl (!o.isSome)) H2
noncomputable def Kl(td ty tv:TE):TS:=fun D σ H=>tv σ H fun v H1=>td σ H1 fun x H2=>ty σ H2 fun y H3=>∃a H4,x= .ref a∧H_ H3 a y v H4∧D.nx σ H4
noncomputable def J8(td ty tv:TE)(rd:V→V→Hp→VK→Prop):TS:=fun D σ H=>td σ H fun x H1=>ty σ H1 fun y H2=>∃a v,x= .ref a∧qQ H2 a y (some v)∧
 tv σ H2 fun y2 H3=>rd v y2 H3 fun z H4=>∃H5,H_ H4 a y z H5∧D.nx σ H5
noncomputable def Kg(td ty:TE):TS:=fun D σ H=>td σ H fun x H1=>ty σ H1 fun y H2=>∃a kvs k,x= .ref a∧H2 a=some (.dK kvs)∧y=kV k∧(kF kvs k).isSome=true∧D.nx σ (upd H2 a (.dK (AN kvs k)))
section
variable {X:Cx} {o i e value:Expr} {pos pos' tpos:Pos} {td ty tv:TE}
end
theorem Ay{P:Program}{w:World}{H:Hp}(h:Heap)(hb:sysModules < h.objs.size):dU P w H (h.push {cls:= .type "dict",data:= .dict #[]}) h.objs.size (.dK []):=
 ⟨Nat.zero_le _,beq_eq_false_iff_ne.mpr (Ne.symm (Nat.ne_of_lt hb)),[], .nil,Heap.DictOf.new h⟩
noncomputable def IY:TE:=fun _ H Q=>∀p,H p=none→Q (.ref p) (upd H p (.dK []))
noncomputable def IZ:TE:=fun _ H Q=>∀p,H p=none→Q (.ref p) (upd H p (.dT []))
section
variable {X:Cx} {pos:Pos}
end
noncomputable def qp:List (TE × TE)→St→Hp→(List (V × V)→Hp→Prop)→Prop
 | [],_,H,Q=>Q [] H
 | (tk,tv) ::r,σ,H,Q=>tk σ H fun x H1=>tv σ H1 fun y H2=>qp r σ H2 fun ps H3=>Q ((x,y) ::ps) H3
noncomputable abbrev VV:List (V × V)→List (Value × Value)→Prop:=Paired fun p q=>RelV p.1 q.1∧RelV p.2 q.2
noncomputable def GG(X:Cx)(pos:Pos)(keys:List (Option Expr))(values:List Expr)(trs:List (TE × TE)):Prop:=
 ∀(pins:List (Addr × Obj)) (s:Shared) (σ:St) (H:Hp) (Q:List (V × V)→Hp→Prop),Inv X pins σ H s→qp trs σ H Q→
  wpAny (model X.prog X.w) X.A (evalPairs (pairTrees keys values X.env pos)) (fun vs s'=>∃ps H',Inv X pins σ H' s'∧VV ps vs∧Q ps H') X.xe s
theorem wY{X:Cx}{pos:Pos}:GG X pos [] [] []:=fun pins s σ H Q I h=>pairTrees_nil_walk ⟨[],H,I, .nil,h⟩
theorem m7{X:Cx}{pos:Pos}{k v:Expr}{ks:List (Option Expr)}{vs:List Expr}{tk tv:TE}{trs:List (TE × TE)}(hk:PE X k tk)(hv:PE X v tv)(hr:GG X pos ks vs trs) :
 GG X pos (some k ::ks) (v ::vs) ((tk,tv) ::trs):=fun pins s σ H Q I h=>
 pairTrees_cons_walk (dW (hk pins s σ H _ I h) fun u s1 ⟨x,H1,I1,rx,q1⟩=>dW (hv pins s1 σ H1 _ I1 q1) fun w2 s2 ⟨y,H2,I2,ry,q2⟩=>
  dW (hr pins s2 σ H2 _ I2 q2) fun ws s3 ⟨ps,H3,I3,rel,q3⟩=>⟨(x,y) ::ps,H3,I3, .cons ⟨rx,ry⟩ rel,q3⟩)
noncomputable def jm(kvs more:List (Key × V)):List (Key × V):=more.foldl (fun acc kv=>putK acc kv.1 kv.2) kvs
theorem KV.merge:∀{more:List (Key × V)} {rs:List (Key × Value)} {kvs:List (Key × V)} {vs:List (Key × Value)},KV more rs→KV kvs vs→KV (jm kvs more) (merged vs rs):=by
 intro more rs kvs vs r
 unfold KV at r
 induction r generalizing kvs vs with
 | nil=>intro q;exact q
 | @cons p q ps qs h t ih=>
   intro r0
   have e:KV (putK kvs p.1 p.2) (stored vs q.1 q.2):=by
    have:=r0.put p.1 h.2
    rw[←h.1];exact this
   exact ih e
theorem lC:∀(more kvs:List (Key × V)),(jm kvs more).length≤kvs.length+more.length
 | [],kvs=>by show kvs.length≤kvs.length+0;omega
 | p ::r,kvs=>by
   have h1:=lC r (putK kvs p.1 p.2)
   have h2:=uw kvs p.1 p.2
   show(jm (putK kvs p.1 p.2) r).length≤_
   rw[List.length_cons];omega
theorem qK{P:Program}{w:World}:∀{kvs:List (Key × V)} {ws:List (Value × Value)},VV (kvs.map fun kv=>(kV kv.1,kv.2)) ws→∃rs,Carries (dn P w) ws rs∧KV kvs rs
 | [],_,r=>by rw[List.map_nil] at r;cases r;exact⟨[],True.intro, .nil⟩
 | p ::kvs,_,r=>by
   rw[List.map_cons] at r
   cases r with
   | @cons a b as bs h t=>
     obtain⟨rs,c,q⟩:=qK (P:=P) (w:=w) t
     obtain⟨b1,b2⟩:=b
     exact⟨(p.1,b2) ::rs,⟨Bh h.1,rfl,c⟩, .cons ⟨rfl,h.2⟩ q⟩
noncomputable def A5(trs:List (TE × TE)):TE:=fun σ H Q=>∀p,H p=none→qp trs σ (upd H p (.dK [])) fun ps H2=>H2 p=some (.dK [])∧∃kvs:List (Key × V),ps=kvs.map (fun kv=>(kV kv.1,kv.2))∧kvs.length≤15∧Q (.ref p) (upd H2 p (.dK (jm [] kvs)))
theorem Cq{X:Cx}{pos:Pos}{keys:List (Option Expr)}{values:List Expr}{trs:List (TE × TE)}(h:GG X pos keys values trs)(hall:keys.all (·.isSome)=true)(hl:keys.length=values.length)(h0:keys≠[])
 (h15:keys.length≤15):PE X (.Dict keys values pos) (A5 trs):=by
 intro pins s σ H Q I q
 have hn:=I.hok.fresh (Nat.le_refl s.heap.objs.size)
 have I1:=I.laid (a:=s.heap.objs.size) (o:= .dK []) (h':=s.heap.push {cls:= .type "dict",data:= .dict #[]}) (t':=s.toks) (fun _ _ q=>Heap.get?_push_of_some _ q) (Nat.le_refl _) (Ay s.heap I.big)
 refine wpAny_Dict_walk (knd:=dn X.prog X.w) hall hl h0 h15 (dW (h pins _ σ _ _ I1 (q _ hn)) fun ws s2 ⟨ps,H2,I2,rel,e,kvs,ep,lk,q2⟩=>?_)
 subst ep
 obtain⟨rs,c,rk⟩:=qK (P:=X.prog) (w:=X.w) rel
 obtain⟨z,hd,vs0,r0,dd⟩:=HR I2.hok e
 cases r0
 refine⟨rs,c,dd,fun h' dd' hs=>⟨.ref s.heap.objs.size,_,?_,rfl,q2⟩⟩
 have hz:(jm [] kvs).length≤sizeLine:=by
  have h1:=lC kvs []
  rw[List.length_nil] at h1
  rw[sizeLine_eq];omega
 have he:∃q,h'.get? s.heap.objs.size=some q:=let⟨q,_,_,hq,_⟩:=dd';⟨q,hq⟩
 exact Df I2 (by rw[e];exact True.intro) hs he (FJ hz hd (rk.merge .nil) dd')
structure M1 (X:Cx) (o:Expr) (m:Str) (apos:Pos) (e:Expr) (cpos:Pos):Prop where
 base:attributeBase o m X.env (eval o X.env)=eval o X.env
 few:((backTo cpos (starEach [e] X.env)).all (fun x=>!x.1) && (backToKw cpos (keywordEach [] X.env)).all (fun x=>x.1.isSome)
  && decide (([e]:List Expr).length+([]:List Keyword).length+(if([]:List Keyword).isEmpty then 0 else 1) < 30))=true
 line:(apos.endLine==cpos.line)=true
 trees:backTo cpos (starEach [e] X.env)=[(false,eval e X.env)]
structure M2 (X:Cx) (o:Expr) (m:Str) (apos:Pos) (e f:Expr) (cpos:Pos):Prop where
 base:attributeBase o m X.env (eval o X.env)=eval o X.env
 few:((backTo cpos (starEach [e,f] X.env)).all (fun x=>!x.1) && (backToKw cpos (keywordEach [] X.env)).all (fun x=>x.1.isSome)
  && decide (([e,f]:List Expr).length+([]:List Keyword).length+(if([]:List Keyword).isEmpty then 0 else 1) < 30))=true
 line:(apos.endLine==cpos.line)=true
 trees:backTo cpos (starEach [e,f] X.env)=[(false,eval e X.env),(false,eval f X.env)]
noncomputable def G9(H:Hp)(a:Addr):Prop:=(∃kvs,Rd H a (.dK kvs))∨∃kvs,Rd H a (.dT kvs)
theorem Gw{X:Cx}{pins:List (Addr × Obj)}{σ:St}{H:Hp}{s:Shared}{a:Addr}(I:Inv X pins σ H s)(d:G9 H a) :
 s.TypeIs (.ref a) "dict"∧(∀b,Value.ref a= .ref b→∃ob,s.heap.get? b=some ob∧ob.dict=none)∧(a==sysModules)=false:=by
 rcases d with⟨kvs,e⟩ | ⟨kvs,e⟩
 ·obtain⟨_,hd,vs,_,dd⟩:=z8 I.hok e
  refine⟨dd.typeIs,fun b q=>?_,hd⟩
  cases q
  obtain⟨ob,_,_,h1,h2,_⟩:=dd
  exact⟨ob,h1,h2.2.1⟩
 ·obtain⟨_,hd,xs,_,dd⟩:=Ea I.hok e
  refine⟨dd.typeIs,fun b q=>?_,hd⟩
  cases q
  obtain⟨ob,_,_,h1,h2,_⟩:=dd
  exact⟨ob,h1,h2.2.1⟩
section
variable {X:Cx} {pins:List (Addr × Obj)} {σ:St} {H:Hp} {s:Shared} {a:Addr} {y d:V} {u r:Value} {o:Option V} {A:Around} {E:Value→Shared→Prop}
theorem Ey{Q:Value→Shared→Prop}(hu:A.units+1 < cLine)(I:Inv X pins σ H s)(g:qQ H a y o)(ry:RelV y u)(rd:RelV d r)(h:∀w' s',Inv X pins σ H s'→RelV (o.getD d) w'→Q w' s') :
 wpAny (model X.prog X.w) A (call (.builtin "dict.get") [.ref a,u,r]) Q E s:=by
 rcases g with⟨kvs,k,e,ey,l⟩ | ⟨kvs,k,b,e,ey,eb,l⟩
 ·subst ey
  obtain⟨z,hd,vs,rel,dd⟩:=z8 I.hok e
  refine call_meetsIn PySem.F.slot_dict_get dd.typeIs PySem.F.entry_dict_get (PySem.F.args_dict_get_3 _ _ _) (meets_dict_get_default (dn X.prog X.w) a (Bh ry) hd r) ⟨_,dd.mapOf,h _ _ (I.tok _) ?_⟩
  rw[l]
  exact(rel.val k).getD rd
 ·subst ey
  cases(show u=Value.ref b from ry)
  obtain⟨z,hd,xs,rel,dd⟩:=Ea I.hok e
  refine call_meetsIn PySem.F.slot_dict_get dd.typeIs PySem.F.entry_dict_get (PySem.F.args_dict_get_3 _ _ _) (meetsH_dict_get_default (tupleKind (dn X.prog X.w)) a b hd r) ⟨tupleKind_room_in1 hu,k,xs,zO I.hok eb,dd,h _ _ (I.tok _) ?_⟩
  rw[l]
  exact(rel.val k).getD rd
end
noncomputable def Ja(td ty:TE):TE:=fun σ H Q=>td σ H fun x H1=>∃a,x= .ref a∧G9 H1 a∧ty σ H1 fun y H2=>∃o,qQ H2 a y o∧Q (o.getD .cq) H2
noncomputable def FL(td ty tx:TE):TE:=fun σ H Q=>td σ H fun x H1=>∃a,x= .ref a∧G9 H1 a∧ty σ H1 fun y H2=>tx σ H2 fun z H3=>∃o,qQ H3 a y o∧Q (o.getD z) H3
noncomputable def Jz(td ty:TE):TE:=fun σ H Q=>td σ H fun x H1=>∃a,x= .ref a∧G9 H1 a∧ty σ H1 fun y H2=>∃kvs k v,H2 a=some (.dK kvs)∧y=kV k∧kF kvs k=some v∧Q v (upd H2 a (.dK (AN kvs k)))
noncomputable def Jv(td ty tx:TE):TE:=fun σ H Q=>td σ H fun x H1=>∃a,x= .ref a∧G9 H1 a∧ty σ H1 fun y H2=>tx σ H2 fun z H3=>∃kvs k,H3 a=some (.dK kvs)∧y=kV k∧
 (∀v,kF kvs k=some v→Q v (upd H3 a (.dK (AN kvs k))))∧(kF kvs k=none→Q z H3)
section
variable {X:Cx} {o e f:Expr} {apos cpos:Pos} {td ty tx:TE}
theorem Ac(hu:X.A.units+1 < cLine)(ho:PE X o td)(he:PE X e ty)(hf:PE X f tx)(m:M2 X o "get" apos e f cpos):PE X (.Call (.Attribute o "get" apos) [e,f] [] cpos) (FL td ty tx):=by
 intro pins s σ H Q I h
 refine wpAny_Call_method m.base m.few m.line PySem.F.plainAttrs_dict PySem.F.slot_dict_get PySem.F.type_dict_get (dW (ho pins s σ H _ I h) fun u s1 ⟨x,H1,I1,rx,a,ex,d,q1⟩=>?_)
 subst ex
 obtain rfl:u=Value.ref a:=rx
 obtain⟨t1,t2,_⟩:=Gw I1 d
 refine⟨t1,t2,?_⟩
 rw[m.trees]
 refine Calls.callWith_builtin rfl (Calls.evalArgs_plain (Calls.spliced_cons (dW (he pins s1 σ H1 _ I1 q1) fun iv s2 ⟨y,H2,I2,ry,q2⟩=>
  Calls.spliced_cons (dW (hf pins s2 σ H2 _ I2 q2) fun fv s3 ⟨z,H3,I3,rz,ov,g,q3⟩=>Calls.spliced_nil ?_))))
 exact Ey hu I3 g ry rz fun w' s4 I4 rw'=>⟨_,H3,I4,rw',q3⟩
end
section
variable {X:Cx} {pins:List (Addr × Obj)} {σ:St} {H:Hp} {s:Shared} {a:Addr} {kvs:List (Key × V)} {A:Around} {E:Value→Shared→Prop}
end
section
variable {X:Cx} {pins:List (Addr × Obj)} {σ:St} {H:Hp} {s:Shared} {a:Addr} {y:V} {u:Value} {A:Around} {E:Value→Shared→Prop}
end
end L2
namespace HT
open PySem PyProof.Rows
noncomputable def lexLt:List Int→List Int→Bool
 | [],[]=>false
 | [],_ ::_=>true
 | _ ::_,[]=>false
 | x ::xs,y ::ys=>if x=y then lexLt xs ys else decide (x < y)
section
open PySem.SeqAt
open PySem.AutoSeq1 (wpAny_loadPart')
open PySem.MeetsSeq PySem.MeetsSeq2 PySem.MeetsSeq3
end
section
variable {prog:Program} {w:World} {A:Around} {E:Value→Shared→Prop} {s:Shared}
theorem DD{t b:Addr}{vs ws:List Value}{Q:Value→Shared→Prop}(ht:IsTup s.heap t vs.toArray)(hb:IsTup s.heap b ws.toArray)(hv:vs≠[])
 (h1:ws=[]→Q (.ref t) s) (h2:ws≠[]→Q (.ref s.heap.objs.size) {s with heap:=s.heap.push {cls:= .type "tuple",data:= .seq (vs++ws).toArray}})
 (hsz:vs.length+ws.length≤sizeLine):wpAny (model prog w) A (binaryOp .Add (.ref t) (.ref b)) Q E s:=by
 obtain⟨⟨cls,dd,data,sl⟩,ho,hc,n,hd⟩:=id ht
 obtain⟨⟨cls2,dd2,data2,sl2⟩,ho2,hc2,n2,hd2⟩:=id hb
 simp only at hc hd hc2 hd2
 subst hc hd hc2 hd2
 have e:vs.toArray++ws.toArray=(vs++ws).toArray:=by simp
 by_cases hw:ws=[]
 ·exact concat_meets ⟨_,ho,rfl⟩ ⟨_,ho2,rfl⟩ noFill_tuple_add seq_tuple_add PySem.F.slot_tuple_add PySem.F.entry_tuple_add (PySem.F.args_tuple_add_2 _ _)
   (tuple_addW1 t b vs.toArray ws.toArray n n2 dd dd2 sl sl2 (by simpa using hv) (by simp [hw])) ⟨ho,ho2,h1 hw⟩
 ·refine concat_meets ⟨_,ho,rfl⟩ ⟨_,ho2,rfl⟩ noFill_tuple_add seq_tuple_add PySem.F.slot_tuple_add PySem.F.entry_tuple_add (PySem.F.args_tuple_add_2 _ _)
   (tuple_addW2 t b vs.toArray ws.toArray n n2 dd dd2 sl sl2 (by simpa using hv) (by simpa using hw) (by rw[List.size_toArray,List.size_toArray];exact hsz)) ⟨ho,ho2,?_⟩
  rw[e]
  exact h2 hw
noncomputable def q_(n d:Nat):Option Int→Nat
 | none=>d
 | some v=>if v < 0 then(v+(n:Int)).toNat else min v.toNat n
theorem xu(n d k:Nat):q_ n d (some (k:Int))=min k n:=by
 show(if(k:Int) < 0 then((k:Int)+(n:Int)).toNat else min (k:Int).toNat n)=min k n
 rw[if_neg (by omega),Int.toNat_natCast]
end
end HT
namespace L2
open PySem PySem.Spec PyProof.Rows
noncomputable abbrev TO:=St→Hp→(Option Int→Hp→Prop)→Prop
noncomputable def PO(X:Cx)(e:Option Expr)(t:TO):Prop:=
 ∀(pins:List (Addr × Obj)) (s:Shared) (σ:St) (H:Hp) (Q:Option Int→Hp→Prop),Inv X pins σ H s→t σ H Q→
  wpAny (model X.prog X.w) X.A (evalPart e X.env) (fun u s'=>∃o H',Inv X pins σ H' s'∧IsPart u o∧Q o H') X.xe s
noncomputable def C7:TO:=fun _ H Q=>Q none H
noncomputable def HW(t:TE):TO:=fun σ H Q=>t σ H fun x H1=>∃i,x= .int i∧Q (some i) H1
section
variable {X:Cx} {e:Expr} {te:TE} {lo hi:Option Expr} {tl th:TO} {pos p2:Pos}
theorem Dg:PO X none C7:=by
 intro pins s σ H Q I h
 rw[evalPart_none]
 exact wpAny_pure ⟨none,H,I, .none,h⟩
theorem C3(h:PE X e te):PO X (some e) (HW te):=by
 intro pins s σ H Q I hw
 rw[evalPart_some]
 refine dW (h pins s σ H _ I hw) fun u s1 ⟨x,H1,I1,r1,q1⟩=>?_
 obtain⟨i,rfl,q⟩:=q1
 obtain⟨t,rfl⟩:=r1
 exact⟨some i,H1,I1, .int i t,q⟩
noncomputable def Gn(X:Cx)(r:V→Option Int→Option Int→Hp→VK→Prop):Prop:=
 ∀(pins:List (Addr × Obj)) (s:Shared) (σ:St) (H:Hp) (x:V) (v vl vu:Value) (lo hi:Option Int) (sl:Addr) (Q:VK),Inv X pins σ H s→RelV x v→s.heap.IsSliceOf sl vl vu .none→IsPart vl lo→IsPart vu hi→r x lo hi H Q→
  ∃T id,typeLookup (.type T) "__getitem__"=pure (some (.builtin id))∧s.TypeIs v T∧wpAny (model X.prog X.w) X.A (getItem v (.ref sl)) (EP X pins σ Q) X.xe s
theorem Gn.or{r r':V→Option Int→Option Int→Hp→VK→Prop}(h:Gn X r)(h':Gn X r'):Gn X (fun x lo hi H Q=>r x lo hi H Q∨r' x lo hi H Q):=by
 intro pins s σ H x v vl vu lo hi sl Q I rx hs pl pu q
 rcases q with q | q
 ·exact h pins s σ H x v vl vu lo hi sl Q I rx hs pl pu q
 ·exact h' pins s σ H x v vl vu lo hi sl Q I rx hs pl pu q
noncomputable def Le(r:V→Option Int→Option Int→Hp→VK→Prop)(te:TE)(tl th:TO):TE:=fun σ H Q=>te σ H fun x H1=>tl σ H1 fun l H2=>th σ H2 fun u H3=>r x l u H3 Q
theorem AK{r:V→Option Int→Option Int→Hp→VK→Prop}(hr:Gn X r)(he:PE X e te)(hl:PO X lo tl)(hu:PO X hi th):PE X (.Subscript e (.Slice lo hi none p2) pos) (Le r te tl th):=by
 intro pins s σ H Q I h
 refine Subscript_ (dW (he pins s σ H _ I h) fun v s1 ⟨x,H1,I1,r1,q1⟩=>?_)
 refine wpAny_Slice (dW (hl pins s1 σ H1 _ I1 q1) fun vl s2 ⟨l,H2,I2,pl,q2⟩=>dW (hu pins s2 σ H2 _ I2 q2) fun vu s3 ⟨u,H3,I3,pu,q3⟩=>?_)
 rw[evalPart_none]
 refine wpAny_pure ?_
 have I4:Inv X pins σ H3 {s3 with heap:=s3.heap.push {cls:= .type "slice",data:= .fields #[vl,vu, .none]}}:=I3.kept (t':=s3.toks) fun b ob q=>Heap.get?_push_of_some _ q
 obtain⟨T,id,hT,ht,hg⟩:=hr pins {s3 with heap:=s3.heap.push {cls:= .type "slice",data:= .fields #[vl,vu, .none]}} σ H3 x v vl vu l u s3.heap.objs.size Q I4 r1 (Heap.IsSliceOf.new ..) pl pu q3
 show wpAny (model X.prog X.w) X.A (subscriptTail e (.Slice lo hi none p2) v (.ref s3.heap.objs.size)) (EP X pins σ Q) X.xe {s3 with heap:=s3.heap.push {cls:= .type "slice",data:= .fields #[vl,vu, .none]}}
 exact tail_any (ops:=[.ref s3.heap.objs.size,v]) ht hT hg (by with_unfolding_all rfl)
noncomputable def wH(xs:List V)(lo hi:Option Int):List V:=(xs.drop (HT.q_ xs.length 0 lo)).take (HT.q_ xs.length xs.length hi - HT.q_ xs.length 0 lo)
theorem ud(xs:List V)(lo hi:Option Int):(wH xs lo hi).length≤xs.length:=by
 unfold wH
 rw[List.length_take,List.length_drop]
 omega
noncomputable def Ln(K:PySem.W.Frag):V→Option Int→Option Int→Hp→VK→Prop:=fun x lo hi H Q=>∃a xs,x= .ref a∧oQ K H a xs∧
 ¬(HT.q_ xs.length 0 lo=0∧HT.q_ xs.length xs.length hi=xs.length)∧∀p,H p=none→Q (.ref p) (upd H p (.tup (wH xs lo hi)))
noncomputable def Kv(K:PySem.W.Frag):R2:=fun x y H Q=>∃a b ns ms,x= .ref a∧y= .ref b∧oQ K H a (ns.map V.int)∧oQ K H b (ms.map V.int)∧Q (.bl (HT.lexLt ns ms)) H
noncomputable def J1(K:PySem.W.Frag):R2:=fun x y H Q=>∃a b xs ys,x= .ref a∧y= .ref b∧oQ K H a xs∧oQ K H b ys∧xs≠[]∧xs.length+ys.length≤sizeLine∧
 (ys=[]→Q (.ref a) H)∧(ys≠[]→∀p,H p=none→Q (.ref p) (upd H p (.tup (xs++ys))))
end
end L2
namespace L2
open PySem PySem.Spec PyProof.Rows
noncomputable def qt(n:Nat)(i:Int):Option Nat:=if 0≤i then(if i < n then some i.toNat else none) else if -(n:Int)≤i then some (i+n).toNat else none
noncomputable def oU{α:Type}(xs:List α)(i:Int):Option α:=(qt xs.length i).bind fun j=>xs[j]?
theorem xJ{n:Nat}{i:Int}{j:Nat}(h:qt n i=some j):seqIndex? i n=some j∧j < n∧ -(n:Int)≤i∧i < n:=by
 unfold qt at h
 by_cases h0:0≤i
 ·rw[if_pos h0] at h
  by_cases h1:i < n
  ·rw[if_pos h1] at h
   have e:i.toNat=j:=Option.some.inj h
   exact⟨by rw[seqIndex_of h0 h1,e],by omega,by omega,h1⟩
  ·rw[if_neg h1] at h;cases h
 ·rw[if_neg h0] at h
  by_cases h1: -(n:Int)≤i
  ·rw[if_pos h1] at h
   have e:(i+n).toNat=j:=Option.some.inj h
   exact⟨by rw[seqIndex_neg (by omega) h1,e],by omega,h1,by omega⟩
  ·rw[if_neg h1] at h;cases h
theorem tu{α:Type}{xs:List α}{i:Int}{v:α}(h:oU xs i=some v):∃j,seqIndex? i xs.length=some j∧xs[j]? =some v∧j < xs.length∧ -(xs.length:Int)≤i∧i < xs.length:=by
 unfold oU at h
 cases e:qt xs.length i with
 | none=>rw [e] at h;cases h
 | some j=>
   rw[e] at h
   obtain⟨h1,h2,h3,h4⟩:=xJ e
   exact⟨j,h1,h,h2,h3,h4⟩
noncomputable def pk(b:Expr):Prop:=∀o i,subscripted b false o i=operate [o,i] (getItem o i)
noncomputable def Dh(X:Cx)(r:R2):Prop:=
 ∀(value slice:Expr) (pins:List (Addr × Obj)) (s:Shared) (σ:St) (H:Hp) (x y:V) (v u:Value) (Q:VK),Inv X pins σ H s→RelV x v→RelV y u→r x y H Q→
  subscripted slice false v u=operate [v,u] (getItem v u)→wpAny (model X.prog X.w) X.A (subscriptTail value slice v u) (EP X pins σ Q) X.xe s
noncomputable def J4(X:Cx)(id:String)(r:V→List V→Hp→VK→Prop):Prop:=
 ∀(pins:List (Addr × Obj)) (s:Shared) (σ:St) (H:Hp) (x:V) (xs:List V) (v:Value) (us:List Value) (Q:VK),Inv X pins σ H s→RelV x v→Vals xs us→r x xs H Q→
  wpAny (model X.prog X.w) X.A (call (.builtin id) (v ::us)) (EP X pins σ Q) X.xe s
section
variable {X:Cx} {a b:Expr} {ta tb:TE} {pos:Pos}
theorem Dh.or{r r':R2}(h:Dh X r)(h':Dh X r'):Dh X (fun x y H Q=>r x y H Q∨r' x y H Q):=by
 intro value slice pins s σ H x y v u Q I rx ry q hs
 rcases q with q | q
 ·exact h value slice pins s σ H x y v u Q I rx ry q hs
 ·exact h' value slice pins s σ H x y v u Q I rx ry q hs
theorem Eg{r:R2}(hr:Dh X r)(ha:PE X a ta)(hb:PE X b tb)(hs:pk b):PE X (.Subscript a b pos) (GN r ta tb):=by
 intro pins s σ H Q I h
 exact Subscript_ (ER ha hb I h fun v u s2 x y H2 I2 rx ry q=>hr a b pins s2 σ H2 x y v u Q I2 rx ry q (hs _ _))
noncomputable def HL(K:PySem.W.Frag):R2:=fun x y H Q=>∃p xs i v,x= .ref p∧y= .int i∧mw K H p xs∧oU xs i=some v∧Q v H
noncomputable def Hh(K:PySem.W.Frag):R2:=fun x y H Q=>∃p xs i v,x= .ref p∧y= .int i∧oQ K H p xs∧oU xs i=some v∧Q v H
noncomputable def Hn:R2:=fun x y H Q=>∃z i c,x= .str z∧y= .int i∧z.length≤sizeLine∧oU z.cps.toList i=some c∧Q (.str ⟨#[c]⟩) H
theorem Ca:Dh X (HL X.K):=by
 intro value slice pins s σ H x y v u Q I rx ry h hs
 obtain⟨p,xs,i,z,rfl,rfl,hq,he,q⟩:=h
 cases rx
 obtain⟨t,rfl⟩:=ry
 obtain⟨its,r,pl,hz⟩:=I.list hq
 obtain⟨j,h1,h2,h3,h4,h5⟩:=tu he
 obtain⟨w,ew,rw'⟩:=r.get h2
 have hl:=r.length
 have hn:=oa
 have fin:EP X pins σ Q w s:=⟨z,H,I,rw',q⟩
 by_cases h0:0≤i
 ·have hj:i.toNat=j:=by
   rw[seqIndex_of h0 h5] at h1
   exact Option.some.inj h1
  exact item_listR pl.isList h0 (by omega) (by rw[hj];simpa using ew) fin hs
 ·have hj:(i+(its.toArray.size:Int)).toNat=j:=by
   rw[seqIndex_neg (by omega) h4] at h1
   rw[List.size_toArray,←hl]
   exact Option.some.inj h1
  exact subscriptTail_builtinR (x:=w) pl.isList.typeIs slot_list_getitem.lookup
   (wpAny_getItem_list_neg (Q:=fun r s'=>r=w∧EP X pins σ Q r s') pl.isList (by omega) (by rw[List.size_toArray] <;> omega) (by omega) (by rw[hj];simpa using ew) ⟨rfl,fin⟩) hs
theorem EU:Dh X (Hh X.K):=by
 intro value slice pins s σ H x y v u Q I rx ry h hs
 obtain⟨p,xs,i,z,rfl,rfl,hq,he,q⟩:=h
 cases rx
 obtain⟨t,rfl⟩:=ry
 obtain⟨its,r,pl,hz⟩:=I.tuple hq
 obtain⟨j,h1,h2,h3,h4,h5⟩:=tu he
 obtain⟨w,ew,rw'⟩:=r.get h2
 have hl:=r.length
 have hn:=oa
 have fin:EP X pins σ Q w s:=⟨z,H,I,rw',q⟩
 exact subscriptTail_builtinR (x:=w) pl.typeIs slot_tuple_getitem.lookup
  (getItem_tuple (j:=j) (Q:=fun r s'=>r=w∧EP X pins σ Q r s') pl (by omega) (by omega) (by rw[List.size_toArray,←hl];exact h1) (by simpa using ew) ⟨rfl,fin⟩) hs
theorem Ga:Dh X Hn:=by
 intro value slice pins s σ H x y v u Q I rx ry h hs
 obtain⟨z,i,c,rfl,rfl,hz,he,q⟩:=h
 obtain⟨t,rfl⟩:=rx
 obtain⟨t',rfl⟩:=ry
 obtain⟨j,h1,h2,h3,h4,h5⟩:=tu he
 have hl:z.cps.toList.length=z.length:=by simp [Str.length]
 rw[hl] at h1 h4 h5
 have hn:=oa
 exact tail_any (typeIs_str s z t) slot_str_getitem.lookup (getItem_str (c:=c) (by
  have e1:decide (i < -(2 ^ 63:Int))=false:=decide_eq_false (by omega)
  have e2:decide (i≥2 ^ 63)=false:=decide_eq_false (by omega)
  rw[e1,e2,Bool.or_false]) (by rw[h1];simpa using h2) ⟨.str ⟨#[c]⟩,H,I.tok _,⟨_,rfl⟩,q⟩) hs
noncomputable def Jl(K:PySem.W.Frag):R2:=fun x y H Q=>HL K x y H Q∨Hh K x y H Q∨Hn x y H Q
theorem A2:Dh X (Jl X.K):=Ca.or (EU.or Ga)
theorem vI(its:List Value)(n j:Nat)(u:Value):Obj.mapSeq (·.setIfInBounds j u) {cls:= .type "list",data:= .seq its.toArray n}={cls:= .type "list",data:= .seq (its.set j u).toArray n}:=by
 simp [Obj.mapSeq]
theorem Inv.lst{pins:List (Addr × Obj)}{σ:St}{H:Hp}{s:Shared}{p:Addr}{xs:List V}(I:Inv X pins σ H s)(h:H p=some (.lst xs)) :
 ∃(its:List Value) (n:Nat),Vals xs its∧s.heap.get? p=some {cls:= .type "list",data:= .seq its.toArray n}∧xs.length≤sizeLine:=by
 obtain⟨z,its,n,r,e⟩:=I.hok p _ h
 exact⟨its,n,r,e,z⟩
theorem Inv.FV{pins:List (Addr × Obj)}{σ:St}{H:Hp}{s:Shared}{p:Addr}{xs ys:List V}{its its':List Value}{n n':Nat}{f:Obj→Obj}(I:Inv X pins σ H s)(h:H p=some (.lst xs))
 (ho:s.heap.get? p=some {cls:= .type "list",data:= .seq its.toArray n}) (hf:f {cls:= .type "list",data:= .seq its.toArray n}={cls:= .type "list",data:= .seq its'.toArray n'}) (r:Vals ys its') (hz:ys.length≤sizeLine) (t:Nat) :
 Inv X pins σ (upd H p (.lst ys)) {s with heap:=s.heap.update p f,toks:=t}:=by
 have e:(s.heap.update p f).get? p=some {cls:= .type "list",data:= .seq its'.toArray n'}:=by
  rw[Heap.get?_update_self f ho (by rw[hf] <;> rfl),hf]
 refine I.write (x:=p) (e:=p) (by rw[h];trivial) (.inl rfl) (fun b u hb q=>(Heap.get?_update_other _ _ (Ne.symm hb)).trans q) ⟨_,e⟩ ?_
 exact⟨hz,its',n',r,e⟩
noncomputable def D0:V→V→V→Hp→(Hp→Prop)→Prop:=fun o i v H Q=>∃p xs k j,o= .ref p∧i= .int k∧H p=some (.lst xs)∧qt xs.length k=some j∧Q (upd H p (.lst (xs.set j v)))
theorem set_list:HE X D0:=by
 intro pins s σ H o i v ov iv u Q I ro ri rv h
 obtain⟨p,xs,k,j,rfl,rfl,hp,hj,q⟩:=h
 cases ro
 obtain⟨t,rfl⟩:=ri
 obtain⟨its,n,r,ho,hz⟩:=I.lst hp
 obtain⟨h1,h2,h3,h4⟩:=xJ hj
 have hl:=r.length
 have hn:=oa
 have I':Inv X pins σ (upd H p (.lst (xs.set j v))) {s with heap:=s.heap.update p (Obj.mapSeq (·.setIfInBounds j u))}:=
  I.FV hp ho (vI its n j u) (r.set rv j) (by rw[List.length_set];exact hz) s.toks
 by_cases h0:0≤k
 ·have hk:k.toNat=j:=by
   rw[seqIndex_of h0 h4] at h1
   exact Option.some.inj h1
  exact PySem.W.ki_setAt ho h0 (by omega) (by rw[List.size_toArray,←hl];exact h4) (by rw[hk];exact⟨_,I',q⟩)
 ·have hk:(k+(its.toArray.size:Int)).toNat=j:=by
   rw[seqIndex_neg (by omega) h3] at h1
   rw[List.size_toArray,←hl]
   exact Option.some.inj h1
  exact PySem.W.ki_setBack ho (by omega) (by rw[List.size_toArray,←hl];exact h3) (by omega) (by rw[hk];exact⟨_,I',q⟩)
theorem sN(lo hi:Option Int)(n:Nat):(sliceBounds lo hi none n).1=((HT.q_ n 0 lo:Nat):Int)∧(sliceBounds lo hi none n).2.1=((HT.q_ n n hi:Nat):Int)∧(sliceBounds lo hi none n).2.2=1:=by
 refine⟨?_,?_,rfl⟩
 ·cases lo with
  | none=>simp [sliceBounds,HT.q_]
  | some i=>
    simp only[sliceBounds,HT.q_,Option.getD_none,show(1:Int) > 0 by decide,if_true]
    by_cases h:i < 0
    ·simp only[h,if_true] <;> omega
    ·simp only[h,if_false] <;> omega
 ·cases hi with
  | none=>simp [sliceBounds,HT.q_]
  | some i=>
    simp only[sliceBounds,HT.q_,Option.getD_none,show(1:Int) > 0 by decide,if_true]
    by_cases h:i < 0
    ·simp only[h,if_true] <;> omega
    ·simp only[h,if_false] <;> omega
theorem qW(its:List Value)(lo hi:Option Int):slicePick its.toArray lo hi none=((its.drop (HT.q_ its.length 0 lo)).take (HT.q_ its.length its.length hi - HT.q_ its.length 0 lo)).toArray:=by
 obtain⟨h1,h2,h3⟩:=sN lo hi its.toArray.size
 unfold slicePick
 rw[h1,h2,h3]
 simp only[sliceRange_one,pick_run,List.size_toArray] <;> rfl
noncomputable def JH(K:PySem.W.Frag):V→Option Int→Option Int→Hp→VK→Prop:=fun x lo hi H Q=>∃a xs,x= .ref a∧mw K H a xs∧∀p,H p=none→Q (.ref p) (upd H p (.lst (wH xs lo hi)))
theorem DB:Gn X (JH X.K):=by
 intro pins s σ H x v vl vu lo hi sl Q I rx hs pl pu h
 obtain⟨a,xs,rfl,hx,q⟩:=h
 cases rx
 obtain⟨its,r,ht,hz⟩:=I.list hx
 have hlen:=r.length
 refine⟨"list",_,slot_list_getitem.lookup,ht.isList.typeIs,?_⟩
 refine wpAny_getItem_list_slice ht.isList hs pl pu .none (by simp) ?_ (by rw[List.size_toArray] <;> omega)
 rw[qW,←hlen]
 refine⟨.ref s.heap.objs.size,_,I.laid (t':=s.toks) (o:= .lst (wH xs lo hi)) (fun b ob q=>Heap.get?_push_of_some _ q) (Nat.le_refl _) ?_,rfl,q _ (I.hok.fresh (Nat.le_refl _))⟩
 exact⟨Nat.le_trans (ud xs lo hi) hz,_,0,(r.drop (HT.q_ xs.length 0 lo)).take (HT.q_ xs.length xs.length hi - HT.q_ xs.length 0 lo),Heap.get?_push_size _ rfl⟩
noncomputable def jF:V→Bool
 | .cq=>true
 | .bl _=>true
 | .int _=>true
 | .str _=>true
 | _=>false
noncomputable def Ed:V→V→Bool
 | .cq, .cq=>true
 | .bl a, .bl b=>a==b
 | .bl a, .int b=>(if a then 1 else 0)==b
 | .int a, .bl b=>a==(if b then 1 else 0)
 | .int a, .int b=>a==b
 | .str a, .str b=>a==b
 | _,_=>false
theorem Gk{A:Around}{s:Shared}{y x:V}{u v:Value}(ry:RelV y u)(rx:RelV x v)(fy:jF y=true)(fx:jF x=true):SeqAt.EqAt A s u v (Ed y x):=by
 cases y with
 | cq=>
   cases ry
   cases x with
   | cq=>cases rx;exact SeqAt.EqAt.same _
   | bl b=>cases rx;exact SeqAt.EqAt.none_bool b
   | int b=>obtain⟨t,rfl⟩:=rx;exact SeqAt.EqAt.none_int b t
   | str b=>obtain⟨t,rfl⟩:=rx;exact SeqAt.EqAt.none_str b t
   | _=>exact absurd (show false=true from fx) Bool.false_ne_true
 | bl a=>
   cases ry
   cases x with
   | cq=>cases rx;exact SeqAt.EqAt.bool_none a
   | bl b=>cases rx;exact SeqAt.EqAt.bool_bool a b
   | int b=>obtain⟨t,rfl⟩:=rx;exact SeqAt.EqAt.bool_int a b t
   | str b=>obtain⟨t,rfl⟩:=rx;exact SeqAt.EqAt.bool_str a b t
   | _=>exact absurd (show false=true from fx) Bool.false_ne_true
 | int a=>
   obtain⟨t',rfl⟩:=ry
   cases x with
   | cq=>cases rx;exact SeqAt.EqAt.int_none a t'
   | bl b=>cases rx;exact SeqAt.EqAt.int_bool a t' b
   | int b=>obtain⟨t,rfl⟩:=rx;exact SeqAt.EqAt.int_int a t' b t
   | str b=>obtain⟨t,rfl⟩:=rx;exact SeqAt.EqAt.int_str a t' b t
   | _=>exact absurd (show false=true from fx) Bool.false_ne_true
 | str a=>
   obtain⟨t',rfl⟩:=ry
   cases x with
   | cq=>cases rx;exact SeqAt.EqAt.str_none a t'
   | bl b=>cases rx;exact SeqAt.EqAt.str_bool a t' b
   | int b=>obtain⟨t,rfl⟩:=rx;exact SeqAt.EqAt.str_int a t' b t
   | str b=>obtain⟨t,rfl⟩:=rx;exact SeqAt.EqAt.str_str a t' b t
   | _=>exact absurd (show false=true from fx) Bool.false_ne_true
 | _=>exact absurd (show false=true from fy) Bool.false_ne_true
noncomputable def DR(x:V)(u:Value):Bool:=match u with
 | .none=>Ed .cq x
 | .bool b=>Ed (.bl b) x
 | .int i _=>Ed (.int i) x
 | .str z _=>Ed (.str z) x
 | _=>false
theorem zK{x y:V}{u:Value}(r:RelV y u)(f:jF y=true):DR x u=Ed y x:=by
 cases y with
 | cq=>cases r;rfl
 | bl b=>cases r;rfl
 | int i=>obtain⟨t,rfl⟩:=r;rfl
 | str z=>obtain⟨t,rfl⟩:=r;rfl
 | _=>exact absurd (show false=true from f) Bool.false_ne_true
theorem s_{x:V}:∀{xs:List V} {us:List Value},Vals xs us→xs.all jF=true→us.any (DR x)=xs.any fun y=>Ed y x
 | _,_, .nil,_=>rfl
 | y ::xs,u ::us, .cons r t,f=>by
   rw[List.all_cons,Bool.and_eq_true] at f
   rw[List.any_cons,List.any_cons,zK r f.1,s_ t f.2]
theorem pO{A:Around}{s:Shared}{x:V}{v:Value}(rx:RelV x v)(fx:jF x=true):∀{xs:List V} {us:List Value},Vals xs us→xs.all jF=true→∀u∈us,SeqAt.EqAt A s u v (DR x u)
 | _,_, .nil,_=>fun u hu=>by cases hu
 | y ::xs,u ::us, .cons r t,f=>fun u' hu=>by
   rw[List.all_cons,Bool.and_eq_true] at f
   rcases List.mem_cons.mp hu with rfl | hu
   ·rw[zK r f.1];exact Gk r rx f.1 fx
   ·exact pO rx fx t f.2 u' hu
noncomputable def Ap(x:V)(xs:List V):Bool:=xs.any fun y=>Ed y x
noncomputable def Kh(K:PySem.W.Frag)(neg:Bool):R2:=fun x y H Q=>∃p xs,y= .ref p∧(mw K H p xs∨oQ K H p xs)∧jF x=true∧xs.all jF=true∧Q (.bl (if neg then !Ap x xs else Ap x xs)) H
theorem rX:kz X (compareOp .In) (Kh X.K false):=by
 intro pins s σ H x y v u Q I rx ry h
 obtain⟨p,xs,rfl,hq,fx,fs,q⟩:=h
 cases ry
 rcases hq with hq | hq
 ·obtain⟨its,r,pl,hz⟩:=I.list hq
  refine SeqAt.in_listAt (DR x) pl.isList (fun w hw=>pO rx fx r fs w (by simpa using hw)) ⟨.bl _,H,I,rfl,?_⟩
  rw[show its.toArray.any (DR x)=its.any (DR x) by simp,s_ r fs]
  exact q
 ·obtain⟨its,r,pl,hz⟩:=I.tuple hq
  refine SeqAt.in_tupleAt (DR x) pl (fun w hw=>pO rx fx r fs w (by simpa using hw)) ⟨.bl _,H,I,rfl,?_⟩
  rw[show its.toArray.any (DR x)=its.any (DR x) by simp,s_ r fs]
  exact q
theorem tL:jJ X (.type "list") (fun xs H Q=>∃p ys,xs=[.ref p]∧(mw X.K H p ys∨oQ X.K H p ys)∧∀l,H l=none→Q (.ref l) (upd H l (.lst ys))):=by
 intro pins s σ H xs us Q I r h
 obtain⟨p,ys,rfl,hq,q⟩:=h
 obtain⟨u,rfl,rx⟩:=vals1 r
 cases rx
 have fin:∀(its:List Value),Vals ys its→ys.length≤sizeLine→∀(h':Heap) (c':Nat),(∀b o',s.heap.get? b=some o'→h'.get? b=some o')→
  h'.get? s.heap.objs.size=some {cls:= .type "list",dict:=none,data:= .seq its.toArray c',slots:=#[]}→EP X pins σ Q (.ref s.heap.objs.size) {s with heap:=h'}:=fun its r' hz h' c' kp e=>
  ⟨.ref s.heap.objs.size,_,I.laid (t':=s.toks) kp (Nat.le_refl _) (show dU X.prog X.w _ h' _ (.lst ys) from⟨hz,its,c',r',e⟩),rfl,q _ (I.hok.fresh (Nat.le_refl _))⟩
 rcases hq with hq | hq
 ·obtain⟨its,r',pl,hz⟩:=I.list hq
  have hlen:=r'.length
  obtain⟨o,ho,hc,n,hd⟩:=pl.isList
  exact call_list_seq p (.inl rfl) ho hc hd (fun h' c' kp e=>fin its r' hz h' c' kp e) (by simp only[List.size_toArray] <;> omega)
 ·obtain⟨its,r',pl,hz⟩:=I.tuple hq
  have hlen:=r'.length
  obtain⟨o,ho,hc,n,hd⟩:=pl
  exact call_list_seq p (.inr rfl) ho hc hd (fun h' c' kp e=>fin its r' hz h' c' kp e) (by simp only[List.size_toArray] <;> omega)
theorem q8:jJ X (.type "tuple") (fun xs H Q=>∃p ys,xs=[.ref p]∧((mw X.K H p ys∧∀l,H l=none→Q (.ref l) (upd H l (.tup ys)))∨(oQ X.K H p ys∧Q (.ref p) H))):=by
 intro pins s σ H xs us Q I r h
 obtain⟨p,ys,rfl,h⟩:=h
 obtain⟨u,rfl,rx⟩:=vals1 r
 cases rx
 rcases h with⟨hq,q⟩ | ⟨hq,q⟩
 ·obtain⟨its,r',pl,hz⟩:=I.list hq
  have hlen:=r'.length
  refine call_tuple_list pl.isList (fun h' kp=>?_) (by simp only[List.size_toArray] <;> omega)
  have I1:Inv X pins σ H {s with heap:=h'}:=I.kept (t':=s.toks) kp
  have I2:Inv X pins σ (upd H h'.objs.size (.tup ys)) {s with heap:=h'.push {cls:= .type "tuple",data:= .seq its.toArray}}:=
   I1.laid (t':=s.toks) (fun b o e=>Heap.get?_push_of_some _ e) (Nat.le_refl _) (show dU X.prog X.w _ _ _ (.tup ys) from⟨hz,its,r',IsTup.new _ _⟩)
  exact⟨.ref h'.objs.size,_,I2,rfl,q _ (I1.hok.fresh (Nat.le_refl _))⟩
 ·obtain⟨its,r',pl,hz⟩:=I.tuple hq
  exact call_tuple_same pl ⟨.ref p,H,I,rfl,q⟩
noncomputable def I_(K:PySem.W.Frag)(T:String)(x:V)(H:Hp):Prop:=match x with
 | .str _=>T="str"
 | .int _=>T="int"
 | .ref p=>(T="list"∧∃xs,mw K H p xs)∨(T="tuple"∧∃o,K.lookup p=some o∧o.cls= .type "tuple"∧o.dict=none)∨
    (T="dict"∧((∃kvs,H p=some (.dK kvs))∨∃kvs,H p=some (.dT kvs)))∨(T="set"∧∃S n,H p=some (.set S n))
 | _=>False
theorem Es{pins:List (Addr × Obj)}{σ:St}{H:Hp}{s:Shared}{T:String}{x:V}{v:Value}(I:Inv X pins σ H s)(r:RelV x v)(ty:I_ X.K T x H) :
 s.TypeIs v T∧∀a,v= .ref a→∃ob,s.heap.get? a=some ob∧ob.dict=none:=by
 cases x with
 | str z=>
   obtain⟨t,rfl⟩:=r
   cases(show T="str" from ty)
   exact⟨typeIs_str s z t,fun _ e=>nomatch e⟩
 | int i=>
   obtain⟨t,rfl⟩:=r
   cases(show T="int" from ty)
   exact⟨typeIs_int s i t,fun _ e=>nomatch e⟩
 | ref p=>
   cases r
   rcases ty with⟨rfl,xs,hq⟩ | ⟨rfl,o,hk,hc,hd⟩ | ⟨rfl,hk⟩ | ⟨rfl,S,n,hk⟩
   ·obtain⟨its,_,pl,_⟩:=I.list hq
    refine⟨pl.isList.typeIs,fun a e=>?_⟩
    cases e
    obtain⟨o,n,e,c,hd,_⟩:=pl
    exact⟨o,e,hd⟩
   ·refine⟨⟨o,I.n_ p o hk,hc⟩,fun a e=>?_⟩
    cases e
    exact⟨o,I.n_ _ o hk,hd⟩
   ·have z:∃o,s.heap.get? p=some o∧o.ExactDict:=by
     rcases hk with⟨kvs,hk⟩ | ⟨kvs,hk⟩
     ·obtain⟨_,_,_,_,o,_,_,e,ex,_⟩:=I.hok p _ hk
      exact⟨o,e,ex⟩
     ·obtain⟨_,_,_,_,o,_,_,e,ex,_⟩:=I.hok p _ hk
      exact⟨o,e,ex⟩
    obtain⟨o,e,ex⟩:=z
    refine⟨⟨o,e,ex.1⟩,fun a e2=>?_⟩
    cases e2
    exact⟨o,e,ex.2.1⟩
   ·obtain⟨o,_,_,_,e,ex,_⟩:=I.hok p _ hk
    refine⟨⟨o,e,ex.1⟩,fun a e2=>?_⟩
    cases e2
    exact⟨o,e,ex.2.1⟩
 | _=>exact False.elim ty
noncomputable def Lo(K:PySem.W.Frag)(T:String)(r:V→List V→Hp→VK→Prop)(to:TE):TE:=fun σ H Q=>to σ H fun x H1=>I_ K T x H1∧r x [] H1 Q
noncomputable def Kt(K:PySem.W.Frag)(T:String)(r:V→List V→Hp→VK→Prop)(to:TE)(t:TA):TE:=fun σ H Q=>to σ H fun x H1=>I_ K T x H1∧t σ H1 fun xs H2=>r x xs H2 Q
variable {o e:Expr} {es:List Expr} {to:TE} {t:TA} {name:Str} {apos cpos:Pos} {T id:String} {r:V→List V→Hp→VK→Prop}
theorem BU(pa:PlainAttrs T)(slot:Slot T name id)(hty:typeOf (.builtin id)=pure (.type "method_descriptor"))(hm:J4 X id r)(ho:PE X o to)(ha:PA X (e ::es) t)
 (hbase:attributeBase o name X.env (eval o X.env)=eval o X.env:=by rfl)
 (hfew:((backTo cpos (starEach (e ::es) X.env)).all (fun x=>!x.1) && (backToKw cpos (keywordEach [] X.env)).all (fun x=>x.1.isSome)
   && decide ((e ::es).length+([]:List Keyword).length+(if([]:List Keyword).isEmpty then 0 else 1) < 30))=true:=by rfl)
 (hline:(apos.endLine==cpos.line)=true:=by rfl) (hs:starEach (e ::es) X.env=(false,eval e X.env) ::starEach es X.env:=by rfl) (hplain:(backTo cpos (starEach es X.env)).any (·.1)=false:=by rfl) :
 PE X (.Call (.Attribute o name apos) (e ::es) [] cpos) (Kt X.K T r to t):=by
 intro pins s σ H Q I h
 refine wpAny_Call_method_late hbase hfew hline rfl (dW (ho pins s σ H _ I h) fun v s1 ⟨x,H1,I1,r1,ty,q1⟩=>?_)
 obtain⟨h1,h2⟩:=Es I1 r1 ty
 refine⟨T,id,pa,slot,hty,h1,h2,?_⟩
 have hA:=ha cpos pins s1 σ H1 _ I1 q1
 rw[hs] at hA ⊢
 refine Calls.callWith_builtin (by show(false || (backTo cpos (starEach es X.env)).any (·.1))=false;rw [hplain] <;> rfl) (Calls.evalArgs_plain ?_)
 exact dW hA fun us s2 ⟨vs,H2,I2,r2,q2⟩=>hm pins s2 σ H2 x vs v us Q I2 r1 r2 q2
end
end L2
namespace L2
open PySem PySem.Spec PyProof.Rows
noncomputable def KD(X:Cx)(id:String)(r:V→List V→Hp→VK→Prop):Prop:=
 ∀(pins:List (Addr × Obj)) (s:Shared) (σ:St) (H:Hp) (x:V) (xs:List V) (v:Value) (us:List Value) (Q:VK),Inv X pins σ H s→RelV x v→Vals xs us→r x xs H Q→
  wpAny (model X.prog X.w) X.A (call (.builtin id) (v ::us)) (EP X pins σ Q) X.xe s
theorem Vals.one:∀{x:V} {us:List Value},Vals [x] us→∃u,us=[u]∧RelV x u
 | _,_, .cons r .nil=>⟨_,rfl,r⟩
theorem Vals.rep{xs:List V}{us:List Value}(h:Vals xs us):∀k:Nat,Vals (List.replicate k xs).flatten (List.replicate k us).flatten
 | 0=> .nil
 | k+1=>by
   rw[List.replicate_succ,List.replicate_succ,List.flatten_cons,List.flatten_cons]
   exact Vals.append h (Vals.rep h k)
theorem foldl_rep(its:List Value):∀(k:Nat) (acc:List Value),
 List.foldl (fun x1 x2=>x1++x2) acc.toArray (List.replicate k its.toArray)=(acc++(List.replicate k its).flatten).toArray
 | 0,acc=>by simp
 | k+1,acc=>by
   have e:acc.toArray++its.toArray=(acc++its).toArray:=by simp
   have e2:(acc++its)++(List.replicate k its).flatten=acc++(List.replicate (k+1) its).flatten:=by
    rw[List.replicate_succ,List.flatten_cons,List.append_assoc]
   rw[←e2,←foldl_rep its k (acc++its),←e,List.replicate_succ,List.foldl_cons]
section
variable {X:Cx} {pins:List (Addr × Obj)} {σ:St} {H:Hp} {s:Shared} {l b:Addr} {xs ys zs:List V}
theorem Inv.Ju{its its':List Value}{n:Nat}{f:Array Value→Array Value}{t':Nat}(I:Inv X pins σ H s)(hH:H l=some (.lst xs))
 (e:s.heap.get? l=some {cls:= .type "list",data:= .seq its.toArray n}) (hf:f its.toArray=its'.toArray) (hv:Vals ys its') (hz:ys.length≤sizeLine) :
 Inv X pins σ (upd H l (.lst ys)) {s with heap:=s.heap.update l (Obj.mapSeq f),toks:=t'}:=by
 have q:=PySem.IsL.update e f
 rw[hf] at q
 refine I.write (x:=l) (e:=l) (by rw[hH];exact trivial) (.inl rfl) (fun b' u hb hu=>(Heap.get?_update_other s.heap (Obj.mapSeq f) (Ne.symm hb)).trans hu) ⟨_,q⟩ ?_
 exact⟨hz,its',_,hv,q⟩
theorem Inv.Cj{its:List Value}{t':Nat}(I:Inv X pins σ H s)(hv:Vals ys its)(hz:ys.length≤sizeLine) :
 Inv X pins σ (upd H s.heap.objs.size (.lst ys)) {s with heap:=s.heap.push {cls:= .type "list",data:= .seq its.toArray},toks:=t'}:=
 I.laid (fun _ _ q=>Heap.get?_push_of_some _ q) (Nat.le_refl _) ⟨hz,its,0,hv,Heap.get?_push_size _ rfl⟩
theorem Inv.fresh(I:Inv X pins σ H s):H s.heap.objs.size=none:=I.hok.fresh (Nat.le_refl _)
theorem Inv.Hs(I:Inv X pins σ H s)(hH:H l=some (.lst xs)):xs.length≤sizeLine∧∃(its:List Value) (n:Nat),Vals xs its∧xs.length=its.length∧s.heap.get? l=some {cls:= .type "list",data:= .seq its.toArray n}:=by
 obtain⟨z,its,n,r,e⟩:=I.hok l _ hH
 exact⟨z,its,n,r,r.length,e⟩
theorem Ak{n:Nat}(h:n≤sizeLine):Builtin.List.listTooLong n=false:=by
 unfold Builtin.List.listTooLong
 exact decide_eq_false (by omega)
end
section
variable {X:Cx}
noncomputable def DP:V→List V→Hp→VK→Prop:=fun x vs H Q=>∃l xs y,x= .ref l∧vs=[y]∧H l=some (.lst xs)∧xs.length < sizeLine∧Q .cq (upd H l (.lst (xs++[y])))
theorem nG:KD X "list.append" DP:=by
 intro pins s σ H x vs v us Q I rx rv h
 obtain⟨l,xs,y,rfl,rfl,hH,hz,q⟩:=h
 cases rx
 obtain⟨u,rfl,ru⟩:=rv.one
 obtain⟨z,its,n,r,hl,e⟩:=I.Hs hH
 refine call_meets F.slot_list_append ⟨_,e,rfl⟩ F.entry_list_append (F.args_list_append_2 _ _) (PySem.list_append l its.toArray n u (by rw[List.size_toArray];omega)) ⟨e,?_⟩
 refine⟨.cq,_,I.Ju (its':=its++[u]) hH e (by simp) (r.append (.cons ru .nil)) ?_,rfl,q⟩
 rw[List.length_append,List.length_singleton]
 omega
noncomputable def Iv:V→List V→Hp→VK→Prop:=fun x vs H Q=>∃l b xs zs,x= .ref l∧vs=[.ref b]∧H l=some (.lst xs)∧H b=some (.lst zs)∧xs.length+zs.length≤sizeLine∧Q .cq (upd H l (.lst (xs++zs)))
noncomputable def Kp:V→List V→Hp→VK→Prop:=fun x vs H Q=>∃l xs y,x= .ref l∧vs=[]∧H l=some (.lst xs)∧xs[xs.length - 1]? =some y∧Q y (upd H l (.lst xs.dropLast))
noncomputable def Jb:V→List V→Hp→VK→Prop:=fun x vs H Q=>∃l xs i k y,x= .ref l∧vs=[.int i]∧H l=some (.lst xs)∧ -(2 ^ 63)≤i∧i < 2 ^ 63∧seqIndex? i xs.length=some k∧xs[k]? =some y∧Q y (upd H l (.lst (xs.eraseIdx k)))
noncomputable def HA:V→List V→Hp→VK→Prop:=fun x vs H Q=>∃l xs,x= .ref l∧vs=[]∧H l=some (.lst xs)∧Q .cq (upd H l (.lst xs.reverse))
noncomputable def Jx:V→List V→Hp→VK→Prop:=fun x vs H Q=>∃l xs,x= .ref l∧vs=[]∧H l=some (.lst xs)∧Q .cq (upd H l (.lst []))
noncomputable def K5:R2:=fun x y H Q=>∃l b xs zs,x= .ref l∧y= .ref b∧H l=some (.lst xs)∧H b=some (.lst zs)∧xs.length+zs.length≤sizeLine∧∀p,H p=none→Q (.ref p) (upd H p (.lst (xs++zs)))
noncomputable def Jk:R2:=fun x y H Q=>∃l k xs,x= .ref l∧y= .int k∧H l=some (.lst xs)∧ -(2 ^ 63)≤k∧k < 2 ^ 63∧xs.length*k.toNat≤sizeLine∧
 ∀p,H p=none→Q (.ref p) (upd H p (.lst (List.replicate k.toNat xs).flatten))
theorem len_rep{α:Type}(xs:List α)(k:Nat):(List.replicate k xs).flatten.length=k*xs.length:=by
 induction k with
 | zero=>simp
 | succ k ih=>rw [List.replicate_succ,List.flatten_cons,List.length_append,ih,Nat.succ_mul,Nat.add_comm]
theorem Fc:kz X (binaryOp .Mult) Jk:=by
 intro pins s σ H x y v u Q I rx ry h
 obtain⟨l,k,xs,rfl,rfl,hH,h1,h2,hz,q⟩:=h
 cases rx
 obtain⟨t,rfl⟩:=ry
 obtain⟨z,its,n,r,hl,e⟩:=I.Hs hH
 have hlen:its.toArray.size*k.toNat≤sizeLine:=by rw[List.size_toArray,←hl];exact hz
 have hcap:¬its.toArray.size*k.toNat > (2 ^ 63 - 1) / 8:=by
  have:(sizeLine:Nat)≤(2 ^ 63 - 1) / 8:=by decide
  omega
 have hfit:¬(!Builtin.List.listFitsIndex k)=true:=by
  rw[fitsIndex_both h1 h2]
  exact Bool.false_ne_true
 have hlong:¬Builtin.List.listTooLong (its.toArray.size*k.toNat)=true:=by
  rw[Ak hlen]
  exact Bool.false_ne_true
 have hnew:List.foldl (fun x1 x2=>x1++x2) #[] (List.replicate (if its.toArray.isEmpty=true then 0 else k.toNat) its.toArray)=(List.replicate k.toNat its).flatten.toArray:=by
  have f0:∀m:Nat,List.foldl (fun x1 x2=>x1++x2) #[] (List.replicate m its.toArray)=(List.replicate m its).flatten.toArray:=fun m=>by
   have:=foldl_rep its m []
   rw[List.nil_append] at this
   exact this
  rw[f0]
  cases its with
  | nil=>simp
  | cons a r'=>rw [if_neg (by simp)]
 refine wpAny_binaryOp_repeat_ref (T:="list") (U:="int") (by decide) ⟨_,e,rfl⟩ (fun s'=>typeIs_int s' k t) noFill_list_mul F.fills_int_mul F.slot_int_rmul repeat_list F.slot_int_index.lookup
  (call_meets F.slot_int_rmul (typeIs_int s k t) F.entry_int_rmul (F.args_int_rmul_2 _ _) (int___rmul___int_list k t l its.toArray n)
    ⟨e,rfl,⟨_,e,rfl⟩,call_meets F.slot_list_mul ⟨_,e,rfl⟩ F.entry_list_mul (F.args_list_mul_2 _ _) (AutoListH.list___mul___list_int_3 l its.toArray n k t hfit hcap hlong) ⟨e,?_⟩⟩)
 rw[hnew]
 exact⟨.ref _,_,I.Cj (t':=s.toks) (r.rep k.toNat) (by rw[len_rep,Nat.mul_comm];exact hz),rfl,q _ I.fresh⟩
end
section
variable {prog:Program} {w:World} {A:Around} {E:Value→Shared→Prop} {s:Shared}
set_option maxRecDepth 100000 in
end
section
variable {X:Cx}
end
end L2
namespace Att
open PySem PySem.W PySem.Calls PyProof.Rows
theorem o8{P:Params}{h:Heap}:∀(ns:List Int) (vs:List Value),WellAll P h vs (ns.map WData.int)→IntsAre vs ns:=by
 intro ns
 induction ns with
 | nil=>
   intro vs w
   rw[List.map_nil] at w
   cases w
   exact .nil
 | cons n ns ih=>
   intro vs w
   rw[List.map_cons] at w
   cases w with
   | cons a b=>
     cases a
     exact .cons _ _ (ih _ b)
theorem zc{l:OpenLaw}{n:Nat}(hn:l.most=some n){P:Params}{h:Heap}{args:List WData}{vals:List Value}
 (hpre:l.row.toRowW.claim.pre args=true) (hwl:WellAll P h vals args) :
 ∃a vs ns,vals=[Value.ref a]∧args=[WData.list (ns.map WData.int)]∧h.get? a=some {cls:= .type "list",data:= .seq vs.toArray}∧IntsAre vs ns∧ns.length≤n:=by
 have hsh:WShape.hasAll [] args [.list .int]=true:=(pre_splitW hpre).1
 have hc:l.pre.holds [] {args:=args}=true:=(pre_splitW hpre).2
 obtain⟨d,r,rfl,h1,h2⟩:=hasAllW_cons hsh
 obtain rfl:=hasAllW_nil h2
 obtain⟨xs,rfl,h3⟩:=hasW_list h1
 obtain⟨ns,rfl⟩:=items_int h3
 have hlen:ns.length≤n:=by
  unfold OpenLaw.pre at hc
  have h4:(WTm.not (.lt (.lit (.int (n:Int))) (.len (.arg 0)))).holds [] {args:=[.list (ns.map .int)]}=true:=by
   have h4:=(holds_andW hc).1
   rw[hn] at h4
   exact h4
  have h5:=condW_of h4 (w_not (w_lt w_lit (w_len_list (w_arg rfl))))
  rw[List.length_map] at h5
  refine Nat.le_of_not_lt fun q=>?_
  have q':(n:Int) < ((ns.length:Nat):Int):=by omega
  first
   | (rw [decide_eq_true q'] at h5;exact absurd h5 (by decide))
   | (simp at h5;omega)
 cases hwl with
 | cons w1 w2=>
   cases w2
   cases w1 with
   | list ho hall=>exact⟨_,_,ns,rfl,rfl,ho,o8 ns _ hall,hlen⟩
theorem y4(l:OpenLaw)(args:List WData):l.row.toRowW.claim.post args (.bool true) args=true:=
 postW_of (r:=l.row.toRowW) (X:=(true==true))
  (show WShape.has [] (.bool true) .bool=true by first | rfl | decide | simp [WShape.has,WShape.arms,WShape.armsAll])
  (show(WTm.eq .res (.lit (.bool true))).value [] {args:=args,res:=some (.bool true),after:=args}=some (.bool (true==true)) from w_eq_bool (w_res rfl) w_lit) rfl
theorem vf{l:OpenLaw}{n:Nat}{q:Program}{loose:List Str}{XP:(Str→Option Value)→Heap→Prop}{YP:World→Heap→Prop}{d:DefRec}
 (hn:l.most=some n) (hdf:d.params.defaults=[])
 (call:∀(w:World) (s₀ s₁:Shared) (mg mb:Str→Option Value) (fa:Addr) (o:Obj) (pm cd doc:Value) (a:Addr) (vs:List Value) (ns:List Int),
   Ground q loose [] XP w s₀ mg mb s₁.heap→YP w s₁.heap→
   s₁.heap.get? fa=some o→o.data= .func (docDef d.name d.params d.body d.scope pm cd doc)→s₁.heap.CodeRec cd d.name→mg d.name=some (.ref fa)→
   s₁.heap.get? a=some {cls:= .type "list",data:= .seq vs.toArray}→IntsAre vs ns→ns.length≤n→s₁.gens=#[]→
   codeAny (model l.prog w) callerA (.call (.ref fa) ⟨[.ref a],[]⟩) (fun r s'=>r= .ok (.ret (.bool true))∧OldK s₁.heap s'.heap∧s'.os=s₁.os∧AllBare s'.gens) s₁) :
 WalkO q loose XP YP l.row.toRowW d [] (fun f vs=>PySem.call f vs):=by
 intro w s₀ s₁ mg mb G Y fa o pm cd doc dV kV ho hd hcd hD hmg hg args vals as hpre hlay hrd hwl hlo
 obtain rfl:dV= .none:=Dflts.none hD hdf
 obtain rfl:kV= .none:=Dflts.noKw hD
 obtain⟨a,vs,ns,rfl,rfl,hobj,hints,hlen⟩:=zc hn hpre hwl
 refine enter_call (codeAny_mono (call w s₀ s₁ mg mb fa o pm cd doc a vs ns G Y ho (fd_plain hd) hcd hmg hobj hints hlen hg) fun r s' hq=>?_)
 obtain⟨rfl,h2,h3,h4⟩:=hq
 exact⟨.inl ⟨.bool true, .bool true,[],rfl,fun _=>rfl, .bool true,y4 l _,fun _=>⟨List.Pairwise.nil,fun _ hm=>(nomatch hm)⟩⟩,h2,h3,h4⟩
section
variable {prog:Program} {w:World} {A:Around} {E:Value→Shared→Prop} {s:Shared} {K:Frag}
noncomputable def IH(h:Heap):Heap:={h with objs:=#[]}
noncomputable def ledger(h:Heap)(L d:Addr):List (Addr × Obj):=(List.range h.objs.size).filterMap fun a=>if a=L∨a=d then none else(h.get? a).map fun o=>(a,o)
end
end Att
namespace L2
open PySem PySem.Spec PyProof.Rows
theorem rJ:∀{vs:List Value} {ns:List Int},IntsAre vs ns→Vals (ns.map V.int) vs
 | _,_, .nil=> .nil
 | _,_, .cons n t h=> .cons ⟨t,rfl⟩ (rJ h)
noncomputable def Hu(H:Hp):Prop:=∀b,H b=none∨∃o xs,H b=some (.ik o (.lst xs))
end L2
namespace L2
open PySem PySem.Spec PyProof.Rows
noncomputable abbrev fY{K:PySem.W.Frag}{h:Heap}(_:K.In h):PySem.W.Frag:=K
end L2
namespace L2
open PySem PySem.Spec PyProof.Rows
noncomputable def inClass(s:Stmt)(j:Nat):Stmt:=match s with
 | .ClassDef _ _ _ body _ _ _ _ _ _ _=>body.getD j (.Pass ⟨0,0,0,0⟩)
 | _=> .Pass ⟨0,0,0,0⟩
noncomputable def gA(s:Stmt):Arguments:=match s with
 | .FunctionDef _ a _ _ _ _ _ _ _ _=>a
 | _=>{posonlyargs:=[],args:=[],vararg:=none,kwonlyargs:=[],kw_defaults:=[],kwarg:=none,defaults:=[]}
noncomputable def ao(s:Stmt):List Stmt:=match s with
 | .FunctionDef _ _ b _ _ _ _ _ _ _=>b
 | _=>[]
noncomputable def af(s:Stmt):Scope:=match s with
 | .FunctionDef _ _ _ _ _ _ sc _ _ _=>sc
 | _=>{kind:= .function,names:=[],isGenerator:=false,isCoroutine:=false}
noncomputable abbrev qO:zq:=fun _ _ _ _ _ _=>False
noncomputable abbrev E0:XK:=fun _ _ _=>False
theorem vq{X:Cx}:Passes qO X E0:=fun _ _ _ _ _ _ _ h=>h.elim
structure xB (K:PySem.W.Frag) (x qual:Str) (st:Stmt) (f:Addr) (fd:FuncData):Prop where
 ex:∃(oc:Value) (od:Option Addr) (kV doc pm:Value) (an:Option Addr) (cdv ct:Value) (osl:Array (Option Value)),
  fd=PySem.W.fnOf x qual (gA st) (ao st) (af st) .none kV doc pm an cdv ct∧K.lookup f=some ⟨oc,od, .func fd,osl⟩∧PySem.W.codeIn K cdv qual=true
 kp:PySem.W.keepIn K (.ref f)=true
section
variable {P:Program} {w:World} {K:PySem.W.Frag} {mg:Str→Option Value} {base:Heap}
theorem xB.ok{x qual:Str}{st:Stmt}{f:Addr}{fd:FuncData}{N ps:List Str}{k:Nat}{sp:Sp}(F:xB K x qual st f fd)(S:ba N ps (af st))(len:∀vs H Q E,sp vs H Q E→vs.length=ps.length)
 (hbody:∀(cdv:Value) (A:Around) (outer:List Env) (s:Shared) (H:Hp) (vs:List V) (Q:VK) (E:XK),eB k (A.deeper (envOfC qual (af st) s.heap.objs.size f cdv))→sp vs H Q E→
   ∃t,tV (p6 qO P w K mg base N qual (af st) f cdv A outer s H E).DG (ao st) t∧t {nx:=fun _ H'=>Q .cq H',rt:=Q} (start N vs) H):ip P w K mg base qO (k+1) f fd ps sp:=by
 obtain⟨oc,od,kV,doc,pm,an,cdv,ct,osl,rfl,lk,hcd⟩:=F.ex
 refine HQ lk hcd S len fun A outer s H vs Q E hr hsp=>?_
 obtain⟨t,h,q⟩:=hbody cdv A outer s H vs Q E hr hsp
 exact⟨t,h.DG,q⟩
theorem xB.binds{x qual:Str}{st:Stmt}{f:Addr}{fd:FuncData}{ps:List Str}(F:xB K x qual st f fd)
 (h:∀(kV doc pm:Value) (an:Option Addr) (cdv ct:Value) (us:List Value),us.length=ps.length→bindArgs (PySem.W.fnOf x qual (gA st) (ao st) (af st) .none kV doc pm an cdv ct) ⟨us,[]⟩=pure (ps.zip us)):Binds K fd ps []:=by
 obtain⟨oc,od,kV,doc,pm,an,cdv,ct,osl,rfl,lk,hcd⟩:=F.ex
 exact .all (h kV doc pm an cdv ct)
theorem mm{x qual:Str}{st:Stmt}{f:Addr}{oc:Value}{od an:Option Addr}{osl:Array (Option Value)}{kV doc pm cdv ct:Value}(l:K.lookup f=some ⟨oc,od, .func (PySem.W.fnOf x qual (gA st) (ao st) (af st) .none kV doc pm an cdv ct),osl⟩)
 (c:PySem.W.codeIn K cdv qual=true) (k:PySem.W.keepIn K (.ref f)=true):xB K x qual st f (PySem.W.fnOf x qual (gA st) (ao st) (af st) .none kV doc pm an cdv ct):=⟨⟨oc,od,kV,doc,pm,an,cdv,ct,osl,rfl,l,c⟩,k⟩
end
theorem HZ{A:Around}{k:Nat}(hr:eB k A):A.units+1 < cLine:=Nat.lt_of_le_of_lt (Nat.add_le_add_left (by decide:1≤64) _) hr.units
section
variable {X:Cx}
end
theorem AR{A B:Prop}(h:B):if false=true then A else B:=by
 rw[if_neg Bool.false_ne_true]
 exact h
theorem BW{A B:Prop}(h:A):if true=true then A else B:=by
 rw[if_pos rfl]
 exact h
noncomputable def aW(H H':Hp):Prop:=∀b o,H b=some o→H' b=some o
theorem aW.refl(H:Hp):aW H H:=fun _ _ h=>h
theorem aW.trans{H H1 H2:Hp}(a:aW H H1)(b:aW H1 H2):aW H H2:=fun c o h=>b c o (a c o h)
theorem aW.free{H H':Hp}(e:aW H H'){l:Addr}(h:H' l=Option.none):H l=Option.none:=by
 cases q:H l with
 | none=>rfl
 | some o=>
   rw[e l o q] at h
   cases h
section
variable {κ:Type} [DecidableEq κ]
end
end L2
end
section
set_option maxRecDepth 100000
set_option maxHeartbeats 4000000
namespace L2
open PySem PySem.Spec PyProof.Rows
noncomputable def oV(cells:List (Str × Addr)):List (Str × NameKind)→List (Str × Addr)→List (Str × Addr)
 | [],acc=>acc
 | (n,k) ::r,acc=>oV cells r (if k==NameKind.free then(n,(cells.lookup n).getD 0) ::acc else acc)
theorem j9{env:Env}:∀(names:List (Str × NameKind)) (acc:List (Str × Addr)),(∀y∈names,y.2= .free→∃c,env.cells.lookup y.1=some c)→
 (forIn names acc fun(x:Str × NameKind) (cs:List (Str × Addr))=>(match x with
   | (name,kind)=>if kind== .free then do let a ←cellOf env name;pure (ForInStep.yield ((name,a) ::cs)) else pure (ForInStep.yield cs):Sem (ForInStep (List (Str × Addr)))))=pure (oV env.cells names acc)
 | [],acc,_=>by simp [oV]
 | (n,k) ::r,acc,h=>by
   rw[List.forIn_cons]
   by_cases hk:k=NameKind.free
   ·subst hk
    obtain⟨c,hc⟩:=h (n, .free) List.mem_cons_self rfl
    have e:cellOf env n=pure c:=by unfold cellOf;rw [hc]
    simp only[beq_self_eq_true,if_true,e,pure_bind,oV,hc,Option.getD_some]
    exact j9 r _ fun y hy=>h y (List.mem_cons_of_mem _ hy)
   ·have hb:(k==NameKind.free)=false:=by simpa using hk
    simp only[hb,Bool.false_eq_true,if_false,pure_bind,oV]
    exact j9 r _ fun y hy=>h y (List.mem_cons_of_mem _ hy)
theorem kh{env:Env}{scope:Scope}(h:∀y∈scope.names,y.2= .free→∃c,env.cells.lookup y.1=some c):closureFor scope env=pure (oV env.cells scope.names []):=by
 unfold closureFor
 have:=j9 (env:=env) scope.names [] h
 simp only[bind_pure]
 exact this
theorem kL{cells:List (Str × Addr)}:∀(names:List (Str × NameKind)) (acc:List (Str × Addr)) {x:Str} {c:Addr},(oV cells names acc).lookup x=some c→
 acc.lookup x=some c∨((x,NameKind.free)∈names∧c=(cells.lookup x).getD 0)
 | [],acc,x,c,h=> .inl h
 | (n,k) ::r,acc,x,c,h=>by
   rcases kL r _ h with q | ⟨q1,q2⟩
   ·by_cases hk:k=NameKind.free
    ·subst hk
     simp only[beq_self_eq_true,if_true] at q
     cases hx:x==n with
     | true=>
       have e:x=n:=by simpa using hx
       subst e
       rw[List.lookup_cons,hx] at q
       exact .inr ⟨List.mem_cons_self,(Option.some.inj q).symm⟩
     | false=>
       rw[List.lookup_cons,hx] at q
       exact .inl q
    ·have hb:(k==NameKind.free)=false:=by simpa using hk
     simp only[hb,Bool.false_eq_true,if_false] at q
     exact .inl q
   ·exact .inr ⟨List.mem_cons_of_mem _ q1,q2⟩
theorem uf{cells:List (Str × Addr)}:∀(names:List (Str × NameKind)) (acc:List (Str × Addr)) {x:Str},((x,NameKind.free)∈names∨∃c,acc.lookup x=some c)→∃c,(oV cells names acc).lookup x=some c
 | [],acc,x,h=>by
   rcases h with h | h
   ·simp at h
   ·exact h
 | (n,k) ::r,acc,x,h=>by
   refine uf r _ ?_
   rcases h with h | ⟨c,h⟩
   ·rcases List.mem_cons.mp h with e | e
    ·cases e
     exact .inr ⟨(cells.lookup n).getD 0,by simp [List.lookup_cons]⟩
    ·exact .inl e
   ·by_cases hk:k=NameKind.free
    ·subst hk
     simp only[beq_self_eq_true,if_true]
     cases hx:x==n with
     | true=>exact .inr ⟨(cells.lookup n).getD 0,by rw[List.lookup_cons,hx]⟩
     | false=>exact .inr ⟨c,by rw[List.lookup_cons,hx];exact h⟩
    ·have hb:(k==NameKind.free)=false:=by simpa using hk
     simp only[hb,Bool.false_eq_true,if_false]
     exact .inr ⟨c,h⟩
noncomputable def bA(X:Cx)(scope:Scope)(N':List Str)(fp:List Addr)(s:Shared)(H:Hp):Cx where
 prog:=X.prog
 w:=X.w
 K:=X.K
 mg:=X.mg
 base:=X.base
 A:=X.A
 N:=N'
 s₀:=s
 H₀:=H
 env:=compEnvC scope (oV X.env.cells scope.names []) s.heap.objs.size X.env
 outer:=X.stack
 stack:=X.stack
 ex:=fp
 fn:=fun _=>false
 calm:=X.calm
 pn:=[]
 xe:=fun _ _=>False
structure cv (X:Cx) (scope:Scope) (own:List Str) (kp:List Nat) (kn:List Str):Prop where
 kind:scope.kind= .function
 nocell:∀y∈scope.names,y.2≠ .cell
 nd:∀y∈scope.names,y.2= .local→scope.names.lookup y.1=some .local
 free:∀y∈scope.names,y.2= .free→X.env.kindOf y.1=some .cell∨X.env.kindOf y.1=some .free
 names:kn.length=kp.length
 at_:∀(j i:Nat) (x:Str),kp[j]? =some i→kn[j]? =some x→X.N[i]? =some x
 isfree:∀x∈kn,scope.names.lookup x=some .free
noncomputable def dF(own:List Str)(kp:List Nat)(σ:St):St:=List.replicate own.length none++kp.map fun i=>(σ[i]?).getD none
section
variable {X:Cx} {scope:Scope} {own:List Str} {kp:List Nat} {kn:List Str}
theorem eQ{env:Env}:∀{names:List (Str × NameKind)} {x:Str} {k:NameKind},
 (names.map fun(n,k)=>if(k==NameKind.free && env.scope.kind== .function && env.kindOf n==some .cell) then(n,NameKind.cell) else(n,k)).lookup x=some k→
 names.lookup x=some k∨(k= .cell∧names.lookup x=some .free)
 | [],_,_,h=>by simp at h
 | (n,k) ::r,x,k',h=>by
   have ih:=@eQ env r x k'
   have h:List.lookup x ((if(k==NameKind.free && env.scope.kind== .function && env.kindOf n==some .cell)=true then(n,NameKind.cell) else(n,k)) ::_)=some k':=h
   by_cases hc:(k==NameKind.free && env.scope.kind== .function && env.kindOf n==some .cell)=true
   ·rw[if_pos hc] at h
    have hkf:k= .free:=by
     simp only[Bool.and_eq_true,beq_iff_eq] at hc
     exact hc.1.1
    cases hx:x==n with
    | true=>
      rw[List.lookup_cons,hx] at h
      cases h
      exact .inr ⟨rfl,by rw[List.lookup_cons,hx,hkf]⟩
    | false=>
      rw[List.lookup_cons,hx] at h
      rw[List.lookup_cons,hx]
      exact ih h
   ·rw[if_neg hc] at h
    cases hx:x==n with
    | true=>
      rw[List.lookup_cons,hx] at h
      rw[List.lookup_cons,hx]
      exact .inl h
    | false=>
      rw[List.lookup_cons,hx] at h
      rw[List.lookup_cons,hx]
      exact ih h
theorem mv{pins:List (Addr × Obj)}{σ:St}{H:Hp}{s:Shared}(C:cv X scope own kp kn)(I:Inv X pins σ H s):∀y∈scope.names,y.2= .free→∃c,X.env.cells.lookup y.1=some c:=fun y hy hf=>
 I.ok.has y.1 (C.free y hy hf)
theorem zQ{pins:List (Addr × Obj)}{σ:St}{H:Hp}{s:Shared}{fp:List Addr}{h₁:Heap}{tk:Nat}(C:cv X scope own kp kn)(I:Inv X pins σ H s)(hf:∀b∈fp,o7 X pins H b)(hb:∀b∈fp,b < s.heap.objs.size)
 (hn:h₁.Ns s.heap.objs.size (fun _=>none)) (hk:∀b o,s.heap.get? b=some o→h₁.get? b=some o):Inv (bA X scope (own++kn) fp s H) [] (dF own kp σ) H {s with heap:=h₁,toks:=tk}:=by
 have cl:∀x c,(oV X.env.cells scope.names []).lookup x=some c→X.env.cells.lookup x=some c:=fun x c e=>by
  rcases kL scope.names [] e with q | ⟨q1,q2⟩
  ·simp at q
  ·obtain⟨c',hc'⟩:=mv C I (x, .free) q1 rfl
   have hc':X.env.cells.lookup x=some c':=hc'
   rw[hc'] at q2
   rw[hc',q2]
   rfl
 have clh:∀x,scope.names.lookup x=some .free→∃c,(oV X.env.cells scope.names []).lookup x=some c:=fun x hx=>uf scope.names [] (.inl (PySem.mem_of_lookup hx))
 refine⟨⟨I.ok.mod,C.kind,I.ok.glob,I.ok.blt,Nat.le_refl _,fun x y c h1 h2=>I.ok.inj x y c (cl x c h1) (cl y c h2),fun x hx=>?_,fun x c h=>(by cases h),I.ok.hd,I.ok.frames, .inl rfl,fun b hb'=>⟨Nat.ne_of_lt (hb b hb'),fun x c e z=>(hf b hb').2.2.2.2.1 x c (cl x c e) z⟩,
  fun b o e=>I.bs b o e,Nat.le_trans I.ok.bsz I.sz,fun b o e hb'=>?_,fun b hb' hs=>?_,I.stack,I.w6⟩,
  rfl,I.bare,Un.kept hk,⟨_,hn,fun i x v h1 h2 h3=>?_⟩,fun x c e=>?_,I.hok.fresh (Nat.le_refl _),fun x c e=>I.freeC x c (cl x c e),fun p hp=>(by cases hp),I.hok.kept hk,?_⟩
 ·have hx:(relabel scope X.env).names.lookup x=some .cell∨(relabel scope X.env).names.lookup x=some .free:=hx
  rcases hx with hx | hx
  ·rcases eQ hx with q | ⟨_,q⟩
   ·exact absurd rfl (C.nocell _ (PySem.mem_of_lookup q))
   ·exact clh x q
  ·rcases eQ hx with q | ⟨q,_⟩
   ·exact clh x q
   ·cases q
 ·rcases(hf b hb').2.2.2.1 with z | z
  ·exact I.ok.noex b o e z
  ·exact absurd (Nat.lt_of_lt_of_le (Heap.lt_size (I.ok.bs b o e).1) z) (Nat.lt_irrefl _)
 ·rcases List.mem_cons.mp (I.vP b hs) with z | z
  ·exact(hf b hb').2.1 z
  ·exact(hf b hb').2.2.1 z
 ·-- a kept name
  have h1:(own++kn)[i]? =some x:=h1
  have h2:(dF own kp σ)[i]? =some (some v):=h2
  unfold dF at h2
  by_cases hi:i < own.length
  ·rw[List.getElem?_append_left (by simpa using hi),List.getElem?_replicate] at h2
   split at h2 <;> cases h2
  ·rw[List.getElem?_append_right (by simpa using hi),List.length_replicate,List.getElem?_map] at h2
   rw[List.getElem?_append_right (by simpa using hi)] at h1
   cases e:kp[i - own.length]? with
   | none=>rw [e] at h2;cases h2
   | some j=>
     rw[e] at h2
     have h2:(σ[j]?).getD none=some v:=Option.some.inj h2
     have hj:X.N[j]? =some x:=C.at_ _ j x e h1
     have hσ:σ[j]? =some (some v):=by
      cases q:σ[j]? with
      | none=>rw [q] at h2;cases h2
      | some y=>rw [q] at h2;exact congrArg some h2
     have hfree:scope.names.lookup x=some .free:=C.isfree x (List.mem_of_getElem? h1)
     have hkind:=C.free (x, .free) (PySem.mem_of_lookup hfree) rfl
     obtain⟨m,hm,hl⟩:=I.loc
     obtain⟨u,r,l⟩:=hl j x v hj hσ (hkind.elim (fun q=>Or.inr (Or.inl q)) fun q=>Or.inr (Or.inr q))
     refine⟨u,r, .inr ⟨?_,?_⟩⟩
     ·have h3:(relabel scope X.env).names.lookup x=some .local∨(relabel scope X.env).names.lookup x=some .cell∨(relabel scope X.env).names.lookup x=some .free:=h3
      rcases h3 with q | q | q
      ·rcases eQ q with z | ⟨z,_⟩
       ·rw[hfree] at z;cases z
       ·cases z
      ·exact .inl q
      ·exact .inr q
     ·rcases l with⟨k,_⟩ | ⟨_,c,hc,hcell⟩
      ·rcases hkind with q | q
       ·rw[show X.env.kindOf x=some .cell from q] at k;cases k
       ·rw[show X.env.kindOf x=some .free from q] at k;cases k
      ·obtain⟨c',hc'⟩:=clh x hfree
       have:=cl x c' hc'
       rw[hc] at this
       cases this
       obtain⟨o,ho,hd⟩:=hcell
       exact⟨c,hc',o,hk c o ho,hd⟩
 ·obtain⟨v,o,ho,hd⟩:=I.cell x c (cl x c e)
  exact⟨v,o,hk c o ho,hd⟩
 ·show(dF own kp σ).length=(own++kn).length
  unfold dF
  rw[List.length_append,List.length_replicate,List.length_map,List.length_append,C.names]
theorem p9{pins:List (Addr × Obj)}{σ σ':St}{H H':Hp}{s s':Shared}{fp:List Addr}{N':List Str}(I:Inv X pins σ H s)(hf:∀b∈fp,o7 X pins H b)(J:Inv (bA X scope N' fp s H) [] σ' H' s'):Inv X pins σ H' s':=
 I.Ha (ch:=fp) J.os J.base J.hok J.bare fun b hb=>⟨(hf b hb).2.2.2.1,(hf b hb).2.1,(hf b hb).2.2.2.2.1,(hf b hb).2.2.2.2.2⟩
end
noncomputable def nB(X:Cx)(ifs:List Expr)(t:TT):Prop:=
 ∀(pins:List (Addr × Obj)) (s:Shared) (σ:St) (H:Hp) (Q:Bool→Hp→Prop),Inv X pins σ H s→t σ H Q→
  wpAny (model X.prog X.w) X.A (forIn ifs true fun c r=>if r=true then do let ok ←isTrue c X.env (eval c X.env);pure (ForInStep.yield ok) else pure (ForInStep.yield r)) (TP X pins σ Q) X.xe s
noncomputable def Jq:TT:=fun _ H Q=>Q true H
theorem uc{X:Cx}:nB X [] Jq:=fun _ _ _ H _ I h=>wpAny_tests_nil ⟨H,I,h⟩
theorem uK{X:Cx}{c:Expr}{t:TT}(h:PT X c t):nB X [c] t:=fun pins s σ H Q I hq=>wpAny_tests_one (h pins s σ H Q I hq)
noncomputable def w9(wi:TI)(g:TG)(tc:TT)(te:TE)(own:List Str)(kp:List Nat):TE:=fun σ H Q=>wi σ H fun J H1=>∀D,H1 D=none→
 ∃W:Nat→Nat→List V→Hp→Prop,(∃m,W 0 m [] (upd H1 D (.lst [])))∧∀i m ys H,W i m ys H→
  (J.stop i H∧Q (.ref D) H)∨(J.go i H∧∀x H',J.yld i H x H'→g x (dF own kp σ) H' fun σ2 H2=>tc σ2 H2 fun c H3=>
    if c=true then te σ2 H3 fun y H4=>H4 D=some (.lst ys)∧ys.length < sizeLine∧∃m',m' < m∧W (i+1) m' (ys++[y]) (upd H4 D (.lst (ys++[y])))
    else ∃m',m' < m∧W (i+1) m' ys H3)
section
variable {X:Cx} {scope:Scope} {own:List Str} {kp:List Nat} {kn:List Str} {tg iter elt:Expr} {ifs:List Expr} {wi:TI} {g:TG} {tc:TT} {te:TE} {pos:Pos}
theorem tY{pins:List (Addr × Obj)}{σ:St}{H:Hp}{s:Shared}{fp:List Addr}{it D:Addr}{tn:Nat→Heap→Prop}{J:It}{Q:VK}{h₁:Heap}{tk:Nat}{R:Result→Shared→Prop}
 (hc:X.calm=true) (C:cv X scope own kp kn) (I:Inv X pins σ H s) (hf:∀b∈fp,o7 X pins H b) (hb:∀b∈fp,b < s.heap.objs.size) (T:Turn X.prog X.w X.K tg J fp it tn)
 (hg:PG (bA X scope (own++kn) fp s H) tg g) (hi:nB (bA X scope (own++kn) fp s H) ifs tc) (he:PE (bA X scope (own++kn) fp s H) elt te)
 (hn:h₁.Ns s.heap.objs.size (fun _=>none)) (hk:∀b o,s.heap.get? b=some o→h₁.get? b=some o) (st:tn 0 s.heap)
 (W:Nat→Nat→List V→Hp→Prop) (w0:∃m,W 0 m [] H)
 (turn:∀i m ys H,W i m ys H→
   (J.stop i H∧Q (.ref D) H)∨(J.go i H∧∀x H',J.yld i H x H'→g x (dF own kp σ) H' fun σ2 H2=>tc σ2 H2 fun c H3=>
     if c=true then te σ2 H3 fun y H4=>H4 D=some (.lst ys)∧ys.length < sizeLine∧∃m',m' < m∧W (i+1) m' (ys++[y]) (upd H4 D (.lst (ys++[y])))
     else ∃m',m' < m∧W (i+1) m' ys H3))
 (hR:∀H' s' σ',Inv (bA X scope (own++kn) fp s H) [] σ' H' s'→Q (.ref D) H'→R (.ok .next) s') :
 codeAny (model X.prog X.w) X.A (.compStart (.ListComp elt [⟨tg,iter,ifs,0⟩] scope pos) 0 (.ref it) (.ref D) (bA X scope (own++kn) fp s H).env) R {s with heap:=h₁,toks:=tk}:=by
 have I1:Inv (bA X scope (own++kn) fp s H) [] (dF own kp σ) H {s with heap:=h₁,toks:=tk}:=zQ C I hf hb hn hk
 have st1:tn 0 h₁:=T.keep _ _ _ st fun b _ o e=>hk b o e
 have fp1:∀{H':Hp} {p:List (Addr × Obj)},(∀b∈fp,H' b=none)→(∀b∈fp,∀q∈p,q.1≠b)→∀b∈fp,o7 (bA X scope (own++kn) fp s H) p H' b:=fun {H' p} hn hp b hb'=>
  ⟨hn b hb',(I1.ok.exf b hb').1,I1.ok.exfs b hb', .inl hb',fun x c e=>(I1.ok.exf b hb').2 x c e,fun q hq=>hp b hb' q hq⟩
 obtain⟨m0,w0⟩:=w0
 have loop:codeAny (model X.prog X.w) X.A (.compLoop (.ListComp elt [⟨tg,iter,ifs,0⟩] scope pos) 0 (.ref it) (.ref D) (bA X scope (own++kn) fp s H).env) R {s with heap:=h₁,toks:=tk}:=by
  refine codeAny_loop rfl (fun n s'=>∃i ys H',Inv (bA X scope (own++kn) fp s H) [] (dF own kp σ) H' s'∧tn i s'.heap∧(∀b∈fp,H' b=none)∧W i n ys H') (fun n s' hI=>?_) m0 ⟨0,[],H,I1,st1,fun b hb'=>(hf b hb').1,w0⟩
  obtain⟨i,ys,H3,I3,st3,fr3,w3⟩:=hI
  show wpAny _ _ ((compTurn (.ListComp elt [⟨tg,iter,ifs,0⟩] scope pos) 0 (.ref it) (.ref D) (bA X scope (own++kn) fp s H).env).onRaise (fun x=>do noteFrame x (bA X scope (own++kn) fp s H).env;theTreesLotGoes x)) _ _ s'
  refine wpAny_noted (wpAny_noRaise ?_)
  rw[compTurn_list]
  refine wpAny_bind (wpAny_standAt (wpAny_bind ?_))
  rcases turn i n ys H3 w3 with⟨stop,q⟩ | ⟨go,step⟩
  ·refine dW (T.done (bA X scope (own++kn) fp s H) rfl rfl rfl hc i [] s' _ H3 _ I3 (fp1 fr3 (fun _ _ q hq=>by cases hq)) st3 stop) fun r s4 ⟨hr,I4⟩=>?_
   subst hr
   exact wpAny_pure (hR H3 s4 _ I4 q)
  ·refine dW (T.item (bA X scope (own++kn) fp s H) rfl rfl rfl hc i [] s' _ H3 _ I3 (fp1 fr3 (fun _ _ q hq=>by cases hq)) st3 go) fun r s4 ⟨u,hr,h4⟩=>?_
   subst hr
   refine wpAny_bind (dW h4 fun _ s5 ⟨x,H5,I5,r5,y5,st5,fr5⟩=>?_)
   have I5':=I5.pinned (fp1 fr5 (fun _ _ q hq=>by cases hq)) (T.obj _ _ st5)
   have keepIt:∀{σ7:St} {H7:Hp} {s7:Shared},Inv (bA X scope (own++kn) fp s H) ([]++l3 fp s5.heap) σ7 H7 s7→tn (i+1) s7.heap∧∀b∈fp,H7 b=none:=fun {σ7 H7 s7} I7=>by
    refine⟨T.keep _ _ _ st5 fun b hb o e=>(I7.pin (b,o) (List.mem_append_right _ (List.mem_append_right _ (jS hb e)))).1,fun b hb=>?_⟩
    obtain⟨o,e,d⟩:=T.obj _ _ st5 b hb
    exact(I7.pin (b,o) (List.mem_append_right _ (List.mem_append_right _ (jS hb e)))).2.1
   have reset:∀{σ7:St} {H7:Hp} {s7:Shared},Inv (bA X scope (own++kn) fp s H) ([]++l3 fp s5.heap) σ7 H7 s7→Inv (bA X scope (own++kn) fp s H) [] (dF own kp σ) H7 s7:=fun {σ7 H7 s7} I7=>by
    have I8:=I7.nh
    have hun:Un (zp X.stack) fp H H7 s.heap s7.heap:=I8.base
    have I9:Inv X pins σ H7 s7:=p9 I hf I8
    refine⟨I8.ok,I8.os,I8.bare,I8.base,?_,I8.cell,I8.free,I8.freeC,I8.pin,I8.hok,I1.len⟩
    obtain⟨m,hm,_⟩:=I8.loc
    refine⟨m,hm,fun i x v h1 h2 h3=>?_⟩
    obtain⟨m1,hm1,hl1⟩:=I1.loc
    obtain⟨u1,r1,l1⟩:=hl1 i x v h1 h2 h3
    have h1:(own++kn)[i]? =some x:=h1
    have h2:(dF own kp σ)[i]? =some (some v):=h2
    unfold dF at h2
    by_cases hi:i < own.length
    ·rw[List.getElem?_append_left (by simpa using hi),List.getElem?_replicate] at h2
     split at h2 <;> cases h2
    ·rw[List.getElem?_append_right (by simpa using hi),List.length_replicate,List.getElem?_map] at h2
     rw[List.getElem?_append_right (by simpa using hi)] at h1
     cases e:kp[i - own.length]? with
     | none=>rw [e] at h2;cases h2
     | some j=>
       rw[e] at h2
       have h2:(σ[j]?).getD none=some v:=Option.some.inj h2
       have hj:X.N[j]? =some x:=C.at_ _ j x e h1
       have hσ:σ[j]? =some (some v):=by
        cases q:σ[j]? with
        | none=>rw [q] at h2;cases h2
        | some y=>rw [q] at h2;exact congrArg some h2
       have hfree:scope.names.lookup x=some .free:=C.isfree x (List.mem_of_getElem? h1)
       have hkind:=C.free (x, .free) (PySem.mem_of_lookup hfree) rfl
       obtain⟨m9,hm9,hl9⟩:=I9.loc
       obtain⟨u,r,l⟩:=hl9 j x v hj hσ (hkind.elim (fun q=>Or.inr (Or.inl q)) fun q=>Or.inr (Or.inr q))
       refine⟨u,r, .inr ?_⟩
       rcases l1 with⟨k,k2⟩ | ⟨k,c,hc,hcell⟩
       ·have k:(relabel scope X.env).names.lookup x=some .local:=k
        rcases eQ k with z | ⟨z,_⟩
        ·rw[hfree] at z;cases z
        ·cases z
       ·refine⟨k,c,hc,?_⟩
        rcases l with⟨k',_⟩ | ⟨_,c',hc',hcell'⟩
        ·rcases hkind with q | q
         ·rw[show X.env.kindOf x=some .cell from q] at k';cases k'
         ·rw[show X.env.kindOf x=some .free from q] at k';cases k'
        ·have hcl:(oV X.env.cells scope.names []).lookup x=some c:=hc
         rcases kL scope.names [] hcl with q | ⟨q1,q2⟩
         ·simp at q
         ·rw[hc'] at q2
          have q2:c=c':=q2
          rw[q2]
          exact hcell'
   have hmm:=hg ([]++l3 fp s5.heap) s5 (dF own kp σ) H5 x u _ I5' r5 (step x H5 y5)
   refine wpAny_bind (dW hmm fun _ s6 ⟨σ6,H6,I6,q6⟩=>?_)
   refine wpAny_bind (dW (hi _ s6 σ6 H6 _ I6 q6) fun ok s7 ⟨H7,I7,q7⟩=>?_)
   cases ok with
   | false=>
     simp only[Bool.false_eq_true,if_false] at q7 ⊢
     obtain⟨m',hm',w7⟩:=q7
     obtain⟨a1,a2⟩:=keepIt I7
     exact wpAny_pure ⟨rfl,m',hm',i+1,ys,H7,reset I7,a1,a2,w7⟩
   | true=>
     simp only[if_true] at q7 ⊢
     refine wpAny_bind (wpAny_bind (dW (he _ s7 σ6 H7 _ I7 q7) fun yv s8 ⟨y,H8,I8,r8,hD,hlt,m',hm',w8⟩=>wpAny_bind ?_))
     obtain⟨a1,a2⟩:=keepIt I8
     refine dW (nG _ s8 σ6 H8 (.ref D) [y] (.ref D) [yv] (fun v H9=>v= .cq∧H9=upd H8 D (.lst (ys++[y]))) I8 rfl (.cons r8 .nil) ⟨D,ys,y,rfl,rfl,hD,hlt,rfl,rfl⟩) fun _ s9 ⟨v9,H9,I9,_,_,e9⟩=>?_
     subst e9
     obtain⟨b1,b2⟩:=keepIt I9
     exact wpAny_pure (wpAny_pure ⟨rfl,m',hm',i+1,ys++[y],_,reset I9,b1,b2,w8⟩)
 exact codeAny_compStart_list loop (T.self _ _ _ _ _ st1 loop)
theorem yh(hc:X.calm=true)(C:cv X scope own kp kn)(hi:PI X tg iter wi)(hg:∀fp s H,PG (bA X scope (own++kn) fp s H) tg g)(hif:∀fp s H,nB (bA X scope (own++kn) fp s H) ifs tc)
 (he:∀fp s H,PE (bA X scope (own++kn) fp s H) elt te) (hs:∀x,foldedSetIterable iter X.env x=pure x:=by intro _;rfl):PE X (.ListComp elt [⟨tg,iter,ifs,0⟩] scope pos) (w9 wi g tc te own kp):=by
 intro pins s σ H Q I h
 rw[eval_ListComp]
 refine wpAny_comprehension_free (use:=none) rfl hs (kh (mv C I)) C.kind C.nd (dW (hi pins s σ H _ I h) fun v s1 h1=>dW h1 fun itv s2 h2=>?_)
 obtain⟨it,fp,tn,J,H2,e,I2,T,st2,f2,q⟩:=h2
 subst e
 refine wpAny_newObj_type ?_
 have I3:Inv X pins σ (upd H2 s2.heap.objs.size (.lst [])) {s2 with heap:=s2.heap.push {cls:= .type "list",dict:=none,data:= .seq ([]:List Value).toArray}}:=I2.Cj (its:=[]) (t':=s2.toks) .nil (Nat.zero_le _)
 obtain⟨W,w0,turn⟩:=q s2.heap.objs.size I2.fresh
 have fne:∀b∈fp,b < s2.heap.objs.size:=fun b hb=>let⟨o,e,_⟩:=T.obj _ _ st2 b hb;Heap.lt_size e
 have f3:∀b∈fp,o7 X pins (upd H2 s2.heap.objs.size (.lst [])) b:=fun b hb=>⟨by rw[bg (Nat.ne_of_lt (fne b hb))];exact(f2 b hb).1,(f2 b hb).2⟩
 generalize hs3:({s2 with heap:=s2.heap.push {cls:= .type "list",dict:=none,data:= .seq ([]:List Value).toArray}}:Shared)=s3 at I3 ⊢
 have st3:tn 0 s3.heap:=by rw[←hs3];exact T.keep _ _ _ st2 fun b _ o e=>Heap.get?_push_of_some _ e
 have fne3:∀b∈fp,b < s3.heap.objs.size:=fun b hb=>by rw[←hs3];exact Nat.lt_of_lt_of_le (fne b hb) (by rw[Heap.size_push];exact Nat.le_succ _)
 refine wpAny_newFunctionEnv (fun y hy=>C.nocell y hy) (by intro y hy;simp at hy) (fun h₁ hns₁ hsb₁=>?_) C.kind
 have hk:∀b o,s3.heap.get? b=some o→h₁.get? b=some o:=fun b o e=>hsb₁.extBut b o (Nat.ne_of_lt (Heap.lt_size e)) (Heap.get?_push_of_some _ e)
 refine tY (D:=s2.heap.objs.size) hc C I3 f3 fne3 T (hg fp s3 _) (hif fp s3 _) (he fp s3 _) hns₁ hk st3 W w0 turn fun H' s' σ' J' hq=>?_
 have B:=p9 I3 f3 J'
 obtain⟨m',hm',_⟩:=J'.loc
 refine⟨m',hm',fun h' sb=>⟨.ref s2.heap.objs.size,H',?_,rfl,hq⟩⟩
 have fC:=I3.qP (H':=H') (b:=s3.heap.objs.size) (Nat.le_refl _) J'.free
 exact B.turned (it:=s3.heap.objs.size) (t':=s'.toks) (fun b o hb e=>(sb.2 b hb).trans e) fC.1 fC.2.1 fC.2.2.2.1 fC.2.2.2.2.1 fC.2.2.2.2.2
theorem qE{i:Nat}{x:Str}{pos' spos:Pos}(hc:X.calm=true)(hN:X.N.Nodup)(hx:X.N[i]? =some x)(hxl:X.env.scope.names.lookup x=some .local)(C:cv X scope own kp kn)(hi:PI X tg iter wi)
 (hg:∀fp s H,PG (bA X scope (own++kn) fp s H) tg g) (hif:∀fp s H,nB (bA X scope (own++kn) fp s H) ifs tc)
 (he:∀fp s H,PE (bA X scope (own++kn) fp s H) elt te)
 (hsw:swapsWith (.ListComp elt [⟨tg,iter,ifs,0⟩] scope pos) (some (.Name x pos')) spos.line X.env=pure true:=by rfl)
 (hs:∀x,foldedSetIterable iter X.env x=pure x:=by intro _;rfl) :
 PS X (.Assign [.Name x pos'] (.ListComp elt [⟨tg,iter,ifs,0⟩] scope pos) spos) (yy (w9 wi g tc te own kp) (pN i)):=by
 intro pins s σ H D I h
 rw[exec_Assign_Name_used _ _ _ _ hsw]
 refine wpAny_bind (wpAny_standAt (wpAny_bind ?_))
 show wpAny _ X.A (do let _ ←comprehension (.ListComp elt [⟨tg,iter,ifs,0⟩] scope pos) scope X.env _ (newList []) false (eval iter X.env) (some (assign (.Name x pos') X.env))) _ _ s
 refine wpAny_bind (wpAny_mono (wpAny_comprehension_free (use:=some (assign (.Name x pos') X.env)) (Q:=fun _ s'=>SP X pins D .next s') rfl hs (kh (mv C I)) C.kind C.nd
  (dW (hi pins s σ H _ I h) fun v s1 h1=>dW h1 fun itv s2 h2=>?_)) (fun _ s' hq=>wpAny_pure (wpAny_pure hq)) fun _ _ e=>e)
 obtain⟨it,fp,tn,J,H2,e,I2,T,st2,f2,q⟩:=h2
 subst e
 refine wpAny_newObj_type ?_
 have I3:Inv X pins σ (upd H2 s2.heap.objs.size (.lst [])) {s2 with heap:=s2.heap.push {cls:= .type "list",dict:=none,data:= .seq ([]:List Value).toArray}}:=I2.Cj (its:=[]) (t':=s2.toks) .nil (Nat.zero_le _)
 obtain⟨W,w0,turn⟩:=q s2.heap.objs.size I2.fresh
 have fne:∀b∈fp,b < s2.heap.objs.size:=fun b hb=>let⟨o,e,_⟩:=T.obj _ _ st2 b hb;Heap.lt_size e
 have f3:∀b∈fp,o7 X pins (upd H2 s2.heap.objs.size (.lst [])) b:=fun b hb=>⟨by rw[bg (Nat.ne_of_lt (fne b hb))];exact(f2 b hb).1,(f2 b hb).2⟩
 generalize hs3:({s2 with heap:=s2.heap.push {cls:= .type "list",dict:=none,data:= .seq ([]:List Value).toArray}}:Shared)=s3 at I3 ⊢
 have st3:tn 0 s3.heap:=by rw[←hs3];exact T.keep _ _ _ st2 fun b _ o e=>Heap.get?_push_of_some _ e
 have fne3:∀b∈fp,b < s3.heap.objs.size:=fun b hb=>by rw[←hs3];exact Nat.lt_of_lt_of_le (fne b hb) (by rw[Heap.size_push];exact Nat.le_succ _)
 refine wpAny_newFunctionEnv (fun y hy=>C.nocell y hy) (by intro y hy;simp at hy) (fun h₁ hns₁ hsb₁=>?_) C.kind
 have hk:∀b o,s3.heap.get? b=some o→h₁.get? b=some o:=fun b o e=>hsb₁.extBut b o (Nat.ne_of_lt (Heap.lt_size e)) (Heap.get?_push_of_some _ e)
 refine tY (Q:=fun x H1=>pN i x σ H1 D.nx) (D:=s2.heap.objs.size) hc C I3 f3 fne3 T (hg fp s3 _) (hif fp s3 _) (he fp s3 _) hns₁ hk st3 W w0 turn fun H' s' σ' J' hq=>?_
 have B:=p9 I3 f3 J'
 obtain⟨m',hm',_⟩:=J'.loc
 have fC:=I3.qP (H':=H') (b:=s3.heap.objs.size) (Nat.le_refl _) J'.free
 show wpAny _ X.A (assign (.Name x pos') X.env (.ref s2.heap.objs.size)) _ _ s'
 refine wpAny_assign_Name (rB B hN hx (.inl hxl) (v:= .ref s2.heap.objs.size) rfl (fun s4 I4 ⟨a,sb,ha⟩=>?_) (.inr hxl))
 have ha':s3.heap.objs.size≠a:=by
  rcases ha with rfl | z
  ·exact fC.2.1
  ·exact fun e=>fC.2.2.2.2.1 x a z e.symm
 refine⟨m',hm'.sameBut sb ha',fun h' sb'=>⟨_,H',?_,hq⟩⟩
 exact I4.turned (it:=s3.heap.objs.size) (t':=s4.toks) (fun b o hb e=>(sb'.2 b hb).trans e) fC.1 fC.2.1 fC.2.2.2.1 fC.2.2.2.2.1 fC.2.2.2.2.2
end
end L2
end
section
set_option maxRecDepth 100000
set_option maxHeartbeats 4000000
namespace L2
open PySem PySem.Spec PyProof.Rows
inductive D where
 | cq | bl (b:Bool) | int (i:Int) | str (x:Str) | lst (ds:List D) | tup (ds:List D) | dct (ks:List Key) (ds:List D)
inductive R (α:Type) where
 | ok (a:α) | ex (c:Nat) | no
noncomputable def R.bind{α β:Type}:R α→(α→R β)→R β
 | .ok a,f=>f a
 | .ex c,_=> .ex c
 | .no,_=> .no
theorem R.ak{α β:Type}{r:R α}{f:α→R β}{b:β}(h:r.bind f= .ok b):∃a,r= .ok a∧f a= .ok b:=by
 cases r with
 | ok a=>exact⟨a,rfl,h⟩
 | ex c=>cases h
 | no=>cases h
@[simp] theorem R.aR{α β:Type}(a:α)(f:α→R β):(R.ok a).bind f=f a:=rfl
noncomputable def R.bZ{α:Type}(c:Bool)(r:R α):R α:=if c then r else .no
theorem R.bp{α:Type}{c:Bool}{r:R α}{a:α}(h:R.bZ c r= .ok a):c=true∧r= .ok a:=by
 cases c with
 | true=>exact⟨rfl,h⟩
 | false=>cases h
@[simp] theorem R.fS{α:Type}(r:R α):R.bZ true r=r:=rfl
noncomputable def qM(K:PySem.W.Frag)(B:List Addr)(H:Hp)(a:Addr)(xs:List V):Prop:=
 (a ∉ B∧Rd H a (.lst xs))∨∃(its:List Value) (n:Nat),K.lookup a=some {cls:= .type "list",data:= .seq its.toArray n}∧xs.length≤sizeLine∧Vals xs its
noncomputable def se(K:PySem.W.Frag)(B:List Addr)(H:Hp)(a:Addr)(xs:List V):Prop:=
 (a ∉ B∧Rd H a (.tup xs))∨∃(o:Obj) (its:Array Value) (n:Nat),K.lookup a=some o∧o.cls= .type "tuple"∧o.data= .seq its n∧its.size≤sizeLine∧Vals xs its.toList
theorem qM.sq{K:PySem.W.Frag}{B:List Addr}{H:Hp}{a:Addr}{xs:List V}(h:qM K B H a xs):mw K H a xs:=by
 rcases h with z | ⟨its,n,hk,hz,r⟩
 ·exact .inl z.2
 ·exact .inr ⟨_,its.toArray,n,hk,rfl,rfl,rfl,by rw[List.size_toArray,←r.length];exact hz,by simpa using r⟩
theorem se.sq{K:PySem.W.Frag}{B:List Addr}{H:Hp}{a:Addr}{xs:List V}(h:se K B H a xs):oQ K H a xs:=h.elim (fun z=> .inl z.2) .inr
mutual
noncomputable def Rep(K:PySem.W.Frag)(B:List Addr)(H:Hp):D→V→Prop
 | .cq,v=>v= .cq
 | .bl b,v=>v= .bl b
 | .int i,v=>v= .int i
 | .str x,v=>v= .str x
 | .lst ds,v=>∃a xs,v= .ref a∧qM K B H a xs∧aF K B H ds xs
 | .tup ds,v=>∃a xs,v= .ref a∧se K B H a xs∧aF K B H ds xs
 | .dct ks ds,v=>∃(a:Addr) (kvs:List (Key × V)),v= .ref a∧(a ∉ B∧H a=some (.dK kvs))∧kvs.map (·.1)=ks∧aF K B H ds (kvs.map (·.2))
noncomputable def aF(K:PySem.W.Frag)(B:List Addr)(H:Hp):List D→List V→Prop
 | [],xs=>xs=[]
 | d ::ds,xs=>∃x r,xs=x ::r∧Rep K B H d x∧aF K B H ds r
end
noncomputable def dG(B:List Addr)(H:Hp)(B':List Addr)(H':Hp):Prop:=∀b o,H b=some o→b ∉ B→H' b=some o∧b ∉ B'
theorem dG.rd{B B':List Addr}{H H':Hp}(p:dG B H B' H'){a:Addr}{u:HO}(h:Rd H a u)(n:a ∉ B):Rd H' a u∧a ∉ B':=by
 rcases h with e | ⟨o,e⟩
 ·exact⟨.inl (p a _ e n).1,(p a _ e n).2⟩
 ·exact⟨.inr ⟨o,(p a _ e n).1⟩,(p a _ e n).2⟩
theorem dG.trans{B B' B'':List Addr}{H H' H'':Hp}(p:dG B H B' H')(q:dG B' H' B'' H''):dG B H B'' H'':=fun b o e n=>
 let⟨e1,n1⟩:=p b o e n;q b o e1 n1
theorem dG.same{B:List Addr}{H H':Hp}(s:aW H H'):dG B H B H':=fun b o e n=>⟨s b o e,n⟩
theorem dG.refl(B:List Addr)(H:Hp):dG B H B H:=dG.same (aW.refl H)
theorem qM.bq{K:PySem.W.Frag}{B B':List Addr}{H H':Hp}(p:dG B H B' H'){a:Addr}{xs:List V}(l:qM K B H a xs):qM K B' H' a xs:=
 l.elim (fun z=> .inl ⟨(p.rd z.2 z.1).2,(p.rd z.2 z.1).1⟩) .inr
mutual
theorem Rep.bq{K:PySem.W.Frag}{B B':List Addr}{H H':Hp}(p:dG B H B' H'):∀{d:D} {v:V},Rep K B H d v→Rep K B' H' d v
 | .cq,_,h=>h
 | .bl _,_,h=>h
 | .int _,_,h=>h
 | .str _,_,h=>h
 | .lst ds,v,h=>by
   unfold Rep at h ⊢
   obtain⟨a,xs,e,l,r⟩:=h
   exact⟨a,xs,e,l.bq p,aF.bq p r⟩
 | .tup ds,v,h=>by
   unfold Rep at h ⊢
   obtain⟨a,xs,e,l,r⟩:=h
   exact⟨a,xs,e,l.elim (fun z=> .inl ⟨(p.rd z.2 z.1).2,(p.rd z.2 z.1).1⟩) .inr,aF.bq p r⟩
 | .dct ks ds,v,h=>by
   unfold Rep at h ⊢
   obtain⟨a,kvs,e,⟨n,l⟩,k,r⟩:=h
   exact⟨a,kvs,e,⟨(p a _ l n).2,(p a _ l n).1⟩,k,aF.bq p r⟩
theorem aF.bq{K:PySem.W.Frag}{B B':List Addr}{H H':Hp}(p:dG B H B' H'):∀{ds:List D} {xs:List V},aF K B H ds xs→aF K B' H' ds xs
 | [],_,h=>h
 | d ::ds,xs,h=>by
   unfold aF at h ⊢
   obtain⟨x,r,e,h1,h2⟩:=h
   exact⟨x,r,e,Rep.bq p h1,aF.bq p h2⟩
end
theorem Rep.same{K:PySem.W.Frag}{B:List Addr}{H H':Hp}{d:D}{v:V}(h:Rep K B H d v)(s:aW H H'):Rep K B H' d v:=h.bq (dG.same s)
theorem aF.same{K:PySem.W.Frag}{B:List Addr}{H H':Hp}{d:List D}{v:List V}(h:aF K B H d v)(s:aW H H'):aF K B H' d v:=h.bq (dG.same s)
theorem aF.nil{K:PySem.W.Frag}{B:List Addr}{H:Hp}:aF K B H [] []:=by unfold aF;rfl
theorem aF.cons{K:PySem.W.Frag}{B:List Addr}{H:Hp}{d:D}{ds:List D}{x:V}{xs:List V}(h:Rep K B H d x)(t:aF K B H ds xs):aF K B H (d ::ds) (x ::xs):=by
 unfold aF;exact⟨x,xs,rfl,h,t⟩
theorem aF.cn{K:PySem.W.Frag}{B:List Addr}{H:Hp}{d:D}{ds:List D}{xs:List V}(h:aF K B H (d ::ds) xs):∃x r,xs=x ::r∧Rep K B H d x∧aF K B H ds r:=by
 unfold aF at h;exact h
theorem aF.length{K:PySem.W.Frag}{B:List Addr}{H:Hp}:∀{ds:List D} {xs:List V},aF K B H ds xs→ds.length=xs.length
 | [],_,h=>by unfold aF at h;rw [h];rfl
 | d ::ds,xs,h=>by
   obtain⟨x,r,rfl,_,h2⟩:=h.cn
   simp [h2.length]
theorem aF.get{K:PySem.W.Frag}{B:List Addr}{H:Hp}:∀{ds:List D} {xs:List V} {i:Nat} {d:D},aF K B H ds xs→ds[i]? =some d→∃x,xs[i]? =some x∧Rep K B H d x
 | [],_,_,_,_,e=>by simp at e
 | d ::ds,xs,0,d',h,e=>by
   obtain⟨x,r,rfl,h1,h2⟩:=h.cn
   simp at e;subst e
   exact⟨x,rfl,h1⟩
 | d ::ds,xs,i+1,d',h,e=>by
   obtain⟨x,r,rfl,h1,h2⟩:=h.cn
   obtain⟨y,e1,e2⟩:=aF.get (i:=i) h2 (by simpa using e)
   exact⟨y,by simpa using e1,e2⟩
theorem aF.append{K:PySem.W.Frag}{B:List Addr}{H:Hp}:∀{ds es:List D} {xs ys:List V},aF K B H ds xs→aF K B H es ys→aF K B H (ds++es) (xs++ys)
 | [],_,_,_,h,t=>by unfold aF at h;subst h;exact t
 | d ::ds,es,xs,ys,h,t=>by
   obtain⟨x,r,rfl,h1,h2⟩:=h.cn
   exact aF.cons h1 (aF.append h2 t)
theorem aF.drop{K:PySem.W.Frag}{B:List Addr}{H:Hp}:∀{ds:List D} {xs:List V} (n:Nat),aF K B H ds xs→aF K B H (ds.drop n) (xs.drop n)
 | _,_,0,h=>h
 | [],_,n+1,h=>by unfold aF at h;subst h;exact aF.nil
 | d ::ds,xs,n+1,h=>by
   obtain⟨x,r,rfl,h1,h2⟩:=h.cn
   exact aF.drop n h2
theorem aF.take{K:PySem.W.Frag}{B:List Addr}{H:Hp}:∀{ds:List D} {xs:List V} (n:Nat),aF K B H ds xs→aF K B H (ds.take n) (xs.take n)
 | _,_,0,h=>aF.nil
 | [],_,n+1,h=>by unfold aF at h;subst h;exact aF.nil
 | d ::ds,xs,n+1,h=>by
   obtain⟨x,r,rfl,h1,h2⟩:=h.cn
   exact aF.cons h1 (aF.take n h2)
noncomputable def D.atom:D→Bool
 | .cq=>true | .bl _=>true | .int _=>true | .str _=>true | _=>false
theorem Rep.atom{K:PySem.W.Frag}{B B':List Addr}{H H':Hp}{d:D}{v:V}(a:d.atom=true)(h:Rep K B H d v):Rep K B' H' d v:=by
 cases d <;> first | exact h | cases a
inductive Sl where
 | un | val (d:D) | bld (ds:List D)
noncomputable abbrev aw:=List Sl
structure dX (K:PySem.W.Frag) (Z B:List Addr) (H:Hp) (σ:St) (δ:aw):Prop where
 len:δ.length=σ.length
 bs:∀a∈B,∃o,H a=some o
 zb:∀a∈Z,a∈B
 val:∀(i:Nat) (d:D),δ[i]? =some (.val d)→∃v,σ[i]? =some (some v)∧Rep K B H d v
 bld:∀(i:Nat) (ds:List D),δ[i]? =some (.bld ds)→∃a xs,σ[i]? =some (some (.ref a))∧a∈B∧a ∉ Z∧H a=some (.lst xs)∧aF K B H ds xs
 dis:∀(i j:Nat) (a:Addr) (ds es:List D),δ[i]? =some (.bld ds)→δ[j]? =some (.bld es)→σ[i]? =some (some (.ref a))→σ[j]? =some (some (.ref a))→i=j
theorem dX.same{K:PySem.W.Frag}{Z B:List Addr}{H H':Hp}{σ:St}{δ:aw}(E:dX K Z B H σ δ)(s:aW H H'):dX K Z B H' σ δ where
 len:=E.len
 bs:=fun a ha=>let⟨o,e⟩:=E.bs a ha;⟨o,s a o e⟩
 zb:=E.zb
 val:=fun i d e=>let⟨v,h1,h2⟩:=E.val i d e;⟨v,h1,h2.same s⟩
 bld:=fun i ds e=>let⟨a,xs,h1,h2,h3,h4,h5⟩:=E.bld i ds e;⟨a,xs,h1,h2,h3,s a _ h4,h5.same s⟩
 dis:=E.dis
noncomputable def j5(δ:aw):aw:=δ.map fun x=>match x with | .bld ds=> .val (.lst ds) | y=>y
theorem dX.j5{K:PySem.W.Frag}{Z B:List Addr}{H:Hp}{σ:St}{δ:aw}(E:dX K Z B H σ δ):dX K [] [] H σ (j5 δ) where
 len:=by unfold L2.j5;rw [List.length_map];exact E.len
 bs:=fun a ha=>by cases ha
 zb:=fun a ha=>by cases ha
 val:=fun i d e=>by
  unfold L2.j5 at e
  rw[List.getElem?_map] at e
  have p:dG B H [] H:=fun b o e _=>⟨e,by simp⟩
  cases q:δ[i]? with
  | none=>rw [q] at e;cases e
  | some x=>
    rw[q] at e
    cases x with
    | un=>cases e
    | val d'=>cases e;obtain⟨v,h1,h2⟩:=E.val i d q;exact⟨v,h1,h2.bq p⟩
    | bld ds=>
      cases e
      obtain⟨a,xs,h1,_,_,h4,h5⟩:=E.bld i ds q
      refine⟨.ref a,h1,?_⟩
      unfold Rep
      exact⟨a,xs,rfl, .inl ⟨by simp, .inl h4⟩,h5.bq p⟩
 bld:=fun i ds e=>by
  unfold L2.j5 at e
  rw[List.getElem?_map] at e
  cases q:δ[i]? with
  | none=>rw [q] at e;cases e
  | some x=>rw [q] at e;cases x <;> cases e
 dis:=fun i j a ds es e=>by
  unfold L2.j5 at e
  rw[List.getElem?_map] at e
  cases q:δ[i]? with
  | none=>rw [q] at e;cases e
  | some x=>rw [q] at e;cases x <;> cases e
theorem PE.imp{X:Cx}{e:Expr}{t t':TE}(h:PE X e t)(w:∀σ H Q,t' σ H Q→t σ H Q):PE X e t':=fun pins s σ H Q I hq=>h pins s σ H Q I (w σ H Q hq)
theorem PT.imp{X:Cx}{e:Expr}{t t':TT}(h:PT X e t)(w:∀σ H Q,t' σ H Q→t σ H Q):PT X e t':=fun pins s σ H Q I hq=>h pins s σ H Q I (w σ H Q hq)
theorem PA.imp{X:Cx}{e:List Expr}{t t':TA}(h:PA X e t)(w:∀σ H Q,t' σ H Q→t σ H Q):PA X e t':=fun pos pins s σ H Q I hq=>h pos pins s σ H Q I (w σ H Q hq)
theorem PS.imp{X:Cx}{e:Stmt}{t t':TS}(h:PS X e t)(w:∀D σ H,t' D σ H→t D σ H):PS X e t':=fun pins s σ H D I hq=>h pins s σ H D I (w D σ H hq)
theorem tV.imp{X:Cx}{e:List Stmt}{t t':TS}(h:tV X e t)(w:∀D σ H,t' D σ H→t D σ H):tV X e t':=fun pins s σ H D I hq=>h pins s σ H D I (w D σ H hq)
theorem PG.imp{X:Cx}{e:Expr}{t t':TG}(h:PG X e t)(w:∀v σ H Q,t' v σ H Q→t v σ H Q):PG X e t':=fun pins s σ H v u Q I r hq=>h pins s σ H v u Q I r (w v σ H Q hq)
theorem PI.imp{X:Cx}{tg e:Expr}{t t':TI}(h:PI X tg e t)(w:∀σ H Q,t' σ H Q→t σ H Q):PI X tg e t':=fun pins s σ H Q I hq=>h pins s σ H Q I (w σ H Q hq)
noncomputable abbrev FD:=aw→R D
noncomputable def tD(K:PySem.W.Frag)(f:FD):TE:=fun σ H Q=>∃Z B δ d,dX K Z B H σ δ∧f δ= .ok d∧∀v H',aW H H'→Rep K B H' d v→Q v H'
noncomputable def tN(K:PySem.W.Frag)(f:aw→R (List D)):TE:=fun σ H Q=>∃Z B δ ds,dX K Z B H σ δ∧f δ= .ok ds∧∀a xs H',aW H H'→H a=none→H' a=some (.lst xs)→aF K (a ::B) H' ds xs→Q (.ref a) H'
noncomputable def D5(K:PySem.W.Frag)(f:aw→R Bool):TT:=fun σ H Q=>∃Z B δ b,dX K Z B H σ δ∧f δ= .ok b∧∀H',aW H H'→Q b H'
noncomputable def J3(K:PySem.W.Frag)(f:aw→R (List D)):TA:=fun σ H Q=>∃Z B δ ds,dX K Z B H σ δ∧f δ= .ok ds∧∀vs H',aW H H'→aF K B H' ds vs→Q vs H'
noncomputable abbrev PD(X:Cx)(e:Expr)(f:FD):Prop:=PE X e (tD X.K f)
noncomputable abbrev PN(X:Cx)(e:Expr)(f:aw→R (List D)):Prop:=PE X e (tN X.K f)
noncomputable abbrev PB(X:Cx)(e:Expr)(f:aw→R Bool):Prop:=PT X e (D5 X.K f)
noncomputable abbrev zB(X:Cx)(es:List Expr)(f:aw→R (List D)):Prop:=PA X es (J3 X.K f)
section
variable {X:Cx}
noncomputable def eNew(f:aw→R (List D)):FD:=fun δ=>(f δ).bind fun ds=> .ok (.lst ds)
theorem FK{e:Expr}{f:aw→R (List D)}(h:PN X e f):PD X e (eNew f):=h.imp fun σ H Q ⟨Z,B,δ,d,E,hf,q⟩=>by
 obtain⟨ds,h1,h2⟩:=R.ak hf
 cases h2
 refine⟨Z,B,δ,ds,E,h1,fun a xs H' s n e r=>q _ H' s ?_⟩
 unfold Rep
 refine⟨a,xs,rfl, .inl ⟨fun ha=>?_, .inl e⟩,r.bq fun b o e nb=>⟨e,fun hb=>nb (List.mem_cons_of_mem _ hb)⟩⟩
 obtain⟨o,ho⟩:=E.bs a ha
 rw[n] at ho;cases ho
theorem t5{B:List Addr}{H:Hp}{p:Addr}{o:HO}(h:H p=none):dG B H (p ::B) (upd H p o):=fun b u e nb=>
 ⟨by rw[bg (cj e h)];exact e,fun hb=>by
   rcases List.mem_cons.mp hb with z | z
   ·exact cj e h z
   ·exact nb z⟩
noncomputable def je(f:FD):FD:=fun δ=>(f (j5 δ)).bind fun d=>R.bZ d.atom (.ok d)
theorem Cu{e:Expr}{f:FD}(h:PD X e f):PD X e (je f):=h.imp fun σ H Q ⟨Z,B,δ,d,E,hf,q⟩=>by
 obtain⟨d',h1,h2⟩:=R.ak hf
 obtain⟨ha,h3⟩:=R.bp h2
 cases h3
 exact⟨[],[],L2.j5 δ,d,E.j5,h1,fun v H' s r=>q v H' s (r.atom ha)⟩
noncomputable def oG(f:aw→R Bool):aw→R Bool:=fun δ=>f (j5 δ)
noncomputable def ae(i:Nat):FD:=fun δ=>match δ[i]? with | some (.val d)=> .ok d | _=> .no
noncomputable def eC(d:D):FD:=fun _=> .ok d
theorem Gm(i:Nat){x:Str}{pos:Pos}(hN:X.N[i]? =some x:=by rfl)(hv:Ee X.env.scope x:=by first | exact Or.inl rfl | exact Or.inr (Or.inl rfl) | exact Or.inr (Or.inr rfl))(hd:(x==("__debug__":Str))=false:=by decide)
 (hcd:(x==("__classdict__":Str))=false:=by decide):PD X (.Name x pos) (ae i):=(sG hN hv hd hcd).imp fun σ H Q ⟨Z,B,δ,d,E,hf,q⟩=>by
 unfold ae at hf
 split at hf
 ·rename_i d' e
  cases hf
  obtain⟨v,h1,h2⟩:=E.val i d e
  exact⟨v,h1,q v H (aW.refl H) h2⟩
 ·cases hf
theorem ng{e:Expr}{v:V}{d:D}(h:PE X e (tC v))(r:∀B H,Rep X.K B H d v):PD X e (eC d):=h.imp fun σ H Q ⟨Z,B,δ,d',E,hf,q⟩=>by
 cases hf
 exact q v H (aW.refl H) (r B H)
theorem EB{i j pos}:PD X (.Constant (.int i) j pos) (eC (.int i)):=ng pZ fun _ _=>by unfold Rep;rfl
theorem Ie{b j pos}:PD X (.Constant (.bool b) j pos) (eC (.bl b)):=ng Hb fun _ _=>by unfold Rep;rfl
theorem Ge{j pos}:PD X (.Constant .none j pos) (eC .cq):=ng Fw fun _ _=>by unfold Rep;rfl
theorem Fv{x j pos}:PD X (.Constant (.str x) j pos) (eC (.str x)):=ng qg fun _ _=>by unfold Rep;rfl
noncomputable def Glob(K:PySem.W.Frag)(mg:Str→Option Value)(x:Str)(d:D):Prop:=∃(u:Value) (v:V),mg x=some u∧RelV v u∧∀B H,Rep K B H d v
noncomputable def aD:aw→R (List D):=fun _=> .ok []
noncomputable def aq(f:FD)(g:aw→R (List D)):aw→R (List D):=fun δ=>(f δ).bind fun d=>(g δ).bind fun ds=> .ok (d ::ds)
theorem CO:zB X [] aD:=jy.imp fun σ H Q ⟨Z,B,δ,d,E,hf,q⟩=>by
 cases hf
 exact q [] H (aW.refl H) aF.nil
theorem Ab{e:Expr}{es:List Expr}{f:FD}{g:aw→R (List D)}(h:PD X e f)(t:zB X es g)(hs:starEach (e ::es) X.env=(false,eval e X.env) ::starEach es X.env:=by rfl):zB X (e ::es) (aq f g):=
 (f_ h t hs).imp fun σ H Q ⟨Z,B,δ,d,E,hf,q⟩=>by
   obtain⟨d1,h1,h2⟩:=R.ak hf
   obtain⟨ds,h3,h4⟩:=R.ak h2
   cases h4
   exact⟨Z,B,δ,d1,E,h1,fun v H1 s1 r1=>⟨Z,B,δ,ds,E.same s1,h3,fun vs H2 s2 r2=>q _ H2 (s1.trans s2) (aF.cons (r1.same s2) r2)⟩⟩
noncomputable def eK(g:aw→R (List D)):FD:=fun δ=>(g δ).bind fun ds=>R.bZ (decide (ds.length≤sizeLine)) (.ok (.tup ds))
noncomputable def dM(g:aw→R (List D)):aw→R (List D):=fun δ=>(g δ).bind fun ds=>R.bZ (decide (ds.length≤sizeLine)) (.ok ds)
theorem aY{H:Hp}{p:Addr}{o:HO}(h:H p=none):aW H (upd H p o):=fun b u e=>by rw[bg (cj e h)];exact e
theorem F7{es:List Expr}{g:aw→R (List D)}{x1 pos}(h:zB X es g):PD X (.Tuple es x1 pos) (eK g):=(Ae h).imp fun σ H Q ⟨Z,B,δ,d,E,hf,q⟩=>by
 obtain⟨ds,h1,h2⟩:=R.ak hf
 obtain⟨hl,h3⟩:=R.bp h2
 cases h3
 refine⟨Z,B,δ,ds,E,h1,fun vs H1 s1 r1=>⟨by rw[←r1.length];exact of_decide_eq_true hl,fun p hp=>q _ _ (s1.trans (aY hp)) ?_⟩⟩
 unfold Rep
 refine⟨p,vs,rfl, .inl ⟨fun ha=>?_, .inl bb⟩,r1.same (aY hp)⟩
 obtain⟨o,ho⟩:=(E.same s1).bs p ha
 rw[hp] at ho;cases ho
theorem Fe{es:List Expr}{g:aw→R (List D)}{pos}(h:zB X es g):PN X (.List es pos) (dM g):=(AE h).imp fun σ H Q ⟨Z,B,δ,d,E,hf,q⟩=>by
 obtain⟨ds,h1,h2⟩:=R.ak hf
 obtain⟨hl,h3⟩:=R.bp h2
 cases h3
 exact⟨Z,B,δ,_,E,h1,fun vs H1 s1 r1=>⟨by rw[←r1.length];exact of_decide_eq_true hl,fun p hp=>q p vs _ (s1.trans (aY hp)) (s1.free hp) bb (r1.bq (t5 hp))⟩⟩
noncomputable def jA(X:Cx)(f:Value→Value→Sem Value)(g:D→D→R D):Prop:=
 ∀(pins:List (Addr × Obj)) (s:Shared) (σ:St) (H:Hp) (B:List Addr) (da db d:D) (x y:V) (v u:Value),Inv X pins σ H s→(∀a∈B,∃o,H a=some o)→RelV x v→RelV y u→Rep X.K B H da x→Rep X.K B H db y→g da db= .ok d→
  wpAny (model X.prog X.w) X.A (f v u) (EP X pins σ fun z H'=>aW H H'∧Rep X.K B H' d z) X.xe s
noncomputable def e2(g:D→D→R D)(fa fb:FD):FD:=fun δ=>(fa δ).bind fun a=>(fb δ).bind fun b=>g a b
theorem jA.r{f:Value→Value→Sem Value}{g:D→D→R D}(h:jA X f g):kz X f (fun x y H Q=>∃B da db d,(∀a∈B,∃o,H a=some o)∧Rep X.K B H da x∧Rep X.K B H db y∧g da db= .ok d∧∀z H',aW H H'→Rep X.K B H' d z→Q z H'):=by
 intro pins s σ H x y v u Q I rx ry ⟨B,da,db,d,hb,ha,hb',hg,q⟩
 exact dW (h pins s σ H B da db d x y v u I hb rx ry ha hb' hg) fun z s' ⟨zv,H',I',r',s1,r1⟩=>⟨zv,H',I',r',q zv H' s1 r1⟩
theorem Gj{K:PySem.W.Frag}{g:D→D→R D}{fa fb:FD}{σ:St}{H:Hp}{Q:VK}(h:tD K (e2 g fa fb) σ H Q) :
 GN (fun x y H Q=>∃B da db d,(∀a∈B,∃o,H a=some o)∧Rep K B H da x∧Rep K B H db y∧g da db= .ok d∧∀z H',aW H H'→Rep K B H' d z→Q z H') (tD K fa) (tD K fb) σ H Q:=by
 obtain⟨Z,B,δ,d,E,hf,q⟩:=h
 obtain⟨d1,h1,h2⟩:=R.ak hf
 obtain⟨d2,h3,h4⟩:=R.ak h2
 exact⟨Z,B,δ,d1,E,h1,fun v1 H1 s1 r1=>⟨Z,B,δ,d2,E.same s1,h3,fun v2 H2 s2 r2=>⟨B,d1,d2,d,(E.same (s1.trans s2)).bs,r1.same s2,r2,h4,fun z H' s3 r3=>q z H' (s1.trans (s2.trans s3)) r3⟩⟩⟩
theorem HV{op:Operator}{g:D→D→R D}{a b:Expr}{fa fb:FD}{pos:Pos}(ho:jA X (binaryOp op) g)(ha:PD X a fa)(hb:PD X b fb):PD X (.BinOp a op b pos) (e2 g fa fb):=
 (xf ho.r ha hb).imp fun σ H Q h=>Gj h
theorem Ep{op:CmpOp}{g:D→D→R D}{a b:Expr}{fa fb:FD}{pos:Pos}(ho:jA X (compareOp op) g)(ha:PD X a fa)(hb:PD X b fb)(hm:behindInMarks op b=false):PD X (.Compare a [op] [b] pos) (e2 g fa fb):=
 (w_ ho.r ha hb hm).imp fun σ H Q h=>Gj h
noncomputable def b2(g:D→D→R D)(fa fb:FD):aw→R Bool:=fun δ=>(e2 g fa fb δ).bind fun d=>match d with | .bl b=> .ok b | _=> .no
theorem FR{op:CmpOp}{g:D→D→R D}{a b:Expr}{fa fb:FD}{pos:Pos}(ho:jA X (compareOp op) g)(ha:PD X a fa)(hb:PD X b fb)(hm:behindInMarks op b=false):PB X (.Compare a [op] [b] pos) (b2 g fa fb):=
 (xU ho.r ha hb hm).imp fun σ H Q ⟨Z,B,δ,b,E,hf,q⟩=>by
   obtain⟨d,h1,h2⟩:=R.ak hf
   cases d with
   | bl k=>
     cases h2
     exact Gj (g:=g) (Q:=fun x H'=>∃k,x= .bl k∧Q k H') ⟨Z,B,δ, .bl b,E,h1,fun v H' s r=>⟨b,by unfold Rep at r;exact r,q H' s⟩⟩
   | _=>cases h2
noncomputable def Jj(g g':D→D→R D)(fa fb fc:FD):FD:=fun δ=>(fa δ).bind fun a=>(fb δ).bind fun b=>(g a b).bind fun r=>match r with
 | .bl true=>(fc δ).bind fun c=>g' b c
 | .bl false=> .ok (.bl false)
 | _=> .no
noncomputable def ql:D→R Bool
 | .cq=> .ok false
 | .bl b=> .ok b
 | .int i=> .ok (i !=0)
 | .str x=>R.bZ (decide (x.length≤sizeLine)) (.ok ((x.length:Int) !=0))
 | .lst ds=> .ok (!ds.isEmpty)
 | .tup ds=> .ok (!ds.isEmpty)
 | .dct _ _=> .no
noncomputable def hV(f:FD):aw→R Bool:=fun δ=>(f δ).bind ql
theorem aF.isEmpty{K:PySem.W.Frag}{B:List Addr}{H:Hp}{ds:List D}{xs:List V}(h:aF K B H ds xs):ds.isEmpty=xs.isEmpty:=by
 have:=h.length
 cases ds <;> cases xs <;> simp_all
theorem Fx{K:PySem.W.Frag}{B:List Addr}{H:Hp}{d:D}{v:V}{b:Bool}(r:Rep K B H d v)(h:ql d= .ok b):Fi K v H b:=by
 cases d with
 | cq=>unfold Rep at r;subst r;cases h;exact rfl
 | bl k=>unfold Rep at r;subst r;cases h;exact rfl
 | int i=>unfold Rep at r;subst r;cases h;exact rfl
 | str x=>unfold Rep at r;subst r;obtain⟨h1,h2⟩:=R.bp h;cases h2;exact⟨of_decide_eq_true h1,rfl⟩
 | lst ds=>unfold Rep at r;obtain⟨a,xs,rfl,l,r⟩:=r;cases h;exact .inl ⟨xs,l.sq,by rw[r.isEmpty]⟩
 | tup ds=>unfold Rep at r;obtain⟨a,xs,rfl,l,r⟩:=r;cases h;exact .inr (.inl ⟨xs,l.sq,by rw[r.isEmpty]⟩)
 | dct _ _=>cases h
theorem Gs{a:Expr}{f:FD}(ha:PD X a f)(he:∀whole,isTrue a X.env whole=(do let v ←whole;standAt a.pos;holding [v] (truthy v)):=by intro _;rfl):PB X a (hV f):=
 (By ha he).imp fun σ H Q ⟨Z,B,δ,b,E,hf,q⟩=>by
   obtain⟨d,h1,h2⟩:=R.ak hf
   exact⟨Z,B,δ,d,E,h1,fun v H' s r=>⟨b,Fx r h2,q H' s⟩⟩
noncomputable def j_(f g:aw→R Bool):aw→R Bool:=fun δ=>(f δ).bind fun b=>if b then g δ else .ok false
noncomputable def wG(f g:aw→R Bool):aw→R Bool:=fun δ=>(f δ).bind fun b=>if b then .ok true else g δ
noncomputable def jr(f:aw→R Bool):aw→R Bool:=fun δ=>(f δ).bind fun b=> .ok (!b)
noncomputable def B0(X:Cx)(e:Expr)(f:aw→R Bool):Prop:=PW X e (D5 X.K f)
theorem B0.pb{e:Expr}{f:aw→R Bool}(h:B0 X e f):PB X e f:=PW.pt h
theorem BH{a:Expr}{f:aw→R Bool}{pos:Pos}(h:PB X a f):B0 X (.BoolOp .And [a] pos) f:=xK h
theorem Dy{a:Expr}{f:aw→R Bool}{pos:Pos}(h:PB X a f):B0 X (.BoolOp .Or [a] pos) f:=Gp h
theorem C5{a b:Expr}{rest:List Expr}{f g:aw→R Bool}{pos:Pos}(ha:PB X a f)(hb:B0 X (.BoolOp .And (b ::rest) pos) g):B0 X (.BoolOp .And (a ::b ::rest) pos) (j_ f g):=by
 intro wh pins s σ H Q I ⟨Z,B,δ,k,E,hf,q⟩
 refine Bi ha hb wh pins s σ H Q I ?_
 obtain⟨c,h1,h2⟩:=R.ak hf
 refine⟨Z,B,δ,c,E,h1,fun H1 s1=>?_⟩
 cases c with
 | true=>rw [if_pos rfl] at h2 ⊢;exact⟨Z,B,δ,k,E.same s1,h2,fun H' s2=>q H' (s1.trans s2)⟩
 | false=>rw [if_neg (by decide)] at h2 ⊢;cases h2;exact q H1 s1
theorem Ex{a b:Expr}{rest:List Expr}{f g:aw→R Bool}{pos:Pos}(ha:PB X a f)(hb:B0 X (.BoolOp .Or (b ::rest) pos) g):B0 X (.BoolOp .Or (a ::b ::rest) pos) (wG f g):=by
 intro wh pins s σ H Q I ⟨Z,B,δ,k,E,hf,q⟩
 refine Hr ha hb wh pins s σ H Q I ?_
 obtain⟨c,h1,h2⟩:=R.ak hf
 refine⟨Z,B,δ,c,E,h1,fun H1 s1=>?_⟩
 cases c with
 | true=>rw [if_pos rfl] at h2 ⊢;cases h2;exact q H1 s1
 | false=>rw [if_neg (by decide)] at h2 ⊢;exact⟨Z,B,δ,k,E.same s1,h2,fun H' s2=>q H' (s1.trans s2)⟩
theorem GC{a:Expr}{f:aw→R Bool}{pos:Pos}(ha:PB X a f):PB X (.UnaryOp .Not a pos) (jr f):=(ET ha).imp fun σ H Q ⟨Z,B,δ,k,E,hf,q⟩=>by
 obtain⟨c,h1,h2⟩:=R.ak hf
 cases h2
 exact⟨Z,B,δ,c,E,h1,fun H1 s1=>q H1 s1⟩
noncomputable def zd(f:FD):aw→R Bool:=fun δ=>(f δ).bind fun d=>match d with | .bl b=> .ok b | _=> .no
noncomputable def kC(f g:FD):FD:=fun δ=>(zd f δ).bind fun b=>if b then g δ else .ok (.bl false)
noncomputable def Eb(f g:FD):FD:=fun δ=>(zd f δ).bind fun b=>if b then .ok (.bl true) else g δ
noncomputable def qw(f:FD):FD:=fun δ=>(zd f δ).bind fun b=> .ok (.bl (!b))
theorem Bb{f:FD}{δ:aw}{b:Bool}(h:zd f δ= .ok b):f δ= .ok (.bl b):=by
 obtain⟨d,h1,h2⟩:=R.ak h
 cases d with
 | bl k=>cases h2;exact h1
 | _=>cases h2
theorem Gy{a:Expr}{op}{f:FD}{pos:Pos}(h:PD X a f):PD X (.BoolOp op [a] pos) f:=Af h
theorem F6{a b:Expr}{rest:List Expr}{f g:FD}{pos:Pos}(ha:PD X a f)(hb:PD X (.BoolOp .And (b ::rest) pos) g):PD X (.BoolOp .And (a ::b ::rest) pos) (kC f g):=(zC ha hb).imp fun σ H Q ⟨Z,B,δ,k,E,hf,q⟩=>by
 obtain⟨c,h1,h2⟩:=R.ak hf
 refine⟨Z,B,δ, .bl c,E,Bb h1,fun v H1 s1 r1=>⟨c,by unfold Rep at r1;exact r1,?_⟩⟩
 cases c with
 | true=>rw [if_pos rfl] at h2 ⊢;exact⟨Z,B,δ,k,E.same s1,h2,fun v H' s2 r2=>q v H' (s1.trans s2) r2⟩
 | false=>rw [if_neg (by decide)] at h2 ⊢;cases h2;exact q _ H1 s1 (by unfold Rep;rfl)
theorem Fo{a:Expr}{f:FD}{pos:Pos}(ha:PD X a f):PD X (.UnaryOp .Not a pos) (qw f):=(F9 ha).imp fun σ H Q ⟨Z,B,δ,k,E,hf,q⟩=>by
 obtain⟨c,h1,h2⟩:=R.ak hf
 cases h2
 exact⟨Z,B,δ, .bl c,E,Bb h1,fun v H1 s1 r1=>⟨c,by unfold Rep at r1;exact r1,q _ H1 s1 (by unfold Rep;rfl)⟩⟩
noncomputable def wq(c:aw→R Bool)(f g:FD):FD:=fun δ=>(c δ).bind fun b=>if b then f δ else g δ
theorem Hj{c a b:Expr}{fc:aw→R Bool}{f g:FD}{pos:Pos}(hc:PB X c fc)(ha:PD X a f)(hb:PD X b g):PD X (.IfExp c a b pos) (wq fc f g):=(A9 hc ha hb).imp fun σ H Q ⟨Z,B,δ,k,E,hf,q⟩=>by
 obtain⟨c,h1,h2⟩:=R.ak hf
 refine⟨Z,B,δ,c,E,h1,fun H1 s1=>?_⟩
 cases c with
 | true=>rw [if_pos rfl] at h2 ⊢;exact⟨Z,B,δ,k,E.same s1,h2,fun v H' s2 r2=>q v H' (s1.trans s2) r2⟩
 | false=>rw [if_neg (by decide)] at h2 ⊢;exact⟨Z,B,δ,k,E.same s1,h2,fun v H' s2 r2=>q v H' (s1.trans s2) r2⟩
noncomputable def cP(X:Cx)(f:Value)(g:List D→R D):Prop:=
 ∀(pins:List (Addr × Obj)) (s:Shared) (σ:St) (H:Hp) (B:List Addr) (ds:List D) (d:D) (xs:List V) (us:List Value),Inv X pins σ H s→(∀a∈B,∃o,H a=some o)→Vals xs us→aF X.K B H ds xs→g ds= .ok d→
  wpAny (model X.prog X.w) X.A (call f us) (EP X pins σ fun z H'=>aW H H'∧Rep X.K B H' d z) X.xe s
noncomputable def aA(g:List D→R D)(fs:aw→R (List D)):FD:=fun δ=>(fs δ).bind g
theorem cP.r{f:Value}{g:List D→R D}(h:cP X f g):jJ X f (fun xs H Q=>∃B ds d,(∀a∈B,∃o,H a=some o)∧aF X.K B H ds xs∧g ds= .ok d∧∀z H',aW H H'→Rep X.K B H' d z→Q z H'):=by
 intro pins s σ H xs us Q I rx ⟨B,ds,d,hb,hr,hg,q⟩
 exact dW (h pins s σ H B ds d xs us I hb rx hr hg) fun z s' ⟨zv,H',I',r',s1,r1⟩=>⟨zv,H',I',r',q zv H' s1 r1⟩
theorem ye{K:PySem.W.Frag}{g:List D→R D}{fs:aw→R (List D)}{σ:St}{H:Hp}{Q:VK}(h:tD K (aA g fs) σ H Q) :
 J3 K fs σ H fun vs H1=>∃B ds d,(∀a∈B,∃o,H1 a=some o)∧aF K B H1 ds vs∧g ds= .ok d∧∀z H',aW H1 H'→Rep K B H' d z→Q z H':=by
 obtain⟨Z,B,δ,d,E,hf,q⟩:=h
 obtain⟨ds,h1,h2⟩:=R.ak hf
 exact⟨Z,B,δ,ds,E,h1,fun vs H1 s1 r1=>⟨B,ds,d,(E.same s1).bs,r1,h2,fun z H' s2 r2=>q z H' (s1.trans s2) r2⟩⟩
theorem Bg{g:List D→R D}{x:Str}{id:String}{p pos:Pos}{e:Expr}{es:List Expr}{fs:aw→R (List D)}(hc:cP X (.builtin id) g)(hg:Gl X x)(hm:X.mg x=none)(hv:bootBuiltins x=some (.builtin id))(ha:zB X (e ::es) fs)(hn:x≠"__name__":=by decide)(hdb:(x==("__debug__":Str))=false:=by decide)
 (he:starEach (e ::es) X.env=(false,eval e X.env) ::starEach es X.env:=by rfl) (hpl:(backTo pos (starEach es X.env)).any (·.1)=false:=by rfl):PD X (.Call (.Name x p) (e ::es) [] pos) (aA g fs):=
 (qJ hc.r hg hm hv ha hn hdb he hpl).imp fun σ H Q h=>ye h
theorem yZ{g:List D→R D}{x:Str}{T:String}{p pos:Pos}{e:Expr}{es:List Expr}{fs:aw→R (List D)}(hc:cP X (.type T) g)(hg:Gl X x)(hm:X.mg x=none)(hv:bootBuiltins x=some (.type T))(ha:zB X (e ::es) fs)(hn:x≠"__name__":=by decide)(hdb:(x==("__debug__":Str))=false:=by decide)
 (he:starEach (e ::es) X.env=(false,eval e X.env) ::starEach es X.env:=by rfl) (hpl:(backTo pos (starEach es X.env)).any (·.1)=false:=by rfl):PD X (.Call (.Name x p) (e ::es) [] pos) (aA g fs):=
 (yN hc.r hg hm hv ha hn hdb he hpl).imp fun σ H Q h=>ye h
noncomputable def zr(K:PySem.W.Frag)(n:Nat)(g:List D→R D):Sp:=fun vs H Q _=>vs.length=n∧∃B ds d,(∀a∈B,∃o,H a=some o)∧aF K B H ds vs∧g ds= .ok d∧∀z H',aW H H'→Rep K B H' d z→Q z H'
theorem CJ{g:List D→R D}{k n:Nat}{f:Addr}{fd:FuncData}{ps:List Str}{x:Str}{p pos:Pos}{e:Expr}{es:List Expr}{fs:aw→R (List D)}
 (F:ip X.prog X.w X.K X.mg X.base qO k f fd ps (zr X.K n g)) (hr:eB k X.A) (hg:Gl X x) (hm:X.mg x=some (.ref f)) (hk:PySem.W.keepIn X.K (.ref f)=true) (hb:Binds X.K fd ps []) (ha:zB X (e ::es) fs)
 (hn:∀δ ds,fs δ= .ok ds→ds.length=n) (hdb:(x==("__debug__":Str))=false:=by decide) (he:starEach (e ::es) X.env=(false,eval e X.env) ::starEach es X.env:=by rfl) (hpl:(backTo pos (starEach es X.env)).any (·.1)=false:=by rfl) :
 PD X (.Call (.Name x p) (e ::es) [] pos) (aA g fs):=
 (sT F hr hg hm hk hb .nil vq ha hdb he hpl).imp fun σ H Q ⟨Z,B,δ,d,E,hf,q⟩=>by
   obtain⟨ds,h1,h2⟩:=R.ak hf
   refine⟨Z,B,δ,ds,E,h1,fun vs H1 s1 r1=>?_⟩
   show zr X.K n g (vs++[]) H1 Q E0
   rw[List.append_nil]
   exact⟨by rw[←r1.length];exact hn δ ds h1,B,ds,d,(E.same s1).bs,r1,h2,fun z H' s2 r2=>q z H' (s1.trans s2) r2⟩
end
end L2
end
section
set_option maxRecDepth 100000
set_option maxHeartbeats 4000000
namespace L2
open PySem PySem.Spec PyProof.Rows
inductive Out where
 | nx (δ:aw) | rt (d:D)
noncomputable abbrev FS:=aw→R Out
structure Ev (Z B:List Addr) (H:Hp) (B':List Addr) (H':Hp):Prop where
 bq:dG B H B' H'
 zs:∀b o,H b=some o→b∈Z→H' b=some o∧b∈B'
theorem Ev.refl(Z B:List Addr)(H:Hp)(zb:∀a∈Z,a∈B):Ev Z B H B H:=⟨dG.refl B H,fun b o e z=>⟨e,zb b z⟩⟩
theorem Ev.trans{Z B B' B'':List Addr}{H H' H'':Hp}(a:Ev Z B H B' H')(b:Ev Z B' H' B'' H''):Ev Z B H B'' H'':=
 ⟨a.bq.trans b.bq,fun c o e z=>let⟨e1,_⟩:=a.zs c o e z;b.zs c o e1 z⟩
theorem Ev.same{Z B:List Addr}{H H':Hp}(zb:∀a∈Z,a∈B)(s:aW H H'):Ev Z B H B H':=⟨dG.same s,fun b o e z=>⟨s b o e,zb b z⟩⟩
noncomputable def wW(K:PySem.W.Frag)(Z B:List Addr)(H:Hp)(D:Ends):Out→Prop
 | .nx δ'=>∀σ' B' H',Ev Z B H B' H'→dX K Z B' H' σ' δ'→D.nx σ' H'
 | .rt d=>∀v B' H',Ev Z B H B' H'→(∀a∈Z,a∈B')→Rep K B' H' d v→D.rt v H'
theorem wW.ev{K:PySem.W.Frag}{Z B B1:List Addr}{H H1:Hp}{D:Ends}{o:Out}(q:wW K Z B H D o)(ev:Ev Z B H B1 H1):wW K Z B1 H1 D o:=by
 cases o with
 | nx δ'=>exact fun σ' B' H' ev' E'=>q σ' B' H' (ev.trans ev') E'
 | rt d=>exact fun v B' H' ev' z r=>q v B' H' (ev.trans ev') z r
noncomputable def sD(K:PySem.W.Frag)(F:FS):TS:=fun D σ H=>∃Z B δ o,dX K Z B H σ δ∧F δ= .ok o∧wW K Z B H D o
noncomputable abbrev AI(X:Cx)(st:Stmt)(F:FS):Prop:=PS X st (sD X.K F)
noncomputable abbrev pe(X:Cx)(st:List Stmt)(F:FS):Prop:=tV X st (sD X.K F)
section
variable {X:Cx}
noncomputable def fH:FS:=fun δ=> .ok (.nx δ)
noncomputable def cF(F G:FS):FS:=fun δ=>(F δ).bind fun o=>match o with | .nx δ'=>G δ' | .rt d=> .ok (.rt d)
theorem Dk:pe X [] fH:=xQ.imp fun D σ H ⟨Z,B,δ,o,E,hf,q⟩=>by
 cases hf
 exact q σ B H (Ev.refl Z B H E.zb) E
theorem E9{K:PySem.W.Frag}{F G:FS}{D:Ends}{σ:St}{H:Hp}(h:sD K (cF F G) D σ H):HB (sD K F) (sD K G) D σ H:=by
 obtain⟨Z,B,δ,o,E,hf,q⟩:=h
 obtain⟨o1,h1,h2⟩:=R.ak hf
 refine⟨Z,B,δ,o1,E,h1,?_⟩
 cases o1 with
 | nx δ1=>
   intro σ1 B1 H1 ev E1
   refine⟨Z,B1,δ1,o,E1,h2,?_⟩
   cases o with
   | nx δ2=>exact fun σ' B' H' ev' E'=>q σ' B' H' (ev.trans ev') E'
   | rt d=>exact fun v B' H' ev' z r=>q v B' H' (ev.trans ev') z r
 | rt d=>
   cases h2
   exact q
theorem BD{st:Stmt}{rest:List Stmt}{F G:FS}(h1:AI X st F)(h2:pe X rest G):pe X (st ::rest) (cF F G):=(uW h1 h2).imp fun D σ H h=>E9 h
theorem CB{st:Stmt}{F:FS}(h1:AI X st F):pe X [st] F:=xo h1
theorem dX.set{K:PySem.W.Frag}{Z B:List Addr}{H:Hp}{σ:St}{δ:aw}(E:dX K Z B H σ δ){i:Nat}{d:D}{v:V}(hi:i < σ.length)(r:Rep K B H d v):dX K Z B H (σ.set i (some v)) (δ.set i (.val d)) where
 len:=by rw[List.length_set,List.length_set];exact E.len
 bs:=E.bs
 zb:=E.zb
 val:=fun j d' e=>by
  by_cases h:i=j
  ·subst h
   rw[List.getElem?_set_self (by rw[E.len];exact hi)] at e
   cases e
   exact⟨v,List.getElem?_set_self hi,r⟩
  ·rw[List.getElem?_set_ne h] at e ⊢
   exact E.val j d' e
 bld:=fun j ds e=>by
  by_cases h:i=j
  ·subst h
   rw[List.getElem?_set_self (by rw[E.len];exact hi)] at e
   cases e
  ·rw[List.getElem?_set_ne h] at e ⊢
   exact E.bld j ds e
 dis:=fun j k a ds es e1 e2 e3 e4=>by
  by_cases h:i=j
  ·subst h
   rw[List.getElem?_set_self (by rw[E.len];exact hi)] at e1
   cases e1
  ·by_cases h':i=k
   ·subst h'
    rw[List.getElem?_set_self (by rw[E.len];exact hi)] at e2
    cases e2
   ·rw[List.getElem?_set_ne h] at e1 e3
    rw[List.getElem?_set_ne h'] at e2 e4
    exact E.dis j k a ds es e1 e2 e3 e4
theorem dX.setB{K:PySem.W.Frag}{Z B:List Addr}{H:Hp}{σ:St}{δ:aw}(E:dX K Z B H σ δ){i:Nat}{ds:List D}{a:Addr}{xs:List V}(hi:i < σ.length)(hB:a∈B)(hZ:a ∉ Z)(hH:H a=some (.lst xs))(r:aF K B H ds xs)
 (new:∀j es,j≠i→δ[j]? =some (.bld es)→σ[j]?≠some (some (.ref a))):dX K Z B H (σ.set i (some (.ref a))) (δ.set i (.bld ds)) where
 len:=by rw[List.length_set,List.length_set];exact E.len
 bs:=E.bs
 zb:=E.zb
 val:=fun j d' e=>by
  by_cases h:i=j
  ·subst h
   rw[List.getElem?_set_self (by rw[E.len];exact hi)] at e
   cases e
  ·rw[List.getElem?_set_ne h] at e ⊢
   exact E.val j d' e
 bld:=fun j es e=>by
  by_cases h:i=j
  ·subst h
   rw[List.getElem?_set_self (by rw[E.len];exact hi)] at e
   cases e
   exact⟨a,xs,List.getElem?_set_self hi,hB,hZ,hH,r⟩
  ·rw[List.getElem?_set_ne h] at e ⊢
   exact E.bld j es e
 dis:=fun j k b ds1 es1 e1 e2 e3 e4=>by
  by_cases h:i=j
  ·subst h
   by_cases h':i=k
   ·exact h'
   ·rw[List.getElem?_set_self hi] at e3
    cases e3
    rw[List.getElem?_set_ne h'] at e2 e4
    exact absurd e4 (new k es1 (Ne.symm h') e2)
  ·by_cases h':i=k
   ·subst h'
    rw[List.getElem?_set_self hi] at e4
    cases e4
    rw[List.getElem?_set_ne h] at e1 e3
    exact absurd e3 (new j ds1 (Ne.symm h) e1)
   ·rw[List.getElem?_set_ne h] at e1 e3
    rw[List.getElem?_set_ne h'] at e2 e4
    exact E.dis j k b ds1 es1 e1 e2 e3 e4
noncomputable def fG(i:Nat)(f:FD):FS:=fun δ=>(f δ).bind fun d=>R.bZ (decide (i < δ.length)) (.ok (.nx (δ.set i (.val d))))
theorem zW{K:PySem.W.Frag}{i:Nat}{f:FD}{D:Ends}{σ:St}{H:Hp}(h:sD K (fG i f) D σ H):yy (tD K f) (pN i) D σ H:=by
 obtain⟨Z,B,δ,o,E,hf,q⟩:=h
 obtain⟨d,h1,h2⟩:=R.ak hf
 obtain⟨hi,h3⟩:=R.bp h2
 cases h3
 refine⟨Z,B,δ,d,E,h1,fun v H1 s1 r1=>?_⟩
 exact q _ B H1 (Ev.same E.zb s1) ((E.same s1).set (by rw[←E.len];exact of_decide_eq_true hi) r1)
theorem CQ{i:Nat}{x:Str}{e:Expr}{f:FD}{pos pos':Pos}(hN:X.N.Nodup)(hi:X.N[i]? =some x)(hx:Loc X.env.scope x)(he:PD X e f)(hs:swapsWith e (some (.Name x pos')) pos.line X.env=pure false:=by rfl)(hf:X.fn x=true∨X.env.scope.names.lookup x=some .local:=by first | exact .inl rfl | exact .inr rfl | assumption) :
 AI X (.Assign [.Name x pos'] e pos) (fG i f):=(vJ hN hi hx he hs hf).imp fun D σ H h=>zW h
noncomputable def pj(i:Nat)(f:aw→R (List D)):FS:=fun δ=>(f δ).bind fun ds=>R.bZ (decide (i < δ.length)) (.ok (.nx (δ.set i (.bld ds))))
theorem GB{K:PySem.W.Frag}{i:Nat}{f:aw→R (List D)}{D:Ends}{σ:St}{H:Hp}(h:sD K (pj i f) D σ H):yy (tN K f) (pN i) D σ H:=by
 obtain⟨Z,B,δ,o,E,hf,q⟩:=h
 obtain⟨ds,h1,h2⟩:=R.ak hf
 obtain⟨hi,h3⟩:=R.bp h2
 cases h3
 refine⟨Z,B,δ,ds,E,h1,fun a xs H1 s1 n e r=>?_⟩
 have E1:=E.same s1
 have aB:a ∉ B:=fun ha=>by obtain⟨o,ho⟩:=E.bs a ha;rw [n] at ho;cases ho
 have nZ:a ∉ Z:=fun ha=>aB (E.zb a ha)
 have p0:dG B H (a ::B) H1:=fun b o e' nb=>⟨s1 b o e',fun hb=>by
  rcases List.mem_cons.mp hb with z | z
  ·subst z;rw [n] at e';cases e'
  ·exact nb z⟩
 have E2:dX K Z (a ::B) H1 σ δ:={
  len:=E.len
  bs:=fun b hb=>by
   rcases List.mem_cons.mp hb with z | z
   ·subst z;exact⟨_,e⟩
   ·exact E1.bs b z
  zb:=fun b hb=>List.mem_cons_of_mem _ (E.zb b hb)
  val:=fun j d e=>let⟨v,q1,q2⟩:=E.val j d e;⟨v,q1,q2.bq p0⟩
  bld:=fun j es e=>let⟨b,ys,q1,q2,q3,q4,q5⟩:=E.bld j es e;⟨b,ys,q1,List.mem_cons_of_mem _ q2,q3,s1 b _ q4,q5.bq p0⟩
  dis:=E.dis}
 refine q _ (a ::B) H1 ⟨p0,fun b o e' hb=>⟨s1 b o e',List.mem_cons_of_mem _ (E.zb b hb)⟩⟩ (E2.setB (by rw[←E.len];exact of_decide_eq_true hi) List.mem_cons_self nZ e r fun j es hj ej hσ=>?_)
 obtain⟨b,ys,q1,_,_,q4,_⟩:=E.bld j es ej
 rw[hσ] at q1
 cases q1
 rw[n] at q4;cases q4
theorem Ci{i:Nat}{x:Str}{e:Expr}{f:aw→R (List D)}{pos pos':Pos}(hN:X.N.Nodup)(hi:X.N[i]? =some x)(hx:Loc X.env.scope x)(he:PN X e f)(hs:swapsWith e (some (.Name x pos')) pos.line X.env=pure false:=by rfl)(hf:X.fn x=true∨X.env.scope.names.lookup x=some .local:=by first | exact .inl rfl | exact .inr rfl | assumption) :
 AI X (.Assign [.Name x pos'] e pos) (pj i f):=(vJ hN hi hx he hs hf).imp fun D σ H h=>GB h
theorem dX.grow{K:PySem.W.Frag}{Z B:List Addr}{H:Hp}{σ:St}{δ:aw}(E:dX K Z B H σ δ){i:Nat}{ds es:List D}{a:Addr}{xs ys:List V}(hd:δ[i]? =some (.bld ds))(hσ:σ[i]? =some (some (.ref a)))(hB:a∈B)(hH:H a=some (.lst xs))(r:aF K B H es ys) :
 dX K Z B (upd H a (.lst ys)) σ (δ.set i (.bld es))∧dG B H B (upd H a (.lst ys)):=by
 have p:dG B H B (upd H a (.lst ys)):=fun b o e nb=>⟨by rw[bg (fun(z:b=a)=>nb (by rw[z];exact hB))];exact e,nb⟩
 have hi:i < δ.length:=(List.getElem?_eq_some_iff.mp hd).1
 refine⟨{
  len:=by rw[List.length_set];exact E.len
  bs:=fun b hb=>by
   by_cases z:b=a
   ·subst z;exact⟨_,bb⟩
   ·rw[bg z];exact E.bs b hb
  zb:=E.zb
  val:=fun j d e=>by
   by_cases h:i=j
   ·subst h;rw [List.getElem?_set_self hi] at e;cases e
   ·rw[List.getElem?_set_ne h] at e
    obtain⟨v,q1,q2⟩:=E.val j d e
    exact⟨v,q1,q2.bq p⟩
  bld:=fun j fs e=>by
   by_cases h:i=j
   ·subst h;rw [List.getElem?_set_self hi] at e;cases e
    obtain⟨b,zs,q1,q2,q3,_,_⟩:=E.bld i ds hd
    rw[hσ] at q1;cases q1
    exact⟨a,ys,hσ,hB,q3,bb,r.bq p⟩
   ·rw[List.getElem?_set_ne h] at e
    obtain⟨b,zs,q1,q2,q3,q4,q5⟩:=E.bld j fs e
    have ne:b≠a:=fun z=>by subst z;exact h (E.dis i j b ds fs hd e hσ q1)
    exact⟨b,zs,q1,q2,q3,by rw[bg ne];exact q4,q5.bq p⟩
  dis:=fun j k b ds1 es1 e1 e2 e3 e4=>by
   have f1:∃fs,δ[j]? =some (.bld fs):=by
    by_cases h:i=j
    ·subst h;exact⟨ds,hd⟩
    ·rw[List.getElem?_set_ne h] at e1;exact⟨_,e1⟩
   have f2:∃fs,δ[k]? =some (.bld fs):=by
    by_cases h:i=k
    ·subst h;exact⟨ds,hd⟩
    ·rw[List.getElem?_set_ne h] at e2;exact⟨_,e2⟩
   obtain⟨_,f1⟩:=f1
   obtain⟨_,f2⟩:=f2
   exact E.dis j k b _ _ f1 f2 e3 e4},p⟩
theorem Ev.grow{Z B:List Addr}{H:Hp}{a:Addr}{o:HO}(zb:∀a∈Z,a∈B)(hZ:a ∉ Z)(p:dG B H B (upd H a o)):Ev Z B H B (upd H a o):=
 ⟨p,fun b u e hb=>⟨by rw[bg (fun(z:b=a)=>hZ (by rw[←z];exact hb))];exact e,zb b hb⟩⟩
noncomputable def i9(δ:aw)(i:Nat):R (List D):=match δ[i]? with | some (.bld ds)=> .ok ds | _=> .no
theorem Av{δ:aw}{i:Nat}{ds:List D}(h:i9 δ i= .ok ds):δ[i]? =some (.bld ds):=by
 unfold i9 at h
 split at h
 ·rename_i q;cases h;exact q
 ·cases h
noncomputable def nu(i:Nat)(f:FD):FS:=fun δ=>(f δ).bind fun d=>(i9 δ i).bind fun ds=>R.bZ (decide (ds.length < sizeLine)) (.ok (.nx (δ.set i (.bld (ds++[d])))))
theorem Dn{i:Nat}{x:Str}{e:Expr}{f:FD}{npos apos cpos pos:Pos}(hN:X.N[i]? =some x)(hv:Ee X.env.scope x)(he:PD X e f)
 (hd:(x==("__debug__":Str))=false:=by decide) (hcd:(x==("__classdict__":Str))=false:=by decide)
 (hs:starEach [e] X.env=(false,eval e X.env) ::starEach [] X.env:=by rfl) (hline:(apos.endLine==cpos.line)=true:=by rfl)
 (hfew:((backTo cpos (starEach [e] X.env)).all (fun x=>!x.1) && (backToKw cpos (keywordEach [] X.env)).all (fun x=>x.1.isSome)
   && decide (([e]:List Expr).length+([]:List Keyword).length+(if([]:List Keyword).isEmpty then 0 else 1) < 30))=true:=by rfl)
 (hsw:swapsWith (.Call (.Attribute (.Name x npos) "append" apos) [e] [] cpos) none pos.line X.env=pure false:=by rfl)
 (hbase:attributeBase (.Name x npos) "append" X.env (eval (.Name x npos) X.env)=eval (.Name x npos) X.env:=by rfl) :
 AI X (.Expr (.Call (.Attribute (.Name x npos) "append" apos) [e] [] cpos) pos) (nu i f):=by
 refine(xI (BU (X:=X) PySem.F.plainAttrs_list PySem.F.slot_list_append PySem.F.type_list_append nG (sG hN hv hd hcd) (f_ he jy hs) hbase hfew hline hs) hsw).imp fun D σ H ⟨Z,B,δ,o,E,hf,q⟩=>?_
 obtain⟨d,h1,h2⟩:=R.ak hf
 obtain⟨ds,h3,h4⟩:=R.ak h2
 obtain⟨hl,h5⟩:=R.bp h4
 cases h5
 have hb:=Av h3
 obtain⟨a,xs,q1,q2,q3,q4,q5⟩:=E.bld i ds hb
 refine⟨.ref a,q1, .inl ⟨rfl,xs,mw.of q4⟩,⟨Z,B,δ,d,E,h1,fun v H1 s1 r1=>?_⟩⟩
 have E1:=E.same s1
 refine⟨a,xs,v,rfl,rfl,s1 a _ q4,by rw[←q5.length];exact of_decide_eq_true hl,?_⟩
 obtain⟨E2,p2⟩:=E1.grow (es:=ds++[d]) (ys:=xs++[v]) hb q1 q2 (s1 a _ q4) ((q5.same s1).append (aF.cons r1 aF.nil))
 exact q σ B _ ((Ev.same E.zb s1).trans (Ev.grow E.zb q3 p2)) E2
noncomputable def u_(i:Nat)(f:aw→R (List D)):FS:=fun δ=>(f δ).bind fun es=>(i9 δ i).bind fun ds=>R.bZ (decide (ds.length+es.length≤sizeLine)) (.ok (.nx (δ.set i (.bld (ds++es)))))
noncomputable def ik(i:Nat)(δ:aw):aw:=match δ[i]? with | some (.bld ds)=>δ.set i (.val (.lst ds)) | _=>δ
theorem dX.ik{K:PySem.W.Frag}{Z B:List Addr}{H:Hp}{σ:St}{δ:aw}(E:dX K Z B H σ δ)(i:Nat):∃B',Ev Z B H B' H∧dX K Z B' H σ (ik i δ):=by
 unfold L2.ik
 cases hd:δ[i]? with
 | none=>exact⟨B,Ev.refl Z B H E.zb,E⟩
 | some x=>
   cases x with
   | un=>exact⟨B,Ev.refl Z B H E.zb,E⟩
   | val d=>exact⟨B,Ev.refl Z B H E.zb,E⟩
   | bld ds=>
     obtain⟨a,xs,q1,q2,q3,q4,q5⟩:=E.bld i ds hd
     have hi:i < δ.length:=(List.getElem?_eq_some_iff.mp hd).1
     have p:dG B H (B.filter fun b=>decide (b≠a)) H:=fun b o e nb=>⟨e,fun hb=>nb (List.mem_filter.mp hb).1⟩
     have zb:∀b∈Z,b∈B.filter fun b=>decide (b≠a):=fun b hb=>List.mem_filter.mpr ⟨E.zb b hb,decide_eq_true fun z=>q3 (z▸hb)⟩
     refine⟨B.filter fun b=>decide (b≠a),⟨p,fun b o e hb=>⟨e,zb b hb⟩⟩,{
      len:=by rw[List.length_set];exact E.len
      bs:=fun b hb=>E.bs b (List.mem_filter.mp hb).1
      zb:=zb
      val:=fun j d e=>by
       by_cases h:i=j
       ·subst h;rw [List.getElem?_set_self hi] at e;cases e
        refine⟨.ref a,q1,?_⟩
        unfold Rep
        exact⟨a,xs,rfl, .inl ⟨fun hb=>by simpa using(List.mem_filter.mp hb).2, .inl q4⟩,q5.bq p⟩
       ·rw[List.getElem?_set_ne h] at e
        obtain⟨v,z1,z2⟩:=E.val j d e
        exact⟨v,z1,z2.bq p⟩
      bld:=fun j fs e=>by
       by_cases h:i=j
       ·subst h;rw [List.getElem?_set_self hi] at e;cases e
       ·rw[List.getElem?_set_ne h] at e
        obtain⟨b,zs,z1,z2,z3,z4,z5⟩:=E.bld j fs e
        exact⟨b,zs,z1,List.mem_filter.mpr ⟨z2,decide_eq_true fun z=>by subst z;exact h (E.dis i j b ds fs hd e q1 z1)⟩,z3,z4,z5.bq p⟩
      dis:=fun j k b ds1 es1 e1 e2 e3 e4=>by
       by_cases h:i=j
       ·subst h;rw [List.getElem?_set_self hi] at e1;cases e1
       ·by_cases h':i=k
        ·subst h';rw [List.getElem?_set_self hi] at e2;cases e2
        ·rw[List.getElem?_set_ne h] at e1
         rw[List.getElem?_set_ne h'] at e2
         exact E.dis j k b ds1 es1 e1 e2 e3 e4}⟩
noncomputable def oY(i:Nat)(F:FS):FS:=fun δ=>F (ik i δ)
theorem Fy{K:PySem.W.Frag}{i:Nat}{F:FS}{D:Ends}{σ:St}{H:Hp}(h:sD K (oY i F) D σ H):sD K F D σ H:=by
 obtain⟨Z,B,δ,o,E,hf,q⟩:=h
 obtain⟨B1,ev,E1⟩:=E.ik i
 refine⟨Z,B1,L2.ik i δ,o,E1,hf,?_⟩
 cases o with
 | nx δ'=>exact fun σ' B' H' ev' E'=>q σ' B' H' (ev.trans ev') E'
 | rt d=>exact fun v B' H' ev' z r=>q v B' H' (ev.trans ev') z r
theorem CD(i:Nat){sts:List Stmt}{F:FS}(h:pe X sts F):pe X sts (oY i F):=h.imp fun D σ H h=>Fy h
noncomputable def dc(f:FD):FS:=fun δ=>(f δ).bind fun d=> .ok (.rt d)
theorem CY{e:Expr}{f:FD}{pos:Pos}(he:PD X e f):AI X (.Return (some e) pos) (dc f):=(AD he).imp fun D σ H ⟨Z,B,δ,o,E,hf,q⟩=>by
 obtain⟨d,h1,h2⟩:=R.ak hf
 cases h2
 exact⟨Z,B,δ,d,E,h1,fun v H1 s1 r1=>q v B H1 (Ev.same E.zb s1) E.zb r1⟩
noncomputable def ky(c:aw→R Bool)(F G:FS):FS:=fun δ=>(c δ).bind fun b=>if b then F δ else G δ
theorem Eu{c:Expr}{a b:List Stmt}{fc:aw→R Bool}{F G:FS}{pos:Pos}(hc:PB X c fc)(ha:pe X a F)(hb:pe X b G):AI X (.If c a b pos) (ky fc F G):=(Eh hc ha hb).imp fun D σ H ⟨Z,B,δ,o,E,hf,q⟩=>by
 obtain⟨k,h1,h2⟩:=R.ak hf
 refine⟨Z,B,δ,k,E,h1,fun H1 s1=>?_⟩
 have q':=q.ev (Ev.same E.zb s1)
 cases k with
 | true=>rw [if_pos rfl] at h2;exact BW ⟨Z,B,δ,o,E.same s1,h2,q'⟩
 | false=>rw [if_neg (by decide)] at h2;exact AR ⟨Z,B,δ,o,E.same s1,h2,q'⟩
noncomputable abbrev FT:=D→aw→R aw
noncomputable def gD(K:PySem.W.Frag)(t:FT):TG:=fun v σ H Q=>∃Z B δ d δ',dX K Z B H σ δ∧Rep K B H d v∧t d δ= .ok δ'∧∀σ' H',aW H H'→dX K Z B H' σ' δ'→σ'.length=σ.length→Q σ' H'
noncomputable abbrev D8(X:Cx)(tg:Expr)(t:FT):Prop:=PG X tg (gD X.K t)
noncomputable def bh(i:Nat):FT:=fun d δ=>R.bZ (decide (i < δ.length)) (.ok (δ.set i (.val d)))
theorem Ad{i:Nat}{x:Str}{pos:Pos}(hN:X.N.Nodup)(hi:X.N[i]? =some x)(hx:Loc X.env.scope x)(hf:X.fn x=true∨X.env.scope.names.lookup x=some .local:=by first | exact .inl rfl | exact .inr rfl | assumption):D8 X (.Name x pos) (bh i):=
 (xx hN hi hx hf).imp fun v σ H Q ⟨Z,B,δ,d,δ',E,r,ht,q⟩=>by
   obtain⟨hi,h⟩:=R.bp ht
   cases h
   exact q _ H (aW.refl H) (E.set (by rw[←E.len];exact of_decide_eq_true hi) r) (List.length_set ..)
noncomputable abbrev BQ:=List D→aw→R aw
noncomputable def Lf(K:PySem.W.Frag)(t:BQ):AW:=fun vs σ H Q=>∃Z B δ ds δ',dX K Z B H σ δ∧aF K B H ds vs∧t ds δ= .ok δ'∧∀σ' H',aW H H'→dX K Z B H' σ' δ'→σ'.length=σ.length→Q σ' H'
noncomputable abbrev Bd(X:Cx)(ts:List Expr)(t:BQ):Prop:=Ct X ts (Lf X.K t)
theorem Ct.imp{X:Cx}{e:List Expr}{t t':AW}(h:Ct X e t)(w:∀v σ H Q,t' v σ H Q→t v σ H Q):Ct X e t':=fun pins s σ H v u Q I r hq=>h pins s σ H v u Q I r (w v σ H Q hq)
noncomputable def iG:BQ:=fun ds δ=>match ds with | []=> .ok δ | _=> .no
noncomputable def dH(t:FT)(u:BQ):BQ:=fun ds δ=>match ds with | d ::r=>(t d δ).bind fun δ'=>u r δ' | []=> .no
theorem z7:Bd X [] iG:=xX.imp fun vs σ H Q ⟨Z,B,δ,ds,δ',E,r,ht,q⟩=>by
 cases ds with
 | nil=>unfold aF at r;cases ht;exact⟨r,q σ H (aW.refl H) E rfl⟩
 | cons=>cases ht
theorem yG{e:Expr}{es:List Expr}{t:FT}{u:BQ}(h1:D8 X e t)(h2:Bd X es u)(hs:(assignEach (e ::es) X.env).map (·.2)=assign e X.env ::(assignEach es X.env).map (·.2):=by rfl):Bd X (e ::es) (dH t u):=
 (ug h1 h2 hs).imp fun vs σ H Q ⟨Z,B,δ,ds,δ',E,r,ht,q⟩=>by
   cases ds with
   | nil=>cases ht
   | cons d ds=>
     obtain⟨x,xs,rfl,r1,r2⟩:=r.cn
     obtain⟨δ1,h1,h2⟩:=R.ak ht
     exact⟨x,xs,rfl,Z,B,δ,d,δ1,E,r1,h1,fun σ1 H1 s1 E1 l1=>⟨Z,B,δ1,ds,δ',E1,r2.same s1,h2,fun σ2 H2 s2 E2 l2=>q σ2 H2 (s1.trans s2) E2 (l2.trans l1)⟩⟩
noncomputable def iR(n:Nat)(t:BQ):FT:=fun d δ=>match d with | .tup ds=>R.bZ (decide (ds.length=n)) (t ds δ) | _=> .no
theorem CL{es:List Expr}{k:Nat}{t:BQ}{n:Nat}{pos:Pos}(hc:X.calm=true)(h:Bd X es t)(hn:(assignEach es X.env).length=n:=by rfl)(hst:(assignEach es X.env).findIdx? (·.1)=none:=by rfl):D8 X (.Tuple es k pos) (iR n t):=
 (A8 hc h hn hst).imp fun v σ H Q ⟨Z,B,δ,d,δ',E,r,ht,q⟩=>by
   cases d with
   | tup ds=>
     unfold Rep at r
     obtain⟨a,xs,rfl,l,r⟩:=r
     obtain⟨hl,h⟩:=R.bp ht
     exact⟨a,xs,rfl,l.sq,by rw[←r.length];exact of_decide_eq_true hl,Z,B,δ,ds,δ',E,r,h,q⟩
   | _=>cases ht
noncomputable def o_(f:FD)(t:FT):FS:=fun δ=>(f δ).bind fun d=>(t d δ).bind fun δ'=> .ok (.nx δ')
theorem Dv{tg e:Expr}{f:FD}{t:FT}{pos:Pos}(he:PD X e f)(hg:D8 X tg t)(hs:swapsWithSole [tg] e pos.line X.env=pure false:=by rfl)(hw:swappedStores [tg] e X.env=pure none:=by rfl)
 (h1:(assignEach [tg] X.env).map (·.2)=[assign tg X.env]:=by rfl):AI X (.Assign [tg] e pos) (o_ f t):=(zy he hg hs hw h1).imp fun D σ H ⟨Z,B,δ,o,E,hf,q⟩=>by
 obtain⟨d,h1,h2⟩:=R.ak hf
 obtain⟨δ1,h3,h4⟩:=R.ak h2
 cases h4
 exact⟨Z,B,δ,d,E,h1,fun v H1 s1 r1=>⟨Z,B,δ,d,δ1,E.same s1,r1,h3,fun σ' H2 s2 E2 _=>q σ' B H2 (Ev.same E.zb (s1.trans s2)) E2⟩⟩
noncomputable def Ai(K:PySem.W.Frag)(B:List Addr)(H:Hp)(J:It)(ds:List D):Prop:=∀B' H',dG B H B' H'→(∀(i:Nat) (d:D),ds[i]? =some d→J.go i H'∧∀x H'',J.yld i H' x H''→(∀a∈B',∃o,H' a=some o)→aW H' H''∧Rep K B' H'' d x)∧J.stop ds.length H'
noncomputable def iD(K:PySem.W.Frag)(f:aw→R (List D)):TI:=fun σ H R=>∃Z B δ ds,dX K Z B H σ δ∧f δ= .ok ds∧∀J H1,aW H H1→Ai K B H1 J ds→R J H1
noncomputable abbrev EO(X:Cx)(tg e:Expr)(f:aw→R (List D)):Prop:=PI X tg e (iD X.K f)
noncomputable def gG(f:FD):aw→R (List D):=fun δ=>(f δ).bind fun d=>match d with | .lst ds=> .ok ds | .tup ds=> .ok ds | _=> .no
theorem Cg{tg e:Expr}{f:FD}(h:PD X e f):EO X tg e (gG f):=by
 intro pins s σ H RR I ⟨Z,B,δ,ds,E,hf,q⟩
 obtain⟨d,h1,h2⟩:=R.ak hf
 refine dW (h pins s σ H (fun v H1=>aW H H1∧Rep X.K B H1 d v) I ⟨Z,B,δ,d,E,h1,fun v H1 s1 r1=>⟨s1,r1⟩⟩) fun v s1 ⟨x,H1,I1,r1,ss,rr⟩=>?_
 cases d with
 | lst es=>
   cases h2
   unfold Rep at rr
   obtain⟨a,xs,rfl,l,rr⟩:=rr
   cases r1
   obtain⟨its,rv,p,hz⟩:=I1.list l.sq
   refine wpAny_pyIter_list p.isList ?_
   refine⟨s1.heap.objs.size,[s1.heap.objs.size],_,_,H1,rfl,I1.kept (t':=s1.toks) fun b o e=>Heap.get?_push_of_some _ e,rQ a _,⟨_,Heap.get?_push_size _ rfl,rfl,rfl⟩,fun b hb=>?_,q _ H1 ss fun B' H' pr=>?_⟩
   ·have e:b=s1.heap.objs.size:=by simpa using hb
    subst e
    exact I1.qP (Nat.le_refl _) (I1.hok.fresh (Nat.le_refl _))
   ·have l':qM X.K B' H' a xs:=l.bq pr
    have rr':=rr.bq pr
    refine⟨fun i d hd=>?_,⟨xs,l'.sq,by rw[rr.length];exact Nat.le_refl _⟩⟩
    obtain⟨x,hx,rx⟩:=rr'.get hd
    exact⟨⟨xs,x,l'.sq,hx⟩,fun y H'' ⟨e1,e2⟩ _=>by
     subst e1
     have:=e2 xs l'.sq
     rw[hx] at this
     cases this
     exact⟨aW.refl _,rx⟩⟩
 | tup es=>
   cases h2
   unfold Rep at rr
   obtain⟨a,xs,rfl,l,rr⟩:=rr
   cases r1
   obtain⟨its,rv,p,hz⟩:=I1.tuple l.sq
   refine wpAny_pyIter_tuple (show s1.heap.IsTuple a its.toArray from p) ?_
   refine⟨s1.heap.objs.size,[s1.heap.objs.size],_,_,H1,rfl,I1.kept (t':=s1.toks) fun b o e=>Heap.get?_push_of_some _ e,vQ a _,⟨_,Heap.get?_push_size _ rfl,rfl,rfl⟩,fun b hb=>?_,q _ H1 ss fun B' H' pr=>?_⟩
   ·have e:b=s1.heap.objs.size:=by simpa using hb
    subst e
    exact I1.qP (Nat.le_refl _) (I1.hok.fresh (Nat.le_refl _))
   ·have l':se X.K B' H' a xs:=l.elim (fun z=> .inl ⟨(pr.rd z.2 z.1).2,(pr.rd z.2 z.1).1⟩) .inr
    have rr':=rr.bq pr
    refine⟨fun i d hd=>?_,⟨xs,l'.sq,by rw[rr.length];exact Nat.le_refl _⟩⟩
    obtain⟨x,hx,rx⟩:=rr'.get hd
    exact⟨⟨xs,x,l'.sq,hx⟩,fun y H'' ⟨e1,e2⟩ _=>by
     subst e1
     have:=e2 xs l'.sq
     rw[hx] at this
     cases this
     exact⟨aW.refl _,rx⟩⟩
 | _=>cases h2
noncomputable def bU(lo:Int)(n:Nat):List D:=(List.range n).map fun(i:Nat)=>D.int (lo+i)
theorem zN{K:PySem.W.Frag}{B:List Addr}{H:Hp}(lo:Int)(n:Nat):Ai K B H (HU lo n) (bU lo n):=fun B' H' _=>by
 refine⟨fun i d hd=>?_,?_⟩
 ·unfold bU at hd
  rw[List.getElem?_map] at hd
  cases e:(List.range n)[i]? with
  | none=>rw [e] at hd;cases hd
  | some j=>
    rw[e] at hd
    cases hd
    obtain⟨hi,ej⟩:=List.getElem?_eq_some_iff.mp e
    rw[List.getElem_range] at ej
    subst ej
    rw[List.length_range] at hi
    exact⟨hi,fun x H'' ⟨e1,e2⟩ _=>by subst e1 e2;exact⟨aW.refl _,by unfold Rep;rfl⟩⟩
 ·show n≤(bU lo n).length
  unfold bU
  rw[List.length_map,List.length_range]
  exact Nat.le_refl _
noncomputable def d8(f:FD):aw→R (List D):=fun δ=>(f δ).bind fun d=>match d with | .int j=>R.bZ (decide (-(2 ^ 62)≤j∧j < 2 ^ 62)) (.ok (bU 0 j.toNat)) | _=> .no
theorem wt{tg a:Expr}{f:FD}{p pos:Pos}(h:PD X a f)(hg:Gl X "range")(hm:X.mg "range"=none)(hs:starEach [a] X.env=[(false,eval a X.env)]:=by rfl):EO X tg (.Call (.Name "range" p) [a] [] pos) (d8 f):=
 (sj hg hm (f_ h jy hs) hs).imp fun σ H RR ⟨Z,B,δ,ds,E,hf,q⟩=>by
   obtain⟨d,h1,h2⟩:=R.ak hf
   cases d with
   | int j=>
     obtain⟨hb,h3⟩:=R.bp h2
     cases h3
     have hb:=of_decide_eq_true hb
     refine⟨Z,B,δ, .int j,E,h1,fun v H1 s1 r1=>⟨j,?_,hb.1,hb.2,q _ H1 s1 (zN 0 _)⟩⟩
     unfold Rep at r1
     rw[r1]
   | _=>cases h2
noncomputable def IE(f g:FD):aw→R (List D):=fun δ=>(f δ).bind fun d=>(g δ).bind fun e=>match d,e with
 | .int i, .int j=>R.bZ (decide (-(2 ^ 62)≤i∧i < 2 ^ 62∧ -(2 ^ 62)≤j∧j < 2 ^ 62)) (.ok (bU i (j - i).toNat)) | _,_=> .no
noncomputable def m4(t:FT)(body:FS):List D→FS
 | [],δ=> .ok (.nx δ)
 | d ::ds,δ=>(t d δ).bind fun δ1=>(body δ1).bind fun o=>match o with | .nx δ2=>m4 t body ds δ2 | .rt r=> .ok (.rt r)
noncomputable def pd(it:aw→R (List D))(t:FT)(body:FS):FS:=fun δ=>(it δ).bind fun ds=>m4 t body ds δ
theorem Dt{tg iter:Expr}{body:List Stmt}{it:aw→R (List D)}{t:FT}{F:FS}{pos:Pos}(hp:PassesOwn (model X.prog X.w) X.A X.env X.xe)(hc:X.calm=true)(hi:EO X tg iter it)(hg:D8 X tg t)(hb:pe X body F)
 (hs:∀x,foldedSetIterable iter X.env x=pure x:=by intro _;rfl):AI X (.For tg iter body [] pos) (pd it t F):=(Ah hp hc hi hg hb hs).imp fun D σ H ⟨Z,B,δ,o,E,hf,q⟩=>by
 obtain⟨ds,h1,h2⟩:=R.ak hf
 refine⟨Z,B,δ,ds,E,h1,fun J H1 s1 ir=>?_⟩
 refine⟨fun i m σ' H'=>m=ds.length - i∧i≤ds.length∧∃B' δ',Ev Z B H1 B' H'∧dX X.K Z B' H' σ' δ'∧m4 t F (ds.drop i) δ'= .ok o,⟨ds.length,rfl,Nat.zero_le _,B,δ,Ev.refl Z B H1 E.zb,E.same s1,by simpa using h2⟩,?_⟩
 rintro i m σ' H' ⟨rfl,hi,B',δ',ev,E',hl⟩
 obtain⟨go,stop⟩:=ir B' H' ev.bq
 by_cases hlt:i < ds.length
 ·have hd:ds[i]? =some ds[i]:=List.getElem?_eq_getElem hlt
  have hdrop:ds.drop i=ds[i] ::ds.drop (i+1):=List.drop_eq_getElem_cons hlt
  rw[hdrop] at hl
  obtain⟨δ1,h3,h4⟩:=R.ak hl
  obtain⟨o1,h5,h6⟩:=R.ak h4
  obtain⟨g1,g2⟩:=go i _ hd
  refine .inr ⟨g1,fun σ2 H2=>∃B2 δ2,Ev Z B H1 B2 H2∧dX X.K Z B2 H2 σ2 δ2∧m4 t F (ds.drop (i+1)) δ2= .ok o,fun σ2 H2 n=>⟨ds.length - (i+1),by omega,rfl,hlt,n⟩,fun x H'' y=>?_⟩
  obtain⟨ss,rr⟩:=g2 x H'' y E'.bs
  refine⟨Z,B',δ',ds[i],δ1,E'.same ss,rr,h3,fun σ2 H2 s2 E2 l2=>⟨Z,B',δ1,o1,E2,h5,?_⟩⟩
  have ev2:Ev Z B H1 B' H2:=ev.trans (Ev.same E'.zb (ss.trans s2))
  cases o1 with
  | nx δ2=>exact fun σ3 B3 H3 ev3 E3=>⟨B3,δ2,ev2.trans ev3,E3,h6⟩
  | rt d=>
    cases h6
    exact fun v B3 H3 ev3 z r=>q v B3 H3 ((Ev.same E.zb s1).trans (ev2.trans ev3)) z r
 ·have e:i=ds.length:=by omega
  subst e
  rw[List.drop_length] at hl
  cases hl
  exact .inl ⟨stop,q σ' B' H' ((Ev.same E.zb s1).trans ev) E'⟩
noncomputable def AX(c:aw→R Bool)(body:FS):Nat→FS
 | 0,_=> .no
 | n+1,δ=>(c δ).bind fun b=>if b then(body δ).bind fun o=>match o with | .nx δ2=>AX c body n δ2 | .rt r=> .ok (.rt r) else .ok (.nx δ)
noncomputable def Jp(n:Nat)(c:aw→R Bool)(body:FS):FS:=fun δ=>AX c body n δ
noncomputable def qL(δ:aw)(i:Nat):Sl:=match δ[i]? with | some (.val d)=> .val d | _=> .un
noncomputable def qr(own:List Str)(kp:List Nat)(δ:aw):aw:=List.replicate own.length .un++kp.map (qL δ)
noncomputable def mG(t:FT)(c:aw→R Bool)(f:FD)(δ:aw):List D→R (List D)
 | []=> .ok []
 | d ::ds=>(t d δ).bind fun δ1=>(c δ1).bind fun b=>if b then(f δ1).bind fun y=>(mG t c f δ ds).bind fun ys=> .ok (y ::ys) else mG t c f δ ds
noncomputable def gn(it:aw→R (List D))(t:FT)(c:aw→R Bool)(f:FD)(own:List Str)(kp:List Nat):aw→R (List D):=fun δ=>(it δ).bind fun ds=>R.bZ (decide (ds.length≤sizeLine)) (mG t c f (qr own kp δ) ds)
theorem Gh{K:PySem.W.Frag}{Z B B':List Addr}{H H':Hp}{σ:St}{δ:aw}{own:List Str}{kp:List Nat}(E:dX K Z B H σ δ)(p:dG B H B' H')(hB:∀a∈B',∃o,H' a=some o):dX K [] B' H' (dF own kp σ) (qr own kp δ) where
 len:=by unfold dF qr;simp
 bs:=hB
 zb:=fun a ha=>by cases ha
 val:=fun i d e=>by
  unfold qr at e
  unfold dF
  by_cases hi:i < own.length
  ·rw[List.getElem?_append_left (by simpa using hi),List.getElem?_replicate] at e
   split at e <;> cases e
  ·rw[List.getElem?_append_right (by simpa using hi),List.length_replicate,List.getElem?_map] at e ⊢
   cases q:kp[i - own.length]? with
   | none=>rw [q] at e;cases e
   | some j=>
     rw[q] at e
     have e:qL δ j= .val d:=Option.some.inj e
     unfold qL at e
     split at e
     ·rename_i d' ed
      cases e
      obtain⟨v,h1,h2⟩:=E.val j d ed
      exact⟨v,by simp [h1],h2.bq p⟩
     ·cases e
 bld:=fun i ds e=>by
  unfold qr at e
  by_cases hi:i < own.length
  ·rw[List.getElem?_append_left (by simpa using hi),List.getElem?_replicate] at e
   split at e <;> cases e
  ·rw[List.getElem?_append_right (by simpa using hi),List.length_replicate,List.getElem?_map] at e
   cases q:kp[i - own.length]? with
   | none=>rw [q] at e;cases e
   | some j=>
     rw[q] at e
     have e:qL δ j= .bld ds:=Option.some.inj e
     unfold qL at e
     split at e <;> cases e
 dis:=fun i j a ds es e=>by
  unfold qr at e
  by_cases hi:i < own.length
  ·rw[List.getElem?_append_left (by simpa using hi),List.getElem?_replicate] at e
   split at e <;> cases e
  ·rw[List.getElem?_append_right (by simpa using hi),List.length_replicate,List.getElem?_map] at e
   cases q:kp[i - own.length]? with
   | none=>rw [q] at e;cases e
   | some j=>
     rw[q] at e
     have e:qL δ j= .bld ds:=Option.some.inj e
     unfold qL at e
     split at e <;> cases e
theorem xj{K:PySem.W.Frag}{it:aw→R (List D)}{t:FT}{c:aw→R Bool}{f:FD}{own:List Str}{kp:List Nat}{σ:St}{H:Hp}{Q:VK}(h:tN K (gn it t c f own kp) σ H Q) :
 w9 (iD K it) (gD K t) (D5 K c) (tD K f) own kp σ H Q:=by
 obtain⟨Z,B,δ,ds,E,hf,q⟩:=h
 obtain⟨es,h1,h2⟩:=R.ak hf
 obtain⟨hl,h3⟩:=R.bp h2
 have hl:=of_decide_eq_true hl
 refine⟨Z,B,δ,es,E,h1,fun J H1 s1 ir Dd hD=>?_⟩
 have E1:=E.same s1
 have pD:dG B H1 (Dd ::B) (upd H1 Dd (.lst [])):=t5 hD
 refine⟨fun i m ys H'=>m=es.length - i∧i≤es.length∧ys.length≤i∧H' Dd=some (.lst ys)∧aW H1 H'∧∃done rest,ds=done++rest∧aF K (Dd ::B) H' done ys∧mG t c f (qr own kp δ) (es.drop i)= .ok rest,
  ⟨es.length,rfl,Nat.zero_le _,Nat.le_refl _,bb,aY hD,[],ds,rfl,aF.nil,by simpa using h3⟩,?_⟩
 rintro i m ys H' ⟨rfl,hi,hy,hDl,ss,done,rest,rfl,rd,hc⟩
 have dB:Dd ∉ B:=fun hb=>by obtain⟨o,ho⟩:=E1.bs Dd hb;rw [hD] at ho;cases ho
 have p':dG B H1 (Dd ::B) H':=fun b o e nb=>⟨ss b o e,fun hb=>by
  rcases List.mem_cons.mp hb with z | z
  ·exact cj e hD z
  ·exact nb z⟩
 have hB':∀a∈Dd ::B,∃o,H' a=some o:=fun a ha=>by
  rcases List.mem_cons.mp ha with z | z
  ·subst z;exact⟨_,hDl⟩
  ·obtain⟨o,ho⟩:=E1.bs a z;exact⟨o,ss a o ho⟩
 obtain⟨go,stop⟩:=ir (Dd ::B) H' p'
 by_cases hlt:i < es.length
 ·have hd:es[i]? =some es[i]:=List.getElem?_eq_getElem hlt
  have hdrop:es.drop i=es[i] ::es.drop (i+1):=List.drop_eq_getElem_cons hlt
  rw[hdrop] at hc
  obtain⟨δ1,h4,h5⟩:=R.ak hc
  obtain⟨b,h6,h7⟩:=R.ak h5
  obtain⟨g1,g2⟩:=go i _ hd
  refine .inr ⟨g1,fun x H2 y=>?_⟩
  obtain⟨sy,ry⟩:=g2 x H2 y hB'
  have Ec:dX K [] (Dd ::B) H2 (dF own kp σ) (qr own kp δ):=Gh E1 (p'.trans (dG.same sy)) fun a ha=>let⟨o,ho⟩:=hB' a ha;⟨o,sy a o ho⟩
  refine⟨[],Dd ::B,qr own kp δ,es[i],δ1,Ec,ry,h4,fun σ3 H3 s3 E3 _=>⟨[],Dd ::B,δ1,b,E3,h6,fun H4 s4=>?_⟩⟩
  have sAll:aW H' H4:=sy.trans (s3.trans s4)
  cases b with
  | true=>
    rw[if_pos rfl] at h7
    refine BW ?_
    obtain⟨yv,h8,h9⟩:=R.ak h7
    obtain⟨rs,h10,h11⟩:=R.ak h9
    cases h11
    refine⟨[],Dd ::B,δ1,yv,E3.same s4,h8,fun v H5 s5 r5=>?_⟩
    have s':aW H' H5:=sAll.trans s5
    have hD5:H5 Dd=some (.lst ys):=s' Dd _ hDl
    have pu:dG (Dd ::B) H5 (Dd ::B) (upd H5 Dd (.lst (ys++[v]))):=fun b o e nb=>⟨by rw[bg (fun(z:b=Dd)=>nb (by rw[z];exact List.mem_cons_self))];exact e,nb⟩
    refine⟨hD5,by omega,es.length - (i+1),by omega,rfl,hlt,by rw[List.length_append,List.length_singleton];omega,bb,fun b o e=>?_,done++[yv],rs,by simp,((rd.same s').append (aF.cons r5 aF.nil)).bq pu,h10⟩
    rw[bg (cj e hD)]
    exact s' b o (ss b o e)
  | false=>
    rw[if_neg (by decide)] at h7
    refine AR ?_
    exact⟨es.length - (i+1),by omega,rfl,hlt,by omega,sAll Dd _ hDl,ss.trans sAll,done,rest,rfl,rd.same sAll,h7⟩
 ·have e:i=es.length:=by omega
  subst e
  rw[List.drop_length] at hc
  cases hc
  rw[List.append_nil] at q
  exact .inl ⟨stop,q Dd ys H' (s1.trans ss) (s1.free hD) hDl rd⟩
theorem Cs{scope:Scope}{own:List Str}{kp:List Nat}{kn:List Str}{tg iter elt:Expr}{ifs:List Expr}{it:aw→R (List D)}{t:FT}{c:aw→R Bool}{f:FD}{pos:Pos}(hc:X.calm=true)(C:cv X scope own kp kn)(hi:EO X tg iter it)
 (hg:∀fp s H,D8 (bA X scope (own++kn) fp s H) tg t) (hif:∀fp s H,nB (bA X scope (own++kn) fp s H) ifs (D5 X.K c)) (he:∀fp s H,PD (bA X scope (own++kn) fp s H) elt f)
 (hs:∀x,foldedSetIterable iter X.env x=pure x:=by intro _;rfl):PN X (.ListComp elt [⟨tg,iter,ifs,0⟩] scope pos) (gn it t c f own kp):=
 (yh hc C hi hg hif he hs).imp fun σ H Q h=>xj h
noncomputable def qy:aw→R Bool:=fun _=> .ok true
theorem z6:nB X [] (D5 X.K qy):=fun pins s σ H Q I ⟨Z,B,δ,b,E,hf,q⟩=>uc pins s σ H Q I (by cases hf;exact q H (aW.refl H))
theorem Cm{e:Expr}{c:aw→R Bool}(h:PB X e c):nB X [e] (D5 X.K c):=uK h
theorem uT{i:Nat}{x:Str}{pos' spos:Pos}{scope:Scope}{own:List Str}{kp:List Nat}{kn:List Str}{tg iter elt:Expr}{ifs:List Expr}{it:aw→R (List D)}{t:FT}{c:aw→R Bool}{f:FD}{pos:Pos}(hc:X.calm=true)
 (hN:X.N.Nodup) (hx:X.N[i]? =some x) (hxl:X.env.scope.names.lookup x=some .local) (C:cv X scope own kp kn) (hi:EO X tg iter it)
 (hg:∀fp s H,D8 (bA X scope (own++kn) fp s H) tg t) (hif:∀fp s H,nB (bA X scope (own++kn) fp s H) ifs (D5 X.K c)) (he:∀fp s H,PD (bA X scope (own++kn) fp s H) elt f)
 (hsw:swapsWith (.ListComp elt [⟨tg,iter,ifs,0⟩] scope pos) (some (.Name x pos')) spos.line X.env=pure true:=by rfl)
 (hs:∀x,foldedSetIterable iter X.env x=pure x:=by intro _;rfl):AI X (.Assign [.Name x pos'] (.ListComp elt [⟨tg,iter,ifs,0⟩] scope pos) spos) (fG i (eNew (gn it t c f own kp))):=
 (qE hc hN hx hxl C hi hg hif he hsw hs).imp fun D σ H h=>by
   have h1:=zW h
   obtain⟨Z,B,δ,d,E,hf,q⟩:=h1
   obtain⟨ds,h2,h3⟩:=R.ak hf
   cases h3
   refine xj ⟨Z,B,δ,ds,E,h2,fun a xs H' s n e r=>q _ H' s ?_⟩
   unfold Rep
   refine⟨a,xs,rfl, .inl ⟨fun ha=>?_, .inl e⟩,r.bq fun b o e nb=>⟨e,fun hb=>nb (List.mem_cons_of_mem _ hb)⟩⟩
   obtain⟨o,ho⟩:=E.bs a ha
   rw[n] at ho;cases ho
end
noncomputable def cW(N:List Str)(ds:List D):aw:=ds.map .val++List.replicate (N.length - ds.length) .un
noncomputable def lZ(N:List Str)(F:FS):List D→R D:=fun ds=>(F (cW N ds)).bind fun o=>match o with | .rt d=> .ok d | .nx _=> .ok .cq
theorem DC{K:PySem.W.Frag}{B:List Addr}{H:Hp}{N:List Str}{ds:List D}{vs:List V}(hB:∀a∈B,∃o,H a=some o)(r:aF K B H ds vs):dX K B B H (start N vs) (cW N ds) where
 len:=by unfold start cW;simp [r.length]
 bs:=hB
 zb:=fun a ha=>ha
 val:=fun i d e=>by
  unfold cW at e
  unfold start
  by_cases hi:i < ds.length
  ·rw[List.getElem?_append_left (by simpa using hi),List.getElem?_map] at e
   cases q:ds[i]? with
   | none=>rw [q] at e;cases e
   | some d'=>
     rw[q] at e
     cases e
     obtain⟨x,h1,h2⟩:=r.get q
     exact⟨x,by rw[List.getElem?_append_left (by rw[List.length_map,←r.length];exact hi),List.getElem?_map,h1];rfl,h2⟩
  ·rw[List.getElem?_append_right (by simpa using hi),List.getElem?_replicate] at e
   split at e <;> cases e
 bld:=fun i es e=>by
  unfold cW at e
  by_cases hi:i < ds.length
  ·rw[List.getElem?_append_left (by simpa using hi),List.getElem?_map] at e
   cases q:ds[i]? with
   | none=>rw [q] at e;cases e
   | some d'=>rw [q] at e;cases e
  ·rw[List.getElem?_append_right (by simpa using hi),List.getElem?_replicate] at e
   split at e <;> cases e
 dis:=fun i j a es fs e=>by
  unfold cW at e
  by_cases hi:i < ds.length
  ·rw[List.getElem?_append_left (by simpa using hi),List.getElem?_map] at e
   cases q:ds[i]? with
   | none=>rw [q] at e;cases e
   | some d'=>rw [q] at e;cases e
  ·rw[List.getElem?_append_right (by simpa using hi),List.getElem?_replicate] at e
   split at e <;> cases e
theorem DI{P:Program}{w:World}{K:PySem.W.Frag}{mg:Str→Option Value}{base:Heap}{x qual:Str}{st:Stmt}{f:Addr}{fd:FuncData}{N ps:List Str}{k:Nat}{F:FS}(Fn:xB K x qual st f fd)(S:ba N ps (af st))
 (hbody:∀(cdv:Value) (A:Around) (outer:List Env) (s:Shared) (H:Hp) (E:XK),eB k (A.deeper (envOfC qual (af st) s.heap.objs.size f cdv))→
   pe (p6 qO P w K mg base N qual (af st) f cdv A outer s H E).DG (ao st) F):ip P w K mg base qO (k+1) f fd ps (zr K ps.length (lZ N F)):=by
 refine Fn.ok S (fun vs H Q E h=>h.1) (fun cdv A outer s H vs Q E hr h=>⟨_,hbody cdv A outer s H E hr,?_⟩)
 obtain⟨_,B,ds,d,hB,r,hg,q⟩:=h
 obtain⟨o,h1,h2⟩:=R.ak hg
 refine⟨B,B,cW N ds,o,DC hB r,h1,?_⟩
 have sm:∀{B':List Addr} {H':Hp},Ev B B H B' H'→aW H H':=fun {B' H'} ev b u e=>by
  by_cases hb:b∈B
  ·exact(ev.zs b u e hb).1
  ·exact(ev.bq b u e hb).1
 cases o with
 | nx δ'=>
   cases h2
   exact fun σ' B' H' ev _=>q _ H' (sm ev) (by unfold Rep;rfl)
 | rt d'=>
   cases h2
   exact fun v B' H' ev z rr=>q v H' (sm ev) (rr.bq fun b o e nb=>⟨e,fun hb=>nb (z b hb)⟩)
end L2
end
section
set_option maxRecDepth 100000
set_option maxHeartbeats 4000000
namespace L2
open PySem PySem.Spec PyProof.Rows
theorem Rep.int{K:PySem.W.Frag}{B:List Addr}{H:Hp}{i:Int}{v:V}:Rep K B H (.int i) v↔v= .int i:=by unfold Rep;exact Iff.rfl
theorem Rep.bl{K:PySem.W.Frag}{B:List Addr}{H:Hp}{i:Bool}{v:V}:Rep K B H (.bl i) v↔v= .bl i:=by unfold Rep;exact Iff.rfl
theorem Rep.str{K:PySem.W.Frag}{B:List Addr}{H:Hp}{i:Str}{v:V}:Rep K B H (.str i) v↔v= .str i:=by unfold Rep;exact Iff.rfl
theorem Rep.cq{K:PySem.W.Frag}{B:List Addr}{H:Hp}{v:V}:Rep K B H .cq v↔v= .cq:=by unfold Rep;exact Iff.rfl
theorem Rep.lst{K:PySem.W.Frag}{B:List Addr}{H:Hp}{ds:List D}{v:V}:Rep K B H (.lst ds) v↔∃a xs,v= .ref a∧qM K B H a xs∧aF K B H ds xs:=by rw[Rep]
theorem Rep.tup{K:PySem.W.Frag}{B:List Addr}{H:Hp}{ds:List D}{v:V}:Rep K B H (.tup ds) v↔∃a xs,v= .ref a∧se K B H a xs∧aF K B H ds xs:=by rw[Rep]
section
variable {X:Cx}
theorem jA.of{f:Value→Value→Sem Value}{r:R2}{g:D→D→R D}(h:kz X f r)
 (w:∀(B:List Addr) (H:Hp) (da db d:D) (x y:V) (Q:VK),(∀a∈B,∃o,H a=some o)→Rep X.K B H da x→Rep X.K B H db y→g da db= .ok d→(∀z H',aW H H'→Rep X.K B H' d z→Q z H')→r x y H Q):jA X f g:=by
 intro pins s σ H B da db d x y v u I hb rx ry ra rb hg
 exact h pins s σ H x y v u _ I rx ry (w B H da db d x y _ hb ra rb hg fun z H' s1 r1=>⟨s1,r1⟩)
theorem cP.of{f:Value}{r:List V→Hp→VK→Prop}{g:List D→R D}(h:jJ X f r)
 (w:∀(B:List Addr) (H:Hp) (ds:List D) (d:D) (xs:List V) (Q:VK),(∀a∈B,∃o,H a=some o)→aF X.K B H ds xs→g ds= .ok d→(∀z H',aW H H'→Rep X.K B H' d z→Q z H')→r xs H Q):cP X f g:=by
 intro pins s σ H B ds d xs us I hb rx rs hg
 exact h pins s σ H xs us _ I rx (w B H ds d xs _ hb rs hg fun z H' s1 r1=>⟨s1,r1⟩)
theorem cP.or{f:Value}{g g1 g2:List D→R D}(h1:cP X f g1)(h2:cP X f g2)(e:∀a d,g a= .ok d→g1 a= .ok d∨g2 a= .ok d):cP X f g:=by
 intro pins s σ H B ds d xs us I hb rx rs hg
 rcases e ds d hg with q | q
 ·exact h1 pins s σ H B ds d xs us I hb rx rs q
 ·exact h2 pins s σ H B ds d xs us I hb rx rs q
noncomputable def uX(C:Int→Int→Bool)(g:Int→Int→Int):D→D→R D
 | .int i, .int j=>R.bZ (C i j) (.ok (.int (g i j)))
 | _,_=> .no
theorem xc{f:Value→Value→Sem Value}{C:Int→Int→Bool}{Cp:Int→Int→Prop}{g:Int→Int→Int}(h:kz X f (rI Cp fun i j=> .int (g i j)))(hc:∀i j,C i j=true→Cp i j):jA X f (uX C g):=
 jA.of h fun B H da db d x y Q _ ra rb hg q=>by
  unfold uX at hg
  split at hg
  ·obtain⟨h1,h2⟩:=R.bp hg
   cases h2
   exact⟨_,_,Rep.int.mp ra,Rep.int.mp rb,hc _ _ h1,q _ H (aW.refl H) (Rep.int.mpr rfl)⟩
  ·cases hg
noncomputable def ni(g:Int→Int→Int):D→D→R D
 | .int i, .int j=> .ok (.int (g i j))
 | _,_=> .no
theorem sR{f:Value→Value→Sem Value}{g:Int→Int→Int}(h:kz X f (zl fun i j=> .int (g i j))):jA X f (ni g):=
 jA.of h fun B H da db d x y Q _ ra rb hg q=>by
  unfold ni at hg
  split at hg
  ·cases hg
   exact⟨_,_,Rep.int.mp ra,Rep.int.mp rb,q _ H (aW.refl H) (Rep.int.mpr rfl)⟩
  ·cases hg
noncomputable def yg(g:Int→Int→Bool):D→D→R D
 | .int i, .int j=> .ok (.bl (g i j))
 | _,_=> .no
theorem BL{f:Value→Value→Sem Value}{g:Int→Int→Bool}(h:kz X f (zl fun i j=> .bl (g i j))):jA X f (yg g):=
 jA.of h fun B H da db d x y Q _ ra rb hg q=>by
  unfold yg at hg
  split at hg
  ·cases hg
   exact⟨_,_,Rep.int.mp ra,Rep.int.mp rb,q _ H (aW.refl H) (Rep.bl.mpr rfl)⟩
  ·cases hg
noncomputable abbrev jN:D→D→R D:=ni fun i j=>i - j
theorem oI:jA X (binaryOp .Sub) jN:=sR GD
noncomputable abbrev oi:D→D→R D:=uX (fun _ j=>decide (0 < j∧j < 1073741824)) fun i j=>i / j
noncomputable abbrev g9:D→D→R D:=uX (fun _ j=>decide (0 < j)) fun i j=>i % j
theorem ko:jA X (binaryOp .Mod) g9:=xc Fh fun i j h=>of_decide_eq_true h
noncomputable abbrev qH:D→D→R D:=uX (fun i j=>decide (0≤j∧j≤1000000∧i.natAbs < 2 ^ 64)) fun i j=>i ^ j.toNat
theorem D9:jA X (binaryOp .Pow) qH:=xc E_ fun i j h=>(of_decide_eq_true h:0≤j∧j≤1000000∧i.natAbs < 2 ^ 64)
noncomputable abbrev nM:D→D→R D:=uX (fun _ j=>decide (0≤j)) fun i j=>i / 2 ^ j.toNat
theorem H0:jA X (binaryOp .RShift) nM:=xc Fg fun i j h=>of_decide_eq_true h
noncomputable abbrev zm:D→D→R D:=ni fun i j=>Builtin.bitAnd i j
theorem tW:jA X (binaryOp .BitAnd) zm:=sR F8
noncomputable abbrev B7:D→D→R D:=ni fun i j=>Builtin.bitOr i j
theorem vk:jA X (binaryOp .BitOr) B7:=sR G4
noncomputable abbrev yn:D→D→R D:=ni fun i j=>Builtin.bitXor i j
theorem tI:jA X (binaryOp .BitXor) yn:=sR EV
noncomputable abbrev zk:D→D→R D:=yg fun i j=>decide (i < j)
theorem GX:jA X (compareOp .Lt) zk:=BL GQ
noncomputable abbrev Ef:D→D→R D:=yg fun i j=>decide (i≤j)
noncomputable abbrev vt:D→D→R D:=yg fun i j=>decide (j < i)
theorem Cz:jA X (compareOp .Gt) vt:=BL Hw
noncomputable abbrev B5:D→D→R D:=yg fun i j=>decide (j≤i)
theorem JN:jA X (compareOp .GtE) B5:=BL Hf
theorem qM.sV{K:PySem.W.Frag}{B:List Addr}{H:Hp}{a:Addr}{xs:List V}(h:H a=some (.lst xs))(n:a ∉ B):qM K B H a xs:= .inl ⟨n, .inl h⟩
theorem Inv.FF{pins:List (Addr × Obj)}{σ:St}{H:Hp}{s:Shared}{a:Addr}{xs:List V}{B:List Addr}(I:Inv X pins σ H s)(h:qM X.K B H a xs):∃(its:List Value) (n:Nat),Vals xs its∧s.heap.get? a=some {cls:= .type "list",data:= .seq its.toArray n}∧xs.length≤sizeLine:=by
 rcases h with⟨_,h⟩ | ⟨its,n,hk,hz,r⟩
 ·obtain⟨z,its,n,r,e⟩:=h.ok I.hok
  exact⟨its,n,r,e,z⟩
 ·exact⟨its,n,r,I.n_ a _ hk,hz⟩
theorem xG:kz X (binaryOp .Add) (fun x y H Q=>∃B l b xs zs,x= .ref l∧y= .ref b∧qM X.K B H l xs∧qM X.K B H b zs∧xs.length+zs.length≤sizeLine∧∀p,H p=none→Q (.ref p) (upd H p (.lst (xs++zs)))):=by
 intro pins s σ H x y v u Q I rx ry h
 obtain⟨B,l,b,xs,zs,rfl,rfl,hH,hB,hz,q⟩:=h
 cases rx
 cases ry
 obtain⟨its,n,r,e,_⟩:=I.FF hH
 obtain⟨its2,n2,r2,e2,_⟩:=I.FF hB
 have l1:=r.length
 have l2:=r2.length
 refine PySem.P.add_list e e2 ?_ (by rw[List.size_toArray,List.size_toArray];omega)
 have ea:its.toArray++its2.toArray=(its++its2).toArray:=by simp
 rw[ea]
 exact⟨.ref _,_,I.Cj (t':=s.toks) (r.append r2) (by rw[List.length_append];omega),rfl,q _ I.fresh⟩
noncomputable def ei:D→D→R D
 | .int i, .int j=> .ok (.int (i+j))
 | .str a, .str b=>R.bZ (decide (a.length+b.length≤sizeLine)) (.ok (.str (a++b)))
 | .lst a, .lst b=>R.bZ (decide (a.length+b.length≤sizeLine)) (.ok (.lst (a++b)))
 | _,_=> .no
theorem gx:jA X (binaryOp .Add) ei:=by
 intro pins s σ H B da db d x y v u I hb rx ry ra rb hg
 unfold ei at hg
 split at hg
 ·cases hg
  exact Gq pins s σ H x y v u _ I rx ry ⟨_,_,Rep.int.mp ra,Rep.int.mp rb,aW.refl H,Rep.int.mpr rfl⟩
 ·obtain⟨h1,h2⟩:=R.bp hg
  cases h2
  exact vv pins s σ H x y v u _ I rx ry ⟨_,_,Rep.str.mp ra,Rep.str.mp rb,of_decide_eq_true h1,aW.refl H,Rep.str.mpr rfl⟩
 ·obtain⟨h1,h2⟩:=R.bp hg
  cases h2
  obtain⟨a1,xs1,rfl,l1,r1⟩:=Rep.lst.mp ra
  obtain⟨a2,xs2,rfl,l2,r2⟩:=Rep.lst.mp rb
  refine xG pins s σ H _ _ v u _ I rx ry ⟨B,a1,a2,xs1,xs2,rfl,rfl,l1,l2,by rw[←r1.length,←r2.length];exact of_decide_eq_true h1,fun p hp=>⟨aY hp,Rep.lst.mpr ⟨p,_,rfl, .sV bb fun ha=>?_,(r1.append r2).same (aY hp)⟩⟩⟩
  obtain⟨o,ho⟩:=hb p ha
  rw[hp] at ho;cases ho
 ·cases hg
theorem Cw:kz X (binaryOp .Mult) (fun x y H Q=>∃z n,x= .str z∧y= .int n∧MulOk z n∧Q (.str (Txt.mul z n)) H):=by
 intro pins s σ H x y v u Q I rx ry h
 obtain⟨z,n,rfl,rfl,hm,q⟩:=h
 obtain⟨t,rfl⟩:=rx
 obtain⟨t',rfl⟩:=ry
 exact SB.mul hm fun t2 k=>⟨.str _,H,I.tok _,⟨_,rfl⟩,q⟩
end
end L2
end
section
set_option maxRecDepth 100000
set_option maxHeartbeats 4000000
namespace L2
open PySem PySem.Spec PyProof.Rows
section
variable {X:Cx}
theorem mulOk_of{x:Str}{n:Int}(h1: -(2 ^ 63)≤n)(h2:n < 2 ^ 63)(h3:x.length*n.toNat≤sizeLine):MulOk x n:=by
 refine⟨by simp only[Bool.or_eq_false_iff,decide_eq_false_iff_not];omega,fun hn _=>?_,fun hn _=>?_⟩
 ·have hz:sizeLine=16777216:=sizeLine_eq
  have e:(n.toNat:Int)=n:=by omega
  have h4:(x.length:Int)*n≤16777216:=by
   have:((x.length*n.toNat:Nat):Int)≤((16777216:Nat):Int):=Int.ofNat_le.mpr (by omega)
   rw[Int.natCast_mul,e] at this
   exact this
  have:(x.length:Int)≤(2 ^ 63 - 1) / n:=(Int.le_ediv_iff_mul_le (by omega)).mpr (by omega)
  omega
 ·unfold Builtin.Str.tooLong;exact decide_eq_false (by omega)
noncomputable def lW:D→D→R D
 | .int i, .int j=>R.bZ (decide ((-(2 ^ 64) < i∧i < 2 ^ 64)∨(-(2 ^ 64) < j∧j < 2 ^ 64))) (.ok (.int (i*j)))
 | .str x, .int n=>R.bZ (decide (-(2 ^ 63)≤n∧n < 2 ^ 63∧x.length*n.toNat≤sizeLine)) (.ok (.str (Txt.mul x n)))
 | _,_=> .no
theorem t4:jA X (binaryOp .Mult) lW:=by
 intro pins s σ H B da db d x y v u I hb rx ry ra rb hg
 unfold lW at hg
 split at hg
 ·obtain⟨h1,h2⟩:=R.bp hg
  cases h2
  have h1:=of_decide_eq_true h1
  exact FU pins s σ H x y v u _ I rx ry ⟨_,_,Rep.int.mp ra,Rep.int.mp rb,h1,aW.refl H,Rep.int.mpr rfl⟩
 ·obtain⟨h1,h2⟩:=R.bp hg
  cases h2
  have h1:=of_decide_eq_true h1
  exact Cw pins s σ H x y v u _ I rx ry ⟨_,_,Rep.str.mp ra,Rep.int.mp rb,mulOk_of h1.1 h1.2.1 h1.2.2,aW.refl H,Rep.str.mpr rfl⟩
 ·cases hg
mutual
noncomputable def toPy:D→PyData
 | .cq=> .none
 | .bl b=> .bool b
 | .int i=> .int i
 | .str x=> .str x
 | .lst ds=> .list (kr ds)
 | .tup ds=> .tuple (kr ds)
 | .dct _ _=> .dict []
noncomputable def kr:List D→List PyData
 | []=>[]
 | d ::ds=>toPy d ::kr ds
end
mutual
noncomputable def fK:D→Bool
 | .dct _ _=>false
 | .lst ds=>jj ds
 | .tup ds=>jj ds
 | _=>true
noncomputable def jj:List D→Bool
 | []=>true
 | d ::ds=>fK d && jj ds
end
mutual
theorem Rep.reads{pins:List (Addr × Obj)}{σ:St}{H:Hp}{s:Shared}{B:List Addr}(I:Inv X pins σ H s):∀{d:D} {v:V} {u:Value},fK d=true→Rep X.K B H d v→RelV v u→∃as,Reads s.heap u (toPy d) as
 | .cq,v,u,_,r,q=>by rw[Rep.cq.mp r] at q;cases q;unfold toPy;exact⟨_, .none⟩
 | .bl b,v,u,_,r,q=>by rw[Rep.bl.mp r] at q;cases q;unfold toPy;exact⟨_, .bool b⟩
 | .int i,v,u,_,r,q=>by rw[Rep.int.mp r] at q;obtain⟨t,rfl⟩:=q;unfold toPy;exact⟨_, .int i t⟩
 | .str x,v,u,_,r,q=>by rw[Rep.str.mp r] at q;obtain⟨t,rfl⟩:=q;unfold toPy;exact⟨_, .str x t⟩
 | .lst ds,v,u,hp,r,q=>by
   obtain⟨a,xs,rfl,l,rs⟩:=Rep.lst.mp r
   cases q
   obtain⟨its,rv,⟨o,n,e,hc,hd,he⟩,_⟩:=I.list l.sq
   obtain⟨as,ra⟩:=aF.reads I (by unfold fK at hp;exact hp) rs rv
   unfold toPy
   exact⟨_, .list e hc he (by simpa using ra)⟩
 | .tup ds,v,u,hp,r,q=>by
   obtain⟨a,xs,rfl,l,rs⟩:=Rep.tup.mp r
   cases q
   obtain⟨its,rv,⟨o,e,hc,n,hd⟩,_⟩:=I.tuple l.sq
   obtain⟨as,ra⟩:=aF.reads I (by unfold fK at hp;exact hp) rs rv
   unfold toPy
   exact⟨_, .tuple e hc hd (by simpa using ra)⟩
 | .dct _ _,v,u,hp,r,q=>by unfold fK at hp;cases hp
theorem aF.reads{pins:List (Addr × Obj)}{σ:St}{H:Hp}{s:Shared}{B:List Addr}(I:Inv X pins σ H s):∀{ds:List D} {vs:List V} {us:List Value},jj ds=true→aF X.K B H ds vs→Vals vs us→∃as,ReadsAll s.heap us (kr ds) as
 | [],vs,us,_,r,q=>by unfold aF at r;subst r;cases q;unfold kr;exact⟨_, .nil⟩
 | d ::ds,vs,us,hp,r,q=>by
   obtain⟨x,xs,rfl,r1,r2⟩:=r.cn
   cases q with
   | cons q1 q2=>
     unfold jj at hp
     obtain⟨h1,h2⟩:=Bool.and_eq_true_iff.mp hp
     obtain⟨as,a1⟩:=Rep.reads I h1 r1 q1
     obtain⟨bs,a2⟩:=aF.reads I h2 r2 q2
     unfold kr
     exact⟨_, .cons a1 a2⟩
end
noncomputable def EY:D→D→R Bool
 | .int i, .int j=> .ok (decide (i=j))
 | .str x, .str y=> .ok (decide (x=y))
 | .bl a, .bl b=> .ok (decide (a=b))
 | d,e=>R.bZ (fK d && fK e && SeqAt.shaped (toPy d) && SeqAt.shaped (toPy e)) (.ok (PyData.eqv (toPy d) (toPy e)))
noncomputable def ja(d e:D):R D:=(EY d e).bind fun b=> .ok (.bl b)
noncomputable def qN(d e:D):R D:=(EY d e).bind fun b=> .ok (.bl (!b))
theorem h_(hu:X.A.units+64 < cLine):jA X (compareOp .Eq) ja:=by
 intro pins s σ H B da db d x y v u I hb rx ry ra rb hg
 obtain⟨b,h1,h2⟩:=R.ak hg
 cases h2
 unfold EY at h1
 split at h1
 ·cases h1
  rename_i i j
  have:=A1 pins s σ H x y v u (fun z H'=>aW H H'∧Rep X.K B H' (.bl (decide (i=j))) z) I rx ry
  rw[Rep.int.mp ra,Rep.int.mp rb] at this
  refine this ⟨rfl,aW.refl H,Rep.bl.mpr ?_⟩
  simp [V.int.injEq]
 ·cases h1
  rename_i i j
  have:=A1 pins s σ H x y v u (fun z H'=>aW H H'∧Rep X.K B H' (.bl (decide (i=j))) z) I rx ry
  rw[Rep.str.mp ra,Rep.str.mp rb] at this
  refine this ⟨rfl,aW.refl H,Rep.bl.mpr ?_⟩
  simp [V.str.injEq]
 ·cases h1
  rename_i i j
  have:=A1 pins s σ H x y v u (fun z H'=>aW H H'∧Rep X.K B H' (.bl (decide (i=j))) z) I rx ry
  rw[Rep.bl.mp ra,Rep.bl.mp rb] at this
  refine this ⟨rfl,aW.refl H,Rep.bl.mpr ?_⟩
  simp [V.bl.injEq]
 ·obtain⟨h3,h4⟩:=R.bp h1
  cases h4
  simp only[Bool.and_eq_true] at h3
  obtain⟨⟨⟨p1,p2⟩,s1⟩,s2⟩:=h3
  obtain⟨as,r1⟩:=ra.reads I p1 rx
  obtain⟨bs,r2⟩:=rb.reads I p2 ry
  exact eq_dataH r1 r2 s1 s2 hu ⟨.bl _,H,I,rfl,aW.refl H,Rep.bl.mpr rfl⟩
theorem Br(hu:X.A.units+64 < cLine):jA X (compareOp .NotEq) qN:=by
 intro pins s σ H B da db d x y v u I hb rx ry ra rb hg
 obtain⟨b,h1,h2⟩:=R.ak hg
 cases h2
 unfold EY at h1
 split at h1
 ·cases h1
  rename_i i j
  have:=Aq pins s σ H x y v u (fun z H'=>aW H H'∧Rep X.K B H' (.bl (!decide (i=j))) z) I rx ry
  rw[Rep.int.mp ra,Rep.int.mp rb] at this
  refine this ⟨rfl,aW.refl H,Rep.bl.mpr ?_⟩
  simp [V.int.injEq]
 ·cases h1
  rename_i i j
  have:=Aq pins s σ H x y v u (fun z H'=>aW H H'∧Rep X.K B H' (.bl (!decide (i=j))) z) I rx ry
  rw[Rep.str.mp ra,Rep.str.mp rb] at this
  refine this ⟨rfl,aW.refl H,Rep.bl.mpr ?_⟩
  simp [V.str.injEq]
 ·cases h1
  rename_i i j
  have:=Aq pins s σ H x y v u (fun z H'=>aW H H'∧Rep X.K B H' (.bl (!decide (i=j))) z) I rx ry
  rw[Rep.bl.mp ra,Rep.bl.mp rb] at this
  refine this ⟨rfl,aW.refl H,Rep.bl.mpr ?_⟩
  simp [V.bl.injEq]
 ·obtain⟨h3,h4⟩:=R.bp h1
  cases h4
  simp only[Bool.and_eq_true] at h3
  obtain⟨⟨⟨p1,p2⟩,s1⟩,s2⟩:=h3
  obtain⟨as,r1⟩:=ra.reads I p1 rx
  obtain⟨bs,r2⟩:=rb.reads I p2 ry
  exact ne_dataH r1 r2 s1 s2 hu ⟨.bl _,H,I,rfl,aW.refl H,Rep.bl.mpr rfl⟩
noncomputable def strs?:List D→Option (List Str)
 | []=>some []
 | .str x ::ds=>(strs? ds).map (x ::·)
 | _ ::_=>none
theorem jO{K:PySem.W.Frag}{B:List Addr}{H:Hp}:∀{ds:List D} {xs:List V} {ss:List Str},aF K B H ds xs→strs? ds=some ss→xs=ss.map V.str
 | [],xs,ss,r,h=>by unfold aF at r;subst r;cases h;rfl
 | d ::ds,xs,ss,r,h=>by
   obtain⟨x,r',rfl,r1,r2⟩:=r.cn
   cases d with
   | str z=>
     unfold strs? at h
     cases e:strs? ds with
     | none=>rw [e] at h;cases h
     | some tt=>
       rw[e] at h
       cases h
       rw[Rep.str.mp r1,jO r2 e]
       rfl
   | _=>cases h
noncomputable def ints?:List D→Option (List Int)
 | []=>some []
 | .int x ::ds=>(ints? ds).map (x ::·)
 | _ ::_=>none
theorem fR{K:PySem.W.Frag}{B:List Addr}{H:Hp}:∀{ds:List D} {xs:List V} {ss:List Int},aF K B H ds xs→ints? ds=some ss→xs=ss.map V.int
 | [],xs,ss,r,h=>by unfold aF at r;subst r;cases h;rfl
 | d ::ds,xs,ss,r,h=>by
   obtain⟨x,r',rfl,r1,r2⟩:=r.cn
   cases d with
   | int z=>
     unfold ints? at h
     cases e:ints? ds with
     | none=>rw [e] at h;cases h
     | some tt=>
       rw[e] at h
       cases h
       rw[Rep.int.mp r1,fR r2 e]
       rfl
   | _=>cases h
noncomputable def inD(d e:D):R Bool:=match d,e with
 | .str x, .lst ds=>(match strs? ds with | some ss=> .ok (ss.contains x) | none=> .no)
 | .str x, .tup ds=>(match strs? ds with | some ss=> .ok (ss.contains x) | none=> .no)
 | .str x, .str y=> .ok (!(Builtin.Str.occurrences y x 0 y.length 1).isEmpty)
 | .int x, .lst ds=>(match ints? ds with | some ss=> .ok (ss.contains x) | none=> .no)
 | .int x, .tup ds=>(match ints? ds with | some ss=> .ok (ss.contains x) | none=> .no)
 | _,_=> .no
noncomputable def o9(d e:D):R D:=(inD d e).bind fun b=> .ok (.bl b)
noncomputable def kE(d e:D):R D:=(inD d e).bind fun b=> .ok (.bl (!b))
theorem qf(x:Str):∀ss:List Str,Ap (.str x) (ss.map V.str)=ss.contains x
 | []=>rfl
 | y ::ss=>by
   unfold Ap
   rw[List.map_cons,List.any_cons]
   have ih:=qf x ss
   unfold Ap at ih
   rw[ih]
   show(y==x || ss.contains x)=_
   rw[List.contains_cons]
   congr 1
   exact Bool.eq_iff_iff.mpr ⟨fun h=>by simpa using(beq_iff_eq.mp h).symm,fun h=>by simpa using(beq_iff_eq.mp h).symm⟩
theorem pK(x:Int):∀ss:List Int,Ap (.int x) (ss.map V.int)=ss.contains x
 | []=>rfl
 | y ::ss=>by
   unfold Ap
   rw[List.map_cons,List.any_cons]
   have ih:=pK x ss
   unfold Ap at ih
   rw[ih]
   show(y==x || ss.contains x)=_
   rw[List.contains_cons]
   congr 1
   exact Bool.eq_iff_iff.mpr ⟨fun h=>by simpa using(beq_iff_eq.mp h).symm,fun h=>by simpa using(beq_iff_eq.mp h).symm⟩
theorem rj(ss:List Int):(ss.map V.int).all jF=true:=by
 rw[List.all_map]
 simp [List.all_eq_true,jF]
theorem rP(ss:List Str):(ss.map V.str).all jF=true:=by
 rw[List.all_map]
 simp [List.all_eq_true,jF]
theorem EX{neg:Bool}{op:CmpOp}{g:D→D→R D}(h1:kz X (compareOp op) (Kh X.K neg))(h2:kz X (compareOp op) (fun x y H Q=>∃i j,x= .str i∧y= .str j∧Q (.bl (if neg then !(!(Builtin.Str.occurrences j i 0 j.length 1).isEmpty) else(!(Builtin.Str.occurrences j i 0 j.length 1).isEmpty))) H))
 (hg:∀d e r,g d e= .ok r→∃b,inD d e= .ok b∧r= .bl (if neg then !b else b)):jA X (compareOp op) g:=by
 intro pins s σ H B da db d x y v u I hb rx ry ra rb hg'
 obtain⟨b,hi,rfl⟩:=hg da db d hg'
 unfold inD at hi
 split at hi
 ·rename_i z ds
  split at hi
  ·rename_i ss e
   cases hi
   obtain⟨a,xs,rfl,l,rs⟩:=Rep.lst.mp rb
   refine h1 pins s σ H x _ v u _ I rx ry ⟨a,xs,rfl, .inl l.sq,by rw[Rep.str.mp ra];rfl,by rw[jO rs e];exact rP _,aW.refl H,Rep.bl.mpr ?_⟩
   rw[jO rs e,Rep.str.mp ra,qf]
  ·cases hi
 ·rename_i z ds
  split at hi
  ·rename_i ss e
   cases hi
   obtain⟨a,xs,rfl,l,rs⟩:=Rep.tup.mp rb
   refine h1 pins s σ H x _ v u _ I rx ry ⟨a,xs,rfl, .inr l.sq,by rw[Rep.str.mp ra];rfl,by rw[jO rs e];exact rP _,aW.refl H,Rep.bl.mpr ?_⟩
   rw[jO rs e,Rep.str.mp ra,qf]
  ·cases hi
 ·cases hi
  exact h2 pins s σ H x y v u _ I rx ry ⟨_,_,Rep.str.mp ra,Rep.str.mp rb,aW.refl H,Rep.bl.mpr rfl⟩
 ·rename_i z ds
  split at hi
  ·rename_i ss e
   cases hi
   obtain⟨a,xs,rfl,l,rs⟩:=Rep.lst.mp rb
   refine h1 pins s σ H x _ v u _ I rx ry ⟨a,xs,rfl, .inl l.sq,by rw[Rep.int.mp ra];rfl,by rw[fR rs e];exact rj _,aW.refl H,Rep.bl.mpr ?_⟩
   rw[fR rs e,Rep.int.mp ra,pK]
  ·cases hi
 ·rename_i z ds
  split at hi
  ·rename_i ss e
   cases hi
   obtain⟨a,xs,rfl,l,rs⟩:=Rep.tup.mp rb
   refine h1 pins s σ H x _ v u _ I rx ry ⟨a,xs,rfl, .inr l.sq,by rw[Rep.int.mp ra];rfl,by rw[fR rs e];exact rj _,aW.refl H,Rep.bl.mpr ?_⟩
   rw[fR rs e,Rep.int.mp ra,pK]
  ·cases hi
 ·cases hi
theorem zi:jA X (compareOp .In) o9:=EX (neg:=false) rX y9 fun d e r h=>by
 obtain⟨b,h1,h2⟩:=R.ak h
 cases h2
 exact⟨b,h1,rfl⟩
noncomputable def bX(d e:D):R D:=match d,e with
 | .lst ds, .int i=>(match oU ds i with | some x=> .ok x | none=> .no)
 | .tup ds, .int i=>(match oU ds i with | some x=> .ok x | none=> .no)
 | .str x, .int i=>R.bZ (decide (x.length≤sizeLine)) (match oU x.cps.toList i with | some c=> .ok (.str ⟨#[c]⟩) | none=> .no)
 | _,_=> .no
theorem m5{K:PySem.W.Frag}{B:List Addr}{H:Hp}{ds:List D}{xs:List V}{i:Int}{d:D}(r:aF K B H ds xs)(h:oU ds i=some d):∃x,oU xs i=some x∧Rep K B H d x:=by
 unfold oU at h ⊢
 rw[←r.length]
 cases e:qt ds.length i with
 | none=>rw [e] at h;cases h
 | some j=>
   rw[e] at h
   exact r.get h
theorem Hl{a b:Expr}{fa fb:FD}{pos:Pos}(ha:PD X a fa)(hb:PD X b fb)(hs:pk b):PD X (.Subscript a b pos) (e2 bX fa fb):=by
 refine(Eg (r:=Jl X.K) A2 ha hb hs).imp fun σ H Q ⟨Z,B,δ,d,E,hf,q⟩=>?_
 obtain⟨d1,h1,h2⟩:=R.ak hf
 obtain⟨d2,h3,h4⟩:=R.ak h2
 refine⟨Z,B,δ,d1,E,h1,fun v1 H1 s1 r1=>⟨Z,B,δ,d2,E.same s1,h3,fun v2 H2 s2 r2=>?_⟩⟩
 have r1':=r1.same s2
 unfold bX at h4
 split at h4
 ·split at h4
  ·rename_i e
   cases h4
   obtain⟨p,xs,rfl,l,rs⟩:=Rep.lst.mp r1'
   obtain⟨y,e1,e2⟩:=m5 rs e
   exact .inl ⟨p,xs,_,y,rfl,Rep.int.mp r2,l.sq,e1,q y H2 (s1.trans s2) e2⟩
  ·cases h4
 ·split at h4
  ·rename_i e
   cases h4
   obtain⟨p,xs,rfl,l,rs⟩:=Rep.tup.mp r1'
   obtain⟨y,e1,e2⟩:=m5 rs e
   exact .inr (.inl ⟨p,xs,_,y,rfl,Rep.int.mp r2,l.sq,e1,q y H2 (s1.trans s2) e2⟩)
  ·cases h4
 ·obtain⟨hl,h5⟩:=R.bp h4
  split at h5
  ·rename_i e
   cases h5
   exact .inr (.inr ⟨_,_,_,Rep.str.mp r1',Rep.int.mp r2,of_decide_eq_true hl,e,q _ H2 (s1.trans s2) (Rep.str.mpr rfl)⟩)
  ·cases h5
 ·cases h4
noncomputable abbrev FO:=aw→R (Option Int)
noncomputable def K9(K:PySem.W.Frag)(f:FO):TO:=fun σ H Q=>∃Z B δ o,dX K Z B H σ δ∧f δ= .ok o∧∀H',aW H H'→Q o H'
theorem PO.imp{X:Cx}{e:Option Expr}{t t':TO}(h:PO X e t)(w:∀σ H Q,t' σ H Q→t σ H Q):PO X e t':=fun pins s σ H Q I hq=>h pins s σ H Q I (w σ H Q hq)
noncomputable abbrev PP(X:Cx)(e:Option Expr)(f:FO):Prop:=PO X e (K9 X.K f)
noncomputable def kT:FO:=fun _=> .ok none
noncomputable def jH(f:FD):FO:=fun δ=>(f δ).bind fun d=>match d with | .int i=> .ok (some i) | _=> .no
theorem DK:PP X none kT:=Dg.imp fun σ H Q ⟨Z,B,δ,o,E,hf,q⟩=>by cases hf;exact q H (aW.refl H)
theorem DJ{e:Expr}{f:FD}(h:PD X e f):PP X (some e) (jH f):=(C3 h).imp fun σ H Q ⟨Z,B,δ,o,E,hf,q⟩=>by
 obtain⟨d,h1,h2⟩:=R.ak hf
 cases d with
 | int i=>cases h2;exact⟨Z,B,δ, .int i,E,h1,fun v H1 s1 r1=>⟨i,Rep.int.mp r1,q H1 s1⟩⟩
 | _=>cases h2
theorem ED:Gn X (fun x lo hi H Q=>∃z,x= .str z∧z.length≤sizeLine∧Q (.str (Txt.slice z lo hi)) H):=by
 intro pins s σ H x v vl vu lo hi sl Q I rx hs pl pu h
 obtain⟨z,rfl,hz,q⟩:=h
 obtain⟨t,rfl⟩:=rx
 refine⟨"str",_,F.slot_str_getitem.lookup,typeIs_str _ _ _,?_⟩
 have fin:∀t' k,EP X pins σ Q (.str (Txt.slice z lo hi) t') {s with toks:=k}:=fun t' k=>⟨.str _,H,I.tok _,⟨_,rfl⟩,q⟩
 obtain⟨o,ho,hc,hd⟩:=hs
 cases pl with
 | none=>
   cases pu with
   | none=>exact wpAny_getItem_str_slice (l:=none) (u:=none) (st:=none) ⟨o,ho,hc,hd⟩ rfl (post_val_or_str ⟨Nat.le_trans (Txt.slice_le z _ _) hz,fin⟩)
   | int j u=>exact wpAny_getItem_str_slice (l:=none) (u:=some (j,u)) (st:=none) ⟨o,ho,hc,hd⟩ rfl (post_val_or_str ⟨Nat.le_trans (Txt.slice_le z _ _) hz,fin⟩)
 | int i t1=>
   cases pu with
   | none=>exact wpAny_getItem_str_slice (l:=some (i,t1)) (u:=none) (st:=none) ⟨o,ho,hc,hd⟩ rfl (post_val_or_str ⟨Nat.le_trans (Txt.slice_le z _ _) hz,fin⟩)
   | int j u=>exact wpAny_getItem_str_slice (l:=some (i,t1)) (u:=some (j,u)) (st:=none) ⟨o,ho,hc,hd⟩ rfl (post_val_or_str ⟨Nat.le_trans (Txt.slice_le z _ _) hz,fin⟩)
noncomputable def cutD{α:Type}(xs:List α)(lo hi:Option Int):List α:=(xs.drop (HT.q_ xs.length 0 lo)).take (HT.q_ xs.length xs.length hi - HT.q_ xs.length 0 lo)
noncomputable def GJ(d:D)(lo hi:Option Int):R D:=match d with
 | .str x=>R.bZ (decide (x.length≤sizeLine)) (.ok (.str (Txt.slice x lo hi)))
 | .lst ds=> .ok (.lst (cutD ds lo hi))
 | _=> .no
theorem Ar{K:PySem.W.Frag}{B:List Addr}{H:Hp}{ds:List D}{xs:List V}(r:aF K B H ds xs)(lo hi:Option Int):aF K B H (cutD ds lo hi) (wH xs lo hi):=by
 unfold cutD wH
 rw[←r.length]
 exact(r.drop _).take _
noncomputable def xM(f:FD)(fl fh:FO):FD:=fun δ=>(f δ).bind fun d=>(fl δ).bind fun lo=>(fh δ).bind fun hi=>GJ d lo hi
theorem Hd{e:Expr}{lo hi:Option Expr}{f:FD}{fl fh:FO}{p2 pos:Pos}(he:PD X e f)(hl:PP X lo fl)(hh:PP X hi fh):PD X (.Subscript e (.Slice lo hi none p2) pos) (xM f fl fh):=by
 refine(AK (ED.or DB) he hl hh).imp fun σ H Q ⟨Z,B,δ,d,E,hf,q⟩=>?_
 obtain⟨d1,h1,h2⟩:=R.ak hf
 obtain⟨l,h3,h4⟩:=R.ak h2
 obtain⟨h,h5,h6⟩:=R.ak h4
 refine⟨Z,B,δ,d1,E,h1,fun v1 H1 s1 r1=>⟨Z,B,δ,l,E.same s1,h3,fun H2 s2=>⟨Z,B,δ,h,(E.same s1).same s2,h5,fun H3 s3=>?_⟩⟩⟩
 have sA:aW H H3:=s1.trans (s2.trans s3)
 have r1':=r1.same (s2.trans s3)
 unfold GJ at h6
 split at h6
 ·obtain⟨hz,h7⟩:=R.bp h6
  cases h7
  exact .inl ⟨_,Rep.str.mp r1',of_decide_eq_true hz,q _ H3 sA (Rep.str.mpr rfl)⟩
 ·cases h6
  obtain⟨a,xs,rfl,ls,rs⟩:=Rep.lst.mp r1'
  refine .inr ⟨a,xs,rfl,ls.sq,fun p hp=>q _ _ (sA.trans (aY hp)) (Rep.lst.mpr ⟨p,_,rfl, .sV bb fun ha=>?_,(Ar rs l h).same (aY hp)⟩)⟩
  obtain⟨o,ho⟩:=(E.same sA).bs p ha
  rw[hp] at ho;cases ho
 ·cases h6
end
end L2
end
section
set_option maxRecDepth 100000
set_option maxHeartbeats 4000000
namespace L2
open PySem PySem.Spec PyProof.Rows
section
variable {X:Cx}
theorem aF.one{K:PySem.W.Frag}{B:List Addr}{H:Hp}{d:D}{xs:List V}(h:aF K B H [d] xs):∃x,xs=[x]∧Rep K B H d x:=by
 obtain⟨x,r,rfl,h1,h2⟩:=h.cn
 unfold aF at h2
 subst h2
 exact⟨x,rfl,h1⟩
theorem aF.two{K:PySem.W.Frag}{B:List Addr}{H:Hp}{d e:D}{xs:List V}(h:aF K B H [d,e] xs):∃x y,xs=[x,y]∧Rep K B H d x∧Rep K B H e y:=by
 obtain⟨x,r,rfl,h1,h2⟩:=h.cn
 obtain⟨y,rfl,h3⟩:=h2.one
 exact⟨x,y,rfl,h1,h3⟩
noncomputable def cC:List D→R D
 | [.str x]=>R.bZ (decide (x.length≤sizeLine)) (.ok (.int x.length))
 | [.lst ds]=> .ok (.int ds.length)
 | [.tup ds]=> .ok (.int ds.length)
 | _=> .no
theorem cO:cP X (.builtin "len") cC:=cP.of AM fun B H ds d xs Q _ rs hg q=>by
 unfold cC at hg
 split at hg
 ·obtain⟨h1,h2⟩:=R.bp hg
  cases h2
  obtain⟨x,rfl,r⟩:=rs.one
  exact⟨x,_,rfl,by rw[Rep.str.mp r];exact⟨of_decide_eq_true h1,rfl⟩,q _ H (aW.refl H) (Rep.int.mpr rfl)⟩
 ·cases hg
  obtain⟨x,rfl,r⟩:=rs.one
  obtain⟨a,ys,rfl,l,r⟩:=Rep.lst.mp r
  exact⟨_,_,rfl, .inl ⟨ys,l.sq,rfl⟩,q _ H (aW.refl H) (Rep.int.mpr (by rw[r.length]))⟩
 ·cases hg
  obtain⟨x,rfl,r⟩:=rs.one
  obtain⟨a,ys,rfl,l,r⟩:=Rep.tup.mp r
  exact⟨_,_,rfl, .inr ⟨ys,l.sq,rfl⟩,q _ H (aW.refl H) (Rep.int.mpr (by rw[r.length]))⟩
 ·cases hg
noncomputable def cInt:List D→R D
 | [.int i]=> .ok (.int i)
 | [.bl b]=> .ok (.int (if b then 1 else 0))
 | _=> .no
theorem HH:cP X (.type "int") cInt:=cP.of zh fun B H ds d xs Q _ rs hg q=>by
 unfold cInt at hg
 split at hg
 ·cases hg
  obtain⟨x,rfl,r⟩:=rs.one
  exact .inl ⟨_,by rw[Rep.int.mp r],q _ H (aW.refl H) (Rep.int.mpr rfl)⟩
 ·cases hg
  obtain⟨x,rfl,r⟩:=rs.one
  exact .inr ⟨_,by rw[Rep.bl.mp r],q _ H (aW.refl H) (Rep.int.mpr rfl)⟩
 ·cases hg
noncomputable def cStr:List D→R D
 | [.int i]=>R.bZ (decide (i.natAbs.log2 < 1920)) (.ok (.str (toString i)))
 | _=> .no
noncomputable def qk:List D→R D
 | [.int i, .int j]=> .ok (.int (if j < i then j else i))
 | _=> .no
theorem HI(hc:X.calm=true):cP X (.builtin "min") qk:=cP.of (y3 hc) fun B H ds d xs Q _ rs hg q=>by
 unfold qk at hg
 split at hg
 ·cases hg
  obtain⟨x,y,rfl,r1,r2⟩:=rs.two
  exact⟨_,_,by rw[Rep.int.mp r1,Rep.int.mp r2],q _ H (aW.refl H) (Rep.int.mpr rfl)⟩
 ·cases hg
noncomputable def Ew:List D→R D
 | [.int i, .int j]=> .ok (.int (if j > i then j else i))
 | _=> .no
theorem Hm(hc:X.calm=true):cP X (.builtin "max") Ew:=cP.of (y0 hc) fun B H ds d xs Q _ rs hg q=>by
 unfold Ew at hg
 split at hg
 ·cases hg
  obtain⟨x,y,rfl,r1,r2⟩:=rs.two
  exact⟨_,_,by rw[Rep.int.mp r1,Rep.int.mp r2],q _ H (aW.refl H) (Rep.int.mpr rfl)⟩
 ·cases hg
noncomputable def fL:List D→R D
 | [.lst ds]=> .ok (.tup ds)
 | [.tup ds]=> .ok (.tup ds)
 | _=> .no
theorem pJ:cP X (.type "tuple") fL:=cP.of q8 fun B H ds d xs Q hb rs hg q=>by
 unfold fL at hg
 split at hg
 ·cases hg
  obtain⟨x,rfl,r⟩:=rs.one
  obtain⟨a,ys,rfl,l,r⟩:=Rep.lst.mp r
  refine⟨a,ys,rfl, .inl ⟨l.sq,fun p hp=>q _ _ (aY hp) (Rep.tup.mpr ⟨p,ys,rfl, .inl ⟨fun ha=>?_, .inl bb⟩,r.same (aY hp)⟩)⟩⟩
  obtain⟨o,ho⟩:=hb p ha
  rw[hp] at ho;cases ho
 ·cases hg
  obtain⟨x,rfl,r⟩:=rs.one
  have r0:=r
  obtain⟨a,ys,rfl,l,r⟩:=Rep.tup.mp r
  exact⟨a,ys,rfl, .inr ⟨l.sq,q _ H (aW.refl H) r0⟩⟩
 ·cases hg
noncomputable def jP:List D→R D
 | [.lst ds]=> .ok (.lst ds)
 | [.tup ds]=> .ok (.lst ds)
 | _=> .no
theorem vF:cP X (.type "list") jP:=cP.of tL fun B H ds d xs Q hb rs hg q=>by
 unfold jP at hg
 split at hg
 ·cases hg
  obtain⟨x,rfl,r⟩:=rs.one
  obtain⟨a,ys,rfl,l,r⟩:=Rep.lst.mp r
  refine⟨a,ys,rfl, .inl l.sq,fun p hp=>q _ _ (aY hp) (Rep.lst.mpr ⟨p,ys,rfl, .sV bb fun ha=>?_,r.same (aY hp)⟩)⟩
  obtain⟨o,ho⟩:=hb p ha
  rw[hp] at ho;cases ho
 ·cases hg
  obtain⟨x,rfl,r⟩:=rs.one
  obtain⟨a,ys,rfl,l,r⟩:=Rep.tup.mp r
  refine⟨a,ys,rfl, .inr l.sq,fun p hp=>q _ _ (aY hp) (Rep.lst.mpr ⟨p,ys,rfl, .sV bb fun ha=>?_,r.same (aY hp)⟩)⟩
  obtain⟨o,ho⟩:=hb p ha
  rw[hp] at ho;cases ho
 ·cases hg
noncomputable def cAbs:List D→R D
 | [.int i]=> .ok (.int (if i < 0 then -i else i))
 | _=> .no
theorem HS:cP X (.builtin "abs") cAbs:=cP.of zM fun B H ds d xs Q _ rs hg q=>by
 unfold cAbs at hg
 split at hg
 ·cases hg
  obtain⟨x,rfl,r⟩:=rs.one
  exact⟨_,by rw[Rep.int.mp r],q _ H (aW.refl H) (Rep.int.mpr rfl)⟩
 ·cases hg
noncomputable def Au:List D→R D
 | [.lst ds]=>(match ints? ds with | some ns=> .ok (.int ns.sum) | none=> .no)
 | _=> .no
theorem gZ:∀{ns:List Int} {us:List Value},Vals (ns.map V.int) us→∃l:List (Int × Tok),us=l.map (fun p=>Value.int p.1 p.2)∧l.map (·.1)=ns
 | [],_, .nil=>⟨[],rfl,rfl⟩
 | n ::ns,_, .cons r t=>by
   obtain⟨l,rfl,e⟩:=gZ t
   obtain⟨tk,rfl⟩:=r
   exact⟨(n,tk) ::l,rfl,by rw[List.map_cons,e]⟩
theorem AL(hc:X.calm=true):cP X (.builtin "sum") Au:=by
 intro pins s σ H B ds d xs us I hb rx rs hg
 unfold Au at hg
 split at hg
 ·split at hg
  ·rename_i es ns e
   cases hg
   obtain⟨x,rfl,r⟩:=rs.one
   obtain⟨a,ys,rfl,l,r⟩:=Rep.lst.mp r
   obtain⟨u,rfl,ru⟩:=vals1 rx
   cases ru
   obtain⟨its,n,rv,e1,hz⟩:=I.FF l
   rw[fR r e] at rv
   obtain⟨ps,rfl,rfl⟩:=gZ rv
   have hl:s.heap.IsList a (intItems ps.toArray):=⟨_,e1,rfl,n,by simp [intItems]⟩
   refine sum_intListG (I.ok.hd hc) hl fun h' tk t' k=>⟨.int _,H,I.kept k,⟨t',rfl⟩,aW.refl H,Rep.int.mpr ?_⟩
   rw[preSum_eq,List.take_of_length_le (by simp)]
  ·cases hg
 ·cases hg
noncomputable def tyName:D→String
 | .cq=>"NoneType" | .bl _=>"bool" | .int _=>"int" | .str _=>"str" | .lst _=>"list" | .tup _=>"tuple" | .dct _ _=>"dict"
noncomputable def uP(T:String)(f:FD):FD:=fun δ=>(f δ).bind fun d=>R.bZ (tyName d==T && d.atom) (.ok (.bl true))
noncomputable def Ii(X:Cx)(id:String)(g:D→List D→R D):Prop:=
 ∀(pins:List (Addr × Obj)) (s:Shared) (σ:St) (H:Hp) (B:List Addr) (da d:D) (ds:List D) (x:V) (xs:List V) (v:Value) (us:List Value),Inv X pins σ H s→(∀a∈B,∃o,H a=some o)→RelV x v→Vals xs us→Rep X.K B H da x→aF X.K B H ds xs→g da ds= .ok d→
  wpAny (model X.prog X.w) X.A (call (.builtin id) (v ::us)) (EP X pins σ fun z H'=>aW H H'∧Rep X.K B H' d z) X.xe s
noncomputable def yX(T:String)(g:D→List D→R D)(f:FD)(fs:aw→R (List D)):FD:=fun δ=>(f δ).bind fun d=>R.bZ (tyName d==T && (d.atom || T=="list")) ((fs δ).bind fun ds=>g d ds)
theorem Ii.r{id:String}{g:D→List D→R D}(h:Ii X id g):J4 X id (fun x xs H Q=>∃B da ds d,(∀a∈B,∃o,H a=some o)∧Rep X.K B H da x∧aF X.K B H ds xs∧g da ds= .ok d∧∀z H',aW H H'→Rep X.K B H' d z→Q z H'):=by
 intro pins s σ H x xs v us Q I rx rxs ⟨B,da,ds,d,hb,ra,rs,hg,q⟩
 exact dW (h pins s σ H B da d ds x xs v us I hb rx rxs ra rs hg) fun z s' ⟨zv,H',I',r',s1,r1⟩=>⟨zv,H',I',r',q zv H' s1 r1⟩
theorem HK{T id:String}{name:Str}{g:D→List D→R D}{o e:Expr}{es:List Expr}{f:FD}{fs:aw→R (List D)}{apos cpos:Pos}(pa:PlainAttrs T)(slot:Slot T name id)(hty:typeOf (.builtin id)=pure (.type "method_descriptor"))(hm:Ii X id g)(ho:PD X o f)(ha:zB X (e ::es) fs)
 (hT:T="str"∨T="int"∨T="list")
 (hbase:attributeBase o name X.env (eval o X.env)=eval o X.env:=by rfl)
 (hfew:((backTo cpos (starEach (e ::es) X.env)).all (fun x=>!x.1) && (backToKw cpos (keywordEach [] X.env)).all (fun x=>x.1.isSome)
   && decide ((e ::es).length+([]:List Keyword).length+(if([]:List Keyword).isEmpty then 0 else 1) < 30))=true:=by rfl)
 (hline:(apos.endLine==cpos.line)=true:=by rfl) (hs:starEach (e ::es) X.env=(false,eval e X.env) ::starEach es X.env:=by rfl) (hplain:(backTo cpos (starEach es X.env)).any (·.1)=false:=by rfl) :
 PD X (.Call (.Attribute o name apos) (e ::es) [] cpos) (yX T g f fs):=by
 refine(BU pa slot hty hm.r ho ha hbase hfew hline hs hplain).imp fun σ H Q ⟨Z,B,δ,d,E,hf,q⟩=>?_
 obtain⟨d1,h1,h2⟩:=R.ak hf
 obtain⟨h3,h4⟩:=R.bp h2
 obtain⟨ds,h5,h6⟩:=R.ak h4
 obtain⟨h7,h8⟩:=Bool.and_eq_true_iff.mp h3
 have h7:tyName d1=T:=by simpa using h7
 refine⟨Z,B,δ,d1,E,h1,fun v1 H1 s1 r1=>⟨?_,Z,B,δ,ds,E.same s1,h5,fun vs H2 s2 r2=>⟨B,d1,ds,d,(E.same (s1.trans s2)).bs,r1.same s2,r2,h6,fun z H' s3 r3=>q z H' (s1.trans (s2.trans s3)) r3⟩⟩⟩
 cases d1 with
 | str z=>rw [Rep.str.mp r1];exact h7.symm
 | int i=>rw [Rep.int.mp r1];exact h7.symm
 | lst es=>obtain⟨a,xs,rfl,l,_⟩:=Rep.lst.mp r1;exact .inl ⟨h7.symm,xs,l.sq⟩
 | cq=>rcases hT with z | z | z <;> (rw [z] at h7;exact absurd (show("NoneType":String)=_ from h7) (by decide))
 | bl _=>rcases hT with z | z | z <;> (rw [z] at h7;exact absurd (show("bool":String)=_ from h7) (by decide))
 | tup _=>rcases hT with z | z | z <;> (rw [z] at h7;exact absurd (show("tuple":String)=_ from h7) (by decide))
 | dct _ _=>rcases hT with z | z | z <;> (rw [z] at h7;exact absurd (show("dict":String)=_ from h7) (by decide))
noncomputable def JR(d:D)(ds:List D):R D:=match d,ds with
 | .str sep,[.lst es]=>(match strs? es with | some ss=>R.bZ (JoinOk sep ss) (.ok (.str (Str.join sep ss))) | none=> .no)
 | _,_=> .no
noncomputable abbrev PJ(X:Cx)(es:List Expr)(f:aw→R (List Str)):Prop:=
 ∀(pins:List (Addr × Obj)) (s:Shared) (σ:St) (H:Hp) (Z B:List Addr) (δ:aw) (acc:Str) (ss:List Str) (Q:VK),Inv X pins σ H s→dX X.K Z B H σ δ→f δ= .ok ss→(ss.foldl (·++·) acc).length≤sizeLine→(∀H',aW H H'→Q (.str (ss.foldl (·++·) acc)) H')→
  wpAny (model X.prog X.w) X.A (joinParts acc (evalEach es X.env)) (EP X pins σ Q) X.xe s
noncomputable def vj:aw→R (List Str):=fun _=> .ok []
noncomputable def oz(f:FD)(g:aw→R (List Str)):aw→R (List Str):=fun δ=>(f δ).bind fun d=>match d with | .str x=>(g δ).bind fun ss=> .ok (x ::ss) | _=> .no
noncomputable def i7(g:aw→R (List Str)):FD:=fun δ=>(g δ).bind fun ss=>R.bZ (decide ((ss.foldl (·++·) Str.empty).length≤sizeLine)) (.ok (.str (ss.foldl (·++·) Str.empty)))
noncomputable def tp:D→R D
 | .str x=>R.bZ (decide (x.length≤sizeLine)) (.ok (.str x))
 | .int i=>R.bZ (decide (i.natAbs.log2 < 1920)) (.ok (.str (toString i)))
 | _=> .no
noncomputable def vn(f:FD):FD:=fun δ=>(f δ).bind tp
noncomputable def Hv:List (D × D)→Str→R (Option D)
 | [],_=> .ok none
 | (.str y,d) ::r,x=>(Hv r x).bind fun o=> .ok (match o with | some e=>some e | none=>if y=x then some d else none)
 | _ ::_,_=> .no
noncomputable def Hy(x:Str):List D:=x.cps.toList.map fun c=> .str ⟨#[c]⟩
noncomputable def LN(x:Str):It:=⟨fun i _=>i < x.cps.size,fun i H v H'=>H'=H∧∃c,x.cps[i]? =some c∧v= .str ⟨#[c]⟩,fun i _=>x.cps.size≤i⟩
noncomputable def J2(f:FD):aw→R (List D):=fun δ=>(f δ).bind fun d=>match d with | .str x=> .ok (Hy x) | _=> .no
noncomputable def Kz(K:PySem.W.Frag)(a:Addr):It:=
 ⟨fun i H=>∃xs x,mw K H a xs∧xs[i]? =some x,fun i H v H'=>∃p x,H p=none∧v= .ref p∧(∀xs,mw K H a xs→xs[i]? =some x)∧H'=upd H p (.tup [.int i,x]),fun i H=>∃xs,mw K H a xs∧xs.length≤i⟩
theorem yp{P:Program}{w:World}{K:PySem.W.Frag}{elts:List Expr}{k:Nat}{pos:Pos}(a e it:Addr)(hei:e≠it):Turn P w K (.Tuple elts k pos) (Kz K a) [e,it] e (fun i h=>(∃old,IsEnum h e it ((i:Nat):Int) old)∧h.IsListIter it a i) where
 mem:=by simp
 obj:=fun i h st b hb=>by
  obtain⟨⟨old,he⟩,o,ho,c,d⟩:=st
  rcases List.mem_cons.mp hb with rfl | hb
  ·exact⟨_,he,fun v z=>by cases z⟩
  ·have e:b=it:=by simpa using hb
   subst e
   exact⟨o,ho,fun v z=>by rw[d] at z;cases z⟩
 keep:=fun i h h' st k=>by
  obtain⟨⟨old,he⟩,hi⟩:=st
  exact⟨⟨old,k e (by simp) _ he⟩,hi.at fun o x=>k it (by simp) o x⟩
 item:=by
  intro X hP hw hK hc i pins s σ H E I hf st hg
  subst hP hw hK
  obtain⟨xs,x,hq,hx⟩:=hg
  obtain⟨its,rv,p,hz⟩:=I.list hq
  obtain⟨u,hu,ru⟩:=rv.get hx
  obtain⟨⟨old,he⟩,hit⟩:=st
  obtain⟨f0,f1,f2,f3,f4,f5⟩:=hf e (by simp)
  obtain⟨g0,g1,g2,g3,g4,g5⟩:=hf it (by simp)
  refine wpAny_pyNext_enum_item he hit p.isList (x:=u) (by simpa using hu) hei fun h₁ heo hit₁ ht₁ hz₁ hk₁=>⟨_,rfl,?_⟩
  refine wpAny_letOwnedTupleGo_enum heo fun h₂ he₂ hs₂=>?_
  replace hs₂:Heap.SameBut e h₁ h₂:=hs₂
  have hel:e < s.heap.objs.size:=Heap.lt_size he
  have ht₂:h₂.get? s.heap.objs.size=some {cls:= .type "tuple",data:= .seq #[.int i s.toks,u]}:=(hs₂.2 _ (Nat.ne_of_gt hel)).trans ht₁
  have kk:∀b o,b≠e→b≠it→s.heap.get? b=some o→h₂.get? b=some o:=fun b o h1 h2 q=>(hs₂.2 b h1).trans (hk₁ b o h1 h2 q)
  have hn:H s.heap.objs.size=none:=I.fresh
  have sm:aW H (upd H s.heap.objs.size (.tup [.int i,x])):=aY hn
  have nit:∀b o,H b=some o→b≠e∧b≠it:=fun b o q=>⟨fun z=>(by rw[z,f0] at q;cases q),fun z=>(by rw[z,g0] at q;cases q)⟩
  have hok:lH X.prog X.w (upd H s.heap.objs.size (.tup [.int i,x])) h₂:=fun b ob q=>by
   by_cases hb:b=s.heap.objs.size
   ·subst hb
    rw[bb] at q
    cases q
    exact⟨by show 2≤sizeLine;decide,[.int i s.toks,u], .cons ⟨_,rfl⟩ (.cons ru .nil),⟨_,ht₂,rfl,_,rfl⟩⟩
   ·rw[bg hb] at q
    refine(I.hok b ob q).sI (fun c v hc z=>?_) (fun c z=>sm c _ z) fun c ys z=>sm c _ z
    rcases hc with rfl | hc
    ·exact kk c v (nit c _ q).1 (nit c _ q).2 z
    ·exact kk c v (nit c _ hc).1 (nit c _ hc).2 z
  have nch:∀b,b ∉ [e,it]→b≠e∧b≠it:=fun b hb=>⟨fun z=>hb (by simp [z]),fun z=>hb (by simp [z])⟩
  have I2:Inv X pins σ (upd H s.heap.objs.size (.tup [.int i,x])) {s with heap:=h₂,toks:=s.toks+1}:=by
   refine I.step (g':=s.gens) (d':=s.drawn) (ch:=[e,it]) (fun b hb=>?_) (fun b o _ _ hb q _=>kk b o (nch b hb).1 (nch b hb).2 q) (fun b o _ _ hb q _=>⟨o.slots,kk b o (nch b hb).1 (nch b hb).2 q⟩)
    (fun b o hb q n=>by rw[bg (Nat.ne_of_lt (Heap.lt_size q))];exact n) (fun b o hb q=>⟨o,kk b o (nch b hb).1 (nch b hb).2 q⟩) (fun b ys z=>sm b _ z) (fun b o u z=>sm b _ z) (fun b ps z=>⟨#[],by rw[sm b _ z];simp⟩) (fun m hm=>?_) hok I.bare
   ·rcases List.mem_cons.mp hb with rfl | hb
    ·exact⟨f3,f1,f4,f5⟩
    ·have z:b=it:=by simpa using hb
     subst z
     exact⟨g3,g1,g4,g5⟩
   ·obtain⟨o,es,ep,ho,r⟩:=hm
    exact⟨o,es,ep,kk _ o (Ne.symm f1) (Ne.symm g1) ho,r⟩
  refine⟨.ref s.heap.objs.size,_,I2,rfl,⟨s.heap.objs.size,x,hn,rfl,fun ys hy=>(by rw[I.m8 hy hq];exact hx),rfl⟩,⟨⟨_,by simpa using he₂⟩,hit₁.at fun o q=>(hs₂.2 it (Ne.symm hei)).trans q⟩,fun b hb=>?_⟩
  rcases List.mem_cons.mp hb with rfl | hb
  ·rw[bg (Nat.ne_of_lt hel)];exact f0
  ·have z:b=it:=by simpa using hb
   subst z
   obtain⟨o,ho,_⟩:=hit
   rw[bg (Nat.ne_of_lt (Heap.lt_size ho))];exact g0
 done:=by
  intro X hP hw hK hc i pins s σ H E I hf st hg
  subst hP hw hK
  obtain⟨xs,hq,hx⟩:=hg
  obtain⟨its,rv,p,hz⟩:=I.list hq
  obtain⟨⟨old,he⟩,hit⟩:=st
  obtain⟨g0,g1,g2,g3,g4,g5⟩:=hf it (by simp)
  have hl:=rv.length
  exact wpAny_pyNext_enum_end (I.ok.hd hc) he hit p.isList (by simp;omega) fun h' eb=>⟨rfl,I.turned (t':=s.toks) (fun b o hb q=>eb b o hb q) g0 g1 g3 g4 g5⟩
 self:=fun A i s Q E st h=>let⟨⟨_,he⟩,_⟩:=st;wpAny_pyIter_enum he h
noncomputable def fj(ds:List D):List D:=ds.zipIdx.map fun p=> .tup [.int p.2,p.1]
noncomputable def j7(f:FD):aw→R (List D):=fun δ=>(f δ).bind fun d=>match d with | .lst ds=> .ok (fj ds) | _=> .no
theorem t6{elts:List Expr}{k:Nat}{tpos:Pos}{a:Expr}{f:FD}{p pos:Pos}(h:PD X a f)(hg:Gl X "enumerate")(hm:X.mg "enumerate"=none)(hs:starEach [a] X.env=[(false,eval a X.env)]:=by rfl):EO X (.Tuple elts k tpos) (.Call (.Name "enumerate" p) [a] [] pos) (j7 f):=by
 intro pins s σ H RR I ⟨Z,B,δ,ds,E,hf,q⟩
 obtain⟨d,h1,h2⟩:=R.ak hf
 have hA:=f_ h jy hs pos pins s σ H (fun vs H1=>aW H H1∧∃v,vs=[v]∧Rep X.K B H1 d v) I ⟨Z,B,δ,d,E,h1,fun v H1 s1 r1=>⟨s1,v,rfl,r1⟩⟩
 refine Call_ (k8 I hg hm boot_enumerate (PyProof.Rows.callWith_type1 (dW hA fun us s1 ⟨vs,H1,I1,r1,ss,v,ev,rr⟩=>?_) hs rfl))
 subst ev
 obtain⟨u,rfl,ru⟩:=vals1 r1
 cases d with
 | lst es=>
   cases h2
   obtain⟨b,xs,rfl,l,rs⟩:=Rep.lst.mp rr
   cases ru
   obtain⟨its,n,rv,e1,hz⟩:=I1.FF l
   refine call_enumerate_list (items:=its.toArray) ⟨_,e1,rfl,n,rfl⟩ fun h' he hit hsz kk=>wpAny_pyIter_enum he ?_
   have I2:Inv X pins σ H1 {s1 with heap:=h'}:=I1.kept (t':=s1.toks) kk
   refine⟨s1.heap.objs.size+1,[s1.heap.objs.size+1,s1.heap.objs.size],_,_,H1,rfl,I2,yp b (s1.heap.objs.size+1) s1.heap.objs.size (Nat.succ_ne_self _),⟨⟨_,he⟩,hit⟩,fun c hc=>?_,q _ H1 ss fun B' H' pr=>?_⟩
   ·have hle:s1.heap.objs.size≤c:=by
     rcases List.mem_cons.mp hc with z | hc
     ·rw[z];exact Nat.le_succ _
     ·have z:c=s1.heap.objs.size:=by simpa using hc
      rw[z];exact Nat.le_refl _
    exact I1.qP hle (I1.hok.fresh hle)
   ·have l':qM X.K B' H' b xs:=l.bq pr
    have rs':=rs.bq pr
    refine⟨fun i d hd=>?_,⟨xs,l'.sq,by rw[←rs.length];unfold fj;simp⟩⟩
    unfold fj at hd
    rw[List.getElem?_map,List.getElem?_zipIdx] at hd
    cases e:es[i]? with
    | none=>rw [e] at hd;cases hd
    | some d0=>
      rw[e] at hd
      have hd:D.tup [.int ((0+i:Nat):Int),d0]=d:=Option.some.inj hd
      rw[Nat.zero_add] at hd
      obtain⟨x,hx,rx⟩:=rs'.get e
      refine⟨⟨xs,x,l'.sq,hx⟩,fun v H'' y hB'=>?_⟩
      obtain⟨p,y,hp,rfl,hy,rfl⟩:=y
      refine⟨aY hp,?_⟩
      subst hd
      have hy2:=hy xs l'.sq
      rw[hx] at hy2
      cases hy2
      refine Rep.tup.mpr ⟨p,_,rfl, .inl ⟨fun ha=>?_, .inl bb⟩,aF.cons (Rep.int.mpr rfl) (aF.cons (rx.same (aY hp)) aF.nil)⟩
      obtain⟨o,ho⟩:=hB' p ha
      rw[hp] at ho;cases ho
 | _=>cases h2
end
end L2
end
section
set_option maxRecDepth 100000
set_option maxHeartbeats 4000000
namespace L2
open PySem PySem.Spec PyProof.Rows
noncomputable def Def(K:PySem.W.Frag)(mg:Str→Option Value)(x:Str)(st:Stmt):Prop:=∃f fd,xB K x x st f fd∧mg x=some (.ref f)
noncomputable def Callee(P:Program)(w:World)(K:PySem.W.Frag)(mg:Str→Option Value)(base:Heap)(k:Nat)(x:Str)(n:Nat)(g:List D→R D):Prop:=
 ∃f fd ps,ip P w K mg base qO k f fd ps (zr K n g)∧mg x=some (.ref f)∧PySem.W.keepIn K (.ref f)=true∧Binds K fd ps []
theorem b3:∀(δ:aw) (ds:List D),aD δ= .ok ds→ds.length=0:=fun δ ds h=>by cases h;rfl
theorem aH{f:FD}{g:aw→R (List D)}{n:Nat}(h:∀(δ:aw) (ds:List D),g δ= .ok ds→ds.length=n):∀(δ:aw) (ds:List D),aq f g δ= .ok ds→ds.length=n+1:=fun δ ds e=>by
 obtain⟨d,h1,h2⟩:=R.ak e
 obtain⟨es,h3,h4⟩:=R.ak h2
 cases h4
 rw[List.length_cons,h δ es h3]
theorem Bl{P:Program}{w:World}{K:PySem.W.Frag}{mg:Str→Option Value}{base:Heap}{x qual:Str}{st:Stmt}{f:Addr}{fd:FuncData}{N ps:List Str}{k:Nat}{F:FS}{b:List Stmt}{sc:Scope}(hb:ao st=b)(hs:af st=sc)(Fn:xB K x qual st f fd)(S:ba N ps sc)
 (hbody:∀(cdv:Value) (A:Around) (outer:List Env) (s:Shared) (H:Hp) (E:XK),eB k (A.deeper (envOfC qual sc s.heap.objs.size f cdv))→
   pe (p6 qO P w K mg base N qual sc f cdv A outer s H E).DG b F):ip P w K mg base qO (k+1) f fd ps (zr K ps.length (lZ N F)):=by
 subst hb hs
 exact DI Fn S hbody
section
variable {X:Cx}
theorem As{g:List D→R D}{k j n:Nat}{x:Str}{p pos:Pos}{e:Expr}{es:List Expr}{fs:aw→R (List D)}(C:Callee X.prog X.w X.K X.mg X.base k x n g)(hr:eB j X.A)(hkj:k≤j)(hg:Gl X x)(ha:zB X (e ::es) fs)
 (hn:∀δ ds,fs δ= .ok ds→ds.length=n) (hdb:(x==("__debug__":Str))=false:=by decide) (he:starEach (e ::es) X.env=(false,eval e X.env) ::starEach es X.env:=by rfl) (hpl:(backTo pos (starEach es X.env)).any (·.1)=false:=by rfl) :
 PD X (.Call (.Name x p) (e ::es) [] pos) (aA g fs):=by
 obtain⟨f,fd,ps,F,hm,hk,hb⟩:=C
 exact CJ F (hr.mono hkj) hg hm hk hb ha hn hdb he hpl
noncomputable def GY(sc:Scope)(N:List Str)(scope:Scope)(kp:List Nat)(kn:List Str):Bool:=
 decide (scope.kind= .function) && scope.names.all (fun y=>decide (y.2≠ .cell)) && scope.names.all (fun y=>decide (y.2= .local→scope.names.lookup y.1=some .local))
  && scope.names.all (fun y=>decide (y.2= .free→(sc.names.lookup y.1=some .cell∨sc.names.lookup y.1=some .free))) && decide (kn.length=kp.length)
  && (List.range kp.length).all (fun j=>decide ((kp[j]?).bind (N[·]?)=kn[j]?)) && kn.all (fun x=>decide (scope.names.lookup x=some .free))
theorem cv.of{scope:Scope}{own:List Str}{kp:List Nat}{kn:List Str}{sc:Scope}{N:List Str}(h1:X.env.scope=sc)(h2:X.N=N)(h:GY sc N scope kp kn=true):cv X scope own kp kn:=by
 unfold GY at h
 simp only[Bool.and_eq_true,decide_eq_true_eq,List.all_eq_true] at h
 obtain⟨⟨⟨⟨⟨⟨a1,a2⟩,a3⟩,a4⟩,a5⟩,a6⟩,a7⟩:=h
 refine⟨a1,a2,a3,fun y hy hf=>?_,a5,fun j i x hj hx=>?_,a7⟩
 ·have:=a4 y hy hf
  unfold Env.kindOf
  rw[h1]
  exact this
 ·have hlt:j < kp.length:=(List.getElem?_eq_some_iff.mp hj).1
  have:=a6 j (List.mem_range.mpr hlt)
  rw[hj] at this
  rw[h2]
  exact this.trans hx
noncomputable def Gu(kvs:List (Key × V))(f g:FD):FD:=fun δ=>(f δ).bind fun k=>(g δ).bind fun d=>match k with
 | .str x=>(match kF (jm [] kvs) (Sum.inr x) with | some (.int i)=> .ok (.int i) | none=> .ok d | _=> .no)
 | _=> .no
theorem Fd{keys:List (Option Expr)}{values:List Expr}{trs:List (TE × TE)}{dpos apos cpos:Pos}{e f:Expr}{fe ff:FD}{kvs:List (Key × V)}(hu:X.A.units+1 < cLine)(h:GG X dpos keys values trs)(hall:keys.all (·.isSome)=true)(hl:keys.length=values.length)(h0:keys≠[])
 (hc:∀σ H Q,Q (kvs.map fun kv=>(kV kv.1,kv.2)) H→qp trs σ H Q) (hlen:kvs.length≤15) (he:PD X e fe) (hf:PD X f ff) (m:M2 X (.Dict keys values dpos) "get" apos e f cpos)
 (hd:PE X (.Dict keys values dpos) (A5 trs)):PD X (.Call (.Attribute (.Dict keys values dpos) "get" apos) [e,f] [] cpos) (Gu kvs fe ff):=by
 refine(Ac hu hd he hf m).imp fun σ H Q ⟨Z,B,δ,d,E,hfd,q⟩=>?_
 obtain⟨k,h1,h2⟩:=R.ak hfd
 obtain⟨dd,h3,h4⟩:=R.ak h2
 intro p hp
 refine hc σ _ _ ⟨bb,kvs,rfl,hlen,p,rfl, .inl ⟨_, .inl bb⟩,?_⟩
 rw[CA]
 have s0:aW H (upd H p (.dK (jm [] kvs))):=aY hp
 refine⟨Z,B,δ,k,E.same s0,h1,fun v1 H1 s1 r1=>⟨Z,B,δ,dd,(E.same s0).same s1,h3,fun v2 H2 s2 r2=>?_⟩⟩
 have hH2:H2 p=some (.dK (jm [] kvs)):=s2 p _ (s1 p _ bb)
 have sA:aW H H2:=s0.trans (s1.trans s2)
 split at h4
 ·rename_i x
  refine⟨kF (jm [] kvs) (Sum.inr x),?_,?_⟩
  ·rw[Rep.str.mp r1];exact qQ.k (k:=Sum.inr x) hH2
  ·split at h4
   ·rename_i i e1
    cases h4
    rw[e1]
    exact q _ H2 sA (Rep.int.mpr rfl)
   ·rename_i e1
    cases h4
    rw[e1]
    exact q _ H2 sA r2
   ·cases h4
 ·cases h4
noncomputable def oT(i:Nat)(f:FD):FS:=fun δ=>(f δ).bind fun d=>match d with
 | .lst es=>(i9 δ i).bind fun ds=>R.bZ (decide (ds.length+es.length≤sizeLine)) (.ok (.nx (δ.set i (.bld (ds++es)))))
 | _=> .no
end
end L2
end
section
set_option maxRecDepth 100000
set_option maxHeartbeats 4000000
namespace L2
open PySem PySem.Spec PyProof.Rows
structure QD (X:Cx) (e:Expr) (f:FD):Prop where
 h:PD X e f
structure QN (X:Cx) (e:Expr) (f:aw→R (List D)):Prop where
 h:PN X e f
structure QB (X:Cx) (e:Expr) (f:aw→R Bool):Prop where
 h:PB X e f
structure Gx (X:Cx) (e:Expr) (f:aw→R Bool):Prop where
 h:B0 X e f
structure C_ (X:Cx) (e:List Expr) (f:aw→R (List D)):Prop where
 h:zB X e f
structure BX (X:Cx) (e:Stmt) (f:FS):Prop where
 h:AI X e f
structure qS (X:Cx) (e:List Stmt) (f:FS):Prop where
 h:pe X e f
structure ES (X:Cx) (e:Expr) (f:FT):Prop where
 h:D8 X e f
structure Dp (X:Cx) (e:List Expr) (f:BQ):Prop where
 h:Bd X e f
structure wI (X:Cx) (tg e:Expr) (f:aw→R (List D)):Prop where
 h:EO X tg e f
structure QP (X:Cx) (e:Option Expr) (f:FO):Prop where
 h:PP X e f
structure QJ (X:Cx) (e:List Expr) (f:aw→R (List Str)):Prop where
 h:PJ X e f
structure Cn (X:Cx) (e:List Expr) (c:aw→R Bool):Prop where
 h:nB X e (D5 X.K c)
section
variable {X:Cx}
theorem cV{e:Expr}{f:aw→R (List D)}(h:QN X e f):QD X e (eNew f):=⟨FK h.1⟩
theorem uA{e:Expr}{f:FD}(h:QD X e f):QD X e (je f):=⟨Cu h.1⟩
theorem aa(i:Nat){x:Str}{pos:Pos}(hN:X.N[i]? =some x:=by rfl)(hv:Ee X.env.scope x:=by first | exact Or.inl rfl | exact Or.inr (Or.inl rfl) | exact Or.inr (Or.inr rfl))(hd:(x==("__debug__":Str))=false:=by decide)(hcd:(x==("__classdict__":Str))=false:=by decide):QD X (.Name x pos) (ae i):=⟨Gm i hN hv hd hcd⟩
theorem ag{i j pos}:QD X (.Constant (.int i) j pos) (eC (.int i)):=⟨EB⟩
theorem nJ{b j pos}:QD X (.Constant (.bool b) j pos) (eC (.bl b)):=⟨Ie⟩
theorem mK{j pos}:QD X (.Constant .none j pos) (eC .cq):=⟨Ge⟩
theorem bF{x j pos}:QD X (.Constant (.str x) j pos) (eC (.str x)):=⟨Fv⟩
theorem ah:C_ X [] aD:=⟨CO⟩
theorem ab{e:Expr}{es:List Expr}{f:FD}{g:aw→R (List D)}(h:QD X e f)(t:C_ X es g)(hs:starEach (e ::es) X.env=(false,eval e X.env) ::starEach es X.env:=by rfl):C_ X (e ::es) (aq f g):=⟨Ab h.1 t.1 hs⟩
theorem cL{es:List Expr}{g:aw→R (List D)}{x1 pos}(h:C_ X es g):QD X (.Tuple es x1 pos) (eK g):=⟨F7 h.1⟩
theorem cc{es:List Expr}{g:aw→R (List D)}{pos}(h:C_ X es g):QN X (.List es pos) (dM g):=⟨Fe h.1⟩
theorem aJ{op:Operator}{g:D→D→R D}{a b:Expr}{fa fb:FD}{pos:Pos}(ho:jA X (binaryOp op) g)(ha:QD X a fa)(hb:QD X b fb):QD X (.BinOp a op b pos) (e2 g fa fb):=⟨HV ho ha.1 hb.1⟩
theorem gz{op:CmpOp}{g:D→D→R D}{a b:Expr}{fa fb:FD}{pos:Pos}(ho:jA X (compareOp op) g)(ha:QD X a fa)(hb:QD X b fb)(hm:behindInMarks op b=false):QD X (.Compare a [op] [b] pos) (e2 g fa fb):=⟨Ep ho ha.1 hb.1 hm⟩
theorem bB{op:CmpOp}{g:D→D→R D}{a b:Expr}{fa fb:FD}{pos:Pos}(ho:jA X (compareOp op) g)(ha:QD X a fa)(hb:QD X b fb)(hm:behindInMarks op b=false):QB X (.Compare a [op] [b] pos) (b2 g fa fb):=⟨FR ho ha.1 hb.1 hm⟩
theorem gR{a:Expr}{f:FD}(ha:QD X a f)(he:∀whole,isTrue a X.env whole=(do let v ←whole;standAt a.pos;holding [v] (truthy v)):=by intro _;rfl):QB X a (hV f):=⟨Gs ha.1 he⟩
theorem mQ{e:Expr}{f:aw→R Bool}(h:Gx X e f):QB X e f:=⟨B0.pb h.1⟩
theorem lp{a:Expr}{f:aw→R Bool}{pos:Pos}(h:QB X a f):Gx X (.BoolOp .And [a] pos) f:=⟨BH h.1⟩
theorem BE{a:Expr}{f:aw→R Bool}{pos:Pos}(h:QB X a f):Gx X (.BoolOp .Or [a] pos) f:=⟨Dy h.1⟩
theorem nk{a b:Expr}{rest:List Expr}{f g:aw→R Bool}{pos:Pos}(ha:QB X a f)(hb:Gx X (.BoolOp .And (b ::rest) pos) g):Gx X (.BoolOp .And (a ::b ::rest) pos) (j_ f g):=⟨C5 ha.1 hb.1⟩
theorem Ds{a b:Expr}{rest:List Expr}{f g:aw→R Bool}{pos:Pos}(ha:QB X a f)(hb:Gx X (.BoolOp .Or (b ::rest) pos) g):Gx X (.BoolOp .Or (a ::b ::rest) pos) (wG f g):=⟨Ex ha.1 hb.1⟩
theorem lz{a:Expr}{f:aw→R Bool}{pos:Pos}(ha:QB X a f):QB X (.UnaryOp .Not a pos) (jr f):=⟨GC ha.1⟩
theorem pG{a:Expr}{op}{f:FD}{pos:Pos}(h:QD X a f):QD X (.BoolOp op [a] pos) f:=⟨Gy h.1⟩
theorem m6{a b:Expr}{rest:List Expr}{f g:FD}{pos:Pos}(ha:QD X a f)(hb:QD X (.BoolOp .And (b ::rest) pos) g):QD X (.BoolOp .And (a ::b ::rest) pos) (kC f g):=⟨F6 ha.1 hb.1⟩
theorem Cr{a:Expr}{f:FD}{pos:Pos}(ha:QD X a f):QD X (.UnaryOp .Not a pos) (qw f):=⟨Fo ha.1⟩
theorem vH{c a b:Expr}{fc:aw→R Bool}{f g:FD}{pos:Pos}(hc:QB X c fc)(ha:QD X a f)(hb:QD X b g):QD X (.IfExp c a b pos) (wq fc f g):=⟨Hj hc.1 ha.1 hb.1⟩
theorem aI{g:List D→R D}{x:Str}{id:String}{p pos:Pos}{e:Expr}{es:List Expr}{fs:aw→R (List D)}(hc:cP X (.builtin id) g)(hg:Gl X x)(hm:X.mg x=none)(hv:bootBuiltins x=some (.builtin id))(ha:C_ X (e ::es) fs)(hn:x≠"__name__":=by decide)(hdb:(x==("__debug__":Str))=false:=by decide)(he:starEach (e ::es) X.env=(false,eval e X.env) ::starEach es X.env:=by rfl)(hpl:(backTo pos (starEach es X.env)).any (·.1)=false:=by rfl):QD X (.Call (.Name x p) (e ::es) [] pos) (aA g fs):=⟨Bg hc hg hm hv ha.1 hn hdb he hpl⟩
theorem cI{g:List D→R D}{x:Str}{T:String}{p pos:Pos}{e:Expr}{es:List Expr}{fs:aw→R (List D)}(hc:cP X (.type T) g)(hg:Gl X x)(hm:X.mg x=none)(hv:bootBuiltins x=some (.type T))(ha:C_ X (e ::es) fs)(hn:x≠"__name__":=by decide)(hdb:(x==("__debug__":Str))=false:=by decide)(he:starEach (e ::es) X.env=(false,eval e X.env) ::starEach es X.env:=by rfl)(hpl:(backTo pos (starEach es X.env)).any (·.1)=false:=by rfl):QD X (.Call (.Name x p) (e ::es) [] pos) (aA g fs):=⟨yZ hc hg hm hv ha.1 hn hdb he hpl⟩
theorem cm:qS X [] fH:=⟨Dk⟩
theorem aN{st:Stmt}{rest:List Stmt}{F G:FS}(h1:BX X st F)(h2:qS X rest G):qS X (st ::rest) (cF F G):=⟨BD h1.1 h2.1⟩
theorem aM{st:Stmt}{F:FS}(h1:BX X st F):qS X [st] F:=⟨CB h1.1⟩
theorem dg{i:Nat}{x:Str}{e:Expr}{f:FD}{pos pos':Pos}(hN:X.N.Nodup)(hi:X.N[i]? =some x)(hx:Loc X.env.scope x)(he:QD X e f)(hs:swapsWith e (some (.Name x pos')) pos.line X.env=pure false:=by rfl)(hf:X.fn x=true∨X.env.scope.names.lookup x=some .local:=by first | exact .inl rfl | exact .inr rfl | assumption):BX X (.Assign [.Name x pos'] e pos) (fG i f):=⟨CQ hN hi hx he.1 hs hf⟩
theorem AY{i:Nat}{x:Str}{e:Expr}{f:aw→R (List D)}{pos pos':Pos}(hN:X.N.Nodup)(hi:X.N[i]? =some x)(hx:Loc X.env.scope x)(he:QN X e f)(hs:swapsWith e (some (.Name x pos')) pos.line X.env=pure false:=by rfl)(hf:X.fn x=true∨X.env.scope.names.lookup x=some .local:=by first | exact .inl rfl | exact .inr rfl | assumption):BX X (.Assign [.Name x pos'] e pos) (pj i f):=⟨Ci hN hi hx he.1 hs hf⟩
theorem ui{i:Nat}{x:Str}{e:Expr}{f:FD}{npos apos cpos pos:Pos}(hN:X.N[i]? =some x)(hv:Ee X.env.scope x)(he:QD X e f)(hd:(x==("__debug__":Str))=false:=by decide)(hcd:(x==("__classdict__":Str))=false:=by decide)(hs:starEach [e] X.env=(false,eval e X.env) ::starEach [] X.env:=by rfl)(hline:(apos.endLine==cpos.line)=true:=by rfl)(hfew:((backTo cpos (starEach [e] X.env)).all (fun x=>!x.1) && (backToKw cpos (keywordEach [] X.env)).all (fun x=>x.1.isSome)
 && decide (([e]:List Expr).length+([]:List Keyword).length+(if([]:List Keyword).isEmpty then 0 else 1) < 30))=true:=by rfl) (hsw:swapsWith (.Call (.Attribute (.Name x npos) "append" apos) [e] [] cpos) none pos.line X.env=pure false:=by rfl) (hbase:attributeBase (.Name x npos) "append" X.env (eval (.Name x npos) X.env)=eval (.Name x npos) X.env:=by rfl):BX X (.Expr (.Call (.Attribute (.Name x npos) "append" apos) [e] [] cpos) pos) (nu i f):=⟨Dn hN hv he.1 hd hcd hs hline hfew hsw hbase⟩
theorem BN(i:Nat){sts:List Stmt}{F:FS}(h:qS X sts F):qS X sts (oY i F):=⟨CD i h.1⟩
theorem a_{e:Expr}{f:FD}{pos:Pos}(he:QD X e f):BX X (.Return (some e) pos) (dc f):=⟨CY he.1⟩
theorem cK{c:Expr}{a b:List Stmt}{fc:aw→R Bool}{F G:FS}{pos:Pos}(hc:QB X c fc)(ha:qS X a F)(hb:qS X b G):BX X (.If c a b pos) (ky fc F G):=⟨Eu hc.1 ha.1 hb.1⟩
theorem bx{i:Nat}{x:Str}{pos:Pos}(hN:X.N.Nodup)(hi:X.N[i]? =some x)(hx:Loc X.env.scope x)(hf:X.fn x=true∨X.env.scope.names.lookup x=some .local:=by first | exact .inl rfl | exact .inr rfl | assumption):ES X (.Name x pos) (bh i):=⟨Ad hN hi hx hf⟩
theorem k9:Dp X [] iG:=⟨z7⟩
theorem d9{e:Expr}{es:List Expr}{t:FT}{u:BQ}(h1:ES X e t)(h2:Dp X es u)(hs:(assignEach (e ::es) X.env).map (·.2)=assign e X.env ::(assignEach es X.env).map (·.2):=by rfl):Dp X (e ::es) (dH t u):=⟨yG h1.1 h2.1 hs⟩
theorem nj{es:List Expr}{k:Nat}{t:BQ}{n:Nat}{pos:Pos}(hc:X.calm=true)(h:Dp X es t)(hn:(assignEach es X.env).length=n:=by rfl)(hst:(assignEach es X.env).findIdx? (·.1)=none:=by rfl):ES X (.Tuple es k pos) (iR n t):=⟨CL hc h.1 hn hst⟩
theorem Am{tg e:Expr}{f:FD}{t:FT}{pos:Pos}(he:QD X e f)(hg:ES X tg t)(hs:swapsWithSole [tg] e pos.line X.env=pure false:=by rfl)(hw:swappedStores [tg] e X.env=pure none:=by rfl)(h1:(assignEach [tg] X.env).map (·.2)=[assign tg X.env]:=by rfl):BX X (.Assign [tg] e pos) (o_ f t):=⟨Dv he.1 hg.1 hs hw h1⟩
theorem eh{tg e:Expr}{f:FD}(h:QD X e f):wI X tg e (gG f):=⟨Cg h.1⟩
theorem bW{tg a:Expr}{f:FD}{p pos:Pos}(h:QD X a f)(hg:Gl X "range")(hm:X.mg "range"=none)(hs:starEach [a] X.env=[(false,eval a X.env)]:=by rfl):wI X tg (.Call (.Name "range" p) [a] [] pos) (d8 f):=⟨wt h.1 hg hm hs⟩
theorem hJ{tg iter:Expr}{body:List Stmt}{it:aw→R (List D)}{t:FT}{F:FS}{pos:Pos}(hp:PassesOwn (model X.prog X.w) X.A X.env X.xe)(hc:X.calm=true)(hi:wI X tg iter it)(hg:ES X tg t)(hb:qS X body F)(hs:∀x,foldedSetIterable iter X.env x=pure x:=by intro _;rfl):BX X (.For tg iter body [] pos) (pd it t F):=⟨Dt hp hc hi.1 hg.1 hb.1 hs⟩
theorem gb{scope:Scope}{own:List Str}{kp:List Nat}{kn:List Str}{tg iter elt:Expr}{ifs:List Expr}{it:aw→R (List D)}{t:FT}{c:aw→R Bool}{f:FD}{pos:Pos}(hc:X.calm=true)(C:cv X scope own kp kn)(hi:wI X tg iter it)(hg:∀fp s H,ES (bA X scope (own++kn) fp s H) tg t)(hif:∀fp s H,Cn (bA X scope (own++kn) fp s H) ifs c)(he:∀fp s H,QD (bA X scope (own++kn) fp s H) elt f)(hs:∀x,foldedSetIterable iter X.env x=pure x:=by intro _;rfl):QN X (.ListComp elt [⟨tg,iter,ifs,0⟩] scope pos) (gn it t c f own kp):=⟨Cs hc C hi.1 (fun fp s H=>(hg fp s H).1) (fun fp s H=>(hif fp s H).1) (fun fp s H=>(he fp s H).1) hs⟩
theorem fO:Cn X [] qy:=⟨z6⟩
theorem uo{e:Expr}{c:aw→R Bool}(h:QB X e c):Cn X [e] c:=⟨Cm h.1⟩
theorem sS{i:Nat}{x:Str}{pos' spos:Pos}{scope:Scope}{own:List Str}{kp:List Nat}{kn:List Str}{tg iter elt:Expr}{ifs:List Expr}{it:aw→R (List D)}{t:FT}{c:aw→R Bool}{f:FD}{pos:Pos}(hc:X.calm=true)(hN:X.N.Nodup)(hx:X.N[i]? =some x)(hxl:X.env.scope.names.lookup x=some .local)(C:cv X scope own kp kn)(hi:wI X tg iter it)(hg:∀fp s H,ES (bA X scope (own++kn) fp s H) tg t)(hif:∀fp s H,Cn (bA X scope (own++kn) fp s H) ifs c)(he:∀fp s H,QD (bA X scope (own++kn) fp s H) elt f)(hsw:swapsWith (.ListComp elt [⟨tg,iter,ifs,0⟩] scope pos) (some (.Name x pos')) spos.line X.env=pure true:=by rfl)(hs:∀x,foldedSetIterable iter X.env x=pure x:=by intro _;rfl):BX X (.Assign [.Name x pos'] (.ListComp elt [⟨tg,iter,ifs,0⟩] scope pos) spos) (fG i (eNew (gn it t c f own kp))):=⟨uT hc hN hx hxl C hi.1 (fun fp s H=>(hg fp s H).1) (fun fp s H=>(hif fp s H).1) (fun fp s H=>(he fp s H).1) hsw hs⟩
theorem ay{a b:Expr}{fa fb:FD}{pos:Pos}(ha:QD X a fa)(hb:QD X b fb)(hs:pk b):QD X (.Subscript a b pos) (e2 bX fa fb):=⟨Hl ha.1 hb.1 hs⟩
theorem Bm:QP X none kT:=⟨DK⟩
theorem pV{e:Expr}{f:FD}(h:QD X e f):QP X (some e) (jH f):=⟨DJ h.1⟩
theorem AS{e:Expr}{lo hi:Option Expr}{f:FD}{fl fh:FO}{p2 pos:Pos}(he:QD X e f)(hl:QP X lo fl)(hh:QP X hi fh):QD X (.Subscript e (.Slice lo hi none p2) pos) (xM f fl fh):=⟨Hd he.1 hl.1 hh.1⟩
theorem rZ{elts:List Expr}{k:Nat}{tpos:Pos}{a:Expr}{f:FD}{p pos:Pos}(h:QD X a f)(hg:Gl X "enumerate")(hm:X.mg "enumerate"=none)(hs:starEach [a] X.env=[(false,eval a X.env)]:=by rfl):wI X (.Tuple elts k tpos) (.Call (.Name "enumerate" p) [a] [] pos) (j7 f):=⟨t6 h.1 hg hm hs⟩
theorem cz{P:Program}{w:World}{K:PySem.W.Frag}{mg:Str→Option Value}{base:Heap}{x qual:Str}{st:Stmt}{f:Addr}{fd:FuncData}{N ps:List Str}{k:Nat}{F:FS}{b:List Stmt}{sc:Scope}(hb:ao st=b)(hs:af st=sc)(Fn:xB K x qual st f fd)(S:ba N ps sc)(hbody:∀(cdv:Value) (A:Around) (outer:List Env) (s:Shared) (H:Hp) (E:XK),eB k (A.deeper (envOfC qual sc s.heap.objs.size f cdv))→
 qS (p6 qO P w K mg base N qual sc f cdv A outer s H E).DG b F):ip P w K mg base qO (k+1) f fd ps (zr K ps.length (lZ N F)):=Bl hb hs Fn S (fun cdv A outer s H E hr=>(hbody cdv A outer s H E hr).1)
theorem bO{g:List D→R D}{k j n:Nat}{x:Str}{p pos:Pos}{e:Expr}{es:List Expr}{fs:aw→R (List D)}(C:Callee X.prog X.w X.K X.mg X.base k x n g)(hr:eB j X.A)(hkj:k≤j)(hg:Gl X x)(ha:C_ X (e ::es) fs)(hn:∀δ ds,fs δ= .ok ds→ds.length=n)(hdb:(x==("__debug__":Str))=false:=by decide)(he:starEach (e ::es) X.env=(false,eval e X.env) ::starEach es X.env:=by rfl)(hpl:(backTo pos (starEach es X.env)).any (·.1)=false:=by rfl):QD X (.Call (.Name x p) (e ::es) [] pos) (aA g fs):=⟨As C hr hkj hg ha.1 hn hdb he hpl⟩
theorem DO{keys:List (Option Expr)}{values:List Expr}{trs:List (TE × TE)}{dpos apos cpos:Pos}{e f:Expr}{fe ff:FD}{kvs:List (Key × V)}(hu:X.A.units+1 < cLine)(h:GG X dpos keys values trs)(hall:keys.all (·.isSome)=true)(hl:keys.length=values.length)(h0:keys≠[])(hc:∀σ H Q,Q (kvs.map fun kv=>(kV kv.1,kv.2)) H→qp trs σ H Q)(hlen:kvs.length≤15)(he:QD X e fe)(hf:QD X f ff)(m:M2 X (.Dict keys values dpos) "get" apos e f cpos)(hd:PE X (.Dict keys values dpos) (A5 trs)):QD X (.Call (.Attribute (.Dict keys values dpos) "get" apos) [e,f] [] cpos) (Gu kvs fe ff):=⟨Fd hu h hall hl h0 hc hlen he.1 hf.1 m hd⟩
end
end L2
end
section
set_option maxRecDepth 100000
set_option maxHeartbeats 4000000
namespace L2
open PySem PySem.Spec PyProof.Rows
theorem yH{P:Program}{w:World}{K:PySem.W.Frag}{mg mb:Str→Option Value}{CX:zq}{k:Nat}{fa a:Addr}{fd:FuncData}{x:Str}{sp:Sp}{s₁:Shared}{vs:List Value}{ns:List Int}
 (KX:K.In s₁.heap) (hns:s₁.heap.Ns mainGlobals mg) (hb:s₁.heap.Ns builtinsNs mb) (hbb:∀x:Str,x≠"__name__"→mb x=bootBuiltins x) (hlim:s₁.heap.NoLimit) (hg:s₁.gens=#[])
 (ha:s₁.heap.get? a=some {cls:= .type "list",data:= .seq vs.toArray}) (hi:IntsAre vs ns) (hl:ns.length≤sizeLine) (hr:eB k callerA)
 (F:∀base:Heap,K.In base→base.Ns mainGlobals mg→ip P w K mg base CX k fa fd [x] sp) (hbind:∀(s:Shared) (u:Value),BindsTo s fd ⟨[u],[]⟩ [(x,u)])
 (hsp:∀H:Hp,Hu H→qM K [] H a (ns.map V.int)→sp [.ref a] H (fun v _=>v= .bl true) fun _ _ _=>False)
 (hCX:∀H e s',CX [] H s₁ (fun _ _ _=>False) e s'→False) :
 codeAny (model P w) callerA (.call (.ref fa) ⟨[.ref a],[]⟩) (fun r s'=>r= .ok (.ret (.bool true))∧OldK s₁.heap s'.heap∧s'.os=s₁.os∧AllBare s'.gens) s₁:=by
 have rv:=rJ hi
 have lenV:=hi.length
 have core:∀H:Hp,Hu H→qM K [] H a (ns.map V.int)→lH P w H s₁.heap→(∀b,H b≠none→b=a)→(H a≠none→K.lookup a=none)→
  codeAny (model P w) callerA (.call (.ref fa) ⟨[.ref a],[]⟩) (fun r s'=>r= .ok (.ret (.bool true))∧OldK s₁.heap s'.heap∧s'.os=s₁.os∧AllBare s'.gens) s₁:=by
  intro H hO hS hok hA hK
  have base_of:∀{b:Addr} {o:Obj},s₁.heap.get? b=some o→H b=none→(sW s₁.heap H).get? b=some o:=fun e n=>A_ e n
  have noA:∀{b:Addr} {o:Obj} {es:Array DictEntry} {ep:Nat},s₁.heap.get? b=some o→o.data= .dict es ep→H b=none:=fun {b o es ep} e d=>by
   cases q:H b with
   | none=>rfl
   | some u=>
     have e':b=a:=hA b (by rw[q];simp)
     subst e'
     rw[ha] at e;cases e
     have d':Data.seq vs.toArray _=Data.dict es ep:=d
     cases d'
  have nsK:∀{b:Addr} {m:Str→Option Value},s₁.heap.Ns b m→(sW s₁.heap H).Ns b m:=fun {b m} ⟨o,es,ep,e,d,r⟩=>⟨o,es,ep,base_of e (noA e d),d,r⟩
  have hKb:K.In (sW s₁.heap H):=fun b o e=>base_of (KX b o e) (by
   cases q:H b with
   | none=>rfl
   | some u=>
     have e':b=a:=hA b (by rw[q];simp)
     subst e'
     rw[hK (by rw[q];simp)] at e;cases e)
  have hM:Mod K mg (sW s₁.heap H):=⟨hKb,nsK hns,⟨mb,nsK hb,hbb⟩,let⟨mc,h1,h2⟩:=hlim;⟨mc,nsK h1,h2⟩⟩
  have e0:wC P w K mg (sW s₁.heap H) callerA [] s₁ H:=⟨rfl,hM,fun b o e=>DY e,Nat.le_of_eq (yR _ _),trivial,fun b hb=>absurd (show b∈([]:List Addr) from hb) (by simp),hok, .of_eq hg⟩
  refine codeAny_mono ((F _ hKb (nsK hns)).run callerA [] s₁ H ⟨[.ref a],[]⟩ [.ref a] [.ref a] _ _ hr e0 (hbind s₁ (.ref a)) (.cons rfl .nil) (hsp H hO hS)) fun r s' h=>?_
  cases r with
  | error e=>exact(hCX H e s' h).elim
  | ok fl=>
    cases fl with
    | next=>exact False.elim h
    | brk=>exact False.elim h
    | cont=>exact False.elim h
    | ret u=>
      obtain⟨v,H',os,bare,un,hok',r',q⟩:=h
      have q':v= .bl true:=q
      subst q'
      obtain rfl:u=Value.bool true:=r'
      refine⟨rfl,OldK.of_keep fun b o e=>?_,os,bare⟩
      cases q:H b with
      | none=>exact un.keep b o e q (by intro z;exact absurd (show b∈([]:List Addr) from z) (by simp)) (by simp)
      | some u=>
        rcases hO b with z | ⟨ob,xs,z⟩
        ·rw[q] at z;cases z
        ·have z2:=un.frzs b ob _ z
         obtain⟨e1,_⟩:=hok b _ z
         obtain⟨e2,_⟩:=hok' b _ z2
         rw[e] at e1;cases e1
         exact e2
 cases hk:K.lookup a with
 | some o=>
   have e:=KX a o hk
   rw[ha] at e
   cases e
   refine core (fun _=>none) (fun _=> .inl rfl) (.inr ⟨vs,_,hk,by rw[List.length_map];exact hl,rv⟩) (fun b u z=>by have z':(none:Option HO)=some u:=z;cases z') (fun b z=>absurd rfl z) fun z=>absurd rfl z
 | none=>
   refine core (fun b=>if b=a then some (.ik {cls:= .type "list",data:= .seq vs.toArray} (.lst (ns.map V.int))) else none) (fun b=>?_) (.inl ⟨by simp, .inr ⟨{cls:= .type "list",data:= .seq vs.toArray},if_pos rfl⟩⟩) (fun b u z=>?_) (fun b z=>?_) fun _=>hk
   ·by_cases hb:b=a
    ·exact .inr ⟨_,_,if_pos hb⟩
    ·exact .inl (if_neg hb)
   ·by_cases hb:b=a
    ·have z':=(if_pos hb).symm.trans z
     cases z'
     subst hb
     exact⟨ha,by rw[List.length_map];exact hl,vs,_,rv,ha⟩
    ·have z':=(if_neg hb).symm.trans z
     cases z'
   ·by_cases hb:b=a
    ·exact hb
    ·exact absurd (if_neg hb) z
theorem ints_rep{K:PySem.W.Frag}{B:List Addr}{H:Hp}:∀ns:List Int,aF K B H (ns.map D.int) (ns.map V.int)
 | []=>aF.nil
 | n ::ns=>aF.cons (Rep.int.mpr rfl) (ints_rep ns)
theorem G7{l:PySem.W.OpenLaw}{n k:Nat}{q:Program}{loose:List Str}{XP:(Str→Option Value)→Heap→Prop}{YP:World→Heap→Prop}{d:DefRec}{K:Params→PySem.W.Frag}{x:Str}{g:List D→R D}
 (hn:l.most=some n) (hn2:n≤sizeLine) (hdf:d.params.defaults=[]) (hr:eB k callerA) (hY:∀(w:World) (h:Heap),YP w h→(K w.params).In h)
 (F:∀(w:World) (mg:Str→Option Value) (fa:Addr) (h:Heap),(K w.params).In h→h.Ns mainGlobals mg→mg d.name=some (.ref fa)→
   ∃fd:FuncData,(∀(s:Shared) (u:Value),BindsTo s fd ⟨[u],[]⟩ [(x,u)])∧∀base:Heap,(K w.params).In base→base.Ns mainGlobals mg→ip l.prog w (K w.params) mg base qO k fa fd [x] (zr (K w.params) 1 g))
 (hg:∀ns:List Int,ns.length≤n→g [.lst (ns.map D.int)]= .ok (.bl true)):PySem.W.WalkO q loose XP YP l.row.toRowW d [] (fun f vs=>PySem.call f vs):=by
 refine Att.vf hn hdf fun w s₀ s₁ mg mb fa o pm cd doc a vs ns G Y ho hd hcd hmg hobj hints hlen hgen=>?_
 have KX:=hY w _ Y
 obtain⟨fd,hb,hF⟩:=F w mg fa _ KX G.T.g hmg
 refine yH KX G.T.g G.T.b G.T.builtins G.T.nolimit hgen hobj hints (Nat.le_trans hlen hn2) hr hF hb (fun H hO hS=>?_) fun H e s' h=>h
 refine⟨rfl,[],[.lst (ns.map D.int)], .bl true,fun b hb=>(by cases hb),aF.cons (Rep.lst.mpr ⟨_,_,rfl,hS,ints_rep ns⟩) aF.nil,hg ns hlen,fun z H' _ r=>Rep.bl.mp r⟩
theorem cy{K:PySem.W.Frag}{h:Heap}{mg:Str→Option Value}{x:Str}{st:Stmt}{f:Addr}{oc:Value}{od an:Option Addr}{osl:Array (Option Value)}{kV doc pm cdv ct:Value}(X:K.In h)(G:h.Ns mainGlobals mg)(a:PySem.W.nsIn K mainGlobals x=some (some (.ref f)))
 (l:K.lookup f=some ⟨oc,od, .func (PySem.W.fnOf x x (gA st) (ao st) (af st) .none kV doc pm an cdv ct),osl⟩) (c:PySem.W.codeIn K cdv x=true) (k:PySem.W.keepIn K (.ref f)=true):Def K mg x st:=
 ⟨f,_,mm l c k,PySem.W.mg_of X G a⟩
end L2
end
section
set_option maxRecDepth 100000
set_option maxHeartbeats 4000000
namespace L2
open PySem PySem.Spec PyProof.Rows
theorem p7{t:FT}{body:FS}:∀(ds:List D) (n:Nat) (P:Nat→aw→Prop) {δ:aw},P n δ→
 (∀i d δ,ds[i]? =some d→P (n+i) δ→∃δ',((t d δ).bind body)= .ok (.nx δ')∧P (n+i+1) δ')→∃δ',m4 t body ds δ= .ok (.nx δ')∧P (n+ds.length) δ'
 | [],n,P,δ,h0,_=>⟨δ,rfl,h0⟩
 | d ::ds,n,P,δ,h0,hs=>by
   obtain⟨δ1,e1,p1⟩:=hs 0 d δ rfl h0
   obtain⟨δ2,e2,p2⟩:=p7 ds (n+1) P p1 (fun i d' δ' hi hp=>by
    have:=hs (i+1) d' δ' (by simpa using hi) (by rw[show n+(i+1)=n+1+i by omega];exact hp)
    rw[show n+(i+1)+1=n+1+i+1 by omega] at this
    exact this)
   refine⟨δ2,?_,by rw[List.length_cons,show n+(ds.length+1)=n+1+ds.length by omega];exact p2⟩
   obtain⟨δ0,h1,h2⟩:=R.ak e1
   show(t d δ).bind (fun δ1=>(body δ1).bind fun o=>match o with | .nx δ2=>m4 t body ds δ2 | .rt r=> .ok (.rt r))=_
   rw[h1,R.aR,h2,R.aR]
   exact e2
theorem fN{t:FT}{body:FS}{ds:List D}(P:Nat→aw→Prop){δ:aw}(h0:P 0 δ)
 (hs:∀i d δ,ds[i]? =some d→P i δ→∃δ',((t d δ).bind body)= .ok (.nx δ')∧P (i+1) δ'):∃δ',m4 t body ds δ= .ok (.nx δ')∧P ds.length δ':=by
 have:=p7 (t:=t) (body:=body) ds 0 P h0 (fun i d δ hi hp=>by simpa using hs i d δ hi (by simpa using hp))
 simpa using this
theorem BR{α:Type} [DecidableEq α]:∀(L F:List α),L.Nodup→(∀x∈L,x∈F)→L.length≤F.length
 | [],_,_,_=>Nat.zero_le _
 | x ::L,F,hn,hs=>by
   obtain⟨h1,h2⟩:=List.nodup_cons.mp hn
   have hx:x∈F:=hs x List.mem_cons_self
   have ih:=BR L (F.erase x) h2 (fun y hy=>(List.mem_erase_of_ne (fun(e:y=x)=>h1 (by rw[←e];exact hy))).mpr (hs y (List.mem_cons_of_mem _ hy)))
   rw[List.length_erase_of_mem hx] at ih
   have:0 < F.length:=List.length_pos_of_mem hx
   rw[List.length_cons]
   omega
theorem jn{α:Type}{xs:List α}{i:Int}(h0:0≤i)(h:i.toNat < xs.length):oU xs i=some xs[i.toNat]:=by
 unfold oU qt
 rw[if_pos h0,if_pos (by omega)]
 simp [h]
theorem strs_map:∀ss:List Str,strs? (ss.map D.str)=some ss
 | []=>rfl
 | s ::ss=>by show(strs? (ss.map D.str)).map (s ::·)=_;rw [strs_map ss];rfl
theorem ints_map:∀ss:List Int,ints? (ss.map D.int)=some ss
 | []=>rfl
 | s ::ss=>by show(ints? (ss.map D.int)).map (s ::·)=_;rw [ints_map ss];rfl
theorem CS{a b:Str}(h:a.cps.toList=b.cps.toList):a=b:=by
 obtain⟨a⟩:=a;obtain⟨b⟩:=b
 congr 1
 exact Array.toList_inj.mp h
theorem pB(a b:Str):(a++b).cps.toList=a.cps.toList++b.cps.toList:=by
 show(a.cps++b.cps).toList=_
 simp
theorem aV{F G:FS}{δ δ1:aw}{r:R Out}(h:F δ= .ok (.nx δ1))(h2:G δ1=r):cF F G δ=r:=by unfold cF;rw [h,R.aR];exact h2
theorem e_{f:aw→R (List D)}{δ:aw}{ds:List D}(h:f δ= .ok ds):eNew f δ= .ok (.lst ds):=by unfold eNew;rw [h];rfl
theorem p8{c:aw→R Bool}{F G:FS}{δ:aw}{r:R Out}(h:c δ= .ok true)(h2:F δ=r):ky c F G δ=r:=by unfold ky;rw [h,R.aR,if_pos rfl];exact h2
theorem dN{c:aw→R Bool}{F G:FS}{δ:aw}{r:R Out}(h:c δ= .ok false)(h2:G δ=r):ky c F G δ=r:=by unfold ky;rw [h,R.aR,if_neg (by decide)];exact h2
theorem iq{it:aw→R (List D)}{t:FT}{F:FS}{δ:aw}{ds:List D}{r:R Out}(h:it δ= .ok ds)(h2:m4 t F ds δ=r):pd it t F δ=r:=by unfold pd;rw [h,R.aR];exact h2
theorem c5{f:FD}{δ:aw}{d:D}(h:f δ= .ok d):dc f δ= .ok (.rt d):=by unfold dc;rw [h];rfl
theorem dI{N:List Str}{F:FS}{ds:List D}{d:D}(h:F (cW N ds)= .ok (.rt d)):lZ N F ds= .ok d:=by unfold lZ;rw [h];rfl
theorem bY{α:Type}{p:Prop} [Decidable p](r:R α)(h:p):R.bZ (decide p) r=r:=by rw[decide_eq_true h];rfl
theorem dC{i:Nat}{f:FD}{δ:aw}{d:D}(h:f δ= .ok d)(hi:i < δ.length):fG i f δ= .ok (.nx (δ.set i (.val d))):=by unfold fG;rw [h,R.aR,bY _ hi]
theorem wZ{i:Nat}{f:FD}{δ:aw}{d:D}{ds:List D}(h:f δ= .ok d)(hb:δ[i]? =some (.bld ds))(hl:ds.length < sizeLine):nu i f δ= .ok (.nx (δ.set i (.bld (ds++[d])))):=by unfold nu i9;rw [h,R.aR,hb];show R.bZ _ _=_;rw [bY _ hl]
theorem f6{it:aw→R (List D)}{t:FT}{c:aw→R Bool}{f:FD}{own:List Str}{kp:List Nat}{δ:aw}{ds ys:List D}(h1:it δ= .ok ds)(h2:ds.length≤sizeLine)(h3:mG t c f (qr own kp δ) ds= .ok ys):gn it t c f own kp δ= .ok ys:=by unfold gn;rw [h1,R.aR,bY _ h2,h3]
theorem jt{ds:List D}{i:Int}{d:D}(h:oU ds i=some d):bX (.lst ds) (.int i)= .ok d:=by unfold bX;simp only[h]
theorem nT{ds:List D}{i:Int}{d:D}(h:oU ds i=some d):bX (.tup ds) (.int i)= .ok d:=by unfold bX;simp only[h]
theorem AH{x:Str}{i:Int}{c:Nat}(hz:x.length≤sizeLine)(h:oU x.cps.toList i=some c):bX (.str x) (.int i)= .ok (.str ⟨#[c]⟩):=by unfold bX;simp only[h,bY _ hz]
end L2
end
section
set_option maxRecDepth 100000
namespace L2
open PySem PySem.Spec PyProof.Rows
theorem az{g:D→D→R D}{fa fb:FD}{δ:aw}{a b:D}{r:R D}(ha:fa δ= .ok a)(hb:fb δ= .ok b)(h:g a b=r):e2 g fa fb δ=r:=by unfold e2;rw [ha,R.aR,hb,R.aR];exact h
theorem ic{g:D→D→R D}{fa fb:FD}{δ:aw}{a b:D}{k:Bool}(ha:fa δ= .ok a)(hb:fb δ= .ok b)(h:g a b= .ok (.bl k)):b2 g fa fb δ= .ok k:=by unfold b2;rw [az ha hb h];rfl
theorem aK{f:FD}{g:aw→R (List D)}{δ:aw}{d:D}{ds:List D}(h:f δ= .ok d)(h2:g δ= .ok ds):aq f g δ= .ok (d ::ds):=by unfold aq;rw [h,R.aR,h2];rfl
theorem aL{g:List D→R D}{fs:aw→R (List D)}{δ:aw}{ds:List D}{r:R D}(h:fs δ= .ok ds)(h2:g ds=r):aA g fs δ=r:=by unfold aA;rw [h,R.aR];exact h2
theorem uE{f:FD}{δ:aw}{d:D}(h:f (j5 δ)= .ok d)(ha:d.atom=true):je f δ= .ok d:=by unfold je;rw [h,R.aR,ha];rfl
theorem gg{g:aw→R (List D)}{δ:aw}{ds:List D}(h:g δ= .ok ds)(hl:ds.length≤sizeLine):eK g δ= .ok (.tup ds):=by unfold eK;rw [h,R.aR,bY _ hl]
theorem px{g:aw→R (List D)}{δ:aw}{ds:List D}(h:g δ= .ok ds)(hl:ds.length≤sizeLine):dM g δ= .ok ds:=by unfold dM;rw [h,R.aR,bY _ hl]
theorem DZ{g:D→List D→R D}{f:FD}{fs:aw→R (List D)}{δ:aw}{x:Str}{ds:List D}{r:R D}(h:f δ= .ok (.str x))(h2:fs δ= .ok ds)(h3:g (.str x) ds=r):yX "str" g f fs δ=r:=by
 unfold yX;rw [h,R.aR,h2,R.aR];exact h3
theorem z0{f:FD}{fl fh:FO}{δ:aw}{d:D}{lo hi:Option Int}{r:R D}(h:f δ= .ok d)(h1:fl δ= .ok lo)(h2:fh δ= .ok hi)(h3:GJ d lo hi=r):xM f fl fh δ=r:=by unfold xM;rw [h,R.aR,h1,R.aR,h2,R.aR];exact h3
theorem Fz{x:Str}{lo hi:Option Int}(h:x.length≤sizeLine):GJ (.str x) lo hi= .ok (.str (Txt.slice x lo hi)):=by unfold GJ;exact bY _ h
theorem xt{a b:Str}(h:a.length+b.length≤sizeLine):ei (.str a) (.str b)= .ok (.str (a++b)):=by unfold ei;exact bY _ h
theorem tK{a b:List D}(h:a.length+b.length≤sizeLine):ei (.lst a) (.lst b)= .ok (.lst (a++b)):=by unfold ei;exact bY _ h
theorem we{a b:Int}(h:0 < b):g9 (.int a) (.int b)= .ok (.int (a % b)):=by unfold g9 uX;exact bY _ h
theorem eA{f:FD}{δ:aw}{n:Nat}(h:f δ= .ok (.int n))(hn:n < 1000000):d8 f δ= .ok (bU 0 n):=by
 unfold d8;rw [h,R.aR];show R.bZ (decide (-(2 ^ 62)≤(n:Int)∧(n:Int) < 2 ^ 62)) _=_
 rw[bY _ ⟨by omega,by omega⟩,Int.toNat_natCast]
theorem tM{f:FD}{δ:aw}{ds:List D}(h:f δ= .ok (.lst ds)):gG f δ= .ok ds:=by unfold gG;rw [h];rfl
theorem wb{f:FD}{δ:aw}{ds:List D}(h:f δ= .ok (.tup ds)):gG f δ= .ok ds:=by unfold gG;rw [h];rfl
theorem Em{f:FD}{δ:aw}{ds:List D}(h:f δ= .ok (.lst ds)):j7 f δ= .ok (fj ds):=by unfold j7;rw [h];rfl
theorem kx(ds:List D):cC [.lst ds]= .ok (.int ds.length):=rfl
end L2
end
section
set_option maxRecDepth 100000
set_option maxHeartbeats 4000000
namespace L3
open PySem PySem.Spec PyProof.Rows L2
inductive V3 where
 | d (x:D) | loc (k:Nat) | lst (vs:List V3) | tup (vs:List V3)
inductive SO where
 | lst (ds:List D) | dct (kvs:List (Key × D)) | ins (c:Nat) (fs:List (Str × V3)) | ik
noncomputable abbrev aU:=List SO
inductive R3 (α:Type) where
 | ok (a:α) (S:aU) | ex (c:Nat) (S:aU) | no
noncomputable def R3.bind{α β:Type}:R3 α→(α→aU→R3 β)→R3 β
 | .ok a S,f=>f a S
 | .ex c S,_=> .ex c S
 | .no,_=> .no
theorem R3.ak{α β:Type}{r:R3 α}{f:α→aU→R3 β}{b:β}{S':aU}(h:r.bind f= .ok b S'):∃a S,r= .ok a S∧f a S= .ok b S':=by
 cases r with
 | ok a S=>exact⟨a,S,rfl,h⟩
 | ex c S=>cases h
 | no=>cases h
@[simp] theorem R3.aR{α β:Type}(a:α)(S:aU)(f:α→aU→R3 β):(R3.ok a S).bind f=f a S:=rfl
noncomputable def R3.bZ{α:Type}(c:Bool)(r:R3 α):R3 α:=if c then r else .no
theorem R3.bp{α:Type}{c:Bool}{r:R3 α}{a:α}{S:aU}(h:R3.bZ c r= .ok a S):c=true∧r= .ok a S:=by
 cases c with
 | true=>exact⟨rfl,h⟩
 | false=>cases h
noncomputable def R3.of{α:Type}(r:R α)(S:aU):R3 α:=match r with | .ok a=> .ok a S | _=> .no
theorem R3.of_ok{α:Type}{r:R α}{S S':aU}{a:α}(h:R3.of r S= .ok a S'):r= .ok a∧S'=S:=by
 cases r with
 | ok b=>cases h;exact⟨rfl,rfl⟩
 | ex c=>cases h
 | no=>cases h
structure P3 where
 r:List Addr
 z:List Addr
 f:List Addr
noncomputable def P3.b(ρ:P3):List Addr:=ρ.r.filter (fun a=>!ρ.f.contains a)++ρ.z
theorem P3.dY{ρ:P3}{a:Addr}:a∈ρ.b↔(a∈ρ.r∧a ∉ ρ.f)∨a∈ρ.z:=by
 unfold P3.b
 rw[List.mem_append,List.mem_filter]
 simp
noncomputable def P3.push(ρ:P3)(a:Addr):P3:=⟨ρ.r++[a],ρ.z,ρ.f⟩
noncomputable def P3.cut(ρ:P3)(n:Nat):P3:=⟨ρ.r.take n,ρ.z,ρ.f⟩
mutual
noncomputable def bo(K:PySem.W.Frag)(ρ:P3)(H:Hp):V3→V→Prop
 | .d x,v=>Rep K ρ.b H x v
 | .loc k,v=>∃a,ρ.r[k]? =some a∧v= .ref a
 | .lst vs,v=>∃a xs,v= .ref a∧qM K ρ.b H a xs∧aG K ρ H vs xs
 | .tup vs,v=>∃a xs,v= .ref a∧se K ρ.b H a xs∧aG K ρ H vs xs
noncomputable def aG(K:PySem.W.Frag)(ρ:P3)(H:Hp):List V3→List V→Prop
 | [],xs=>xs=[]
 | d ::ds,xs=>∃x r,xs=x ::r∧bo K ρ H d x∧aG K ρ H ds r
end
structure Pre (ρ:P3) (H:Hp) (ρ':P3) (H':Hp):Prop where
 bq:dG ρ.b H ρ'.b H'
 zz:ρ'.z=ρ.z
 zs:∀(b:Addr) (o:HO),b∈ρ.z→H b=some o→H' b=some o
 ext:∀(k:Nat) (a:Addr),ρ.r[k]? =some a→ρ'.r[k]? =some a
theorem Pre.refl(ρ:P3)(H:Hp):Pre ρ H ρ H:=⟨dG.refl ρ.b H,rfl,fun _ _ _ h=>h,fun _ _ h=>h⟩
theorem Pre.trans{ρ ρ' ρ'':P3}{H H' H'':Hp}(a:Pre ρ H ρ' H')(b:Pre ρ' H' ρ'' H''):Pre ρ H ρ'' H'':=⟨a.bq.trans b.bq,b.zz.trans a.zz,fun c o hc h=>b.zs c o (by rw[a.zz];exact hc) (a.zs c o hc h),fun k x h=>b.ext k x (a.ext k x h)⟩
theorem Pre.same{ρ:P3}{H H':Hp}(s:aW H H'):Pre ρ H ρ H':=⟨dG.same s,rfl,fun b o _ h=>s b o h,fun _ _ h=>h⟩
theorem se.bq{K:PySem.W.Frag}{B B':List Addr}{H H':Hp}(p:dG B H B' H'){a:Addr}{xs:List V}(l:se K B H a xs):se K B' H' a xs:=
 l.elim (fun z=> .inl ⟨(p.rd z.2 z.1).2,(p.rd z.2 z.1).1⟩) .inr
mutual
theorem bo.pre{K:PySem.W.Frag}{ρ ρ':P3}{H H':Hp}(p:Pre ρ H ρ' H'):∀{d:V3} {v:V},bo K ρ H d v→bo K ρ' H' d v
 | .d x,v,h=>by unfold bo at h ⊢;exact h.bq p.bq
 | .loc k,v,h=>by unfold bo at h ⊢;obtain⟨a,h1,h2⟩:=h;exact⟨a,p.ext k a h1,h2⟩
 | .lst vs,v,h=>by unfold bo at h ⊢;obtain⟨a,xs,e,l,r⟩:=h;exact⟨a,xs,e,l.bq p.bq,aG.pre p r⟩
 | .tup vs,v,h=>by unfold bo at h ⊢;obtain⟨a,xs,e,l,r⟩:=h;exact⟨a,xs,e,se.bq p.bq l,aG.pre p r⟩
theorem aG.pre{K:PySem.W.Frag}{ρ ρ':P3}{H H':Hp}(p:Pre ρ H ρ' H'):∀{ds:List V3} {xs:List V},aG K ρ H ds xs→aG K ρ' H' ds xs
 | [],_,h=>by unfold aG at h ⊢;exact h
 | d ::ds,xs,h=>by
   unfold aG at h ⊢
   obtain⟨x,r,e,h1,h2⟩:=h
   exact⟨x,r,e,bo.pre p h1,aG.pre p h2⟩
end
structure PW (ρ:P3) (H:Hp) (ρ':P3) (H':Hp):Prop where
 bq:dG ρ.b H ρ'.b H'
 ext:∀(k:Nat) (a:Addr),ρ.r[k]? =some a→ρ'.r[k]? =some a
theorem Pre.pw{ρ ρ':P3}{H H':Hp}(p:Pre ρ H ρ' H'):PW ρ H ρ' H':=⟨p.bq,p.ext⟩
theorem PW.trans{ρ ρ' ρ'':P3}{H H' H'':Hp}(a:PW ρ H ρ' H')(b:PW ρ' H' ρ'' H''):PW ρ H ρ'' H'':=⟨a.bq.trans b.bq,fun k x h=>b.ext k x (a.ext k x h)⟩
mutual
theorem bo.pw{K:PySem.W.Frag}{ρ ρ':P3}{H H':Hp}(p:PW ρ H ρ' H'):∀{d:V3} {v:V},bo K ρ H d v→bo K ρ' H' d v
 | .d x,v,h=>by unfold bo at h ⊢;exact h.bq p.bq
 | .loc k,v,h=>by unfold bo at h ⊢;obtain⟨a,h1,h2⟩:=h;exact⟨a,p.ext k a h1,h2⟩
 | .lst vs,v,h=>by unfold bo at h ⊢;obtain⟨a,xs,e,l,r⟩:=h;exact⟨a,xs,e,l.bq p.bq,aG.pw p r⟩
 | .tup vs,v,h=>by unfold bo at h ⊢;obtain⟨a,xs,e,l,r⟩:=h;exact⟨a,xs,e,se.bq p.bq l,aG.pw p r⟩
theorem aG.pw{K:PySem.W.Frag}{ρ ρ':P3}{H H':Hp}(p:PW ρ H ρ' H'):∀{ds:List V3} {xs:List V},aG K ρ H ds xs→aG K ρ' H' ds xs
 | [],_,h=>by unfold aG at h ⊢;exact h
 | d ::ds,xs,h=>by
   unfold aG at h ⊢
   obtain⟨x,r,e,h1,h2⟩:=h
   exact⟨x,r,e,bo.pw p h1,aG.pw p h2⟩
end
theorem aG.nil{K:PySem.W.Frag}{ρ:P3}{H:Hp}:aG K ρ H [] []:=by unfold aG;rfl
theorem aG.cons{K:PySem.W.Frag}{ρ:P3}{H:Hp}{d:V3}{ds:List V3}{x:V}{xs:List V}(h:bo K ρ H d x)(t:aG K ρ H ds xs):aG K ρ H (d ::ds) (x ::xs):=by
 unfold aG;exact⟨x,xs,rfl,h,t⟩
theorem aG.cn{K:PySem.W.Frag}{ρ:P3}{H:Hp}{d:V3}{ds:List V3}{xs:List V}(h:aG K ρ H (d ::ds) xs):∃x r,xs=x ::r∧bo K ρ H d x∧aG K ρ H ds r:=by
 unfold aG at h;exact h
theorem aG.length{K:PySem.W.Frag}{ρ:P3}{H:Hp}:∀{ds:List V3} {xs:List V},aG K ρ H ds xs→ds.length=xs.length
 | [],_,h=>by unfold aG at h;rw [h];rfl
 | d ::ds,xs,h=>by
   obtain⟨x,r,rfl,_,h2⟩:=h.cn
   simp [h2.length]
theorem aG.of{K:PySem.W.Frag}{ρ:P3}{H:Hp}:∀{ds:List D} {xs:List V},aF K ρ.b H ds xs→aG K ρ H (ds.map .d) xs
 | [],_,h=>by unfold aF at h;subst h;exact aG.nil
 | d ::ds,xs,h=>by
   obtain⟨x,r,rfl,h1,h2⟩:=h.cn
   exact aG.cons (by unfold bo;exact h1) (aG.of h2)
theorem aG.to{K:PySem.W.Frag}{ρ:P3}{H:Hp}:∀{ds:List D} {xs:List V},aG K ρ H (ds.map .d) xs→aF K ρ.b H ds xs
 | [],_,h=>by unfold aG at h;subst h;exact aF.nil
 | d ::ds,xs,h=>by
   obtain⟨x,r,rfl,h1,h2⟩:=aG.cn h
   unfold bo at h1
   exact aF.cons h1 (aG.to h2)
noncomputable def A0(K:PySem.W.Frag)(cl:Nat→Addr)(ρ:P3)(H:Hp):SO→Option HO→Prop
 | .lst ds,h=>∃xs,h=some (.lst xs)∧aF K ρ.b H ds xs
 | .dct kvs,h=>∃ys,h=some (.dK ys)∧ys.map (·.1)=kvs.map (·.1)∧aF K ρ.b H (kvs.map (·.2)) (ys.map (·.2))
 | .ins c fs,h=>∃dx ys,h=some (.ins (cl c) dx ys)∧ys.map (·.1)=fs.map (·.1)∧aG K ρ H (fs.map (·.2)) (ys.map (·.2))
 | .ik,h=>∃u,h=some u
theorem A0.pre{K:PySem.W.Frag}{cl:Nat→Addr}{ρ ρ':P3}{H H':Hp}(p:Pre ρ H ρ' H'){o:SO}{h:Option HO}(r:A0 K cl ρ H o h):A0 K cl ρ' H' o h:=by
 cases o with
 | lst ds=>obtain⟨xs,e,q⟩:=r;exact⟨xs,e,q.bq p.bq⟩
 | dct kvs=>obtain⟨ys,e,e2,q⟩:=r;exact⟨ys,e,e2,q.bq p.bq⟩
 | ins c fs=>obtain⟨dx,ys,e,e2,q⟩:=r;exact⟨dx,ys,e,e2,q.pre p⟩
 | ik=>exact r
theorem A0.pw{K:PySem.W.Frag}{cl:Nat→Addr}{ρ ρ':P3}{H H':Hp}(p:PW ρ H ρ' H'){o:SO}{h:Option HO}(r:A0 K cl ρ H o h):A0 K cl ρ' H' o h:=by
 cases o with
 | lst ds=>obtain⟨xs,e,q⟩:=r;exact⟨xs,e,q.bq p.bq⟩
 | dct kvs=>obtain⟨ys,e,e2,q⟩:=r;exact⟨ys,e,e2,q.bq p.bq⟩
 | ins c fs=>obtain⟨dx,ys,e,e2,q⟩:=r;exact⟨dx,ys,e,e2,q.pw p⟩
 | ik=>exact r
theorem A0.some{K:PySem.W.Frag}{cl:Nat→Addr}{ρ:P3}{H:Hp}{o:SO}{h:Option HO}(r:A0 K cl ρ H o h):∃u,h=some u:=by
 cases o with
 | lst ds=>obtain⟨xs,e,q⟩:=r;exact⟨_,e⟩
 | dct kvs=>obtain⟨ys,e,e2,q⟩:=r;exact⟨_,e⟩
 | ins c fs=>obtain⟨dx,ys,e,e2,q⟩:=r;exact⟨_,e⟩
 | ik=>exact r
structure SW (K:PySem.W.Frag) (cl:Nat→Addr) (ρ:P3) (H:Hp) (S:aU):Prop where
 len:ρ.r.length=S.length
 nd:∀(i j:Nat) (a:Addr),ρ.r[i]? =some a→ρ.r[j]? =some a→i=j
 ob:∀(k:Nat) (a:Addr) (o:SO),ρ.r[k]? =some a→S[k]? =some o→A0 K cl ρ H o (H a)
 zb:∀b∈ρ.z,(∃xs,H b=some (.lst xs))∧b ∉ ρ.r
 fz:∀(k:Nat) (a:Addr),ρ.r[k]? =some a→S[k]?≠some .ik→a ∉ ρ.f
 ff:∀a∈ρ.f,∃o,H a=some o
 fi:∀(k:Nat) (a:Addr),ρ.r[k]? =some a→S[k]? =some .ik→a∈ρ.f
theorem SW.rs{K:PySem.W.Frag}{cl:Nat→Addr}{ρ:P3}{H:Hp}{S:aU}(w:SW K cl ρ H S):∀a∈ρ.r,∃o,H a=some o:=fun a z=>by
 obtain⟨k,hk⟩:=List.getElem?_of_mem z
 have hl:=(List.getElem?_eq_some_iff.mp hk).1
 exact(w.ob k a _ hk (List.getElem?_eq_getElem (by rw[←w.len];exact hl))).some
theorem SW.bs{K:PySem.W.Frag}{cl:Nat→Addr}{ρ:P3}{H:Hp}{S:aU}(w:SW K cl ρ H S):∀a∈ρ.b,∃o,H a=some o:=fun a ha=>by
 rcases P3.dY.mp ha with z | z
 ·exact w.rs a z.1
 ·obtain⟨xs,h⟩:=(w.zb a z).1
  exact⟨_,h⟩
theorem SW.same{K:PySem.W.Frag}{cl:Nat→Addr}{ρ:P3}{H H':Hp}{S:aU}(w:SW K cl ρ H S)(s:aW H H'):SW K cl ρ H' S:=
 ⟨w.len,w.nd,fun k a o h1 h2=>by
   have r:=w.ob k a o h1 h2
   obtain⟨u,hu⟩:=r.some
   rw[s a u hu,←hu]
   exact r.pre (Pre.same s),fun b hb=>let⟨⟨o,ho⟩,n⟩:=w.zb b hb;⟨⟨o,s b _ ho⟩,n⟩,w.fz,fun a ha=>let⟨o,ho⟩:=w.ff a ha;⟨o,s a o ho⟩,w.fi⟩
theorem P3.mem_push{ρ:P3}{a b:Addr}(h:b∈(ρ.push a).b):b∈ρ.b∨b=a:=by
 rcases P3.dY.mp h with⟨z,n⟩ | z
 ·rcases List.mem_append.mp z with y | y
  ·exact .inl (P3.dY.mpr (.inl ⟨y,n⟩))
  ·exact .inr (List.mem_singleton.mp y)
 ·exact .inl (P3.dY.mpr (.inr z))
theorem SW.new{K:PySem.W.Frag}{cl:Nat→Addr}{ρ:P3}{H H':Hp}{S:aU}(w:SW K cl ρ H S){a:Addr}{o:SO}(s:aW H H')(n:H a=none)(r:A0 K cl (ρ.push a) H' o (H' a))(hne:o≠SO.ik:=by intro h;cases h) :
 SW K cl (ρ.push a) H' (S++[o])∧Pre ρ H (ρ.push a) H':=by
 have na:a ∉ ρ.b:=fun ha=>by obtain⟨o,ho⟩:=w.bs a ha;rw [n] at ho;cases ho
 have nr:a ∉ ρ.r:=fun ha=>by obtain⟨o,ho⟩:=w.rs a ha;rw [n] at ho;cases ho
 have nf:a ∉ ρ.f:=fun ha=>by obtain⟨o,ho⟩:=w.ff a ha;rw [n] at ho;cases ho
 have p:Pre ρ H (ρ.push a) H':=⟨fun b u e nb=>⟨s b u e,fun hb=>by
  rcases P3.mem_push hb with z | z
  ·exact nb z
  ·subst z;rw [n] at e;cases e⟩,rfl,fun b o _ h=>s b o h,fun k x hx=>by
   show(ρ.r++[a])[k]? =_
   rw[List.getElem?_append_left (List.getElem?_eq_some_iff.mp hx).1];exact hx⟩
 have last:∀(i:Nat) (b:Addr),(ρ.push a).r[i]? =some b→(i < ρ.r.length∧ρ.r[i]? =some b)∨(i=ρ.r.length∧b=a):=fun i b h=>by
  have h:(ρ.r++[a])[i]? =some b:=h
  by_cases q:i < ρ.r.length
  ·rw[List.getElem?_append_left q] at h;exact .inl ⟨q,h⟩
  ·rw[List.getElem?_append_right (by omega)] at h
   have h0:i - ρ.r.length=0:=by
    have:=(List.getElem?_eq_some_iff.mp h).1
    simp at this;omega
   rw[h0] at h
   cases h
   exact .inr ⟨by omega,rfl⟩
 refine⟨⟨by show(ρ.r++[a]).length=_;rw [List.length_append,List.length_append,w.len];rfl,fun i j b hi hj=>?_,fun k b u hk hu=>?_,fun b hb=>?_,fun k b hk hu=>?_,fun b hb=>?_,fun k b hk hu=>?_⟩,p⟩
 ·rcases last i b hi with⟨q1,q2⟩ | ⟨q1,rfl⟩
  ·rcases last j b hj with⟨z1,z2⟩ | ⟨z1,rfl⟩
   ·exact w.nd i j b q2 z2
   ·exact absurd (List.mem_of_getElem? q2) nr
  ·rcases last j b hj with⟨z1,z2⟩ | ⟨z1,z3⟩
   ·exact absurd (List.mem_of_getElem? z2) nr
   ·omega
 ·rcases last k b hk with⟨q1,q2⟩ | ⟨q1,rfl⟩
  ·rw[List.getElem?_append_left (by rw[←w.len];exact q1)] at hu
   have r0:=w.ob k b u q2 hu
   obtain⟨x,hx⟩:=r0.some
   rw[s b x hx,←hx]
   exact r0.pre p
  ·rw[List.getElem?_append_right (by rw[←w.len];omega),q1,w.len,Nat.sub_self] at hu
   cases hu
   exact r
 ·obtain⟨⟨o,ho⟩,nb⟩:=w.zb b hb
  refine⟨⟨o,s b _ ho⟩,fun h=>?_⟩
  rcases List.mem_append.mp h with y | y
  ·exact nb y
  ·rw[List.mem_singleton] at y;subst y;rw [n] at ho;cases ho
 ·rcases last k b hk with⟨q1,q2⟩ | ⟨q1,rfl⟩
  ·rw[List.getElem?_append_left (by rw[←w.len];exact q1)] at hu
   exact w.fz k b q2 hu
  ·exact nf
 ·obtain⟨o,ho⟩:=w.ff b hb
  exact⟨o,s b o ho⟩
 ·rcases last k b hk with⟨q1,q2⟩ | ⟨q1,rfl⟩
  ·rw[List.getElem?_append_left (by rw[←w.len];exact q1)] at hu
   exact w.fi k b q2 hu
  ·rw[List.getElem?_append_right (by rw[←w.len];omega),q1,w.len,Nat.sub_self] at hu
   cases hu
   exact absurd rfl hne
theorem SW.put{K:PySem.W.Frag}{cl:Nat→Addr}{ρ:P3}{H:Hp}{S:aU}(w:SW K cl ρ H S){k:Nat}{a:Addr}{o:SO}{u:HO}(hk:ρ.r[k]? =some a)(hf:a ∉ ρ.f)(r:A0 K cl ρ H o (some u))(hne:o≠SO.ik:=by intro h;cases h) :
 SW K cl ρ (upd H a u) (S.set k o)∧Pre ρ H ρ (upd H a u):=by
 have ha:a∈ρ.r:=List.mem_of_getElem? hk
 have hb:a∈ρ.b:=P3.dY.mpr (.inl ⟨ha,hf⟩)
 have nz:∀b∈ρ.z,b≠a:=fun b hb z=>(w.zb b hb).2 (by rw[z];exact ha)
 have p:Pre ρ H ρ (upd H a u):=⟨fun b x e nb=>⟨by rw[bg (fun(z:b=a)=>nb (by rw[z];exact hb))];exact e,nb⟩,rfl,fun b o hb h=>by rw[bg (nz b hb)];exact h,fun _ _ h=>h⟩
 have hl:k < S.length:=by rw[←w.len];exact(List.getElem?_eq_some_iff.mp hk).1
 refine⟨⟨by rw[List.length_set];exact w.len,w.nd,fun j b x hj hx=>?_,fun b hb=>?_,fun j b hj hx=>?_,fun b hb=>?_,fun j b hj hx=>?_⟩,p⟩
 ·by_cases q:k=j
  ·subst q
   rw[hk] at hj;cases hj
   rw[List.getElem?_set_self hl] at hx;cases hx
   rw[bb]
   exact r.pre p
  ·rw[List.getElem?_set_ne q] at hx
   have ne:b≠a:=fun z=>by subst z;exact q (w.nd k j b hk hj)
   rw[bg ne]
   exact(w.ob j b x hj hx).pre p
 ·obtain⟨⟨o,ho⟩,nb⟩:=w.zb b hb
  exact⟨⟨o,by rw[bg (nz b hb)];exact ho⟩,nb⟩
 ·by_cases q:k=j
  ·subst q
   rw[hk] at hj;cases hj
   exact hf
  ·rw[List.getElem?_set_ne q] at hx
   exact w.fz j b hj hx
 ·obtain⟨o,ho⟩:=w.ff b hb
  exact⟨o,by rw[bg (fun z=>hf (by rw[←z];exact hb))];exact ho⟩
 ·by_cases q:k=j
  ·subst q
   rw[List.getElem?_set_self hl] at hx;cases hx
   exact absurd rfl hne
  ·rw[List.getElem?_set_ne q] at hx
   exact w.fi j b hj hx
theorem SW.ik{K:PySem.W.Frag}{cl:Nat→Addr}{ρ:P3}{H:Hp}{S:aU}(w:SW K cl ρ H S){k:Nat}{a:Addr}{ds:List D}(hk:ρ.r[k]? =some a)(hS:S[k]? =some (.lst ds)) :
 SW K cl ⟨ρ.r,ρ.z,a ::ρ.f⟩ H (S.set k .ik)∧Pre ρ H ⟨ρ.r,ρ.z,a ::ρ.f⟩ H∧Rep K (⟨ρ.r,ρ.z,a ::ρ.f⟩:P3).b H (.lst ds) (.ref a):=by
 have hl:k < S.length:=by rw[←w.len];exact(List.getElem?_eq_some_iff.mp hk).1
 have sub:∀b,b∈(⟨ρ.r,ρ.z,a ::ρ.f⟩:P3).b→b∈ρ.b:=fun b hb=>by
  rcases P3.dY.mp hb with⟨z,n⟩ | z
  ·exact P3.dY.mpr (.inl ⟨z,fun h=>n (List.mem_cons_of_mem _ h)⟩)
  ·exact P3.dY.mpr (.inr z)
 have p:Pre ρ H ⟨ρ.r,ρ.z,a ::ρ.f⟩ H:=⟨fun b o e nb=>⟨e,fun hb=>nb (sub b hb)⟩,rfl,fun _ _ _ h=>h,fun _ _ h=>h⟩
 obtain⟨xs,e1,r1⟩:=w.ob k a _ hk hS
 refine⟨⟨by rw[List.length_set];exact w.len,w.nd,fun j b x hj hx=>?_,w.zb,fun j b hj hx=>?_,fun b hb=>?_,fun j b hj hx=>?_⟩,p,?_⟩
 ·by_cases q:k=j
  ·subst q
   rw[List.getElem?_set_self hl] at hx;cases hx
   rw[hk] at hj;cases hj
   exact⟨_,e1⟩
  ·rw[List.getElem?_set_ne q] at hx
   exact(w.ob j b x hj hx).pre p
 ·by_cases q:k=j
  ·subst q
   rw[List.getElem?_set_self hl] at hx
   exact absurd rfl hx
  ·rw[List.getElem?_set_ne q] at hx
   intro h
   rcases List.mem_cons.mp h with z | z
   ·subst z;exact q (w.nd k j b hk hj)
   ·exact w.fz j b hj hx z
 ·rcases List.mem_cons.mp hb with z | z
  ·subst z;exact⟨_,e1⟩
  ·exact w.ff b z
 ·by_cases q:k=j
  ·subst q
   rw[hk] at hj;cases hj
   exact List.mem_cons_self
  ·rw[List.getElem?_set_ne q] at hx
   exact List.mem_cons_of_mem _ (w.fi j b hj hx)
 ·refine Rep.lst.mpr ⟨a,xs,rfl, .inl ⟨fun hb=>?_, .inl e1⟩,r1.bq p.bq⟩
  rcases P3.dY.mp hb with⟨_,n⟩ | z
  ·exact n List.mem_cons_self
  ·exact(w.zb a z).2 (List.mem_of_getElem? hk)
mutual
noncomputable def ku:D→Bool
 | .lst _=>false
 | .dct _ _=>false
 | .tup ds=>jd ds
 | _=>true
noncomputable def jd:List D→Bool
 | []=>true
 | d ::ds=>ku d && jd ds
end
mutual
theorem Rep.uS{K:PySem.W.Frag}{B:List Addr}{H:Hp}(hB:∀b∈B,∀xs,¬Rd H b (.tup xs)):∀{d:D} {v:V},ku d=true→Rep K [] H d v→Rep K B H d v
 | .cq,v,_,r=>Rep.cq.mpr (Rep.cq.mp r)
 | .bl _,v,_,r=>Rep.bl.mpr (Rep.bl.mp r)
 | .int _,v,_,r=>Rep.int.mpr (Rep.int.mp r)
 | .str _,v,_,r=>Rep.str.mpr (Rep.str.mp r)
 | .lst _,v,h,_=>by unfold ku at h;cases h
 | .dct _ _,v,h,_=>by unfold ku at h;cases h
 | .tup ds,v,h,r=>by
   unfold ku at h
   obtain⟨a,xs,rfl,l,rs⟩:=Rep.tup.mp r
   exact Rep.tup.mpr ⟨a,xs,rfl,l.elim (fun z=> .inl ⟨fun hb=>hB a hb xs z.2,z.2⟩) .inr,aF.uS hB h rs⟩
theorem aF.uS{K:PySem.W.Frag}{B:List Addr}{H:Hp}(hB:∀b∈B,∀xs,¬Rd H b (.tup xs)):∀{ds:List D} {vs:List V},jd ds=true→aF K [] H ds vs→aF K B H ds vs
 | [],_,_,r=>by unfold aF at r;subst r;exact aF.nil
 | d ::ds,vs,h,r=>by
   unfold jd at h
   obtain⟨h1,h2⟩:=Bool.and_eq_true_iff.mp h
   obtain⟨x,xs,rfl,r1,r2⟩:=r.cn
   exact aF.cons (Rep.uS hB h1 r1) (aF.uS hB h2 r2)
end
theorem SW.nt{K:PySem.W.Frag}{cl:Nat→Addr}{ρ:P3}{H:Hp}{S:aU}(w:SW K cl ρ H S):∀b∈ρ.b,∀xs,¬Rd H b (.tup xs):=fun b hb xs h=>by
 have key:∀o,H b=some o→(∀xs,o≠ .tup xs)→(∀ob xs,o≠ .ik ob (.tup xs))→False:=fun o e h1 h2=>by
  rcases h with z | ⟨ob,z⟩
  ·rw[e] at z;cases z;exact h1 _ rfl
  ·rw[e] at z;cases z;exact h2 _ _ rfl
 rcases P3.dY.mp hb with⟨z,n⟩ | z
 ·obtain⟨k,hk⟩:=List.getElem?_of_mem z
  have hl:=(List.getElem?_eq_some_iff.mp hk).1
  have hS:S[k]? =some (S[k]'(by rw[←w.len];exact hl)):=List.getElem?_eq_getElem (by rw[←w.len];exact hl)
  have r:=w.ob k b _ hk hS
  generalize S[k]'(by rw[←w.len];exact hl)=o at r hS
  cases o with
  | lst ds=>obtain⟨ys,e,_⟩:=r;exact key _ e (fun _ q=>by cases q) (fun _ _ q=>by cases q)
  | dct kvs=>obtain⟨ys,e,_⟩:=r;exact key _ e (fun _ q=>by cases q) (fun _ _ q=>by cases q)
  | ins c fs=>obtain⟨dx,ys,e,_⟩:=r;exact key _ e (fun _ q=>by cases q) (fun _ _ q=>by cases q)
  | ik=>exact n (w.fi k b hk hS)
 ·obtain⟨⟨ys,e⟩,_⟩:=w.zb b z
  exact key _ e (fun _ q=>by cases q) (fun _ _ q=>by cases q)
noncomputable abbrev DE:=List (Option V3)
structure fq (K:PySem.W.Frag) (cl:Nat→Addr) (ρ:P3) (H:Hp) (S:aU) (σ:L2.St) (δ:DE):Prop where
 len:δ.length=σ.length
 sw:SW K cl ρ H S
 val:∀(i:Nat) (d:V3),δ[i]? =some (some d)→∃v,σ[i]? =some (some v)∧bo K ρ H d v
theorem fq.to{K:PySem.W.Frag}{cl:Nat→Addr}{ρ ρ':P3}{H H':Hp}{S S':aU}{σ:L2.St}{δ:DE}(E:fq K cl ρ H S σ δ)(p:Pre ρ H ρ' H')(w:SW K cl ρ' H' S'):fq K cl ρ' H' S' σ δ:=
 ⟨E.len,w,fun i d e=>let⟨v,h1,h2⟩:=E.val i d e;⟨v,h1,h2.pre p⟩⟩
theorem fq.set{K:PySem.W.Frag}{cl:Nat→Addr}{ρ:P3}{H:Hp}{S:aU}{σ:L2.St}{δ:DE}(E:fq K cl ρ H S σ δ){i:Nat}{d:V3}{v:V}(hi:i < σ.length)(r:bo K ρ H d v):fq K cl ρ H S (σ.set i (some v)) (δ.set i (some d)):=
 ⟨by rw[List.length_set,List.length_set];exact E.len,E.sw,fun j d' e=>by
   by_cases h:i=j
   ·subst h
    rw[List.getElem?_set_self (by rw[E.len];exact hi)] at e
    cases e
    exact⟨v,List.getElem?_set_self hi,r⟩
   ·rw[List.getElem?_set_ne h] at e ⊢
    exact E.val j d' e⟩
noncomputable def down(δ:DE):aw:=δ.map fun x=>match x with | some (.d d)=> .val d | _=> .un
theorem fq.down{K:PySem.W.Frag}{cl:Nat→Addr}{ρ:P3}{H:Hp}{S:aU}{σ:L2.St}{δ:DE}(E:fq K cl ρ H S σ δ):dX K [] ρ.b H σ (down δ) where
 len:=by unfold L3.down;rw [List.length_map];exact E.len
 bs:=E.sw.bs
 zb:=fun a ha=>by cases ha
 val:=fun i d e=>by
  unfold L3.down at e
  rw[List.getElem?_map] at e
  cases q:δ[i]? with
  | none=>rw [q] at e;cases e
  | some x=>
    rw[q] at e
    match x,e,q with
    | some (.d y),e,q=>
      cases e
      obtain⟨v,h1,h2⟩:=E.val i _ q
      unfold bo at h2
      exact⟨v,h1,h2⟩
    | some (.loc k),e,q=>cases e
    | some (.lst k),e,q=>cases e
    | some (.tup k),e,q=>cases e
    | none,e,q=>cases e
 bld:=fun i ds e=>by
  unfold L3.down at e
  rw[List.getElem?_map] at e
  cases q:δ[i]? with
  | none=>rw [q] at e;cases e
  | some x=>
    rw[q] at e
    match x,e with
    | some (.d y),e=>cases e
    | some (.loc k),e=>cases e
    | some (.lst k),e=>cases e
    | some (.tup k),e=>cases e
    | none,e=>cases e
 dis:=fun i j a ds es e=>by
  unfold L3.down at e
  rw[List.getElem?_map] at e
  cases q:δ[i]? with
  | none=>rw [q] at e;cases e
  | some x=>
    rw[q] at e
    match x,e with
    | some (.d y),e=>cases e
    | some (.loc k),e=>cases e
    | some (.lst k),e=>cases e
    | some (.tup k),e=>cases e
    | none,e=>cases e
mutual
noncomputable def res(S:aU):V3→Option D
 | .d x=>some x
 | .loc k=>(match S[k]? with | some (.lst ds)=>some (.lst ds) | _=>none)
 | .lst vs=>(l8 S vs).map D.lst
 | .tup vs=>(l8 S vs).map D.tup
noncomputable def l8(S:aU):List V3→Option (List D)
 | []=>some []
 | v ::vs=>(res S v).bind fun d=>(l8 S vs).map (d ::·)
end
noncomputable def bR(S:aU)(δ:DE):aw:=δ.map fun x=>match x with | some v=>(match res S v with | some d=> .val d | none=> .un) | none=> .un
theorem n0{α β:Type}{o:Option α}{f:α→β}{b:β}(h:o.map f=some b):∃a,o=some a∧f a=b:=by
 cases o with
 | none=>cases h
 | some a=>cases h;exact⟨a,rfl,rfl⟩
theorem vN{α β:Type}{o:Option α}{f:α→Option β}{b:β}(h:o.bind f=some b):∃a,o=some a∧f a=some b:=by
 cases o with
 | none=>cases h
 | some a=>exact⟨a,rfl,h⟩
mutual
noncomputable def ft(n:Nat):V3→Bool
 | .d _=>true
 | .loc k=>decide (n≤k)
 | .lst vs=>mD n vs
 | .tup vs=>mD n vs
noncomputable def mD(n:Nat):List V3→Bool
 | []=>true
 | v ::vs=>ft n v && mD n vs
end
mutual
theorem bo.resB{K:PySem.W.Frag}{cl:Nat→Addr}{ρ:P3}{H:Hp}{S:aU}{B':List Addr}{n:Nat}(w:SW K cl ρ H S)(p:dG ρ.b H B' H)(hn:∀(k:Nat) (a:Addr),n≤k→ρ.r[k]? =some a→a ∉ B'):∀{v:V3} {d:D} {x:V},ft n v=true→res S v=some d→bo K ρ H v x→Rep K B' H d x
 | .d y,d,x,_,h,r=>by unfold L3.res at h;cases h;unfold bo at r;exact r.bq p
 | .loc k,d,x,g,h,r=>by
   unfold L3.res at h
   unfold bo at r
   unfold ft at g
   obtain⟨a,h1,rfl⟩:=r
   split at h
   ·rename_i ds e
    cases h
    obtain⟨xs,e2,q⟩:=w.ob k a _ h1 e
    unfold Rep
    exact⟨a,xs,rfl, .inl ⟨hn k a (of_decide_eq_true g) h1, .inl e2⟩,q.bq p⟩
   ·cases h
 | .lst vs,d,x,g,h,r=>by
   unfold L3.res at h
   unfold ft at g
   obtain⟨ds,e,rfl⟩:=n0 h
   unfold bo at r
   obtain⟨a,xs,rfl,l,r⟩:=r
   unfold Rep
   exact⟨a,xs,rfl,l.bq p,aG.resB w p hn g e r⟩
 | .tup vs,d,x,g,h,r=>by
   unfold L3.res at h
   unfold ft at g
   obtain⟨ds,e,rfl⟩:=n0 h
   unfold bo at r
   obtain⟨a,xs,rfl,l,r⟩:=r
   unfold Rep
   exact⟨a,xs,rfl,se.bq p l,aG.resB w p hn g e r⟩
theorem aG.resB{K:PySem.W.Frag}{cl:Nat→Addr}{ρ:P3}{H:Hp}{S:aU}{B':List Addr}{n:Nat}(w:SW K cl ρ H S)(p:dG ρ.b H B' H)(hn:∀(k:Nat) (a:Addr),n≤k→ρ.r[k]? =some a→a ∉ B'):∀{vs:List V3} {ds:List D} {xs:List V},mD n vs=true→l8 S vs=some ds→aG K ρ H vs xs→aF K B' H ds xs
 | [],ds,xs,_,h,r=>by unfold l8 at h;cases h;unfold aG at r;subst r;exact aF.nil
 | v ::vs,ds,xs,g,h,r=>by
   unfold l8 at h
   unfold mD at g
   obtain⟨g1,g2⟩:=Bool.and_eq_true_iff.mp g
   obtain⟨d,e1,h2⟩:=vN h
   obtain⟨es,e2,rfl⟩:=n0 h2
   obtain⟨y,ys,rfl,r1,r2⟩:=r.cn
   exact aF.cons (bo.resB w p hn g1 e1 r1) (aG.resB w p hn g2 e2 r2)
end
mutual
theorem rK:∀v:V3,ft 0 v=true
 | .d _=>by unfold ft;rfl
 | .loc k=>by unfold ft;exact decide_eq_true (Nat.zero_le _)
 | .lst vs=>by unfold ft;exact lV vs
 | .tup vs=>by unfold ft;exact lV vs
theorem lV:∀vs:List V3,mD 0 vs=true
 | []=>by unfold mD;rfl
 | v ::vs=>by unfold mD;rw [rK v,lV vs];rfl
end
theorem bo.res{K:PySem.W.Frag}{cl:Nat→Addr}{ρ:P3}{H:Hp}{S:aU}(w:SW K cl ρ H S){v:V3}{d:D}{x:V}(h:res S v=some d)(r:bo K ρ H v x):Rep K [] H d x:=
 r.resB w (fun b o e _=>⟨e,by simp⟩) (n:=0) (fun _ _ _ _=>by simp) (rK v) h
theorem nY{S:aU}{δ:DE}{i:Nat}{y:Sl}(e:(bR S δ)[i]? =some y):(∃v d,δ[i]? =some (some v)∧res S v=some d∧y= .val d)∨y= .un:=by
 unfold bR at e
 rw[List.getElem?_map] at e
 cases q:δ[i]? with
 | none=>rw [q] at e;cases e
 | some x=>
   rw[q] at e
   cases x with
   | none=>cases e;exact .inr rfl
   | some v=>
     cases z:res S v with
     | none=>
       have e:some (match res S v with | some d=>Sl.val d | none=> .un)=some y:=e
       rw[z] at e;cases e;exact .inr rfl
     | some d=>
       have e:some (match res S v with | some d=>Sl.val d | none=> .un)=some y:=e
       rw[z] at e;cases e;exact .inl ⟨v,d,rfl,z,rfl⟩
theorem fq.bR{K:PySem.W.Frag}{cl:Nat→Addr}{ρ:P3}{H:Hp}{S:aU}{σ:L2.St}{δ:DE}(E:fq K cl ρ H S σ δ):dX K [] [] H σ (bR S δ) where
 len:=by unfold L3.bR;rw [List.length_map];exact E.len
 bs:=fun a ha=>by cases ha
 zb:=fun a ha=>by cases ha
 val:=fun i d e=>by
  rcases nY e with⟨v,d',h1,h2,h3⟩ | h
  ·cases h3
   obtain⟨x,q1,q2⟩:=E.val i v h1
   exact⟨x,q1,q2.res E.sw h2⟩
  ·cases h
 bld:=fun i ds e=>by
  rcases nY e with⟨v,d',h1,h2,h3⟩ | h
  ·cases h3
  ·cases h
 dis:=fun i j a ds es e=>by
  rcases nY e with⟨v,d',h1,h2,h3⟩ | h
  ·cases h3
  ·cases h
noncomputable abbrev FX:=DE→aU→R3 V3
noncomputable abbrev FB:=DE→aU→R3 Bool
noncomputable abbrev FA:=DE→aU→R3 (List V3)
noncomputable def tX(K:PySem.W.Frag)(cl:Nat→Addr)(f:FX):TE:=fun σ H Q=>∃ρ S δ v S',fq K cl ρ H S σ δ∧f δ S= .ok v S'∧∀u ρ' H',Pre ρ H ρ' H'→SW K cl ρ' H' S'→bo K ρ' H' v u→Q u H'
noncomputable def Gi(K:PySem.W.Frag)(cl:Nat→Addr)(f:FB):TT:=fun σ H Q=>∃ρ S δ b S',fq K cl ρ H S σ δ∧f δ S= .ok b S'∧∀ρ' H',Pre ρ H ρ' H'→SW K cl ρ' H' S'→Q b H'
noncomputable def Ke(K:PySem.W.Frag)(cl:Nat→Addr)(f:FA):TA:=fun σ H Q=>∃ρ S δ vs S',fq K cl ρ H S σ δ∧f δ S= .ok vs S'∧∀us ρ' H',Pre ρ H ρ' H'→SW K cl ρ' H' S'→aG K ρ' H' vs us→Q us H'
structure PX (X:Cx) (cl:Nat→Addr) (e:Expr) (f:FX):Prop where
 go:PE X e (tX X.K cl f)
structure CK (X:Cx) (cl:Nat→Addr) (e:Expr) (f:FB):Prop where
 go:PT X e (Gi X.K cl f)
structure BY (X:Cx) (cl:Nat→Addr) (es:List Expr) (f:FA):Prop where
 go:PA X es (Ke X.K cl f)
section
variable {X:Cx} {cl:Nat→Addr}
noncomputable def xP(f:FD):FX:=fun δ S=>(R3.of (f (down δ)) S).bind fun d S=> .ok (.d d) S
theorem au{e:Expr}{f:FD}(h:QD X e f):PX X cl e (xP f):=⟨h.1.imp fun σ H Q ⟨ρ,S,δ,v,S',E,hf,q⟩=>by
 obtain⟨d,S1,h1,h2⟩:=R3.ak hf
 obtain⟨h3,e3⟩:=R3.of_ok h1
 cases h2
 subst e3
 exact⟨[],ρ.b,down δ,d,E.down,h3,fun v H' s r=>q v ρ H' (Pre.same s) (E.sw.same s) (by unfold bo;exact r)⟩⟩
noncomputable def xT(f:FD):FX:=fun δ S=>(R3.of (f (bR S δ)) S).bind fun d S=>R3.bZ (ku d) (.ok (.d d) S)
theorem cB{e:Expr}{f:FD}(h:QD X e f):PX X cl e (xT f):=⟨h.1.imp fun σ H Q ⟨ρ,S,δ,v,S',E,hf,q⟩=>by
 obtain⟨d,S1,h1,h2⟩:=R3.ak hf
 obtain⟨h4,e3⟩:=R3.of_ok h1
 obtain⟨ha,h3⟩:=R3.bp h2
 cases h3
 subst e3
 exact⟨[],[],bR _ δ,d,E.bR,h4,fun v H' s r=>q v ρ H' (Pre.same s) (E.sw.same s) (by unfold bo;exact Rep.uS (E.sw.same s).nt ha r)⟩⟩
noncomputable def bP(f:aw→R Bool):FB:=fun δ S=>R3.of (f (down δ)) S
theorem jE{e:Expr}{f:aw→R Bool}(h:QB X e f):CK X cl e (bP f):=⟨h.1.imp fun σ H Q ⟨ρ,S,δ,v,S',E,hf,q⟩=>by
 obtain⟨h1,e3⟩:=R3.of_ok hf
 subst e3
 exact⟨[],ρ.b,down δ,v,E.down,h1,fun H' s=>q ρ H' (Pre.same s) (E.sw.same s)⟩⟩
noncomputable def bT(f:aw→R Bool):FB:=fun δ S=>R3.of (f (bR S δ)) S
theorem jM{e:Expr}{f:aw→R Bool}(h:QB X e f):CK X cl e (bT f):=⟨h.1.imp fun σ H Q ⟨ρ,S,δ,v,S',E,hf,q⟩=>by
 obtain⟨h1,e3⟩:=R3.of_ok hf
 subst e3
 exact⟨[],[],bR _ δ,v,E.bR,h1,fun H' s=>q ρ H' (Pre.same s) (E.sw.same s)⟩⟩
noncomputable def bK(i:Nat):FX:=fun δ S=>match δ[i]? with | some (some v)=> .ok v S | _=> .no
theorem aT(i:Nat){x:Str}{pos:Pos}(hN:X.N[i]? =some x:=by rfl)(hv:Ee X.env.scope x:=by first | exact Or.inl rfl | exact Or.inr (Or.inl rfl) | exact Or.inr (Or.inr rfl))(hd:(x==("__debug__":Str))=false:=by decide)
 (hcd:(x==("__classdict__":Str))=false:=by decide):PX X cl (.Name x pos) (bK i):=⟨(sG hN hv hd hcd).imp fun σ H Q ⟨ρ,S,δ,v,S',E,hf,q⟩=>by
 unfold bK at hf
 split at hf
 ·rename_i d' e
  cases hf
  obtain⟨u,h1,h2⟩:=E.val i _ e
  exact⟨u,h1,q u ρ H (Pre.refl ρ H) E.sw h2⟩
 ·cases hf⟩
noncomputable def l6(f:aw→R (List D)):FX:=fun δ S=>(R3.of (f (down δ)) S).bind fun ds S=> .ok (.loc S.length) (S++[.lst ds])
theorem gO{e:Expr}{f:aw→R (List D)}(h:QN X e f):PX X cl e (l6 f):=⟨h.1.imp fun σ H Q ⟨ρ,S,δ,v,S',E,hf,q⟩=>by
 obtain⟨ds,S1,h1,h2⟩:=R3.ak hf
 obtain⟨h3,e3⟩:=R3.of_ok h1
 cases h2
 subst e3
 refine⟨[],ρ.b,down δ,ds,E.down,h3,fun a xs H' s n e r=>?_⟩
 have r':aF X.K (ρ.push a).b H' ds xs:=r.bq fun b o e nb=>⟨e,fun hb=>nb (by
  rcases P3.mem_push hb with z | z
  ·exact List.mem_cons_of_mem _ z
  ·subst z;exact List.mem_cons_self)⟩
 obtain⟨w,p⟩:=E.sw.new (o:= .lst ds) s n ⟨xs,e,r'⟩
 exact q _ _ H' p w (by unfold bo;exact⟨a,by show(ρ.r++[a])[_]? =_;rw [←E.sw.len,List.getElem?_append_right (by omega),Nat.sub_self];rfl,rfl⟩)⟩
end
end L3
end
section
set_option maxRecDepth 100000
set_option maxHeartbeats 4000000
namespace L3
open PySem PySem.Spec PyProof.Rows L2
section
variable {X:Cx} {cl:Nat→Addr}
noncomputable def ck:FA:=fun _ S=> .ok [] S
noncomputable def ax(f:FX)(g:FA):FA:=fun δ S=>(f δ S).bind fun v S1=>(g δ S1).bind fun vs S2=> .ok (v ::vs) S2
theorem aS:BY X cl [] ck:=⟨jy.imp fun σ H Q ⟨ρ,S,δ,v,S',E,hf,q⟩=>by
 cases hf
 exact q [] ρ H (Pre.refl ρ H) E.sw aG.nil⟩
theorem ai{e:Expr}{es:List Expr}{f:FX}{g:FA}(h:PX X cl e f)(t:BY X cl es g)(hs:starEach (e ::es) X.env=(false,eval e X.env) ::starEach es X.env:=by rfl):BY X cl (e ::es) (ax f g):=
 ⟨(f_ h.1 t.1 hs).imp fun σ H Q ⟨ρ,S,δ,v,S',E,hf,q⟩=>by
   obtain⟨v1,S1,h1,h2⟩:=R3.ak hf
   obtain⟨vs,S2,h3,h4⟩:=R3.ak h2
   cases h4
   exact⟨ρ,S,δ,v1,S1,E,h1,fun u ρ1 H1 p1 w1 r1=>⟨ρ1,S1,δ,vs,_,E.to p1 w1,h3,fun us ρ2 H2 p2 w2 r2=>q _ ρ2 H2 (p1.trans p2) w2 (aG.cons (r1.pre p2) r2)⟩⟩⟩
noncomputable def j0:List V3→Option (List D)
 | []=>some []
 | .d x ::r=>(j0 r).map (x ::·)
 | _ ::_=>none
theorem iA:∀{vs:List V3} {ds:List D},j0 vs=some ds→vs=ds.map .d
 | [],ds,h=>by cases h;rfl
 | .d x ::r,ds,h=>by
   cases e:j0 r with
   | none=>have h:(j0 r).map (x ::·)=some ds:=h;rw [e] at h;cases h
   | some es=>
     have h:(j0 r).map (x ::·)=some ds:=h
     rw[e] at h
     cases h
     rw[iA e]
     rfl
 | .loc _ ::_,_,h=>by cases h
 | .lst _ ::_,_,h=>by cases h
 | .tup _ ::_,_,h=>by cases h
theorem qu:∀ds:List D,j0 (ds.map .d)=some ds
 | []=>rfl
 | d ::ds=>by show(j0 (ds.map .d)).map (d ::·)=_;rw [qu ds];rfl
noncomputable def kj(vs:List V3):V3:=match j0 vs with | some ds=> .d (.tup ds) | none=> .tup vs
noncomputable def iZ(vs:List V3):V3:=match j0 vs with | some ds=> .d (.lst ds) | none=> .lst vs
noncomputable def yY(g:FA):FX:=fun δ S=>(g δ S).bind fun vs S=>R3.bZ (decide (vs.length≤sizeLine)) (.ok (kj vs) S)
theorem pC{ρ:P3}{H:Hp}{p:Addr}{o:HO}(hp:H p=none):Pre ρ H ρ (upd H p o):=Pre.same (aY hp)
theorem yL{K:PySem.W.Frag}{ρ:P3}{H:Hp}{vs:List V3}{xs:List V}{a:Addr}(l:se K ρ.b H a xs)(r:aG K ρ H vs xs):bo K ρ H (kj vs) (.ref a):=by
 unfold kj
 split
 ·rename_i ds e
  rw[iA e] at r
  unfold bo Rep
  exact⟨a,xs,rfl,l,r.to⟩
 ·unfold bo
  exact⟨a,xs,rfl,l,r⟩
theorem rC{K:PySem.W.Frag}{ρ:P3}{H:Hp}{vs:List V3}{xs:List V}{a:Addr}(l:qM K ρ.b H a xs)(r:aG K ρ H vs xs):bo K ρ H (iZ vs) (.ref a):=by
 unfold iZ
 split
 ·rename_i ds e
  rw[iA e] at r
  unfold bo Rep
  exact⟨a,xs,rfl,l,r.to⟩
 ·unfold bo
  exact⟨a,xs,rfl,l,r⟩
theorem tH{es:List Expr}{g:FA}{x1 pos}(h:BY X cl es g):PX X cl (.Tuple es x1 pos) (yY g):=⟨(Ae h.1).imp fun σ H Q ⟨ρ,S,δ,v,S',E,hf,q⟩=>by
 obtain⟨vs,S1,h1,h2⟩:=R3.ak hf
 obtain⟨hl,h3⟩:=R3.bp h2
 cases h3
 refine⟨ρ,S,δ,vs,_,E,h1,fun us ρ1 H1 p1 w1 r1=>⟨by rw[←r1.length];exact of_decide_eq_true hl,fun p hp=>q _ ρ1 _ (p1.trans (pC hp)) (w1.same (aY hp)) ?_⟩⟩
 refine yL (.inl ⟨fun ha=>?_, .inl bb⟩) (r1.pre (pC hp))
 obtain⟨o,ho⟩:=w1.bs p ha
 rw[hp] at ho;cases ho⟩
noncomputable def EL(g:FA):FX:=fun δ S=>(g δ S).bind fun vs S=>R3.bZ (decide (vs.length≤sizeLine)) (.ok (iZ vs) S)
theorem FQ{es:List Expr}{g:FA}{pos}(h:BY X cl es g):PX X cl (.List es pos) (EL g):=⟨(AE h.1).imp fun σ H Q ⟨ρ,S,δ,v,S',E,hf,q⟩=>by
 obtain⟨vs,S1,h1,h2⟩:=R3.ak hf
 obtain⟨hl,h3⟩:=R3.bp h2
 cases h3
 refine⟨ρ,S,δ,vs,_,E,h1,fun us ρ1 H1 p1 w1 r1=>⟨by rw[←r1.length];exact of_decide_eq_true hl,fun p hp=>q _ ρ1 _ (p1.trans (pC hp)) (w1.same (aY hp)) ?_⟩⟩
 refine rC (.inl ⟨fun ha=>?_, .inl bb⟩) (r1.pre (pC hp))
 obtain⟨o,ho⟩:=w1.bs p ha
 rw[hp] at ho;cases ho⟩
noncomputable def x2(g:D→D→R D)(fa fb:FX):FX:=fun δ S=>(fa δ S).bind fun a S1=>(fb δ S1).bind fun b S2=>match a,b with
 | .d x, .d y=>(R3.of (g x y) S2).bind fun d S=> .ok (.d d) S
 | _,_=> .no
theorem Ft{K:PySem.W.Frag}{g:D→D→R D}{fa fb:FX}{σ:L2.St}{H:Hp}{Q:VK}(h:tX K cl (x2 g fa fb) σ H Q) :
 GN (fun x y H Q=>∃B da db d,(∀a∈B,∃o,H a=some o)∧Rep K B H da x∧Rep K B H db y∧g da db= .ok d∧∀z H',aW H H'→Rep K B H' d z→Q z H') (tX K cl fa) (tX K cl fb) σ H Q:=by
 obtain⟨ρ,S,δ,v,S',E,hf,q⟩:=h
 obtain⟨a,S1,h1,h2⟩:=R3.ak hf
 obtain⟨b,S2,h3,h4⟩:=R3.ak h2
 match a,b,h1,h3,h4 with
 | .d x, .d y,h1,h3,h4=>
   obtain⟨d,S3,h5,h6⟩:=R3.ak h4
   obtain⟨h7,e⟩:=R3.of_ok h5
   cases h6
   subst e
   refine⟨ρ,S,δ, .d x,S1,E,h1,fun u1 ρ1 H1 p1 w1 r1=>⟨ρ1,S1,δ, .d y,_,E.to p1 w1,h3,fun u2 ρ2 H2 p2 w2 r2=>?_⟩⟩
   have r1':=r1.pre p2
   unfold bo at r1' r2
   exact⟨ρ2.b,x,y,d,w2.bs,r1',r2,h7,fun z H' s r=>q z ρ2 H' (p1.trans (p2.trans (Pre.same s))) (w2.same s) (by unfold bo;exact r)⟩
 | .d x, .loc _,_,_,h4=>cases h4
 | .d x, .lst _,_,_,h4=>cases h4
 | .d x, .tup _,_,_,h4=>cases h4
 | .loc _,_,_,_,h4=>cases h4
 | .lst _,_,_,_,h4=>cases h4
 | .tup _,_,_,_,h4=>cases h4
theorem oH{op:Operator}{g:D→D→R D}{a b:Expr}{fa fb:FX}{pos:Pos}(ho:jA X (binaryOp op) g)(ha:PX X cl a fa)(hb:PX X cl b fb):PX X cl (.BinOp a op b pos) (x2 g fa fb):=
 ⟨(xf ho.r ha.1 hb.1).imp fun σ H Q h=>Ft h⟩
theorem Ax{op:CmpOp}{g:D→D→R D}{a b:Expr}{fa fb:FX}{pos:Pos}(ho:jA X (compareOp op) g)(ha:PX X cl a fa)(hb:PX X cl b fb)(hm:behindInMarks op b=false):PX X cl (.Compare a [op] [b] pos) (x2 g fa fb):=
 ⟨(w_ ho.r ha.1 hb.1 hm).imp fun σ H Q h=>Ft h⟩
noncomputable def Il(g:D→D→R D)(fa fb:FX):FB:=fun δ S=>(x2 g fa fb δ S).bind fun v S=>match v with | .d (.bl b)=> .ok b S | _=> .no
theorem CM{op:CmpOp}{g:D→D→R D}{a b:Expr}{fa fb:FX}{pos:Pos}(ho:jA X (compareOp op) g)(ha:PX X cl a fa)(hb:PX X cl b fb)(hm:behindInMarks op b=false):CK X cl (.Compare a [op] [b] pos) (Il g fa fb):=
 ⟨(xU ho.r ha.1 hb.1 hm).imp fun σ H Q ⟨ρ,S,δ,b,S',E,hf,q⟩=>by
   obtain⟨v,S1,h1,h2⟩:=R3.ak hf
   have hv:v= .d (.bl b)∧S1=S':=by
    match v,h2 with
    | .d (.bl k),h2=>cases h2;exact⟨rfl,rfl⟩
    | .d .cq,h2=>cases h2
    | .d (.int _),h2=>cases h2
    | .d (.str _),h2=>cases h2
    | .d (.lst _),h2=>cases h2
    | .d (.tup _),h2=>cases h2
    | .d (.dct _ _),h2=>cases h2
    | .loc _,h2=>cases h2
    | .lst _,h2=>cases h2
    | .tup _,h2=>cases h2
   obtain⟨rfl,rfl⟩:=hv
   exact Ft (g:=g) (Q:=fun x H'=>∃k,x= .bl k∧Q k H') ⟨ρ,S,δ,_,_,E,h1,fun u ρ' H' p w r=>⟨b,by unfold bo Rep at r;exact r,q ρ' H' p w⟩⟩⟩
inductive Ou where
 | nx (δ:DE) | rt (v:V3)
noncomputable abbrev FZ:=DE→aU→R3 Ou
noncomputable def CC(K:PySem.W.Frag)(cl:Nat→Addr)(ρ:P3)(H:Hp)(D:Ends)(S':aU):Ou→Prop
 | .nx δ'=>∀σ' ρ' H',Pre ρ H ρ' H'→fq K cl ρ' H' S' σ' δ'→D.nx σ' H'
 | .rt v=>∀u ρ' H',Pre ρ H ρ' H'→SW K cl ρ' H' S'→bo K ρ' H' v u→D.rt u H'
theorem CC.pre{K:PySem.W.Frag}{ρ ρ1:P3}{H H1:Hp}{D:Ends}{S':aU}{o:Ou}(q:CC K cl ρ H D S' o)(p:Pre ρ H ρ1 H1):CC K cl ρ1 H1 D S' o:=by
 cases o with
 | nx δ'=>exact fun σ' ρ' H' p' E'=>q σ' ρ' H' (p.trans p') E'
 | rt d=>exact fun v ρ' H' p' w r=>q v ρ' H' (p.trans p') w r
noncomputable def sX(K:PySem.W.Frag)(cl:Nat→Addr)(F:FZ):TS:=fun D σ H=>∃ρ S δ o S',fq K cl ρ H S σ δ∧F δ S= .ok o S'∧CC K cl ρ H D S' o
structure PZ (X:Cx) (cl:Nat→Addr) (st:Stmt) (F:FZ):Prop where
 go:PS X st (sX X.K cl F)
structure zo (X:Cx) (cl:Nat→Addr) (st:List Stmt) (F:FZ):Prop where
 go:tV X st (sX X.K cl F)
noncomputable def tf:FZ:=fun δ S=> .ok (.nx δ) S
noncomputable def bC(F G:FZ):FZ:=fun δ S=>(F δ S).bind fun o S1=>match o with | .nx δ'=>G δ' S1 | .rt d=> .ok (.rt d) S1
theorem nq:zo X cl [] tf:=⟨xQ.imp fun D σ H ⟨ρ,S,δ,o,S',E,hf,q⟩=>by
 cases hf
 exact q σ ρ H (Pre.refl ρ H) E⟩
theorem av{st:Stmt}{rest:List Stmt}{F G:FZ}(h1:PZ X cl st F)(h2:zo X cl rest G):zo X cl (st ::rest) (bC F G):=⟨(uW h1.1 h2.1).imp fun D σ H ⟨ρ,S,δ,o,S',E,hf,q⟩=>by
 obtain⟨o1,S1,h1,h2⟩:=R3.ak hf
 refine⟨ρ,S,δ,o1,S1,E,h1,?_⟩
 cases o1 with
 | nx δ1=>
   intro σ1 ρ1 H1 p1 E1
   exact⟨ρ1,S1,δ1,o,S',E1,h2,q.pre p1⟩
 | rt d=>
   cases h2
   exact q⟩
theorem aZ{st:Stmt}{F:FZ}(h1:PZ X cl st F):zo X cl [st] F:=⟨xo h1.1⟩
noncomputable def cA(i:Nat)(f:FX):FZ:=fun δ S=>(f δ S).bind fun v S=>R3.bZ (decide (i < δ.length)) (.ok (.nx (δ.set i (some v))) S)
theorem bj{i:Nat}{x:Str}{e:Expr}{f:FX}{pos pos':Pos}(hN:X.N.Nodup)(hi:X.N[i]? =some x)(hx:Loc X.env.scope x)(he:PX X cl e f)(hs:swapsWith e (some (.Name x pos')) pos.line X.env=pure false:=by rfl)(hf:X.fn x=true∨X.env.scope.names.lookup x=some .local:=by first | exact .inl rfl | exact .inr rfl | assumption) :
 PZ X cl (.Assign [.Name x pos'] e pos) (cA i f):=⟨(vJ hN hi hx he.1 hs hf).imp fun D σ H ⟨ρ,S,δ,o,S',E,hf,q⟩=>by
 obtain⟨v,S1,h1,h2⟩:=R3.ak hf
 obtain⟨hi,h3⟩:=R3.bp h2
 cases h3
 refine⟨ρ,S,δ,v,_,E,h1,fun u ρ1 H1 p1 w1 r1=>?_⟩
 exact q _ ρ1 H1 p1 ((E.to p1 w1).set (by rw[←E.len];exact of_decide_eq_true hi) r1)⟩
noncomputable def js(f:FX):FZ:=fun δ S=>(f δ S).bind fun v S=> .ok (.rt v) S
theorem d6{e:Expr}{f:FX}{pos:Pos}(he:PX X cl e f):PZ X cl (.Return (some e) pos) (js f):=⟨(AD he.1).imp fun D σ H ⟨ρ,S,δ,o,S',E,hf,q⟩=>by
 obtain⟨v,S1,h1,h2⟩:=R3.ak hf
 cases h2
 exact⟨ρ,S,δ,v,_,E,h1,fun u ρ1 H1 p1 w1 r1=>q u ρ1 H1 p1 w1 r1⟩⟩
noncomputable def AQ(c:FB)(F G:FZ):FZ:=fun δ S=>(c δ S).bind fun b S=>if b then F δ S else G δ S
theorem pW{c:Expr}{a b:List Stmt}{fc:FB}{F G:FZ}{pos:Pos}(hc:CK X cl c fc)(ha:zo X cl a F)(hb:zo X cl b G):PZ X cl (.If c a b pos) (AQ fc F G):=⟨(Eh hc.1 ha.1 hb.1).imp fun D σ H ⟨ρ,S,δ,o,S',E,hf,q⟩=>by
 obtain⟨k,S1,h1,h2⟩:=R3.ak hf
 refine⟨ρ,S,δ,k,S1,E,h1,fun ρ1 H1 p1 w1=>?_⟩
 cases k with
 | true=>rw [if_pos rfl] at h2;exact BW ⟨ρ1,S1,δ,o,S',E.to p1 w1,h2,q.pre p1⟩
 | false=>rw [if_neg (by decide)] at h2;exact AR ⟨ρ1,S1,δ,o,S',E.to p1 w1,h2,q.pre p1⟩⟩
noncomputable def Kc(f:FX):FZ:=fun δ S=>(f δ S).bind fun _ S=> .ok (.nx δ) S
noncomputable def lr(c:FB)(body:FZ):Nat→FZ
 | 0,_,_=> .no
 | n+1,δ,S=>(c δ S).bind fun b S=>if b then(body δ S).bind fun o S=>match o with | .nx δ2=>lr c body n δ2 S | .rt r=> .ok (.rt r) S else .ok (.nx δ) S
noncomputable def wu(n:Nat)(c:FB)(body:FZ):FZ:=fun δ S=>lr c body n δ S
theorem zU(n:Nat){c:Expr}{body:List Stmt}{fc:FB}{F:FZ}{pos:Pos}(hp:PassesOwn (model X.prog X.w) X.A X.env X.xe)(hc:CK X cl c fc)(hb:zo X cl body F):PZ X cl (.While c body [] pos) (wu n fc F):=
 ⟨(zA hp hc.1 hb.1).imp fun D σ H ⟨ρ,S,δ,o,S',E,hf,q⟩=>by
   refine⟨fun m σ' H'=>∃ρ1 S1 δ1,Pre ρ H ρ1 H'∧fq X.K cl ρ1 H' S1 σ' δ1∧lr fc F m δ1 S1= .ok o S',⟨n,ρ,S,δ,Pre.refl ρ H,E,hf⟩,?_⟩
   rintro m σ' H' ⟨ρ1,S1,δ1,p1,E1,hw⟩
   cases m with
   | zero=>cases hw
   | succ m=>
     obtain⟨b,S2,h1,h2⟩:=R3.ak hw
     refine⟨ρ1,S1,δ1,b,S2,E1,h1,fun ρ2 H2 p2 w2=>?_⟩
     cases b with
     | false=>
       rw[if_neg (by decide)] at h2
       cases h2
       exact AR (q σ' ρ2 H2 (p1.trans p2) (E1.to p2 w2))
     | true=>
       rw[if_pos rfl] at h2
       obtain⟨o1,S3,h3,h4⟩:=R3.ak h2
       refine BW ⟨fun σ4 H4=>∃ρ4 S4 δ4,Pre ρ H ρ4 H4∧fq X.K cl ρ4 H4 S4 σ4 δ4∧lr fc F m δ4 S4= .ok o S',fun σ4 H4 n=>⟨m,Nat.lt_succ_self _,n⟩,ρ2,S2,δ1,o1,S3,E1.to p2 w2,h3,?_⟩
       cases o1 with
       | nx δ2=>exact fun σ3 ρ3 H3 p3 E3=>⟨ρ3,S3,δ2,(p1.trans p2).trans p3,E3,h4⟩
       | rt d=>
         cases h4
         exact fun v ρ3 H3 p3 w r=>q v ρ3 H3 ((p1.trans p2).trans p3) w r⟩
end
end L3
end
section
set_option maxRecDepth 100000
set_option maxHeartbeats 4000000
namespace L3
open PySem PySem.Spec PyProof.Rows L2
theorem aG.get{K:PySem.W.Frag}{ρ:P3}{H:Hp}:∀{ds:List V3} {xs:List V} {i:Nat} {d:V3},aG K ρ H ds xs→ds[i]? =some d→∃x,xs[i]? =some x∧bo K ρ H d x
 | [],_,_,_,_,e=>by simp at e
 | d ::ds,xs,0,d',h,e=>by
   obtain⟨x,r,rfl,h1,h2⟩:=h.cn
   simp at e;subst e
   exact⟨x,rfl,h1⟩
 | d ::ds,xs,i+1,d',h,e=>by
   obtain⟨x,r,rfl,h1,h2⟩:=h.cn
   obtain⟨y,e1,e2⟩:=aG.get (i:=i) h2 (by simpa using e)
   exact⟨y,by simpa using e1,e2⟩
noncomputable def GI(K:PySem.W.Frag)(ρ:P3)(H:Hp)(J:It)(vs:List V3):Prop:=∀ρ' H',PW ρ H ρ' H'→(∀a∈ρ'.b,∃o,H' a=some o)→(∀(i:Nat) (d:V3),vs[i]? =some d→J.go i H'∧∀x H'',J.yld i H' x H''→aW H' H''∧bo K ρ' H'' d x)∧J.stop vs.length H'
theorem GI.of{K:PySem.W.Frag}{ρ:P3}{H:Hp}{J:It}{ds:List D}(h:Ai K ρ.b H J ds):GI K ρ H J (ds.map .d):=fun ρ' H' p bs=>by
 obtain⟨h1,h2⟩:=h ρ'.b H' p.bq
 refine⟨fun i v hv=>?_,by rw[List.length_map];exact h2⟩
 rw[List.getElem?_map] at hv
 cases e:ds[i]? with
 | none=>rw [e] at hv;cases hv
 | some d=>
   rw[e] at hv
   cases hv
   obtain⟨g1,g2⟩:=h1 i d e
   exact⟨g1,fun x H'' y=>let⟨s,r⟩:=g2 x H'' y bs;⟨s,by unfold bo;exact r⟩⟩
noncomputable def Kj(K:PySem.W.Frag)(cl:Nat→Addr)(f:FA):TI:=fun σ H R=>∃ρ S δ vs S',fq K cl ρ H S σ δ∧f δ S= .ok vs S'∧∀J ρ1 H1,Pre ρ H ρ1 H1→SW K cl ρ1 H1 S'→GI K ρ1 H1 J vs→R J H1
structure EH (X:Cx) (cl:Nat→Addr) (tg e:Expr) (f:FA):Prop where
 go:PI X tg e (Kj X.K cl f)
section
variable {X:Cx} {cl:Nat→Addr}
noncomputable def iP(f:aw→R (List D)):FA:=fun δ S=>(R3.of (f (down δ)) S).bind fun ds S=> .ok (ds.map .d) S
theorem eg{tg e:Expr}{f:aw→R (List D)}(h:wI X tg e f):EH X cl tg e (iP f):=⟨h.1.imp fun σ H Q ⟨ρ,S,δ,vs,S',E,hf,q⟩=>by
 obtain⟨ds,S1,h1,h2⟩:=R3.ak hf
 obtain⟨h3,e3⟩:=R3.of_ok h1
 cases h2
 subst e3
 exact⟨[],ρ.b,down δ,ds,E.down,h3,fun J H1 s r=>q J ρ H1 (Pre.same s) (E.sw.same s) (GI.of r)⟩⟩
noncomputable def lO(f:FX):FA:=fun δ S=>(f δ S).bind fun v S=>match v with | .d (.int j)=>R3.bZ (decide (-(2 ^ 62)≤j∧j < 2 ^ 62)) (.ok ((bU 0 j.toNat).map .d) S) | _=> .no
theorem gL{tg a:Expr}{f:FX}{p pos:Pos}(h:PX X cl a f)(hg:Gl X "range")(hm:X.mg "range"=none)(hs:starEach [a] X.env=[(false,eval a X.env)]:=by rfl):EH X cl tg (.Call (.Name "range" p) [a] [] pos) (lO f):=
 ⟨(sj hg hm (f_ h.1 jy hs) hs).imp fun σ H RR ⟨ρ,S,δ,vs,S',E,hf,q⟩=>by
   obtain⟨v,S1,h1,h2⟩:=R3.ak hf
   match v,h1,h2 with
   | .d (.int j),h1,h2=>
     obtain⟨hb,h3⟩:=R3.bp h2
     cases h3
     have hb:=of_decide_eq_true hb
     refine⟨ρ,S,δ, .d (.int j),_,E,h1,fun u ρ1 H1 p1 w1 r1=>⟨j,?_,hb.1,hb.2,q _ ρ1 H1 p1 w1 (GI.of (zN 0 _))⟩⟩
     unfold bo Rep at r1
     rw[r1]
   | .d .cq,_,h2=>cases h2
   | .d (.bl _),_,h2=>cases h2
   | .d (.str _),_,h2=>cases h2
   | .d (.lst _),_,h2=>cases h2
   | .d (.tup _),_,h2=>cases h2
   | .d (.dct _ _),_,h2=>cases h2
   | .loc _,_,h2=>cases h2
   | .lst _,_,h2=>cases h2
   | .tup _,_,h2=>cases h2⟩
noncomputable def De(f:FX):FA:=fun δ S=>(f δ S).bind fun v S=>match v with | .d (.lst ds)=> .ok (ds.map .d) S | .lst vs=> .ok vs S | _=> .no
theorem yb{tg e:Expr}{f:FX}(h:PX X cl e f):EH X cl tg e (De f):=⟨by
 intro pins s σ H RR I ⟨ρ,S,δ,vs,S',E,hf,q⟩
 obtain⟨v,S1,h1,h2⟩:=R3.ak hf
 refine dW (h.1 pins s σ H (fun u H1=>∃ρ1,Pre ρ H ρ1 H1∧SW X.K cl ρ1 H1 S1∧bo X.K ρ1 H1 v u) I ⟨ρ,S,δ,v,S1,E,h1,fun u ρ1 H1 p1 w1 r1=>⟨ρ1,p1,w1,r1⟩⟩) fun u s1 ⟨x,H1,I1,r1,ρ1,p1,w1,rr⟩=>?_
 have key:S1=S'∧∃a xs,x= .ref a∧qM X.K ρ1.b H1 a xs∧aG X.K ρ1 H1 vs xs:=by
  match v,h2,rr with
  | .d (.lst ds),h2,rr=>
    cases h2
    unfold bo Rep at rr
    obtain⟨a,xs,e,l,r⟩:=rr
    exact⟨rfl,a,xs,e,l,aG.of r⟩
  | .lst ws,h2,rr=>
    cases h2
    unfold bo at rr
    exact⟨rfl,rr⟩
  | .d .cq,h2,_=>cases h2
  | .d (.bl _),h2,_=>cases h2
  | .d (.int _),h2,_=>cases h2
  | .d (.str _),h2,_=>cases h2
  | .d (.tup _),h2,_=>cases h2
  | .d (.dct _ _),h2,_=>cases h2
  | .loc _,h2,_=>cases h2
  | .tup _,h2,_=>cases h2
 obtain⟨rfl,a,xs,rfl,l,rr⟩:=key
 cases r1
 obtain⟨its,rv,p,hz⟩:=I1.list l.sq
 refine wpAny_pyIter_list p.isList ?_
 refine⟨s1.heap.objs.size,[s1.heap.objs.size],_,_,H1,rfl,I1.kept (t':=s1.toks) fun b o e=>Heap.get?_push_of_some _ e,rQ a _,⟨_,Heap.get?_push_size _ rfl,rfl,rfl⟩,fun b hb=>?_,q _ ρ1 H1 p1 w1 fun ρ' H' pr bs=>?_⟩
 ·have e:b=s1.heap.objs.size:=by simpa using hb
  subst e
  exact I1.qP (Nat.le_refl _) (I1.hok.fresh (Nat.le_refl _))
 ·have l':qM X.K ρ'.b H' a xs:=l.bq pr.bq
  have rr':=rr.pw pr
  refine⟨fun i d hd=>?_,⟨xs,l'.sq,by rw[rr.length];exact Nat.le_refl _⟩⟩
  obtain⟨x,hx,rx⟩:=rr'.get hd
  exact⟨⟨xs,x,l'.sq,hx⟩,fun y H'' ⟨e1,e2⟩=>by
   subst e1
   have:=e2 xs l'.sq
   rw[hx] at this
   cases this
   exact⟨aW.refl _,rx⟩⟩⟩
noncomputable abbrev FG:=V3→DE→Option DE
noncomputable abbrev Ck:=List V3→DE→Option DE
noncomputable def gX(K:PySem.W.Frag)(cl:Nat→Addr)(t:FG):TG:=fun v σ H Q=>∃ρ S δ x δ',fq K cl ρ H S σ δ∧bo K ρ H x v∧t x δ=some δ'∧∀σ' H',aW H H'→fq K cl ρ H' S σ' δ'→Q σ' H'
noncomputable def K0(K:PySem.W.Frag)(cl:Nat→Addr)(t:Ck):AW:=fun v σ H Q=>∃ρ S δ x δ',fq K cl ρ H S σ δ∧aG K ρ H x v∧t x δ=some δ'∧∀σ' H',aW H H'→fq K cl ρ H' S σ' δ'→Q σ' H'
structure GK (X:Cx) (cl:Nat→Addr) (tg:Expr) (t:FG):Prop where
 go:PG X tg (gX X.K cl t)
structure CP (X:Cx) (cl:Nat→Addr) (tg:List Expr) (t:Ck):Prop where
 go:Ct X tg (K0 X.K cl t)
theorem fq.same{K:PySem.W.Frag}{ρ:P3}{H H':Hp}{S:aU}{σ:L2.St}{δ:DE}(E:fq K cl ρ H S σ δ)(s:aW H H'):fq K cl ρ H' S σ δ:=E.to (Pre.same s) (E.sw.same s)
noncomputable def kQ(i:Nat):FG:=fun d δ=>if i < δ.length then some (δ.set i (some d)) else none
theorem bQ{i:Nat}{x:Str}{pos:Pos}(hN:X.N.Nodup)(hi:X.N[i]? =some x)(hx:Loc X.env.scope x)(hf:X.fn x=true∨X.env.scope.names.lookup x=some .local:=by first | exact .inl rfl | exact .inr rfl | assumption):GK X cl (.Name x pos) (kQ i):=
 ⟨(xx hN hi hx hf).imp fun v σ H Q ⟨ρ,S,δ,d,δ',E,r,ht,q⟩=>by
   unfold kQ at ht
   split at ht
   ·rename_i hi
    cases ht
    exact q _ H (aW.refl H) (E.set (by rw[←E.len];exact hi) r)
   ·cases ht⟩
noncomputable def zj:Ck:=fun ds δ=>match ds with | []=>some δ | _=>none
noncomputable def wK(t:FG)(u:Ck):Ck:=fun ds δ=>match ds with | d ::r=>(t d δ).bind fun δ'=>u r δ' | []=>none
theorem pS:CP X cl [] zj:=⟨xX.imp fun vs σ H Q ⟨ρ,S,δ,ds,δ',E,r,ht,q⟩=>by
 cases ds with
 | nil=>unfold aG at r;cases ht;exact⟨r,q σ H (aW.refl H) E⟩
 | cons=>cases ht⟩
theorem iy{e:Expr}{es:List Expr}{t:FG}{u:Ck}(h1:GK X cl e t)(h2:CP X cl es u)(hs:(assignEach (e ::es) X.env).map (·.2)=assign e X.env ::(assignEach es X.env).map (·.2):=by rfl):CP X cl (e ::es) (wK t u):=
 ⟨(ug h1.1 h2.1 hs).imp fun vs σ H Q ⟨ρ,S,δ,ds,δ',E,r,ht,q⟩=>by
   cases ds with
   | nil=>cases ht
   | cons d ds=>
     obtain⟨x,xs,rfl,r1,r2⟩:=r.cn
     have ht:(t d δ).bind (fun δ'=>u ds δ')=some δ':=ht
     cases e1:t d δ with
     | none=>rw [e1] at ht;cases ht
     | some δ1=>
       rw[e1] at ht
       exact⟨x,xs,rfl,ρ,S,δ,d,δ1,E,r1,e1,fun σ1 H1 s1 E1=>⟨ρ,S,δ1,ds,δ',E1,r2.pre (Pre.same s1),ht,fun σ2 H2 s2 E2=>q σ2 H2 (s1.trans s2) E2⟩⟩⟩
noncomputable def zg(n:Nat)(t:Ck):FG:=fun d δ=>match d with
 | .d (.tup ds)=>if ds.length=n then t (ds.map .d) δ else none
 | .tup vs=>if vs.length=n then t vs δ else none
 | _=>none
theorem tQ{es:List Expr}{k:Nat}{t:Ck}{n:Nat}{pos:Pos}(hc:X.calm=true)(h:CP X cl es t)(hn:(assignEach es X.env).length=n:=by rfl)(hst:(assignEach es X.env).findIdx? (·.1)=none:=by rfl):GK X cl (.Tuple es k pos) (zg n t):=
 ⟨(A8 hc h.1 hn hst).imp fun v σ H Q ⟨ρ,S,δ,d,δ',E,r,ht,q⟩=>by
   have key:∃vs a xs,v= .ref a∧se X.K ρ.b H a xs∧aG X.K ρ H vs xs∧vs.length=n∧t vs δ=some δ':=by
    unfold zg at ht
    split at ht
    ·rename_i ds
     split at ht
     ·rename_i hl
      unfold bo Rep at r
      obtain⟨a,xs,e,l,r⟩:=r
      exact⟨ds.map .d,a,xs,e,l,aG.of r,by rw[List.length_map];exact hl,ht⟩
     ·cases ht
    ·rename_i vs
     split at ht
     ·rename_i hl
      unfold bo at r
      obtain⟨a,xs,e,l,r⟩:=r
      exact⟨vs,a,xs,e,l,r,hl,ht⟩
     ·cases ht
    ·cases ht
   obtain⟨vs,a,xs,rfl,l,r,hl,ht⟩:=key
   exact⟨a,xs,rfl,l.sq,by rw[←r.length];exact hl,ρ,S,δ,vs,δ',E,r,ht,q⟩⟩
noncomputable def La(f:FX)(t:FG):FZ:=fun δ S=>(f δ S).bind fun d S=>match t d δ with | some δ'=> .ok (.nx δ') S | none=> .no
noncomputable def mF(t:FG)(body:FZ):List V3→FZ
 | [],δ,S=> .ok (.nx δ) S
 | d ::ds,δ,S=>match t d δ with
   | none=> .no
   | some δ1=>(body δ1 S).bind fun o S=>match o with | .nx δ2=>mF t body ds δ2 S | .rt r=> .ok (.rt r) S
noncomputable def k3(it:FA)(t:FG)(body:FZ):FZ:=fun δ S=>(it δ S).bind fun vs S=>mF t body vs δ S
theorem fJ{tg iter:Expr}{body:List Stmt}{it:FA}{t:FG}{F:FZ}{pos:Pos}(hp:PassesOwn (model X.prog X.w) X.A X.env X.xe)(hc:X.calm=true)(hi:EH X cl tg iter it)(hg:GK X cl tg t)(hb:zo X cl body F)
 (hs:∀x,foldedSetIterable iter X.env x=pure x:=by intro _;rfl):PZ X cl (.For tg iter body [] pos) (k3 it t F):=⟨(Ah hp hc hi.1 hg.1 hb.1 hs).imp fun D σ H ⟨ρ,S,δ,o,S',E,hf,q⟩=>by
 obtain⟨ds,S0,h1,h2⟩:=R3.ak hf
 refine⟨ρ,S,δ,ds,S0,E,h1,fun J ρ1 H1 p1 w1 ir=>?_⟩
 refine⟨fun i m σ' H'=>m=ds.length - i∧i≤ds.length∧∃ρ' S1 δ',Pre ρ1 H1 ρ' H'∧fq X.K cl ρ' H' S1 σ' δ'∧mF t F (ds.drop i) δ' S1= .ok o S',⟨ds.length,rfl,Nat.zero_le _,ρ1,S0,δ,Pre.refl ρ1 H1,E.to p1 w1,by simpa using h2⟩,?_⟩
 rintro i m σ' H' ⟨rfl,hi,ρ',S1,δ',pv,E',hl⟩
 obtain⟨go,stop⟩:=ir ρ' H' pv.pw E'.sw.bs
 by_cases hlt:i < ds.length
 ·have hd:ds[i]? =some ds[i]:=List.getElem?_eq_getElem hlt
  have hdrop:ds.drop i=ds[i] ::ds.drop (i+1):=List.drop_eq_getElem_cons hlt
  rw[hdrop] at hl
  unfold mF at hl
  split at hl
  ·cases hl
  ·rename_i δ1 h3
   obtain⟨o1,S2,h5,h6⟩:=R3.ak hl
   obtain⟨g1,g2⟩:=go i _ hd
   refine .inr ⟨g1,fun σ2 H2=>∃ρ2 S2 δ2,Pre ρ1 H1 ρ2 H2∧fq X.K cl ρ2 H2 S2 σ2 δ2∧mF t F (ds.drop (i+1)) δ2 S2= .ok o S',fun σ2 H2 n=>⟨ds.length - (i+1),by omega,rfl,hlt,n⟩,fun x H'' y=>?_⟩
   obtain⟨ss,rr⟩:=g2 x H'' y
   refine⟨ρ',S1,δ',ds[i],δ1,E'.same ss,rr,h3,fun σ2 H2 s2 E2=>⟨ρ',S1,δ1,o1,S2,E2,h5,?_⟩⟩
   have pv2:Pre ρ1 H1 ρ' H2:=pv.trans (Pre.same (ss.trans s2))
   cases o1 with
   | nx δ2=>exact fun σ3 ρ3 H3 p3 E3=>⟨ρ3,S2,δ2,pv2.trans p3,E3,h6⟩
   | rt d=>
     cases h6
     exact fun v ρ3 H3 p3 w r=>q v ρ3 H3 (p1.trans (pv2.trans p3)) w r
 ·have e:i=ds.length:=by omega
  subst e
  rw[List.drop_length] at hl
  cases hl
  exact .inl ⟨stop,q σ' ρ' H' (p1.trans pv) E'⟩⟩
end
end L3
end
section
set_option maxRecDepth 100000
set_option maxHeartbeats 4000000
namespace L3
open PySem PySem.Spec PyProof.Rows L2
mutual
noncomputable def kO(n:Nat):V3→Bool
 | .d _=>true
 | .loc k=>decide (k < n)
 | .lst vs=>iO n vs
 | .tup vs=>iO n vs
noncomputable def iO(n:Nat):List V3→Bool
 | []=>true
 | v ::vs=>kO n v && iO n vs
end
noncomputable def me(n:Nat):SO→Bool
 | .ins _ fs=>iO n (fs.map (·.2))
 | _=>true
theorem CG{ρ:P3}{n:Nat}{b:Addr}(h:b∈(ρ.cut n).b):b∈ρ.b:=by
 rcases P3.dY.mp h with z | z
 ·exact P3.dY.mpr (.inl ⟨List.mem_of_mem_take z.1,z.2⟩)
 ·exact P3.dY.mpr (.inr z)
theorem iH{ρ:P3}{H:Hp}(n:Nat):dG ρ.b H (ρ.cut n).b H:=fun b o e nb=>⟨e,fun hb=>nb (CG hb)⟩
mutual
theorem bo.cut{K:PySem.W.Frag}{ρ:P3}{H:Hp}{n:Nat}:∀{v:V3} {x:V},kO n v=true→bo K ρ H v x→bo K (ρ.cut n) H v x
 | .d y,x,_,h=>by unfold bo at h ⊢;exact h.bq (iH n)
 | .loc k,x,o,h=>by
   unfold bo at h ⊢
   unfold kO at o
   obtain⟨a,h1,h2⟩:=h
   exact⟨a,by show(ρ.r.take n)[k]? =_;rw [List.getElem?_take_of_lt (of_decide_eq_true o)];exact h1,h2⟩
 | .lst vs,x,o,h=>by
   unfold bo at h ⊢
   unfold kO at o
   obtain⟨a,xs,e,l,r⟩:=h
   exact⟨a,xs,e,l.bq (iH n),aG.cut o r⟩
 | .tup vs,x,o,h=>by
   unfold bo at h ⊢
   unfold kO at o
   obtain⟨a,xs,e,l,r⟩:=h
   exact⟨a,xs,e,se.bq (iH n) l,aG.cut o r⟩
theorem aG.cut{K:PySem.W.Frag}{ρ:P3}{H:Hp}{n:Nat}:∀{vs:List V3} {xs:List V},iO n vs=true→aG K ρ H vs xs→aG K (ρ.cut n) H vs xs
 | [],_,_,h=>by unfold aG at h ⊢;exact h
 | v ::vs,xs,o,h=>by
   unfold iO at o
   obtain⟨o1,o2⟩:=Bool.and_eq_true_iff.mp o
   obtain⟨x,r,rfl,h1,h2⟩:=h.cn
   exact aG.cons (bo.cut o1 h1) (aG.cut o2 h2)
end
theorem SW.cut{K:PySem.W.Frag}{cl:Nat→Addr}{ρ:P3}{H:Hp}{S:aU}(w:SW K cl ρ H S){n:Nat}(ok:(S.take n).all (me n)=true):SW K cl (ρ.cut n) H (S.take n):=
 ⟨by show(ρ.r.take n).length=_;rw [List.length_take,List.length_take,w.len],fun i j a hi hj=>by
   have hi:(ρ.r.take n)[i]? =some a:=hi
   have hj:(ρ.r.take n)[j]? =some a:=hj
   have gi:ρ.r[i]? =some a:=by
    rw[List.getElem?_take] at hi;split at hi
    ·exact hi
    ·cases hi
   have gj:ρ.r[j]? =some a:=by
    rw[List.getElem?_take] at hj;split at hj
    ·exact hj
    ·cases hj
   exact w.nd i j a gi gj,fun k a o hk ho=>by
   have hk:(ρ.r.take n)[k]? =some a:=hk
   have gk:ρ.r[k]? =some a:=by
    rw[List.getElem?_take] at hk;split at hk
    ·exact hk
    ·cases hk
   have go:S[k]? =some o:=by
    rw[List.getElem?_take] at ho;split at ho
    ·exact ho
    ·cases ho
   have r:=w.ob k a o gk go
   have oo:me n o=true:=List.all_eq_true.mp ok o (List.mem_of_getElem? ho)
   cases o with
   | lst ds=>obtain⟨xs,e,q⟩:=r;exact⟨xs,e,q.bq (iH n)⟩
   | dct kvs=>obtain⟨ys,e,e2,q⟩:=r;exact⟨ys,e,e2,q.bq (iH n)⟩
   | ins c fs=>obtain⟨dx,ys,e,e2,q⟩:=r;exact⟨dx,ys,e,e2,q.cut oo⟩
   | ik=>exact r,fun b hb=>let⟨h1,h2⟩:=w.zb b hb;⟨h1,fun h=>h2 (List.mem_of_mem_take h)⟩,(fun k a hk ho=>by
   have hk:(ρ.r.take n)[k]? =some a:=hk
   rw[List.getElem?_take] at hk
   split at hk
   ·rename_i hlt
    rw[List.getElem?_take_of_lt hlt] at ho
    exact w.fz k a hk ho
   ·cases hk),w.ff,(fun k a hk ho=>by
   have hk:(ρ.r.take n)[k]? =some a:=hk
   rw[List.getElem?_take] at hk
   split at hk
   ·rename_i hlt
    rw[List.getElem?_take_of_lt hlt] at ho
    exact w.fi k a hk ho
   ·cases hk)⟩
theorem SW.EI{K:PySem.W.Frag}{cl:Nat→Addr}{ρ ρ':P3}{H H':Hp}{n:Nat}(hn:ρ.r.length≤n)(p:Pre ρ H ρ' H'):Pre ρ H (ρ'.cut n) H':=
 ⟨p.bq.trans (iH n),p.zz,p.zs,fun k a h=>by show(ρ'.r.take n)[k]? =_;rw [List.getElem?_take_of_lt (Nat.lt_of_lt_of_le (List.getElem?_eq_some_iff.mp h).1 hn)];exact p.ext k a h⟩
section
variable {X:Cx} {cl:Nat→Addr}
noncomputable def di(S:aU)(k:Nat):Option (List D):=match S[k]? with | some (.lst ds)=>some ds | _=>none
theorem fI{S:aU}{k:Nat}{ds:List D}(h:di S k=some ds):S[k]? =some (.lst ds):=by
 unfold di at h
 split at h
 ·rename_i e;cases h;exact e
 ·cases h
noncomputable def gB(δ:DE)(i:Nat):Option Nat:=match δ[i]? with | some (some (.loc k))=>some k | _=>none
theorem l0{δ:DE}{i k:Nat}(h:gB δ i=some k):δ[i]? =some (some (.loc k)):=by
 unfold gB at h
 split at h
 ·rename_i e;cases h;exact e
 ·cases h
noncomputable def i0(i:Nat)(f:FX):FZ:=fun δ S=>match gB δ i with
 | none=> .no
 | some k=>match di S k with
   | none=> .no
   | some _=>(f δ S).bind fun v S1=>match v with
     | .d d=>(match di S1 k with | some ds=>R3.bZ (decide (ds.length < sizeLine)) (.ok (.nx δ) (S1.set k (.lst (ds++[d])))) | none=> .no)
     | _=> .no
theorem fM{i:Nat}{x:Str}{e:Expr}{f:FX}{npos apos cpos pos:Pos}(hN:X.N[i]? =some x)(hv:Ee X.env.scope x)(he:PX X cl e f)
 (hd:(x==("__debug__":Str))=false:=by decide) (hcd:(x==("__classdict__":Str))=false:=by decide)
 (hs:starEach [e] X.env=(false,eval e X.env) ::starEach [] X.env:=by rfl) (hline:(apos.endLine==cpos.line)=true:=by rfl)
 (hfew:((backTo cpos (starEach [e] X.env)).all (fun x=>!x.1) && (backToKw cpos (keywordEach [] X.env)).all (fun x=>x.1.isSome)
   && decide (([e]:List Expr).length+([]:List Keyword).length+(if([]:List Keyword).isEmpty then 0 else 1) < 30))=true:=by rfl)
 (hsw:swapsWith (.Call (.Attribute (.Name x npos) "append" apos) [e] [] cpos) none pos.line X.env=pure false:=by rfl)
 (hbase:attributeBase (.Name x npos) "append" X.env (eval (.Name x npos) X.env)=eval (.Name x npos) X.env:=by rfl) :
 PZ X cl (.Expr (.Call (.Attribute (.Name x npos) "append" apos) [e] [] cpos) pos) (i0 i f):=by
 refine⟨(xI (BU (X:=X) PySem.F.plainAttrs_list PySem.F.slot_list_append PySem.F.type_list_append nG (sG hN hv hd hcd) (f_ he.1 jy hs) hbase hfew hline hs) hsw).imp fun D σ H ⟨ρ,S,δ,o,S',E,hf,q⟩=>?_⟩
 unfold i0 at hf
 split at hf
 ·cases hf
 ·rename_i k hk
  split at hf
  ·cases hf
  ·rename_i ds0 h0
   obtain⟨v,S1,h1,h2⟩:=R3.ak hf
   split at h2
   ·rename_i d
    split at h2
    ·rename_i ds h3
     obtain⟨hl,h4⟩:=R3.bp h2
     cases h4
     obtain⟨u,u1,u2⟩:=E.val i _ (l0 hk)
     unfold bo at u2
     obtain⟨a,a1,rfl⟩:=u2
     obtain⟨xs0,x0,_⟩:=E.sw.ob k a _ a1 (fI h0)
     refine⟨.ref a,u1, .inl ⟨rfl,xs0,mw.of x0⟩,⟨ρ,S,δ, .d d,S1,E,h1,fun y ρ1 H1 p1 w1 r1=>?_⟩⟩
     have b1:=p1.ext k a a1
     obtain⟨xs,x1,x2⟩:=w1.ob k a _ b1 (fI h3)
     refine⟨a,xs,y,rfl,rfl,x1,by rw[←x2.length];exact of_decide_eq_true hl,?_⟩
     unfold bo at r1
     obtain⟨w2,p2⟩:=w1.put (o:= .lst (ds++[d])) (u:= .lst (xs++[y])) b1 (w1.fz k a b1 (by rw[fI h3];intro h;cases h)) ⟨xs++[y],rfl,x2.append (aF.cons r1 aF.nil)⟩
     exact q σ ρ1 _ (p1.trans p2) (E.to (p1.trans p2) w2)
    ·cases h2
   ·cases h2
noncomputable def vM(fo fi fe:FX):FZ:=fun δ S=>(fe δ S).bind fun v S1=>(fo δ S1).bind fun o S2=>(fi δ S2).bind fun j S3=>match v,o,j with
 | .d d, .loc k, .d (.int n)=>(match di S3 k with
   | some ds=>(match qt ds.length n with | some m=> .ok (.nx δ) (S3.set k (.lst (ds.set m d))) | none=> .no)
   | none=> .no)
 | _,_,_=> .no
noncomputable def zu(K:PySem.W.Frag)(cl:Nat→Addr)(n:Nat)(g:List V3→aU→R3 V3):Sp:=fun vs H Q _=>vs.length=n∧∃ρ S xs v S',SW K cl ρ H S∧aG K ρ H xs vs∧g xs S= .ok v S'∧∀u ρ' H',Pre ρ H ρ' H'→SW K cl ρ' H' S'→bo K ρ' H' v u→Q u H'
noncomputable def cf(g:List V3→aU→R3 V3)(fs:FA):FX:=fun δ S=>(fs δ S).bind g
noncomputable def aQ(P:Program)(w:World)(K:PySem.W.Frag)(mg:Str→Option Value)(base:Heap)(cl:Nat→Addr)(k:Nat)(x:Str)(n:Nat)(g:List V3→aU→R3 V3):Prop:=
 ∃(f:Addr) (fd:FuncData) (ps:List Str),ip P w K mg base qO k f fd ps (zu K cl n g)∧mg x=some (.ref f)∧PySem.W.keepIn K (.ref f)=true∧Binds K fd ps []
theorem bw{g:List V3→aU→R3 V3}{k j n:Nat}{x:Str}{p pos:Pos}{e:Expr}{es:List Expr}{fs:FA}(C:aQ X.prog X.w X.K X.mg X.base cl k x n g)(hr:eB j X.A)(hkj:k≤j)(hg:Gl X x)(ha:BY X cl (e ::es) fs)
 (hn:∀δ S ds S',fs δ S= .ok ds S'→ds.length=n) (hdb:(x==("__debug__":Str))=false:=by decide) (he:starEach (e ::es) X.env=(false,eval e X.env) ::starEach es X.env:=by rfl) (hpl:(backTo pos (starEach es X.env)).any (·.1)=false:=by rfl) :
 PX X cl (.Call (.Name x p) (e ::es) [] pos) (cf g fs):=by
 obtain⟨f,fd,ps,F,hm,hk,hb⟩:=C
 refine⟨(sT F (hr.mono hkj) hg hm hk hb .nil vq ha.1 hdb he hpl).imp fun σ H Q ⟨ρ,S,δ,v,S',E,hf,q⟩=>?_⟩
 obtain⟨vs,S1,h1,h2⟩:=R3.ak hf
 refine⟨ρ,S,δ,vs,S1,E,h1,fun us ρ1 H1 p1 w1 r1=>?_⟩
 show zu X.K cl n g (us++[]) H1 Q E0
 rw[List.append_nil]
 exact⟨by rw[←r1.length];exact hn δ S vs S1 h1,ρ1,S1,vs,v,S',w1,r1,h2,fun z ρ2 H2 p2 w2 r2=>q z ρ2 H2 (p1.trans p2) w2 r2⟩
end
noncomputable def bS(N:List Str)(vs:List V3):DE:=vs.map some++List.replicate (N.length - vs.length) none
theorem A4{K:PySem.W.Frag}{cl:Nat→Addr}{ρ:P3}{H:Hp}{S:aU}{N:List Str}{ds:List V3}{vs:List V}(w:SW K cl ρ H S)(r:aG K ρ H ds vs):fq K cl ρ H S (L2.start N vs) (bS N ds) where
 len:=by unfold L2.start bS;simp [r.length]
 sw:=w
 val:=fun i d e=>by
  unfold bS at e
  unfold L2.start
  by_cases hi:i < ds.length
  ·rw[List.getElem?_append_left (by simpa using hi),List.getElem?_map] at e
   cases q:ds[i]? with
   | none=>rw [q] at e;cases e
   | some d'=>
     rw[q] at e
     cases e
     obtain⟨x,h1,h2⟩:=r.get q
     exact⟨x,by rw[List.getElem?_append_left (by rw[List.length_map,←r.length];exact hi),List.getElem?_map,h1];rfl,h2⟩
  ·rw[List.getElem?_append_right (by simpa using hi),List.getElem?_replicate] at e
   split at e <;> cases e
noncomputable def lR(N:List Str)(F:FZ):List V3→aU→R3 V3:=fun vs S=>(F (bS N vs) S).bind fun o S'=>match o with | .rt v=> .ok v S' | .nx _=> .ok (.d .cq) S'
noncomputable def n6(N:List Str)(F:FZ):List V3→aU→R3 V3:=fun vs S=>(lR N F vs S).bind fun v S'=>match res S' v with
 | some d=>R3.bZ ((S'.take S.length).all (me S.length) && ft S.length v) (.ok (.d d) (S'.take S.length))
 | none=> .no
theorem Cy{P:Program}{w:World}{K:PySem.W.Frag}{mg:Str→Option Value}{base:Heap}{cl:Nat→Addr}{x qual:Str}{st:Stmt}{f:Addr}{fd:FuncData}{N ps:List Str}{k:Nat}{F:FZ}(Fn:xB K x qual st f fd)(S:ba N ps (af st))
 (hbody:∀(cdv:Value) (A:Around) (outer:List Env) (s:Shared) (H:Hp) (E:XK),eB k (A.deeper (envOfC qual (af st) s.heap.objs.size f cdv))→
   zo (p6 qO P w K mg base N qual (af st) f cdv A outer s H E).DG cl (ao st) F):ip P w K mg base qO (k+1) f fd ps (zu K cl ps.length (lR N F)):=by
 refine Fn.ok S (fun vs H Q E h=>h.1) (fun cdv A outer s H vs Q E hr h=>⟨_,(hbody cdv A outer s H E hr).1,?_⟩)
 obtain⟨_,ρ,S,ds,v,S',w,r,hg,q⟩:=h
 obtain⟨o,S1,h1,h2⟩:=R3.ak hg
 refine⟨ρ,S,bS N ds,o,S1,A4 w r,h1,?_⟩
 cases o with
 | nx δ'=>
   cases h2
   exact fun σ' ρ' H' p' E'=>q _ ρ' H' p' E'.sw (by unfold bo Rep;rfl)
 | rt d'=>
   cases h2
   exact fun u ρ' H' p' w' r'=>q u ρ' H' p' w' r'
theorem vE{K:PySem.W.Frag}{cl:Nat→Addr}{N:List Str}{F:FZ}{n:Nat}{vs:List V}{H:Hp}{Q:VK}{E:XK}(h:zu K cl n (n6 N F) vs H Q E):zu K cl n (lR N F) vs H Q E:=by
 obtain⟨hl,ρ,S,xs,v,S',w,r,hg,q⟩:=h
 obtain⟨v1,S1,h1,h2⟩:=R3.ak hg
 refine⟨hl,ρ,S,xs,v1,S1,w,r,h1,fun u ρ1 H1 p1 w1 r1=>?_⟩
 have pc:Pre ρ H (ρ1.cut S.length) H1:=SW.EI (K:=K) (cl:=cl) (by rw[w.len];exact Nat.le_refl _) p1
 split at h2
 ·rename_i d e
  obtain⟨ok,h3⟩:=R3.bp h2
  obtain⟨ok,hk⟩:=Bool.and_eq_true_iff.mp ok
  cases h3
  refine q u _ H1 pc (w1.cut ok) ?_
  unfold bo
  refine r1.resB w1 (iH _) (fun k a hk a1 ha=>?_) hk e
  rcases P3.dY.mp ha with⟨z,_⟩ | z
  ·obtain⟨j,hj⟩:=List.getElem?_of_mem z
   have hj:(ρ1.r.take S.length)[j]? =some a:=hj
   rw[List.getElem?_take] at hj
   split at hj
   ·rename_i hjl
    have:=w1.nd j k a hj a1
    omega
   ·cases hj
  ·exact(w1.zb a z).2 (List.mem_of_getElem? a1)
 ·cases h2
end L3
end
section
set_option maxRecDepth 100000
set_option maxHeartbeats 4000000
namespace L3
open PySem PySem.Spec PyProof.Rows L2
theorem aF.setAt{K:PySem.W.Frag}{ρ:P3}{H:Hp}:∀{ds:List D} {xs:List V} {m:Nat} {d:D} {v:V},aF K ρ.b H ds xs→Rep K ρ.b H d v→aF K ρ.b H (ds.set m d) (xs.set m v)
 | [],_,_,_,_,h,_=>by unfold aF at h;subst h;exact aF.nil
 | e ::ds,xs,0,d,v,h,r=>by
   obtain⟨x,r',rfl,h1,h2⟩:=h.cn
   exact aF.cons r h2
 | e ::ds,xs,m+1,d,v,h,r=>by
   obtain⟨x,r',rfl,h1,h2⟩:=h.cn
   exact aF.cons h1 (aF.setAt h2 r)
section
variable {X:Cx} {cl:Nat→Addr}
theorem sL{o i e:Expr}{fo fi fe:FX}{spos pos:Pos}(he:PX X cl e fe)
 (hg:PG X (.Subscript o i spos) (Hx (tX X.K cl fo) (tX X.K cl fi) D0))
 (hs:swapsWithSole [.Subscript o i spos] e pos.line X.env=pure false:=by rfl) (hw:swappedStores [.Subscript o i spos] e X.env=pure none:=by rfl)
 (h1:(assignEach [.Subscript o i spos] X.env).map (·.2)=[assign (.Subscript o i spos) X.env]:=by rfl):PZ X cl (.Assign [.Subscript o i spos] e pos) (vM fo fi fe):=⟨(zy he.1 hg hs hw h1).imp fun D σ H ⟨ρ,S,δ,ou,S',E,hf,q⟩=>by
 obtain⟨v,S1,h1,h2⟩:=R3.ak hf
 obtain⟨vo,S2,h3,h4⟩:=R3.ak h2
 obtain⟨vi,S3,h5,h6⟩:=R3.ak h4
 split at h6
 ·rename_i d k n
  split at h6
  ·rename_i ds hds
   split at h6
   ·rename_i m hm
    cases h6
    refine⟨ρ,S,δ, .d d,S1,E,h1,fun u ρ1 H1 p1 w1 r1=>⟨ρ1,S1,δ, .loc k,S2,E.to p1 w1,h3,fun u2 ρ2 H2 p2 w2 r2=>⟨ρ2,S2,δ, .d (.int n),S3,(E.to p1 w1).to p2 w2,h5,fun u3 ρ3 H3 p3 w3 r3=>?_⟩⟩⟩
    unfold bo at r2
    obtain⟨a,a1,rfl⟩:=r2
    have a3:=p3.ext k a a1
    obtain⟨xs,x1,x2⟩:=w3.ob k a _ a3 (fI hds)
    unfold bo Rep at r3
    have r1':=r1.pre (p2.trans p3)
    unfold bo at r1'
    obtain⟨w4,p4⟩:=w3.put (o:= .lst (ds.set m d)) (u:= .lst (xs.set m u)) a3 (w3.fz k a a3 (by rw[fI hds];intro h;cases h)) ⟨xs.set m u,rfl,aF.setAt x2 r1'⟩
    exact⟨a,xs,n,m,rfl,r3,x1,by rw[←x2.length];exact hm,q σ ρ3 _ (((p1.trans p2).trans p3).trans p4) (E.to (((p1.trans p2).trans p3).trans p4) w4)⟩
   ·cases h6
  ·cases h6
 ·cases h6⟩
noncomputable def kX(δ:DE)(i:Nat):Option V3:=match δ[i]? with | some (some v)=>some v | _=>none
noncomputable def gE(own:List Str)(kp:List Nat)(δ:DE):DE:=List.replicate own.length none++kp.map (kX δ)
theorem Dr{K:PySem.W.Frag}{ρ ρ':P3}{H H':Hp}{S S':aU}{σ:L2.St}{δ:DE}{own:List Str}{kp:List Nat}(E:fq K cl ρ H S σ δ)(p:PW ρ H ρ' H')(w:SW K cl ρ' H' S'):fq K cl ρ' H' S' (dF own kp σ) (gE own kp δ) where
 len:=by unfold dF gE;simp
 sw:=w
 val:=fun i d e=>by
  unfold gE at e
  unfold dF
  by_cases hi:i < own.length
  ·rw[List.getElem?_append_left (by simpa using hi),List.getElem?_replicate] at e
   split at e <;> cases e
  ·rw[List.getElem?_append_right (by simpa using hi),List.length_replicate,List.getElem?_map] at e ⊢
   cases q:kp[i - own.length]? with
   | none=>rw [q] at e;cases e
   | some j=>
     rw[q] at e
     have e:kX δ j=some d:=Option.some.inj e
     unfold kX at e
     split at e
     ·rename_i d' ed
      cases e
      obtain⟨v,h1,h2⟩:=E.val j d ed
      exact⟨v,by simp [h1],h2.pw p⟩
     ·cases e
noncomputable def lE(t:FG)(c:FB)(f:FX)(δ:DE):List V3→aU→R3 (List V3)
 | [],S=> .ok [] S
 | v ::vs,S=>match t v δ with
   | none=> .no
   | some δ1=>(c δ1 S).bind fun b S1=>if b then(f δ1 S1).bind fun y S2=>(lE t c f δ vs S2).bind fun ys S3=> .ok (y ::ys) S3 else lE t c f δ vs S1
noncomputable def kl(it:FA)(t:FG)(c:FB)(f:FX)(own:List Str)(kp:List Nat):FX:=fun δ S=>(it δ S).bind fun vs S1=>R3.bZ (decide (vs.length≤sizeLine)) ((lE t c f (gE own kp δ) vs S1).bind fun ys S2=> .ok (iZ ys) S2)
theorem aG.append{K:PySem.W.Frag}{ρ:P3}{H:Hp}:∀{ds es:List V3} {xs ys:List V},aG K ρ H ds xs→aG K ρ H es ys→aG K ρ H (ds++es) (xs++ys)
 | [],_,_,_,h,t=>by unfold aG at h;subst h;exact t
 | d ::ds,es,xs,ys,h,t=>by
   obtain⟨x,r,rfl,h1,h2⟩:=h.cn
   exact aG.cons h1 (aG.append h2 t)
theorem yf{K:PySem.W.Frag}{it:FA}{t:FG}{c:FB}{f:FX}{own:List Str}{kp:List Nat}{σ:L2.St}{H:Hp}{Q:VK}(h:tX K cl (kl it t c f own kp) σ H Q) :
 w9 (Kj K cl it) (gX K cl t) (Gi K cl c) (tX K cl f) own kp σ H Q:=by
 obtain⟨ρ,S,δ,v,SF,E,hf,q⟩:=h
 obtain⟨es,S1,h1,h2⟩:=R3.ak hf
 obtain⟨hl,h3⟩:=R3.bp h2
 have hl:=of_decide_eq_true hl
 obtain⟨vs,S2,h4,h5⟩:=R3.ak h3
 cases h5
 refine⟨ρ,S,δ,es,S1,E,h1,fun J ρ1 H1 p1 w1 ir Dd hD=>?_⟩
 have nDz:Dd ∉ ρ1.b:=fun hb=>by obtain⟨o,ho⟩:=w1.bs Dd hb;rw [hD] at ho;cases ho
 have nDr:Dd ∉ ρ1.r:=fun hb=>by obtain⟨o,ho⟩:=w1.rs Dd hb;rw [hD] at ho;cases ho
 have toZ:∀{r' f':List Addr} {H':Hp},Pre ρ1 H1 ⟨r',ρ1.z,f'⟩ H'→PW ρ1 H1 ⟨r',Dd ::ρ1.z,f'⟩ H':=fun {r' f' H'} p=>⟨fun b o e nb=>⟨(p.bq b o e nb).1,fun hb=>by
  rcases P3.dY.mp hb with z | z
  ·exact(p.bq b o e nb).2 (P3.dY.mpr (.inl z))
  ·rcases List.mem_cons.mp z with y | y
   ·exact cj e hD y
   ·exact(p.bq b o e nb).2 (P3.dY.mpr (.inr y))⟩,p.ext⟩
 have w0:SW K cl ⟨ρ1.r,Dd ::ρ1.z,ρ1.f⟩ (upd H1 Dd (.lst [])) S1:=by
  have s0:aW H1 (upd H1 Dd (.lst [])):=aY hD
  have ws:=w1.same s0
  refine⟨ws.len,ws.nd,fun k a o hk ho=>?_,fun b hb=>?_,ws.fz,ws.ff,ws.fi⟩
  ·have r:=w1.ob k a o hk ho
   obtain⟨u,hu⟩:=r.some
   rw[s0 a u hu,←hu]
   exact r.pw (toZ (Pre.same s0))
  ·rcases List.mem_cons.mp hb with y | y
   ·subst y;exact⟨⟨_,bb⟩,nDr⟩
   ·exact ws.zb b y
 refine⟨fun i m ys H'=>m=es.length - i∧i≤es.length∧ys.length≤i∧H' Dd=some (.lst ys)∧∃r' f' S' done rest,Pre ρ1 H1 ⟨r',ρ1.z,f'⟩ H'∧SW K cl ⟨r',Dd ::ρ1.z,f'⟩ H' S'∧vs=done++rest∧aG K ⟨r',Dd ::ρ1.z,f'⟩ H' done ys∧lE t c f (gE own kp δ) (es.drop i) S'= .ok rest SF,
  ⟨es.length,rfl,Nat.zero_le _,Nat.le_refl _,bb,ρ1.r,ρ1.f,S1,[],vs,Pre.same (aY hD),w0,rfl,aG.nil,by simpa using h4⟩,?_⟩
 rintro i m ys H' ⟨rfl,hi,hy,hDl,r',f',S',done,rest,pv,w',rfl,rd,hc⟩
 obtain⟨go,stop⟩:=ir ⟨r',Dd ::ρ1.z,f'⟩ H' (toZ pv) w'.bs
 have unZ:∀{ρ4:P3} {H4:Hp},Pre ⟨r',Dd ::ρ1.z,f'⟩ H' ρ4 H4→Pre ρ1 H1 ⟨ρ4.r,ρ1.z,ρ4.f⟩ H4:=fun {ρ4 H4} p4=>⟨fun b o e nb=>by
  obtain⟨e1,n1⟩:=(toZ pv).bq b o e nb
  obtain⟨e2',n2⟩:=p4.bq b o e1 n1
  refine⟨e2',fun hb=>n2 ?_⟩
  rcases P3.dY.mp hb with z | z
  ·exact P3.dY.mpr (.inl z)
  ·exact P3.dY.mpr (.inr (by rw[p4.zz];exact List.mem_cons_of_mem _ z)),rfl,fun b o hb h=>p4.zs b o (List.mem_cons_of_mem _ hb) (pv.zs b o hb h),fun k a h=>p4.ext k a (pv.ext k a h)⟩
 by_cases hlt:i < es.length
 ·have hd:es[i]? =some es[i]:=List.getElem?_eq_getElem hlt
  have hdrop:es.drop i=es[i] ::es.drop (i+1):=List.drop_eq_getElem_cons hlt
  rw[hdrop] at hc
  unfold lE at hc
  split at hc
  ·cases hc
  ·rename_i δ1 h6
   obtain⟨b,T1,h7,h8⟩:=R3.ak hc
   obtain⟨g1,g2⟩:=go i _ hd
   refine .inr ⟨g1,fun x H2 y=>?_⟩
   obtain⟨sy,ry⟩:=g2 x H2 y
   have Ec:fq K cl ⟨r',Dd ::ρ1.z,f'⟩ H2 S' (dF own kp σ) (gE own kp δ):=Dr E (p1.pw.trans ((toZ pv).trans (Pre.same sy).pw)) (w'.same sy)
   refine⟨⟨r',Dd ::ρ1.z,f'⟩,S',gE own kp δ,es[i],δ1,Ec,ry,h6,fun σ3 H3 s3 E3=>⟨⟨r',Dd ::ρ1.z,f'⟩,S',δ1,b,T1,E3,h7,fun ρ4 H4 p4 w4=>?_⟩⟩
   have pv4:Pre ⟨r',Dd ::ρ1.z,f'⟩ H' ρ4 H4:=(Pre.same (sy.trans s3)).trans p4
   cases b with
   | true=>
     rw[if_pos rfl] at h8
     refine BW ?_
     obtain⟨yv,T2,h9,h10⟩:=R3.ak h8
     obtain⟨rs,T3,h11,h12⟩:=R3.ak h10
     cases h12
     refine⟨ρ4,T1,δ1,yv,T2,E3.to p4 w4,h9,fun v5 ρ5 H5 p5 w5 r5=>?_⟩
     have pv5:Pre ⟨r',Dd ::ρ1.z,f'⟩ H' ρ5 H5:=pv4.trans p5
     have hD5:H5 Dd=some (.lst ys):=pv5.zs Dd _ List.mem_cons_self hDl
     have u5:=unZ pv5
     obtain⟨r5',z5,f5⟩:=ρ5
     have ez:z5=Dd ::ρ1.z:=pv5.zz
     subst ez
     have nr:Dd ∉ r5':=(w5.zb Dd List.mem_cons_self).2
     have pw:PW ⟨r5',Dd ::ρ1.z,f5⟩ H5 ⟨r5',Dd ::ρ1.z,f5⟩ (upd H5 Dd (.lst (ys++[v5]))):=⟨fun b o e nb=>⟨by rw[bg (fun(z:b=Dd)=>nb (by rw[z];exact P3.dY.mpr (.inr List.mem_cons_self)))];exact e,nb⟩,fun _ _ h=>h⟩
     refine⟨hD5,by omega,es.length - (i+1),by omega,rfl,hlt,by rw[List.length_append,List.length_singleton];omega,bb,r5',f5,T2,done++[yv],rs,?_,?_,by simp,aG.append ((rd.pre pv5).pw pw) (aG.cons (r5.pw pw) aG.nil),h11⟩
     ·refine⟨fun b o e nb=>⟨by rw[bg (cj e hD)];exact(u5.bq b o e nb).1,(u5.bq b o e nb).2⟩,rfl,fun b o hb h=>?_,u5.ext⟩
      rw[bg (cj h hD)]
      exact u5.zs b o hb h
     ·refine⟨w5.len,w5.nd,fun k a o hk ho=>?_,fun b hb=>?_,w5.fz,fun b hb=>?_,w5.fi⟩
      ·have ne:a≠Dd:=fun z=>nr (by rw[←z];exact List.mem_of_getElem? hk)
       rw[bg ne]
       exact(w5.ob k a o hk ho).pw pw
      ·obtain⟨⟨o,ho⟩,n⟩:=w5.zb b hb
       refine⟨?_,n⟩
       by_cases z:b=Dd
       ·subst z;exact⟨_,bb⟩
       ·rw[bg z];exact⟨o,ho⟩
      ·obtain⟨o,ho⟩:=w5.ff b hb
       by_cases z:b=Dd
       ·subst z;exact⟨_,bb⟩
       ·rw[bg z];exact⟨o,ho⟩
   | false=>
     rw[if_neg (by decide)] at h8
     refine AR ?_
     have hD4:H4 Dd=some (.lst ys):=pv4.zs Dd _ List.mem_cons_self hDl
     have u4:=unZ pv4
     obtain⟨r4',z4,f4⟩:=ρ4
     have ez:z4=Dd ::ρ1.z:=pv4.zz
     subst ez
     exact⟨es.length - (i+1),by omega,rfl,hlt,by omega,hD4,r4',f4,T1,done,rest,u4,w4,rfl,rd.pre pv4,h8⟩
 ·have e:i=es.length:=by omega
  subst e
  rw[List.drop_length] at hc
  cases hc
  rw[List.append_nil] at q
  refine .inl ⟨stop,?_⟩
  have back:PW ⟨r',Dd ::ρ1.z,f'⟩ H' ⟨r',ρ1.z,f'⟩ H':=⟨fun b o e nb=>⟨e,fun hb=>nb (by
   rcases P3.dY.mp hb with z | z
   ·exact P3.dY.mpr (.inl z)
   ·exact P3.dY.mpr (.inr (List.mem_cons_of_mem _ z)))⟩,fun _ _ h=>h⟩
  have wB:SW K cl ⟨r',ρ1.z,f'⟩ H' _:=⟨w'.len,w'.nd,fun k a o hk ho=>(w'.ob k a o hk ho).pw back,fun b hb=>w'.zb b (List.mem_cons_of_mem _ hb),w'.fz,w'.ff,w'.fi⟩
  refine q _ ⟨r',ρ1.z,f'⟩ H' (p1.trans pv) wB (rC (.inl ⟨fun hb=>?_, .inl hDl⟩) (rd.pw back))
  rcases P3.dY.mp hb with z | z
  ·exact(w'.zb Dd List.mem_cons_self).2 z.1
  ·exact nDz (P3.dY.mpr (.inr z))
end
end L3
end
section
set_option maxRecDepth 100000
set_option maxHeartbeats 4000000
namespace L3
open PySem PySem.Spec PyProof.Rows L2
section
variable {X:Cx} {cl:Nat→Addr}
theorem pI{scope:Scope}{own:List Str}{kp:List Nat}{kn:List Str}{tg iter elt:Expr}{ifs:List Expr}{it:FA}{t:FG}{c:FB}{f:FX}{pos:Pos}(hc:X.calm=true)(C:cv X scope own kp kn)(hi:EH X cl tg iter it)
 (hg:∀fp s H,GK (bA X scope (own++kn) fp s H) cl tg t) (hif:∀fp s H,nB (bA X scope (own++kn) fp s H) ifs (Gi X.K cl c)) (he:∀fp s H,PX (bA X scope (own++kn) fp s H) cl elt f)
 (hs:∀x,foldedSetIterable iter X.env x=pure x:=by intro _;rfl):PX X cl (.ListComp elt [⟨tg,iter,ifs,0⟩] scope pos) (kl it t c f own kp):=
 ⟨(yh hc C hi.1 (fun fp s H=>(hg fp s H).1) hif (fun fp s H=>(he fp s H).1) hs).imp fun σ H Q h=>yf h⟩
noncomputable def DF:FB:=fun _ S=> .ok true S
theorem si:nB X [] (Gi X.K cl DF):=fun pins s σ H Q I ⟨ρ,S,δ,b,S',E,hf,q⟩=>uc pins s σ H Q I (by cases hf;exact q ρ H (Pre.refl ρ H) E.sw)
theorem nC{e:Expr}{c:FB}(h:CK X cl e c):nB X [e] (Gi X.K cl c):=uK h.1
theorem FW{K:PySem.W.Frag}{i:Nat}{f:FX}{D:Ends}{σ:L2.St}{H:Hp}(h:sX K cl (cA i f) D σ H):yy (tX K cl f) (pN i) D σ H:=by
 obtain⟨ρ,S,δ,o,S',E,hf,q⟩:=h
 obtain⟨v,S1,h1,h2⟩:=R3.ak hf
 obtain⟨hi,h3⟩:=R3.bp h2
 cases h3
 refine⟨ρ,S,δ,v,_,E,h1,fun u ρ1 H1 p1 w1 r1=>?_⟩
 exact q _ ρ1 H1 p1 ((E.to p1 w1).set (by rw[←E.len];exact of_decide_eq_true hi) r1)
theorem qG{i:Nat}{x:Str}{pos' spos:Pos}{scope:Scope}{own:List Str}{kp:List Nat}{kn:List Str}{tg iter elt:Expr}{ifs:List Expr}{it:FA}{t:FG}{c:FB}{f:FX}{pos:Pos}(hc:X.calm=true)
 (hN:X.N.Nodup) (hx:X.N[i]? =some x) (hxl:X.env.scope.names.lookup x=some .local) (C:cv X scope own kp kn) (hi:EH X cl tg iter it)
 (hg:∀fp s H,GK (bA X scope (own++kn) fp s H) cl tg t) (hif:∀fp s H,nB (bA X scope (own++kn) fp s H) ifs (Gi X.K cl c)) (he:∀fp s H,PX (bA X scope (own++kn) fp s H) cl elt f)
 (hsw:swapsWith (.ListComp elt [⟨tg,iter,ifs,0⟩] scope pos) (some (.Name x pos')) spos.line X.env=pure true:=by rfl)
 (hs:∀x,foldedSetIterable iter X.env x=pure x:=by intro _;rfl):PZ X cl (.Assign [.Name x pos'] (.ListComp elt [⟨tg,iter,ifs,0⟩] scope pos) spos) (cA i (kl it t c f own kp)):=
 ⟨(qE hc hN hx hxl C hi.1 (fun fp s H=>(hg fp s H).1) hif (fun fp s H=>(he fp s H).1) hsw hs).imp fun D σ H h=>yf (FW h)⟩
noncomputable def LG(g:FA):FX:=fun δ S=>(g δ S).bind fun vs S1=>match j0 vs with
 | some ds=>R3.bZ (decide (ds.length≤sizeLine)) (.ok (.loc S1.length) (S1++[.lst ds]))
 | none=> .no
end
end L3
end
section
set_option maxRecDepth 100000
set_option maxHeartbeats 4000000
namespace L3
open PySem PySem.Spec PyProof.Rows L2
section
variable {X:Cx} {cl:Nat→Addr}
noncomputable def kI(g:List D→R D)(fs:FA):FX:=fun δ S=>(fs δ S).bind fun vs S1=>match j0 vs with
 | some ds=>(R3.of (g ds) S1).bind fun d S=> .ok (.d d) S
 | none=> .no
theorem AB{K:PySem.W.Frag}{g:List D→R D}{fs:FA}{σ:L2.St}{H:Hp}{Q:VK}(h:tX K cl (kI g fs) σ H Q) :
 Ke K cl fs σ H fun vs H1=>∃B ds d,(∀a∈B,∃o,H1 a=some o)∧aF K B H1 ds vs∧g ds= .ok d∧∀z H',aW H1 H'→Rep K B H' d z→Q z H':=by
 obtain⟨ρ,S,δ,v,S',E,hf,q⟩:=h
 obtain⟨vs,S1,h1,h2⟩:=R3.ak hf
 split at h2
 ·rename_i ds e
  obtain⟨d,S2,h3,h4⟩:=R3.ak h2
  obtain⟨h5,e5⟩:=R3.of_ok h3
  cases h4
  subst e5
  refine⟨ρ,S,δ,vs,_,E,h1,fun us ρ1 H1 p1 w1 r1=>?_⟩
  rw[iA e] at r1
  exact⟨ρ1.b,ds,d,w1.bs,r1.to,h5,fun z H' s r=>q z ρ1 H' (p1.trans (Pre.same s)) (w1.same s) (by unfold bo;exact r)⟩
 ·cases h2
theorem uV{g:List D→R D}{x:Str}{id:String}{p pos:Pos}{e:Expr}{es:List Expr}{fs:FA}(hc:cP X (.builtin id) g)(hg:Gl X x)(hm:X.mg x=none)(hv:bootBuiltins x=some (.builtin id))(ha:BY X cl (e ::es) fs)(hn:x≠"__name__":=by decide)(hdb:(x==("__debug__":Str))=false:=by decide)
 (he:starEach (e ::es) X.env=(false,eval e X.env) ::starEach es X.env:=by rfl) (hpl:(backTo pos (starEach es X.env)).any (·.1)=false:=by rfl):PX X cl (.Call (.Name x p) (e ::es) [] pos) (kI g fs):=
 ⟨(qJ hc.r hg hm hv ha.1 hn hdb he hpl).imp fun σ H Q h=>AB h⟩
noncomputable def Lx(c:FB)(f g:FX):FX:=fun δ S=>(c δ S).bind fun b S=>if b then f δ S else g δ S
theorem aP:∀(δ:DE) (S:aU) (ds:List V3) (S':aU),ck δ S= .ok ds S'→ds.length=0:=fun δ S ds S' h=>by cases h;rfl
theorem aj{f:FX}{g:FA}{n:Nat}(h:∀(δ:DE) (S:aU) (ds:List V3) (S':aU),g δ S= .ok ds S'→ds.length=n):∀(δ:DE) (S:aU) (ds:List V3) (S':aU),ax f g δ S= .ok ds S'→ds.length=n+1:=fun δ S ds S' e=>by
 obtain⟨v,S1,h1,h2⟩:=R3.ak e
 obtain⟨vs,S2,h3,h4⟩:=R3.ak h2
 cases h4
 rw[List.length_cons,h δ S1 vs _ h3]
end
end L3
end
section
set_option maxRecDepth 100000
set_option maxHeartbeats 4000000
namespace L3
open PySem PySem.Spec PyProof.Rows L2
theorem r9{K:PySem.W.Frag}{ρ:P3}{H:Hp}{ds:List V3}{xs:List V}{i:Int}{d:V3}(r:aG K ρ H ds xs)(h:oU ds i=some d):∃x,oU xs i=some x∧bo K ρ H d x:=by
 unfold oU at h ⊢
 rw[←r.length]
 cases e:qt ds.length i with
 | none=>rw [e] at h;cases h
 | some j=>
   rw[e] at h
   exact r.get h
section
variable {X:Cx} {cl:Nat→Addr}
noncomputable def DN(fa fb:FX):FX:=fun δ S=>(fa δ S).bind fun a S1=>(fb δ S1).bind fun b S2=>match a,b with
 | .d x, .d y=>(R3.of (bX x y) S2).bind fun d S=> .ok (.d d) S
 | .lst vs, .d (.int i)=>(match oU vs i with | some v=> .ok v S2 | none=> .no)
 | .tup vs, .d (.int i)=>(match oU vs i with | some v=> .ok v S2 | none=> .no)
 | _,_=> .no
theorem rH{a b:Expr}{fa fb:FX}{pos:Pos}(ha:PX X cl a fa)(hb:PX X cl b fb)(hs:pk b):PX X cl (.Subscript a b pos) (DN fa fb):=by
 refine⟨(Eg (r:=Jl X.K) A2 ha.1 hb.1 hs).imp fun σ H Q ⟨ρ,S,δ,v,S',E,hf,q⟩=>?_⟩
 obtain⟨v1,S1,h1,h2⟩:=R3.ak hf
 obtain⟨v2,S2,h3,h4⟩:=R3.ak h2
 refine⟨ρ,S,δ,v1,S1,E,h1,fun u1 ρ1 H1 p1 w1 r1=>⟨ρ1,S1,δ,v2,S2,E.to p1 w1,h3,fun u2 ρ2 H2 p2 w2 r2=>?_⟩⟩
 have r1':=r1.pre p2
 have p12:=p1.trans p2
 split at h4
 ·rename_i x y
  obtain⟨d,S3,h5,h6⟩:=R3.ak h4
  obtain⟨h7,e7⟩:=R3.of_ok h5
  cases h6
  subst e7
  unfold bo at r1' r2
  unfold bX at h7
  split at h7
  ·split at h7
   ·rename_i e
    cases h7
    obtain⟨p,xs,rfl,l,rs⟩:=Rep.lst.mp r1'
    obtain⟨y,e1,e2⟩:=m5 rs e
    exact .inl ⟨p,xs,_,y,rfl,Rep.int.mp r2,l.sq,e1,q y ρ2 H2 p12 w2 (by unfold bo;exact e2)⟩
   ·cases h7
  ·split at h7
   ·rename_i e
    cases h7
    obtain⟨p,xs,rfl,l,rs⟩:=Rep.tup.mp r1'
    obtain⟨y,e1,e2⟩:=m5 rs e
    exact .inr (.inl ⟨p,xs,_,y,rfl,Rep.int.mp r2,l.sq,e1,q y ρ2 H2 p12 w2 (by unfold bo;exact e2)⟩)
   ·cases h7
  ·obtain⟨hl,h8⟩:=R.bp h7
   split at h8
   ·rename_i e
    cases h8
    exact .inr (.inr ⟨_,_,_,Rep.str.mp r1',Rep.int.mp r2,of_decide_eq_true hl,e,q _ ρ2 H2 p12 w2 (by unfold bo;exact Rep.str.mpr rfl)⟩)
   ·cases h8
  ·cases h7
 ·split at h4
  ·rename_i e
   cases h4
   unfold bo at r1' r2
   obtain⟨p,xs,rfl,l,rs⟩:=r1'
   obtain⟨y,e1,e2⟩:=r9 rs e
   exact .inl ⟨p,xs,_,y,rfl,Rep.int.mp r2,l.sq,e1,q y ρ2 H2 p12 w2 e2⟩
  ·cases h4
 ·split at h4
  ·rename_i e
   cases h4
   unfold bo at r1' r2
   obtain⟨p,xs,rfl,l,rs⟩:=r1'
   obtain⟨y,e1,e2⟩:=r9 rs e
   exact .inr (.inl ⟨p,xs,_,y,rfl,Rep.int.mp r2,l.sq,e1,q y ρ2 H2 p12 w2 e2⟩)
  ·cases h4
 ·cases h4
end
end L3
end
section
set_option maxRecDepth 100000
set_option maxHeartbeats 4000000
namespace L3
open PySem PySem.Spec PyProof.Rows L2
section
variable {X:Cx} {cl:Nat→Addr}
structure GH (X:Cx) (cl:Nat→Addr) (e:Expr) (f:FB):Prop where
 go:L2.PW X e (Gi X.K cl f)
theorem GH.pb{e:Expr}{f:FB}(h:GH X cl e f):CK X cl e f:=⟨L2.PW.pt h.1⟩
noncomputable def Ez(f g:FB):FB:=fun δ S=>(f δ S).bind fun b S=>if b then g δ S else .ok false S
noncomputable def LJ(f g:FB):FB:=fun δ S=>(f δ S).bind fun b S=>if b then .ok true S else g δ S
noncomputable def KW(f:FB):FB:=fun δ S=>(f δ S).bind fun b S=> .ok (!b) S
theorem AO{a:Expr}{f:FB}{pos:Pos}(h:CK X cl a f):GH X cl (.BoolOp .And [a] pos) f:=⟨xK h.1⟩
theorem CH{a b:Expr}{rest:List Expr}{f g:FB}{pos:Pos}(ha:CK X cl a f)(hb:GH X cl (.BoolOp .And (b ::rest) pos) g):GH X cl (.BoolOp .And (a ::b ::rest) pos) (Ez f g):=⟨by
 intro wh pins s σ H Q I ⟨ρ,S,δ,k,S',E,hf,q⟩
 refine Bi ha.1 hb.1 wh pins s σ H Q I ?_
 obtain⟨c,S1,h1,h2⟩:=R3.ak hf
 refine⟨ρ,S,δ,c,S1,E,h1,fun ρ1 H1 p1 w1=>?_⟩
 cases c with
 | true=>rw [if_pos rfl] at h2 ⊢;exact⟨ρ1,S1,δ,k,S',E.to p1 w1,h2,fun ρ2 H' p2 w2=>q ρ2 H' (p1.trans p2) w2⟩
 | false=>rw [if_neg (by decide)] at h2 ⊢;cases h2;exact q ρ1 H1 p1 w1⟩
noncomputable def Ls(f:FX):FB:=fun δ S=>(f δ S).bind fun v S=>match v with | .d d=>R3.of (ql d) S | _=> .no
noncomputable abbrev Hg:=DE→aU→R3 (Option Int)
noncomputable def Kr(K:PySem.W.Frag)(cl:Nat→Addr)(f:Hg):TO:=fun σ H Q=>∃ρ S δ o S',fq K cl ρ H S σ δ∧f δ S= .ok o S'∧∀ρ' H',Pre ρ H ρ' H'→SW K cl ρ' H' S'→Q o H'
structure LC (X:Cx) (cl:Nat→Addr) (e:Option Expr) (f:Hg):Prop where
 go:PO X e (Kr X.K cl f)
noncomputable def JG:Hg:=fun _ S=> .ok none S
noncomputable def ID(f:FX):Hg:=fun δ S=>(f δ S).bind fun v S=>match v with | .d (.int i)=> .ok (some i) S | _=> .no
noncomputable def LA(f:FX)(fl fh:Hg):FX:=fun δ S=>(f δ S).bind fun v S1=>(fl δ S1).bind fun lo S2=>(fh δ S2).bind fun hi S3=>match v with
 | .d d=>(R3.of (GJ d lo hi) S3).bind fun r S=> .ok (.d r) S
 | _=> .no
end
end L3
end
section
set_option maxRecDepth 100000
set_option maxHeartbeats 4000000
namespace L2
open PySem PySem.Spec PyProof.Rows
section
variable {X:Cx}
noncomputable def lX(t T:String):Bool:=t==T || (t=="bool" && T=="int")
theorem nS{K:PySem.W.Frag}(t T:String)(ht:t∈["NoneType","bool","int","str","list","tuple"])(hT:T∈["bool","int","str","list","tuple"]):PySem.W.kitOne K (.type t) (.type T)=some (lX t T):=by
 simp only[List.mem_cons,List.not_mem_nil,or_false] at ht hT
 rcases ht with rfl | rfl | rfl | rfl | rfl | rfl <;> rcases hT with rfl | rfl | rfl | rfl | rfl <;> rfl
noncomputable def j3(T:String)(f:FD):FD:=fun δ=>(f δ).bind fun d=>match d with | .dct _ _=> .no | _=> .ok (.bl (lX (tyName d) T))
theorem gW{T:Str}{Ts:String}{p p2 pos:Pos}{e:Expr}{f:FD}(he:QD X e f)(hT:Ts∈["bool","int","str","list","tuple"])(hg:Gl X "isinstance")(hm:X.mg "isinstance"=none)(hgT:Gl X T)(hmT:X.mg T=none)(hvT:bootBuiltins T=some (.type Ts))(hnT:T≠"__name__":=by decide)(hdT:(T==("__debug__":Str))=false:=by decide)
 (hs:starEach [e, .Name T p2] X.env=(false,eval e X.env) ::starEach [.Name T p2] X.env:=by rfl) (hpl:(backTo pos (starEach [.Name T p2] X.env)).any (·.1)=false:=by rfl):QD X (.Call (.Name "isinstance" p) [e, .Name T p2] [] pos) (j3 Ts f):=by
 have hc:jJ X (.builtin "isinstance") (fun xs H Q=>∃B d x,Rep X.K B H d x∧(∀a b,d≠ .dct a b)∧xs=[x, .ty Ts]∧Q (.bl (lX (tyName d) Ts)) H):=by
  intro pins s σ H xs us Q I r h
  obtain⟨B,d,x,rd,ha,rfl,q⟩:=h
  obtain⟨u,w',rfl,ru,rw'⟩:=vals2 r
  cases rw'
  have fin:∀tk,EP X pins σ Q (.bool (lX (tyName d) Ts)) {s with toks:=tk}:=fun tk=>⟨.bl _,H,I.tok _,rfl,q⟩
  cases d with
  | cq=>exact k_ I ru (by rw[Rep.cq.mp rd];exact .cq) (nS "NoneType" Ts (by decide) hT) fin
  | bl b=>exact k_ I ru (by rw[Rep.bl.mp rd];exact .bl b) (nS "bool" Ts (by decide) hT) fin
  | int i=>exact k_ I ru (by rw[Rep.int.mp rd];exact .int i) (nS "int" Ts (by decide) hT) fin
  | str z=>exact k_ I ru (by rw[Rep.str.mp rd];exact .str z) (nS "str" Ts (by decide) hT) fin
  | lst es=>
    obtain⟨a,ys,rfl,l,_⟩:=Rep.lst.mp rd
    cases(show u=Value.ref a from ru)
    obtain⟨its2,n2,r2,h1,z2⟩:=I.FF l
    exact PySem.W.kia_one PySem.W.kitx_list I.n_ ⟨_,h1,rfl⟩ (nS "list" Ts (by decide) hT) (fun z=>nomatch z) fin
  | tup es=>
    obtain⟨a,ys,rfl,l,_⟩:=Rep.tup.mp rd
    cases(show u=Value.ref a from ru)
    obtain⟨its,rv,p,hz⟩:=I.tuple l.sq
    obtain⟨o,h1,h2,_⟩:=p
    exact PySem.W.kia_one PySem.W.kitx_tuple I.n_ ⟨o,h1,h2⟩ (nS "tuple" Ts (by decide) hT) (fun z=>nomatch z) fin
  | dct a b=>exact absurd rfl (ha a b)
 refine⟨(qJ hc hg hm boot_isinstance (f_ he.1 (f_ (CV (v:= .ty Ts) hgT hmT hvT rfl hnT hdT) jy) hs) (by decide) (by decide) hs hpl).imp fun σ H Q ⟨Z,B,δ,d,E,hf,q⟩=>?_⟩
 obtain⟨d1,h1,h2⟩:=R.ak hf
 have key:(∀a b,d1≠ .dct a b)∧d= .bl (lX (tyName d1) Ts):=by
  cases d1 with
  | dct a b=>cases h2
  | _=>cases h2;exact⟨fun _ _ z=>(by cases z),rfl⟩
 obtain⟨k1,rfl⟩:=key
 exact⟨Z,B,δ,d1,E,h1,fun v H1 s1 r1=>⟨B,d1,v,r1,k1,rfl,q _ H1 s1 (Rep.bl.mpr rfl)⟩⟩
noncomputable def nList(f:FD):aw→R (List D):=fun δ=>(f δ).bind fun d=>match d with | .lst ds=> .ok ds | .tup ds=> .ok ds | _=> .no
end
end L2
namespace L3
open PySem PySem.Spec PyProof.Rows L2
theorem cx{P:Program}{w:World}{K:PySem.W.Frag}{mg:Str→Option Value}{base:Heap}{cl:Nat→Addr}{x qual:Str}{st:Stmt}{f:Addr}{fd:FuncData}{N ps:List Str}{k:Nat}{F:FZ}{b:List Stmt}{sc:Scope}(hb:ao st=b)(hs:af st=sc)(Fn:xB K x qual st f fd)(S:ba N ps sc)
 (hbody:∀(cdv:Value) (A:Around) (outer:List Env) (s:Shared) (H:Hp) (E:XK),eB k (A.deeper (envOfC qual sc s.heap.objs.size f cdv))→
   zo (p6 qO P w K mg base N qual sc f cdv A outer s H E).DG cl b F):ip P w K mg base qO (k+1) f fd ps (zu K cl ps.length (lR N F)):=by
 subst hb hs
 exact Cy Fn S hbody
theorem aQ.p{P:Program}{w:World}{K:PySem.W.Frag}{mg:Str→Option Value}{base:Heap}{cl:Nat→Addr}{k:Nat}{x:Str}{n:Nat}{N:List Str}{F:FZ}(C:aQ P w K mg base cl k x n (lR N F)):aQ P w K mg base cl k x n (n6 N F):=
 let⟨f,fd,ps,F,h⟩:=C;⟨f,fd,ps,F.imp fun _ _ _ _ h=>vE h,h⟩
noncomputable def Io(N:List Str)(F:FZ):List D→R D:=fun ds=>match n6 N F (ds.map .d) [] with
 | .ok (.d d) []=>R.bZ d.atom (.ok d)
 | _=> .no
theorem Gz{K:PySem.W.Frag}{cl:Nat→Addr}{N:List Str}{F:FZ}{n:Nat}{vs:List V}{H:Hp}{Q:VK}{E:XK}(h:zr K n (Io N F) vs H Q E):zu K cl n (lR N F) vs H Q E:=by
 obtain⟨hl,B,ds,d,hb,r,hg,q⟩:=h
 unfold Io at hg
 split at hg
 ·rename_i d' e
  obtain⟨ha,h2⟩:=R.bp hg
  cases h2
  have r0:aF K (⟨[],[],[]⟩:P3).b H ds vs:=r.bq fun b o e _=>⟨e,by simp [P3.b]⟩
  refine vE ⟨hl,⟨[],[],[]⟩,[],ds.map .d, .d d,[],⟨rfl,fun i j a hi=>by simp at hi,fun k a o hk=>by simp at hk,fun b hb=>by simp at hb,fun k a hk=>by simp at hk,fun b hb=>by simp at hb,fun k a hk=>by simp at hk⟩,aG.of r0,e,fun u ρ' H' p w' r'=>q u H' (fun b o eb=>?_) ?_⟩
  ·exact(p.bq b o eb (by simp [P3.b])).1
  ·unfold bo at r'
   exact r'.atom ha
 ·cases hg
section
variable {X:Cx} {cl:Nat→Addr}
theorem vp{g:List D→R D}{k j n:Nat}{x:Str}{p pos:Pos}{e:Expr}{es:List Expr}{fs:FA}(C:Callee X.prog X.w X.K X.mg X.base k x n g)(hr:eB j X.A)(hkj:k≤j)(hg:Gl X x)(ha:BY X cl (e ::es) fs)
 (hn:∀δ S ds S',fs δ S= .ok ds S'→ds.length=n) (hdb:(x==("__debug__":Str))=false:=by decide) (he:starEach (e ::es) X.env=(false,eval e X.env) ::starEach es X.env:=by rfl) (hpl:(backTo pos (starEach es X.env)).any (·.1)=false:=by rfl) :
 PX X cl (.Call (.Name x p) (e ::es) [] pos) (kI g fs):=by
 obtain⟨f,fd,ps,F,hm,hk,hb⟩:=C
 refine⟨(sT F (hr.mono hkj) hg hm hk hb .nil vq ha.1 hdb he hpl).imp fun σ H Q ⟨ρ,S,δ,v,S',E,hf,q⟩=>?_⟩
 obtain⟨vs,S1,h1,h2⟩:=R3.ak hf
 split at h2
 ·rename_i ds e
  obtain⟨d,S2,h3,h4⟩:=R3.ak h2
  obtain⟨h5,e5⟩:=R3.of_ok h3
  cases h4
  subst e5
  refine⟨ρ,S,δ,vs,_,E,h1,fun us ρ1 H1 p1 w1 r1=>?_⟩
  have hl:=hn δ S vs _ h1
  rw[iA e] at r1
  show zr X.K n g (us++[]) H1 Q E0
  rw[List.append_nil]
  exact⟨by rw[←r1.length,←iA e];exact hl,ρ1.b,ds,d,w1.bs,r1.to,h5,fun z H' s r=>q z ρ1 H' (p1.trans (Pre.same s)) (w1.same s) (by unfold bo;exact r)⟩
 ·cases h2
noncomputable def Jr(f:FX):FA:=fun δ S=>(f δ S).bind fun v S=>match v with | .d (.tup ds)=> .ok (ds.map .d) S | .tup vs=> .ok vs S | _=> .no
end
end L3
end
section
set_option maxRecDepth 100000
set_option maxHeartbeats 4000000
namespace L3
open PySem PySem.Spec PyProof.Rows L2
noncomputable def W3{α:Type}(r:R3 α)(Q:α→aU→Prop):Prop:=∃a S,r= .ok a S∧Q a S
section
variable {α β:Type} {Q Q':α→aU→Prop} {S:aU} {δ:DE}
theorem W3.ok{a:α}(h:Q a S):W3 (.ok a S) Q:=⟨a,S,rfl,h⟩
theorem W3.bind{Q:β→aU→Prop}{r:R3 α}{f:α→aU→R3 β}(h:W3 r fun a S=>W3 (f a S) Q):W3 (r.bind f) Q:=by
 obtain⟨a,S1,e1,b,S2,h2,q⟩:=h
 exact⟨b,S2,by rw[e1];exact h2,q⟩
theorem W3.mono{r:R3 α}(h:W3 r Q)(m:∀a S,Q a S→Q' a S):W3 r Q':=let⟨a,S,e,q⟩:=h;⟨a,S,e,m a S q⟩
theorem W3.eq{r:R3 α}{a:α}{S':aU}(e:r= .ok a S')(h:Q a S'):W3 r Q:=⟨a,S',e,h⟩
theorem W3.wh{c:Bool}{r:R3 α}(hc:c=true)(h:W3 r Q):W3 (R3.bZ c r) Q:=by rw[hc];exact h
theorem W3.of{r:R α}{a:α}(e:r= .ok a)(h:Q a S):W3 (R3.of r S) Q:=by rw[e];exact⟨a,S,rfl,h⟩
end
section
variable {S:aU} {δ:DE} {QV:V3→aU→Prop} {QB:Bool→aU→Prop} {QA:List V3→aU→Prop} {QO:Ou→aU→Prop}
theorem dJ{f:FD}{d:D}(e:f (down δ)= .ok d)(h:QV (.d d) S):W3 (xP f δ S) QV:=W3.bind (W3.of e (W3.ok h))
theorem tU{f:FD}{d:D}(e:f (bR S δ)= .ok d)(ha:ku d=true)(h:QV (.d d) S):W3 (xT f δ S) QV:=W3.bind (W3.of e (W3.wh ha (W3.ok h)))
theorem zG{f:aw→R Bool}{b:Bool}(e:f (down δ)= .ok b)(h:QB b S):W3 (bP f δ S) QB:=W3.of e h
theorem Dj{f:aw→R Bool}{b:Bool}(e:f (bR S δ)= .ok b)(h:QB b S):W3 (bT f δ S) QB:=W3.of e h
theorem w_var{i:Nat}{v:V3}(e:δ[i]? =some (some v))(h:QV v S):W3 (bK i δ S) QV:=by unfold bK;rw [e];exact W3.ok h
theorem jG{f:aw→R (List D)}{ds:List D}(e:f (down δ)= .ok ds)(h:QV (.loc S.length) (S++[.lst ds])):W3 (l6 f δ S) QV:=W3.bind (W3.of e (W3.ok h))
theorem cQ(h:QA [] S):W3 (ck δ S) QA:=W3.ok h
theorem aO{f:FX}{g:FA}(h:W3 (f δ S) fun v S1=>W3 (g δ S1) fun vs S2=>QA (v ::vs) S2):W3 (ax f g δ S) QA:=W3.bind (h.mono fun _ _ h=>W3.bind (h.mono fun _ _ h=>W3.ok h))
theorem xA{g:FA}(h:W3 (g δ S) fun vs S1=>vs.length≤sizeLine∧QV (kj vs) S1):W3 (yY g δ S) QV:=W3.bind (h.mono fun _ _ h=>W3.wh (decide_eq_true h.1) (W3.ok h.2))
theorem GU{g:FA}(h:W3 (g δ S) fun vs S1=>vs.length≤sizeLine∧QV (iZ vs) S1):W3 (EL g δ S) QV:=W3.bind (h.mono fun _ _ h=>W3.wh (decide_eq_true h.1) (W3.ok h.2))
theorem B4{g:D→D→R D}{fa fb:FX}(h:W3 (fa δ S) fun a S1=>W3 (fb δ S1) fun b S2=>∃x y d,a= .d x∧b= .d y∧g x y= .ok d∧QV (.d d) S2):W3 (x2 g fa fb δ S) QV:=
 W3.bind (h.mono fun _ _ h=>W3.bind (h.mono fun _ _ ⟨_,_,_,e1,e2,e3,q⟩=>by subst e1 e2;exact W3.bind (W3.of e3 (W3.ok q))))
theorem IF{g:D→D→R D}{fa fb:FX}(h:W3 (fa δ S) fun a S1=>W3 (fb δ S1) fun b S2=>∃x y k,a= .d x∧b= .d y∧g x y= .ok (.bl k)∧QB k S2):W3 (Il g fa fb δ S) QB:=
 W3.bind (B4 (h.mono fun _ _ h=>h.mono fun _ _ ⟨x,y,k,e1,e2,e3,q⟩=>⟨x,y, .bl k,e1,e2,e3,W3.ok q⟩))
theorem zt{fa fb:FX}(h:W3 (fa δ S) fun a S1=>W3 (fb δ S1) fun b S2=>∃x y d,a= .d x∧b= .d y∧bX x y= .ok d∧QV (.d d) S2):W3 (DN fa fb δ S) QV:=
 W3.bind (h.mono fun _ _ h=>W3.bind (h.mono fun _ _ ⟨_,_,_,e1,e2,e3,q⟩=>by subst e1 e2;exact W3.bind (W3.of e3 (W3.ok q))))
theorem fk{g:List V3→aU→R3 V3}{fs:FA}(h:W3 (fs δ S) fun vs S1=>W3 (g vs S1) QV):W3 (cf g fs δ S) QV:=W3.bind h
theorem pF{g:List D→R D}{fs:FA}(h:W3 (fs δ S) fun vs S1=>∃ds d,vs=ds.map .d∧g ds= .ok d∧QV (.d d) S1):W3 (kI g fs δ S) QV:=
 W3.bind (h.mono fun _ _ ⟨ds,_,e1,e2,q⟩=>by subst e1;rw [qu];exact W3.bind (W3.of e2 (W3.ok q)))
theorem Fs{it:FA}{t:FG}{c:FB}{f:FX}{own:List Str}{kp:List Nat}(h:W3 (it δ S) fun vs S1=>vs.length≤sizeLine∧W3 (lE t c f (gE own kp δ) vs S1) fun ys S2=>QV (iZ ys) S2):W3 (kl it t c f own kp δ S) QV:=
 W3.bind (h.mono fun _ _ h=>W3.wh (decide_eq_true h.1) (W3.bind (h.2.mono fun _ _ h=>W3.ok h)))
theorem aX{F G:FZ}(h:W3 (F δ S) fun o S1=>∃δ1,o= .nx δ1∧W3 (G δ1 S1) QO):W3 (bC F G δ S) QO:=W3.bind (h.mono fun _ _ ⟨_,e,h⟩=>by subst e;exact h)
theorem EZ{F G:FZ}(h:W3 (F δ S) fun o S1=>∃v,o= .rt v∧QO (.rt v) S1):W3 (bC F G δ S) QO:=W3.bind (h.mono fun _ _ ⟨_,e,h⟩=>by subst e;exact W3.ok h)
theorem bJ{i:Nat}{f:FX}(hi:i < δ.length)(h:W3 (f δ S) fun v S1=>QO (.nx (δ.set i (some v))) S1):W3 (cA i f δ S) QO:=W3.bind (h.mono fun _ _ h=>W3.wh (decide_eq_true hi) (W3.ok h))
theorem gC{f:FX}(h:W3 (f δ S) fun v S1=>QO (.rt v) S1):W3 (js f δ S) QO:=W3.bind (h.mono fun _ _ h=>W3.ok h)
theorem wx{c:FB}{F G:FZ}(h:W3 (c δ S) fun b S1=>if b then W3 (F δ S1) QO else W3 (G δ S1) QO):W3 (AQ c F G δ S) QO:=W3.bind (h.mono fun b _ h=>by cases b <;> exact h)
theorem tR(h:QO (.nx δ) S):W3 (tf δ S) QO:=W3.ok h
theorem oX{f:aw→R (List D)}{ds:List D}(e:f (down δ)= .ok ds)(h:QA (ds.map .d) S):W3 (iP f δ S) QA:=W3.bind (W3.of e (W3.ok h))
theorem nQ{f:FX}(h:W3 (f δ S) fun v S1=>∃n:Nat,v= .d (.int n)∧n < 1000000∧QA ((bU 0 n).map .d) S1):W3 (lO f δ S) QA:=W3.bind (h.mono fun _ _ ⟨n,e,hn,q⟩=>by
 subst e
 refine W3.wh (decide_eq_true ⟨by omega,by omega⟩) (W3.ok ?_)
 rw[Int.toNat_natCast];exact q)
theorem xO{f:FX}(h:W3 (f δ S) fun v S1=>∃ds,v= .d (.lst ds)∧QA (ds.map .d) S1):W3 (De f δ S) QA:=W3.bind (h.mono fun _ _ ⟨n,e,q⟩=>by subst e;exact W3.ok q)
theorem iC{it:FA}{t:FG}{F:FZ}(h:W3 (it δ S) fun vs S1=>W3 (mF t F vs δ S1) QO):W3 (k3 it t F δ S) QO:=W3.bind h
theorem iS{i k:Nat}{f:FX}(hk:δ[i]? =some (some (.loc k)))(h0:∃ds,S[k]? =some (.lst ds))(h:W3 (f δ S) fun v S1=>∃d ds,v= .d d∧S1[k]? =some (.lst ds)∧ds.length < sizeLine∧QO (.nx δ) (S1.set k (.lst (ds++[d])))):W3 (i0 i f δ S) QO:=by
 obtain⟨es,h0⟩:=h0
 unfold i0
 have e1:gB δ i=some k:=by unfold gB;rw [hk]
 have e2:di S k=some es:=by unfold di;simp only[h0]
 rw[e1];show W3 (match di S k with | none=>_ | some _=>_) _
 rw[e2]
 refine W3.bind (h.mono fun v S1 ⟨d,ds,e,h1,hl,q⟩=>?_)
 subst e
 have e3:di S1 k=some ds:=by unfold di;simp only[h1]
 show W3 (match di S1 k with | some ds=>_ | none=>_) _
 rw[e3]
 exact W3.wh (decide_eq_true hl) (W3.ok q)
theorem BO{fo fi fe:FX}(h:W3 (fe δ S) fun v S1=>W3 (fo δ S1) fun o S2=>W3 (fi δ S2) fun j S3=>∃d k n ds m,v= .d d∧o= .loc k∧j= .d (.int n)∧S3[k]? =some (.lst ds)∧qt ds.length n=some m∧QO (.nx δ) (S3.set k (.lst (ds.set m d)))):W3 (vM fo fi fe δ S) QO:=
 W3.bind (h.mono fun _ _ h=>W3.bind (h.mono fun _ _ h=>W3.bind (h.mono fun _ S3 ⟨d,k,n,ds,m,e1,e2,e3,h1,h2,q⟩=>by
  subst e1 e2 e3
  have e3:di S3 k=some ds:=by unfold di;simp only[h1]
  show W3 (match di S3 k with | some ds=>_ | none=>_) _
  rw[e3]
  show W3 (match qt ds.length n with | some m=>_ | none=>_) _
  rw[h2]
  exact W3.ok q)))
theorem qv{t:FG}{body:FZ}:∀(vs:List V3) (n:Nat) (P:Nat→DE→aU→Prop) {δ:DE} {S:aU},P n δ S→
 (∀i v δ S,vs[i]? =some v→P (n+i) δ S→∃δ1,t v δ=some δ1∧W3 (body δ1 S) fun o S1=>∃δ2,o= .nx δ2∧P (n+i+1) δ2 S1)→W3 (mF t body vs δ S) fun o S1=>∃δ2,o= .nx δ2∧P (n+vs.length) δ2 S1
 | [],n,P,δ,S,h0,_=>W3.ok ⟨δ,rfl,h0⟩
 | v ::vs,n,P,δ,S,h0,hs=>by
   obtain⟨δ1,e1,o,S1,e2,δ2,rfl,p2⟩:=hs 0 v δ S rfl h0
   have ih:=qv vs (n+1) P p2 (fun i v' δ' S' hi hp=>by
    have:=hs (i+1) v' δ' S' (by simpa using hi) (by rw[show n+(i+1)=n+1+i by omega];exact hp)
    rw[show n+(i+1)+1=n+1+i+1 by omega] at this
    exact this)
   rw[show n+1+vs.length=n+(v ::vs).length by rw[List.length_cons];omega] at ih
   unfold mF
   rw[e1]
   refine W3.bind ⟨_,_,e2,?_⟩
   exact ih
theorem cD{t:FG}{body:FZ}{vs:List V3}(P:Nat→DE→aU→Prop){δ:DE}{S:aU}(h0:P 0 δ S)
 (hs:∀i v δ S,vs[i]? =some v→P i δ S→∃δ1,t v δ=some δ1∧W3 (body δ1 S) fun o S1=>∃δ2,o= .nx δ2∧P (i+1) δ2 S1):W3 (mF t body vs δ S) fun o S1=>∃δ2,o= .nx δ2∧P vs.length δ2 S1:=by
 have:=qv (t:=t) (body:=body) vs 0 P h0 (fun i v δ S hi hp=>by simpa using hs i v δ S hi (by simpa using hp))
 simpa using this
theorem pU{t:FG}{c:FB}{f:FX}{δ:DE}:∀(vs:List V3) (n:Nat) (P:Nat→List V3→aU→Prop) {ys:List V3} {S:aU},P n ys S→
 (∀i v ys S,vs[i]? =some v→P (n+i) ys S→∃δ1,t v δ=some δ1∧W3 (c δ1 S) fun b S1=>if b then W3 (f δ1 S1) fun y S2=>P (n+i+1) (ys++[y]) S2 else P (n+i+1) ys S1)→W3 (lE t c f δ vs S) fun zs S1=>P (n+vs.length) (ys++zs) S1
 | [],n,P,ys,S,h0,_=>W3.ok (by rw[List.append_nil];exact h0)
 | v ::vs,n,P,ys,S,h0,hs=>by
   obtain⟨δ1,e1,b,S1,e2,h2⟩:=hs 0 v ys S rfl h0
   have ih:∀{ys' S'},P (n+1) ys' S'→W3 (lE t c f δ vs S') fun zs S1=>P (n+(v ::vs).length) (ys'++zs) S1:=fun {ys' S'} p=>by
    have:=pU (t:=t) (c:=c) (f:=f) (δ:=δ) vs (n+1) P p (fun i v' ys' S' hi hp=>by
     have:=hs (i+1) v' ys' S' (by simpa using hi) (by rw[show n+(i+1)=n+1+i by omega];exact hp)
     rw[show n+(i+1)+1=n+1+i+1 by omega] at this
     exact this)
    rw[show n+1+vs.length=n+(v ::vs).length by rw[List.length_cons];omega] at this
    exact this
   unfold lE
   rw[e1]
   refine W3.bind ⟨b,S1,e2,?_⟩
   cases b with
   | true=>
     rw[if_pos rfl] at h2 ⊢
     exact W3.bind (h2.mono fun y S2 p=>W3.bind ((ih p).mono fun zs S3 q=>W3.ok (by rw[List.append_assoc] at q;exact q)))
   | false=>rw [if_neg (by decide)] at h2 ⊢;exact ih h2
theorem za{t:FG}{c:FB}{f:FX}{δ:DE}{vs:List V3}(P:Nat→List V3→aU→Prop){S:aU}(h0:P 0 [] S)
 (hs:∀i v ys S,vs[i]? =some v→P i ys S→∃δ1,t v δ=some δ1∧W3 (c δ1 S) fun b S1=>if b then W3 (f δ1 S1) fun y S2=>P (i+1) (ys++[y]) S2 else P (i+1) ys S1):W3 (lE t c f δ vs S) fun zs S1=>P vs.length zs S1:=by
 have:=pU (t:=t) (c:=c) (f:=f) (δ:=δ) vs 0 P h0 (fun i v ys S hi hp=>by simpa using hs i v ys S hi (by simpa using hp))
 simpa using this
theorem Ej{QB:Bool→aU→Prop}(h:QB true S):W3 (DF δ S) QB:=W3.ok h
theorem u6{N:List Str}{F:FZ}{vs:List V3}{δ:DE}(e:bS N vs=δ)(h:W3 (F δ S) fun o S1=>∃v,o= .rt v∧QV v S1):W3 (lR N F vs S) QV:=by
 subst e
 exact W3.bind (h.mono fun _ _ ⟨_,e,q⟩=>by subst e;exact W3.ok q)
noncomputable def JV(S:aU):Prop:=∀o∈S,∃ds,o=SO.lst ds
end
end L3
namespace L3
open PySem PySem.Spec PyProof.Rows L2
section
variable {S:aU} {δ:DE} {QV:V3→aU→Prop}
theorem mO{it:FA}{t:FG}{c:FB}{f:FX}{own:List Str}{kp:List Nat}(P:Nat→List D→aU→Prop)(h:W3 (it δ S) fun vs S1=>vs.length≤sizeLine∧P 0 [] S1∧
 (∀i v ds S2,vs[i]? =some v→P i ds S2→∃δ1,t v (gE own kp δ)=some δ1∧W3 (c δ1 S2) fun b S3=>if b then W3 (f δ1 S3) fun y S4=>∃d,y= .d d∧P (i+1) (ds++[d]) S4 else P (i+1) ds S3)∧
 ∀ds S2,P vs.length ds S2→QV (.d (.lst ds)) S2):W3 (kl it t c f own kp δ S) QV:=by
 refine Fs (h.mono fun vs S1 ⟨hl,h0,hs,hq⟩=>⟨hl,?_⟩)
 refine(za (fun i ys S=>∃ds,ys=ds.map V3.d∧P i ds S) ⟨[],rfl,h0⟩ ?_).mono fun zs S2 ⟨ds,e,p⟩=>?_
 ·rintro i v ys S2 hv ⟨ds,rfl,p⟩
  obtain⟨δ1,e1,h1⟩:=hs i v ds S2 hv p
  refine⟨δ1,e1,h1.mono fun b S3 h3=>?_⟩
  cases b with
  | true=>
    rw[if_pos rfl] at h3 ⊢
    exact h3.mono fun y S4 ⟨d,e,p⟩=>by subst e;exact⟨ds++[d],by simp,p⟩
  | false=>rw [if_neg (by decide)] at h3 ⊢;exact⟨ds,rfl,h3⟩
 ·subst e
  unfold iZ
  rw[qu]
  exact hq ds S2 p
structure ka (n:Nat) (d:D):Prop where
 pl:fK d=true
 ly:(toPy d).canLay0=true
 dp:(toPy d).depth≤n
theorem ka.int(i:Int):ka 0 (.int i):=⟨by unfold fK;rfl,by unfold toPy PyData.canLay0;rfl,by unfold toPy PyData.depth;omega⟩
theorem ka.bl(b:Bool):ka 0 (.bl b):=⟨by unfold fK;rfl,by unfold toPy PyData.canLay0;rfl,by unfold toPy PyData.depth;omega⟩
theorem ka.str{s:Str}(h:(PyData.str s).canLay0=true):ka 0 (.str s):=⟨by unfold fK;rfl,by unfold toPy;exact h,by unfold toPy PyData.depth;omega⟩
theorem ka.mono{n m:Nat}{d:D}(h:ka n d)(hm:n≤m):ka m d:=⟨h.pl,h.ly,Nat.le_trans h.dp hm⟩
theorem ka.all{n:Nat}:∀{ds:List D},(∀d∈ds,ka n d)→jj ds=true∧PyData.canLayAll0 (kr ds)=true∧PyData.depthAll (kr ds)≤n
 | [],_=>⟨by unfold jj;rfl,by unfold kr PyData.canLayAll0;rfl,by unfold kr PyData.depthAll;omega⟩
 | d ::ds,h=>by
   obtain⟨h1,h2,h3⟩:=ka.all (ds:=ds) fun x hx=>h x (List.mem_cons_of_mem _ hx)
   have f:=h d List.mem_cons_self
   refine⟨by unfold jj;rw [f.pl,h1];rfl,by unfold kr PyData.canLayAll0;rw [f.ly,h2];rfl,?_⟩
   unfold kr PyData.depthAll
   have:=f.dp
   omega
theorem ka.lst{n:Nat}{ds:List D}(h:∀d∈ds,ka n d):ka (n+1) (.lst ds):=by
 obtain⟨h1,h2,h3⟩:=ka.all h
 exact⟨by unfold fK;exact h1,by unfold toPy PyData.canLay0;exact h2,by unfold toPy PyData.depth;omega⟩
theorem ka.tup{n:Nat}{ds:List D}(h:∀d∈ds,ka n d):ka (n+1) (.tup ds):=by
 obtain⟨h1,h2,h3⟩:=ka.all h
 exact⟨by unfold fK;exact h1,by unfold toPy PyData.canLay0;exact h2,by unfold toPy PyData.depth;omega⟩
theorem ka.sh{n:Nat}{d:D}(h:ka n d)(hn:n≤64):SeqAt.shaped (toPy d)=true:=by
 unfold SeqAt.shaped
 rw[h.ly,decide_eq_true (Nat.le_trans h.dp hn)]
 rfl
theorem Bz{d e:List D}:EY (.lst d) (.lst e)=R.bZ (fK (.lst d) && fK (.lst e) && SeqAt.shaped (toPy (.lst d)) && SeqAt.shaped (toPy (.lst e))) (.ok (PyData.eqv (toPy (.lst d)) (toPy (.lst e)))):=rfl
end
end L3
namespace L3
open PySem PySem.Spec PyProof.Rows L2
end L3
end
section
set_option maxRecDepth 100000
set_option maxHeartbeats 4000000
namespace L2
open PySem PySem.Spec PyProof.Rows
section
variable {X:Cx}
noncomputable def BK:D→Bool | .cq=>true | _=>false
noncomputable def Im(d e:D):R D:=match e with | .cq=> .ok (.bl (BK d)) | _=> .no
noncomputable def B9(d e:D):R D:=match e with | .cq=> .ok (.bl (!BK d)) | _=> .no
theorem x5{K:PySem.W.Frag}{B:List Addr}{H:Hp}{d:D}{x:V}(r:Rep K B H d x):decide (x= .cq)=BK d:=by
 cases d with
 | cq=>rw [Rep.cq.mp r];rfl
 | bl b=>rw [Rep.bl.mp r];rfl
 | int b=>rw [Rep.int.mp r];rfl
 | str b=>rw [Rep.str.mp r];rfl
 | lst ds=>obtain⟨a,xs,rfl,_⟩:=Rep.lst.mp r;rfl
 | tup ds=>obtain⟨a,xs,rfl,_⟩:=Rep.tup.mp r;rfl
 | dct ks ds=>unfold Rep at r;obtain⟨a,xs,rfl,_⟩:=r;rfl
theorem GR:jA X (compareOp .Is) Im:=jA.of F5 fun B H da db d x y Q _ ra rb hg q=>by
 unfold Im at hg
 split at hg
 ·cases hg
  exact⟨Rep.cq.mp rb,by rw[x5 ra];exact q _ H (aW.refl H) (Rep.bl.mpr rfl)⟩
 ·cases hg
theorem GW:jA X (compareOp .IsNot) B9:=jA.of C4 fun B H da db d x y Q _ ra rb hg q=>by
 unfold B9 at hg
 split at hg
 ·cases hg
  exact⟨Rep.cq.mp rb,by rw[x5 ra];exact q _ H (aW.refl H) (Rep.bl.mpr rfl)⟩
 ·cases hg
theorem yV:jJ X (.type "int") (fun xs H Q=>∃x n,xs=[.str x]∧PySem.intText? x=some n∧x.length≤640∧Q (.int n) H):=by
 intro pins s σ H xs us Q I r h
 obtain⟨x,n,rfl,h1,h2,q⟩:=h
 obtain⟨u,rfl,ru⟩:=vals1 r
 obtain⟨t,rfl⟩:=ru
 exact PySem.W.KIN.call_text h1 h2 ⟨.int n,H,I.tok _,⟨_,rfl⟩,q⟩
noncomputable def Bv:List D→R D
 | [.str x]=>R.bZ (decide (x.length≤640)) (match PySem.intText? x with | some n=> .ok (.int n) | none=> .no)
 | _=> .no
theorem FC:cP X (.type "int") Bv:=cP.of yV fun B H ds d xs Q _ rs hg q=>by
 unfold Bv at hg
 split at hg
 ·obtain⟨h1,h2⟩:=R.bp hg
  split at h2
  ·rename_i e
   cases h2
   obtain⟨x,rfl,r⟩:=rs.one
   exact⟨_,_,by rw[Rep.str.mp r],e,of_decide_eq_true h1,q _ H (aW.refl H) (Rep.int.mpr rfl)⟩
  ·cases h2
 ·cases hg
noncomputable def mE(ds:List D):R D:=match ds with | [.str _]=>Bv ds | _=>cInt ds
theorem nU:cP X (.type "int") mE:=cP.or FC HH fun a d h=>by
 unfold mE at h
 split at h
 ·exact .inl h
 ·exact .inr h
noncomputable def EM(f:FD):FD:=fun δ=>(f δ).bind fun d=>match d with | .int i=> .ok (.int (-i)) | _=> .no
theorem yd{a:Expr}{f:FD}{pos:Pos}(h:QD X a f):QD X (.UnaryOp .USub a pos) (EM f):=⟨(GV Fb h.1).imp fun σ H Q ⟨Z,B,δ,d,E,hf,q⟩=>by
 obtain⟨d1,h1,h2⟩:=R.ak hf
 split at h2
 ·cases h2
  exact⟨Z,B,δ,_,E,h1,fun v H1 s1 r1=>⟨_,Rep.int.mp r1,q _ H1 s1 (Rep.int.mpr rfl)⟩⟩
 ·cases h2⟩
noncomputable def x_(d:D)(ds:List D):R D:=match d,ds with
 | .str x,[.str y]=> .ok (.int (Txt.find x y))
 | _,_=> .no
theorem m_find:Ii X "str.find" x_:=by
 intro pins s σ H B da d ds x xs v us I hb rx rxs ra rs hg
 unfold x_ at hg
 split at hg
 ·cases hg
  rw[Rep.str.mp ra] at rx
  obtain⟨t,rfl⟩:=rx
  obtain⟨y,rfl,r⟩:=rs.one
  rw[Rep.str.mp r] at rxs
  obtain⟨u,rfl,ru⟩:=vals1 rxs
  obtain⟨t2,rfl⟩:=ru
  exact PySem.SC.find ⟨.int _,H,I.tok _,⟨_,rfl⟩,aW.refl H,Rep.int.mpr rfl⟩
 ·cases hg
theorem AV{o e:Expr}{f:FD}{fs:aw→R (List D)}{apos cpos:Pos}(ho:QD X o f)(ha:C_ X [e] fs)
 (hbase:attributeBase o "find" X.env (eval o X.env)=eval o X.env:=by rfl)
 (hfew:((backTo cpos (starEach [e] X.env)).all (fun x=>!x.1) && (backToKw cpos (keywordEach [] X.env)).all (fun x=>x.1.isSome)
   && decide (([e]:List Expr).length+([]:List Keyword).length+(if([]:List Keyword).isEmpty then 0 else 1) < 30))=true:=by rfl)
 (hline:(apos.endLine==cpos.line)=true:=by rfl) (hs:starEach [e] X.env=(false,eval e X.env) ::starEach [] X.env:=by rfl) :
 QD X (.Call (.Attribute o "find" apos) [e] [] cpos) (yX "str" x_ f fs):=⟨HK F.plainAttrs_str F.slot_str_find F.type_str_find m_find ho.1 ha.1 (.inl rfl) hbase hfew hline hs⟩
noncomputable def Kw(kvs:List (Str × Str)):D:= .dct (kvs.map fun p=>Sum.inr p.1) (kvs.map fun p=> .str p.2)
noncomputable def LD(kvs:List (Str × Str)):List (Key × V):=kvs.map fun p=>((Sum.inr p.1:Key),V.str p.2)
noncomputable def KR(d k:D):R D:=match d,k with
 | .dct ks ds, .str x=>(match (ks.zip ds).find? fun p=>decide (p.1=Sum.inr x) with | some p=> .ok p.2 | none=> .no)
 | _,_=> .no
end
theorem Hz{P:Program}{w:World}{K:PySem.W.Frag}{mg:Str→Option Value}{base:Heap}{k n:Nat}{f:Addr}{fd:FuncData}{ps:List Str}:ip P w K mg base qO k f fd ps (zr K n fun _=> .no):=
 ⟨fun vs H Q E h=>(by obtain⟨_,_,_,_,_,_,h,_⟩:=h;cases h),fun A outer s H args us vs Q E _ _ _ _ h=>(by obtain⟨_,_,_,_,_,_,h,_⟩:=h;cases h)⟩
end L2
namespace L3
open PySem PySem.Spec PyProof.Rows L2
section
variable {X:Cx} {cl:Nat→Addr}
noncomputable def IU(f:FX):FB:=fun δ S=>(f δ S).bind fun v S=>match v with | .d (.bl b)=> .ok b S | _=> .no
theorem EK{f:FX}{δ:DE}{S S':aU}{b:Bool}(h:IU f δ S= .ok b S'):f δ S= .ok (.d (.bl b)) S':=by
 obtain⟨v,S1,h1,h2⟩:=R3.ak h
 split at h2
 ·cases h2;exact h1
 ·cases h2
noncomputable def Et(f g:FX):FX:=fun δ S=>(IU f δ S).bind fun b S=>if b then g δ S else .ok (.d (.bl false)) S
noncomputable def LB(f g:FX):FX:=fun δ S=>(IU f δ S).bind fun b S=>if b then .ok (.d (.bl true)) S else g δ S
theorem EE{a:Expr}{op}{f:FX}{pos:Pos}(h:PX X cl a f):PX X cl (.BoolOp op [a] pos) f:=⟨Af h.1⟩
theorem Fq{a b:Expr}{rest:List Expr}{f g:FX}{pos:Pos}(ha:PX X cl a f)(hb:PX X cl (.BoolOp .And (b ::rest) pos) g):PX X cl (.BoolOp .And (a ::b ::rest) pos) (Et f g):=⟨(zC ha.1 hb.1).imp fun σ H Q ⟨ρ,S,δ,k,S',E,hf,q⟩=>by
 obtain⟨c,S1,h1,h2⟩:=R3.ak hf
 refine⟨ρ,S,δ, .d (.bl c),S1,E,EK h1,fun v ρ1 H1 p1 w1 r1=>⟨c,by unfold bo Rep at r1;exact r1,?_⟩⟩
 cases c with
 | true=>rw [if_pos rfl] at h2 ⊢;exact⟨ρ1,S1,δ,k,S',E.to p1 w1,h2,fun v ρ2 H' p2 w2 r2=>q v ρ2 H' (p1.trans p2) w2 r2⟩
 | false=>rw [if_neg (by decide)] at h2 ⊢;cases h2;exact q _ ρ1 H1 p1 w1 (by unfold bo Rep;rfl)⟩
theorem w_and{f g:FX}{δ:DE}{S:aU}{Q:V3→aU→Prop}(h:W3 (f δ S) fun v S1=>v= .d (.bl true)∧W3 (g δ S1) Q):W3 (Et f g δ S) Q:=W3.bind (W3.bind (h.mono fun v S1 ⟨e,h2⟩=>by subst e;exact W3.ok (by rw[if_pos rfl];exact h2)))
noncomputable def Bw(i:Nat)(F:FZ):FZ:=fun δ S=>match gB δ i with
 | some k=>(match di S k with | some ds=>F (δ.set i (some (.d (.lst ds)))) (S.set k .ik) | none=> .no)
 | none=> .no
theorem DA(i:Nat){sts:List Stmt}{F:FZ}(h:zo X cl sts F):zo X cl sts (Bw i F):=⟨h.1.imp fun D σ H ⟨ρ,S,δ,o,S',E,hf,q⟩=>by
 unfold Bw at hf
 split at hf
 ·rename_i k hk
  split at hf
  ·rename_i ds hds
   obtain⟨v,v1,v2⟩:=E.val i _ (l0 hk)
   unfold bo at v2
   obtain⟨a,a1,rfl⟩:=v2
   obtain⟨w,p,r⟩:=E.sw.ik a1 (fI hds)
   have E1:fq X.K cl ⟨ρ.r,ρ.z,a ::ρ.f⟩ H (S.set k .ik) σ (δ.set i (some (.d (.lst ds)))):=⟨by rw[List.length_set];exact E.len,w,fun j d e=>by
    by_cases h:i=j
    ·subst h
     rw[List.getElem?_set_self (by obtain⟨h1,_⟩:=List.getElem?_eq_some_iff.mp (l0 hk);exact h1)] at e
     cases e
     exact⟨_,v1,by unfold bo;exact r⟩
    ·rw[List.getElem?_set_ne h] at e
     obtain⟨u,u1,u2⟩:=E.val j d e
     exact⟨u,u1,u2.pre p⟩⟩
   exact⟨_,_,_,o,S',E1,hf,q.pre p⟩
  ·cases hf
 ·cases hf⟩
theorem HN{i k:Nat}{ds:List D}{F:FZ}{δ:DE}{S:aU}{QO:Ou→aU→Prop}(hk:δ[i]? =some (some (.loc k)))(hS:S[k]? =some (.lst ds))(h:W3 (F (δ.set i (some (.d (.lst ds)))) (S.set k .ik)) QO):W3 (Bw i F δ S) QO:=by
 unfold Bw
 have e1:gB δ i=some k:=by unfold gB;rw [hk]
 have e2:di S k=some ds:=by unfold di;simp only[hS]
 simp only[e1,e2]
 exact h
end
noncomputable def Flat(S:aU):Prop:=∀o∈S,∀n,me n o=true
theorem Flat.all{S:aU}(h:Flat S)(n:Nat):(S.take n).all (me n)=true:=List.all_eq_true.mpr fun o ho=>h o (List.mem_of_mem_take ho) n
theorem Flat.set{S:aU}(h:Flat S)(k:Nat){x:SO}(hx:∀n,me n x=true):Flat (S.set k x):=fun o ho=>by
 rcases List.mem_or_eq_of_mem_set ho with z | z
 ·exact h o z
 ·rw[z];exact hx
theorem Flat.push{S:aU}(h:Flat S){x:SO}(hx:∀n,me n x=true):Flat (S++[x]):=fun o ho=>by
 rcases List.mem_append.mp ho with z | z
 ·exact h o z
 ·rw[List.mem_singleton.mp z];exact hx
theorem Flat.take{S:aU}(h:Flat S)(n:Nat):Flat (S.take n):=fun o ho=>h o (List.mem_of_mem_take ho)
theorem Flat.nil:Flat []:=fun o ho=>by cases ho
theorem rM{N:List Str}{F:FZ}{vs:List V3}{S:aU}{QV:V3→aU→Prop}(h:W3 (lR N F vs S) fun v S1=>Flat S1∧ft S.length v=true∧∃d,res S1 v=some d∧QV (.d d) (S1.take S.length)):W3 (n6 N F vs S) QV:=
 W3.bind (h.mono fun v S1 ⟨hl,hg,d,e,q⟩=>by
  rw[e]
  exact W3.wh (by rw[hl.all,hg];rfl) (W3.ok q))
end L3
end
section
set_option maxRecDepth 100000
set_option maxHeartbeats 4000000
namespace PySem
open Sem (wp)
open AutoSeq1 (wpAny_loadPart')
section
variable {prog:Program} {w:World} {A:Around} {E:Value→Shared→Prop} {s:Shared}
end
end PySem
namespace L2
open PySem PySem.Spec PyProof.Rows
section
variable {X:Cx}
noncomputable def Iy(f:FD):FD:=fun δ=>(f δ).bind fun d=>match d with
 | .int j=>R.bZ (decide (-(2 ^ 62)≤j∧j < 16777216)) (.ok (.tup (bU 0 j.toNat)))
 | _=> .no
end
end L2
end
section
set_option maxRecDepth 100000
set_option maxHeartbeats 4000000
namespace PySem
open Sem (wp)
open AutoSeq1 (wpAny_loadPart')
section
variable {prog:Program} {w:World} {A:Around} {E:Value→Shared→Prop} {s:Shared}
theorem km{it l:Addr}{i:Nat}{items:Array Value}{x:Value}{Q:Value→Shared→Prop}(hit:s.heap.IsTupleIter it l i)(hl:s.heap.IsTuple l items)(hx:items[i]? =some x)
 (hQ:∀h',h'.IsTupleIter it l (i+1)→Heap.SameBut it s.heap h'→Q x {s with heap:=h'}):wpAny (model prog w) A (Builtin.SmallTypes.nextOf (.ref it)) Q E s:=by
 obtain⟨o,ho,hc,hd⟩:=id hit;obtain⟨ol,hol,_,nl,hdl⟩:=hl
 unfold Builtin.SmallTypes.nextOf
 refine wpAny_bind (wpAny_callSpecial?_slot (name:=Str.ofString "__next__") hit.typeIs F.slot_tuple_iterator_next (wpAny_call_entry F.slot_tuple_iterator_next hit.typeIs F.entry_tuple_iterator_next ?_ (F.args_tuple_iterator_next_1 _)))
 show wpAny _ _ (field (.ref it) 0 >>=_) _ _ s;refine wpAny_bind (wpAny_field ho hd (x:= .ref l) rfl ?_)
 show wpAny _ _ (if(Value.ref l==Value.none)=true then _ else _) _ _ s;rw [if_neg (show ¬((Value.ref l==Value.none)=true) from Bool.false_ne_true)]
 show wpAny _ _ (field (.ref it) 1 >>=_) _ _ s;refine wpAny_bind (wpAny_field ho hd (x:= .int i 0) rfl ?_)
 show wpAny _ _ (seqItems? (.ref l) >>=_) _ _ s;refine wpAny_bind (wpAny_seqItems hol hdl ?_)
 simp only[Int.toNat_natCast,hx]
 refine wpAny_bind (wpAny_setField ho hd (by simp) (wpAny_pure ⟨x,rfl,wpAny_pure (hQ _ ⟨_,Heap.get?_update_self _ ho (Obj.isFreed_of_fields (Obj.data_mapFields hd _)),(Obj.cls_mapFields ..).trans hc,by rw[Obj.data_mapFields hd];simp [rawInt]⟩ (Heap.SameBut.update ..))⟩))
theorem iU{it l:Addr}{i:Nat}{items:Array Value}{Q:Value→Shared→Prop}(hh:A.handled=none)(hit:s.heap.IsTupleIter it l i)(hl:s.heap.IsTuple l items)(hx:items[i]? =none)
 (hE:∀h' e,Heap.ExtBut it s.heap h'→(∃o,h'.get? e=some o∧o.cls= .type "StopIteration")→E (.ref e) {s with heap:=h'}):wpAny (model prog w) A (Builtin.SmallTypes.nextOf (.ref it)) Q E s:=by
 obtain⟨o,ho,hc,hd⟩:=id hit;obtain⟨ol,hol,_,nl,hdl⟩:=hl
 unfold Builtin.SmallTypes.nextOf
 refine wpAny_bind (wpAny_callSpecial?_slot (name:=Str.ofString "__next__") hit.typeIs F.slot_tuple_iterator_next (wpAny_call_entry F.slot_tuple_iterator_next hit.typeIs F.entry_tuple_iterator_next ?_ (F.args_tuple_iterator_next_1 _)))
 show wpAny _ _ (field (.ref it) 0 >>=_) _ _ s;refine wpAny_bind (wpAny_field ho hd (x:= .ref l) rfl ?_)
 show wpAny _ _ (if(Value.ref l==Value.none)=true then _ else _) _ _ s;rw [if_neg (show ¬((Value.ref l==Value.none)=true) from Bool.false_ne_true)]
 show wpAny _ _ (field (.ref it) 1 >>=_) _ _ s;refine wpAny_bind (wpAny_field ho hd (x:= .int i 0) rfl ?_)
 show wpAny _ _ (seqItems? (.ref l) >>=_) _ _ s;refine wpAny_bind (wpAny_seqItems hol hdl ?_)
 simp only[Int.toNat_natCast,hx]
 refine wpAny_bind (wpAny_rule (wpAny_bind (wpAny_setField ho hd (by simp) ?_)))
 show wpAny _ _ (newExc (.type "StopIteration") [] >>=_) _ _ _;refine wpAny_bind ?_;simp only[newExc,newTuple]
 refine wpAny_bind (wpAny_newObj_type ?_ (by size_fits))
 refine wpAny_bind (m:=firstArgMember _ _) (wpAny_of_eq (a:=Value.none) (by first | rfl | (simp only[firstArgMember];rfl)) ?_);refine wpAny_newObj_type ?_ (by size_fits)
 simp only[raiseNew];refine wpAny_bind (wpAny_handled ?_)
 first | rw[show A.in1.handled=none from hh] | rw[hh]
 exact wpAny_bind (wpAny_pure (wpAny_throw (hE _ _ (((Heap.SameBut.update ..).extBut.push _).push _) ⟨_,Heap.get?_push_size _ rfl,rfl⟩)))
end
theorem yA{prog:Program}{w:World}{A:Around}(hh:A.handled=none)(it l:Addr)(hne:l≠it)(items:Array Value) :
 Draws prog w A it [it,l] items.size (fun i v=>items[i]? =some v) (fun i h=>h.IsTupleIter it l i∧h.IsTuple l items) where
 live:=fun _ _ st=>let⟨o,ho,_⟩:=st.1;⟨o,ho⟩
 frame:=fun _ _ _ st hk=>⟨st.1.at fun o e=>hk it (by simp) o e,Heap.IsTuple.at st.2 fun o e=>hk l (by simp) o e⟩
 item:=fun i s Q E hi st hQ=>km st.1 st.2 (x:=items[i]) (by simp [hi]) fun h' hit' hs'=>hQ _ h' s.toks (by simp [hi]) ⟨hit',st.2.extBut hs'.extBut hne⟩ hs'
 done:=fun s Q E st hE=>iU hh st.1 st.2 (by simp) hE
theorem o4(l:Addr)(items:Array Value)(o:Obj)(n:Nat)(hc:o.cls= .type "tuple")(hd:o.data= .seq items n) :
 Meets (Builtin.«enumerate.__new__» ⟨[.type "enumerate", .ref l],[]⟩) (fun _ R s=>s.heap.get? l=some o∧
  R (.ok (.ret (.ref (s.heap.push {cls:= .type "tuple_iterator",data:= .fields #[.ref l, .int 0 0]}).objs.size)))
   {s with heap:=(s.heap.push {cls:= .type "tuple_iterator",data:= .fields #[.ref l, .int 0 0]}).push {cls:= .type "enumerate",data:= .fields #[.none, .bool false, .ref s.heap.objs.size,rawInt 0, .none, .none]}}):=
 .of_wp fun prog w A R s h=>by
  obtain⟨hp,g,d,tk,os⟩:=s;obtain⟨hl,h⟩:=h
  have hsub:=sub_enumerate
  have hL:Heap.IsTuple (Shared.heap ⟨hp,g,d,tk,os⟩) l items:=⟨_,hl,hc,n,hd⟩
  wp_walk using wpAny_loadPart' hl
  refine wpAny_stack_any fun st=>wpAny_pure ?_
  split
  ·rename_i c _ _ _ _ _
   cases(c==Value.type "enumerate") <;> (wp_walk using wpAny_loadPart' hl,wpAny_pyIter_tuple hL;exact⟨_,rfl,h⟩)
  ·wp_walk using wpAny_loadPart' hl,wpAny_pyIter_tuple hL
   exact⟨_,rfl,h⟩
theorem vC{prog:Program}{w:World}{A:Around}{E:Value→Shared→Prop}{s:Shared}{l:Addr}{items:Array Value}{Q:Value→Shared→Prop}(hL:s.heap.IsTuple l items)
 (h:∀h':Heap,IsEnum h' (s.heap.objs.size+1) s.heap.objs.size 0 .none→h'.IsTupleIter s.heap.objs.size l 0→(∀b o,s.heap.get? b=some o→h'.get? b=some o)→Q (.ref (s.heap.objs.size+1)) {s with heap:=h'}) :
 wpAny (model prog w) A (call (.type "enumerate") [.ref l]) Q E s:=by
 obtain⟨o,hl,hc,n,hd⟩:=hL
 refine callType_new F.called_enumerate (by decide) (F.typeCall_enumerate_1 _) (F.newCall_enumerate_1 _) (fun obj=>F.args_object_init_2 obj _) F.entry_enumerate_new (o4 l items o n hc hd) ⟨hl,?_⟩
 have hz:(s.heap.push {cls:= .type "tuple_iterator",data:= .fields #[.ref l, .int 0 0]}).objs.size=s.heap.objs.size+1:=Heap.size_push ..
 show _∧_;rw [hz]
 have he:IsEnum ((s.heap.push {cls:= .type "tuple_iterator",data:= .fields #[.ref l, .int 0 0]}).push {cls:= .type "enumerate",data:= .fields #[.none, .bool false, .ref s.heap.objs.size,rawInt 0, .none, .none]}) (s.heap.objs.size+1) s.heap.objs.size 0 .none:=by
  have:=Heap.get?_push_size (s.heap.push {cls:= .type "tuple_iterator",data:= .fields #[.ref l, .int 0 0]}) (o:={cls:= .type "enumerate",data:= .fields #[.none, .bool false, .ref s.heap.objs.size,rawInt 0, .none, .none]}) rfl
  rw[hz] at this;exact this
 exact⟨⟨_,he,rfl⟩,h _ he ⟨_,Heap.get?_push_of_some _ (Heap.get?_push_size _ rfl),rfl,rfl⟩ fun b o x=>Heap.get?_push_of_some _ (Heap.get?_push_of_some _ x)⟩
end PySem
namespace L2
open PySem PySem.Spec PyProof.Rows
noncomputable def IW(K:PySem.W.Frag)(a:Addr):It:=
 ⟨fun i H=>∃xs x,oQ K H a xs∧xs[i]? =some x,fun i H v H'=>∃p x,H p=none∧v= .ref p∧(∀xs,oQ K H a xs→xs[i]? =some x)∧H'=upd H p (.tup [.int i,x]),fun i H=>∃xs,oQ K H a xs∧xs.length≤i⟩
theorem vL{P:Program}{w:World}{K:PySem.W.Frag}{elts:List Expr}{k:Nat}{pos:Pos}(a e it:Addr)(hei:e≠it):Turn P w K (.Tuple elts k pos) (IW K a) [e,it] e (fun i h=>(∃old,IsEnum h e it ((i:Nat):Int) old)∧h.IsTupleIter it a i) where
 mem:=by simp
 obj:=fun i h st b hb=>by
  obtain⟨⟨old,he⟩,o,ho,c,d⟩:=st
  rcases List.mem_cons.mp hb with rfl | hb
  ·exact⟨_,he,fun v z=>by cases z⟩
  ·have e:b=it:=by simpa using hb
   subst e
   exact⟨o,ho,fun v z=>by rw[d] at z;cases z⟩
 keep:=fun i h h' st k=>by
  obtain⟨⟨old,he⟩,hi⟩:=st
  exact⟨⟨old,k e (by simp) _ he⟩,hi.at fun o x=>k it (by simp) o x⟩
 item:=by
  intro X hP hw hK hc i pins s σ H E I hf st hg
  subst hP hw hK
  obtain⟨xs,x,hq,hx⟩:=hg
  obtain⟨its,rv,p,hz⟩:=I.tuple hq
  have p':s.heap.IsTuple a its.toArray:=p
  obtain⟨u,hu,ru⟩:=rv.get hx
  obtain⟨⟨old,he⟩,hit⟩:=st
  obtain⟨f0,f1,f2,f3,f4,f5⟩:=hf e (by simp)
  obtain⟨g0,g1,g2,g3,g4,g5⟩:=hf it (by simp)
  have ha_it:a≠it:=fun z=>by
   obtain⟨o1,h1,c1,_⟩:=p'
   obtain⟨o2,h2,c2,_⟩:=hit
   rw[z,h2] at h1;cases h1
   rw[c2] at c1;exact absurd c1 (by decide)
  have ha_e:e ∉ [it,a]:=fun z=>by
   rcases List.mem_cons.mp z with q | q
   ·exact hei q
   ·have q:e=a:=by simpa using q
    obtain⟨o1,h1,c1,_⟩:=p'
    rw[←q,he] at h1;cases h1
    exact absurd (show Value.type "enumerate"=Value.type "tuple" from c1) (by decide)
  refine wpAny_pyNext_enum_itemD (yA (A:=X.A.in1) (I.ok.hd hc) it a ha_it its.toArray) he ⟨hit,p'⟩ (by have:=(List.getElem?_eq_some_iff.mp hu).1;simpa using this) hei ha_e fun u2 h₁ tk hu2 heo st₁ ht₁ hz₁ hk₁=>⟨_,rfl,?_⟩
  obtain rfl:u2=u:=by
   have h1:its[i]? =some u2:=by simpa using hu2
   rw[hu] at h1;cases h1;rfl
  obtain⟨hit₁,_⟩:=st₁
  refine wpAny_letOwnedTupleGo_enum heo fun h₂ he₂ hs₂=>?_
  replace hs₂:Heap.SameBut e h₁ h₂:=hs₂
  have hel:e < s.heap.objs.size:=Heap.lt_size he
  have ht₂:h₂.get? s.heap.objs.size=some {cls:= .type "tuple",data:= .seq #[.int i tk,u2]}:=(hs₂.2 _ (Nat.ne_of_gt hel)).trans ht₁
  have kk:∀b o,b≠e→b≠it→s.heap.get? b=some o→h₂.get? b=some o:=fun b o h1 h2 q=>(hs₂.2 b h1).trans (hk₁ b o h1 h2 q)
  have hn:H s.heap.objs.size=none:=I.fresh
  have sm:aW H (upd H s.heap.objs.size (.tup [.int i,x])):=aY hn
  have nit:∀b o,H b=some o→b≠e∧b≠it:=fun b o q=>⟨fun z=>(by rw[z,f0] at q;cases q),fun z=>(by rw[z,g0] at q;cases q)⟩
  have hok:lH X.prog X.w (upd H s.heap.objs.size (.tup [.int i,x])) h₂:=fun b ob q=>by
   by_cases hb:b=s.heap.objs.size
   ·subst hb
    rw[bb] at q
    cases q
    exact⟨by show 2≤sizeLine;decide,[.int i tk,u2], .cons ⟨_,rfl⟩ (.cons ru .nil),⟨_,ht₂,rfl,_,rfl⟩⟩
   ·rw[bg hb] at q
    refine(I.hok b ob q).sI (fun c v hc z=>?_) (fun c z=>sm c _ z) fun c ys z=>sm c _ z
    rcases hc with rfl | hc
    ·exact kk c v (nit c _ q).1 (nit c _ q).2 z
    ·exact kk c v (nit c _ hc).1 (nit c _ hc).2 z
  have nch:∀b,b ∉ [e,it]→b≠e∧b≠it:=fun b hb=>⟨fun z=>hb (by simp [z]),fun z=>hb (by simp [z])⟩
  have I2:Inv X pins σ (upd H s.heap.objs.size (.tup [.int i,x])) {s with heap:=h₂,toks:=tk+1}:=by
   refine I.step (g':=s.gens) (d':=s.drawn) (ch:=[e,it]) (fun b hb=>?_) (fun b o _ _ hb q _=>kk b o (nch b hb).1 (nch b hb).2 q) (fun b o _ _ hb q _=>⟨o.slots,kk b o (nch b hb).1 (nch b hb).2 q⟩)
    (fun b o hb q n=>by rw[bg (Nat.ne_of_lt (Heap.lt_size q))];exact n) (fun b o hb q=>⟨o,kk b o (nch b hb).1 (nch b hb).2 q⟩) (fun b ys z=>sm b _ z) (fun b o u z=>sm b _ z) (fun b ps z=>⟨#[],by rw[sm b _ z];simp⟩) (fun m hm=>?_) hok I.bare
   ·rcases List.mem_cons.mp hb with rfl | hb
    ·exact⟨f3,f1,f4,f5⟩
    ·have z:b=it:=by simpa using hb
     subst z
     exact⟨g3,g1,g4,g5⟩
   ·obtain⟨o,es,ep,ho,r⟩:=hm
    exact⟨o,es,ep,kk _ o (Ne.symm f1) (Ne.symm g1) ho,r⟩
  refine⟨.ref s.heap.objs.size,_,I2,rfl,⟨s.heap.objs.size,x,hn,rfl,fun ys hy=>(by rw[I.nR hy hq];exact hx),rfl⟩,⟨⟨_,by simpa using he₂⟩,hit₁.at fun o q=>(hs₂.2 it (Ne.symm hei)).trans q⟩,fun b hb=>?_⟩
  rcases List.mem_cons.mp hb with rfl | hb
  ·rw[bg (Nat.ne_of_lt hel)];exact f0
  ·have z:b=it:=by simpa using hb
   subst z
   obtain⟨o,ho,_⟩:=hit
   rw[bg (Nat.ne_of_lt (Heap.lt_size ho))];exact g0
 done:=by
  intro X hP hw hK hc i pins s σ H E I hf st hg
  subst hP hw hK
  obtain⟨xs,hq,hx⟩:=hg
  obtain⟨its,rv,p,hz⟩:=I.tuple hq
  have p':s.heap.IsTuple a its.toArray:=p
  obtain⟨⟨old,he⟩,hit⟩:=st
  obtain⟨g0,g1,g2,g3,g4,g5⟩:=hf it (by simp)
  have hl:=rv.length
  have hT:s.TypeIs (.ref e) "enumerate":=⟨_,he,rfl⟩
  unfold pyNext
  refine wpAny_bind (wpAny_attempt (wpAny_callSpecial?_slot (name:=Str.ofString "__next__") hT F.slot_enumerate_next (wpAny_call_entry F.slot_enumerate_next hT F.entry_enumerate_next ?_ (F.args_enumerate_next_1 _))))
  show wpAny _ _ (field (.ref e) 2 >>=_) _ _ _;refine wpAny_bind (wpAny_field he rfl (x:= .ref it) rfl ?_)
  refine wpAny_bind (iU (A:=X.A.in1) (I.ok.hd hc) hit p' (by simp;omega) fun h' x he' hx'=>?_)
  obtain⟨o,ho,hcl⟩:=hx'
  refine wpAny_bind (wpAny_isInstance (T:="StopIteration") (b:=true) ⟨o,ho,hcl⟩ isSubtype_stop ?_)
  exact wpAny_pure ⟨rfl,I.turned (t':=s.toks) (fun b o hb q=>he' b o hb q) g0 g1 g3 g4 g5⟩
 self:=fun A i s Q E st h=>let⟨⟨_,he⟩,_⟩:=st;wpAny_pyIter_enum he h
section
variable {X:Cx}
noncomputable def tF(f:FD):aw→R (List D):=fun δ=>(f δ).bind fun d=>match d with | .tup ds=> .ok (fj ds) | _=> .no
theorem vU{elts:List Expr}{k:Nat}{tpos:Pos}{a:Expr}{f:FD}{p pos:Pos}(h:QD X a f)(hg:Gl X "enumerate")(hm:X.mg "enumerate"=none)(hs:starEach [a] X.env=[(false,eval a X.env)]:=by rfl):wI X (.Tuple elts k tpos) (.Call (.Name "enumerate" p) [a] [] pos) (tF f):=by
 refine⟨?_⟩
 intro pins s σ H RR I ⟨Z,B,δ,ds,E,hf,q⟩
 obtain⟨d,h1,h2⟩:=R.ak hf
 have hA:=f_ h.1 jy hs pos pins s σ H (fun vs H1=>aW H H1∧∃v,vs=[v]∧Rep X.K B H1 d v) I ⟨Z,B,δ,d,E,h1,fun v H1 s1 r1=>⟨s1,v,rfl,r1⟩⟩
 refine Call_ (k8 I hg hm boot_enumerate (PyProof.Rows.callWith_type1 (dW hA fun us s1 ⟨vs,H1,I1,r1,ss,v,ev,rr⟩=>?_) hs rfl))
 subst ev
 obtain⟨u,rfl,ru⟩:=vals1 r1
 cases d with
 | tup es=>
   cases h2
   obtain⟨b,xs,rfl,l,rs⟩:=Rep.tup.mp rr
   cases ru
   obtain⟨its,rv,pt,hz⟩:=I1.tuple l.sq
   refine vC (items:=its.toArray) pt fun h' he hit kk=>wpAny_pyIter_enum he ?_
   have I2:Inv X pins σ H1 {s1 with heap:=h'}:=I1.kept (t':=s1.toks) kk
   refine⟨s1.heap.objs.size+1,[s1.heap.objs.size+1,s1.heap.objs.size],_,_,H1,rfl,I2,vL b (s1.heap.objs.size+1) s1.heap.objs.size (Nat.succ_ne_self _),⟨⟨_,he⟩,hit⟩,fun c hc=>?_,q _ H1 ss fun B' H' pr=>?_⟩
   ·have hle:s1.heap.objs.size≤c:=by
     rcases List.mem_cons.mp hc with z | hc
     ·rw[z];exact Nat.le_succ _
     ·have z:c=s1.heap.objs.size:=by simpa using hc
      rw[z];exact Nat.le_refl _
    exact I1.qP hle (I1.hok.fresh hle)
   ·have l':se X.K B' H' b xs:=l.elim (fun z=> .inl ⟨(pr.rd z.2 z.1).2,(pr.rd z.2 z.1).1⟩) .inr
    have rs':=rs.bq pr
    refine⟨fun i d hd=>?_,⟨xs,l'.sq,by rw[←rs.length];unfold fj;simp⟩⟩
    unfold fj at hd
    rw[List.getElem?_map,List.getElem?_zipIdx] at hd
    cases e:es[i]? with
    | none=>rw [e] at hd;cases hd
    | some d0=>
      rw[e] at hd
      have hd:D.tup [.int ((0+i:Nat):Int),d0]=d:=Option.some.inj hd
      rw[Nat.zero_add] at hd
      obtain⟨x,hx,rx⟩:=rs'.get e
      refine⟨⟨xs,x,l'.sq,hx⟩,fun v H'' y hB'=>?_⟩
      obtain⟨p,y,hp,rfl,hy,rfl⟩:=y
      refine⟨aY hp,?_⟩
      subst hd
      have hy2:=hy xs l'.sq
      rw[hx] at hy2
      cases hy2
      refine Rep.tup.mpr ⟨p,_,rfl, .inl ⟨fun ha=>?_, .inl bb⟩,aF.cons (Rep.int.mpr rfl) (aF.cons (rx.same (aY hp)) aF.nil)⟩
      obtain⟨o,ho⟩:=hB' p ha
      rw[hp] at ho;cases ho
 | _=>cases h2
end
end L2
end
section
set_option maxRecDepth 100000
set_option maxHeartbeats 4000000
namespace L2
open PySem PySem.Spec PyProof.Rows
section
variable {X:Cx}
theorem AJ:kz X (binaryOp .FloorDiv) (rI (fun _ j=>0 < j∧j.natAbs.log2 < 9000) fun i j=> .int (i / j)):=Ic fun i j _ _ _ _ _ hc q=>by
 have h1:(0:Int) < j:=hc.1
 exact floordiv_int (by omega) (by rw[Int.fdiv_eq_ediv_of_nonneg i (by omega)];exact q) (.inl (PyProof.noPylong_of_log2 hc.2))
noncomputable abbrev vd:D→D→R D:=uX (fun _ j=>decide (0 < j∧j.natAbs.log2 < 9000)) fun i j=>i / j
theorem AG:jA X (binaryOp .FloorDiv) vd:=xc AJ fun i j h=>(of_decide_eq_true h:0 < j∧j.natAbs.log2 < 9000)
theorem um{K:PySem.W.Frag}{B:List Addr}{H:Hp}{ds:List D}{xs:List V}(r:aF K B H ds xs):∀n:Nat,aF K B H (List.replicate n ds).flatten (List.replicate n xs).flatten
 | 0=>aF.nil
 | n+1=>by rw[List.replicate_succ,List.replicate_succ,List.flatten_cons,List.flatten_cons];exact r.append (um r n)
noncomputable def DV(f:aw→R (List D))(g:FD):aw→R (List D):=fun δ=>(f δ).bind fun ds=>(g δ).bind fun d=>match d with
 | .int k=>R.bZ (decide (0≤k∧k < 1000000∧ds.length*k.toNat≤sizeLine)) (.ok (List.replicate k.toNat ds).flatten)
 | _=> .no
theorem B_{a b:Expr}{f:aw→R (List D)}{g:FD}{pos:Pos}(ha:QN X a f)(hb:QD X b g):QN X (.BinOp a .Mult b pos) (DV f g):=by
 refine⟨(xf Fc ha.1 hb.1).imp fun σ H Q ⟨Z,B,δ,es,E,hf,q⟩=>?_⟩
 obtain⟨ds,h1,h2⟩:=R.ak hf
 obtain⟨d,h3,h4⟩:=R.ak h2
 split at h4
 ·rename_i k
  obtain⟨h5,h6⟩:=R.bp h4
  cases h6
  obtain⟨k0,k1,k2⟩:=of_decide_eq_true h5
  refine⟨Z,B,δ,ds,E,h1,fun a xs H1 s1 n1 e1 r1=>⟨Z,B,δ, .int k,E.same s1,h3,fun v H2 s2 r2=>⟨a,k,xs,rfl,Rep.int.mp r2,s2 a _ e1,by omega,by omega,by rw[←r1.length];exact k2,fun p hp=>?_⟩⟩⟩
  refine q p _ _ (s1.trans (s2.trans (aY hp))) ((s1.trans s2).free hp) bb ?_
  refine(um r1 k.toNat).bq fun b o e nb=>⟨(s2.trans (aY hp)) b o e,fun hm=>?_⟩
  rcases List.mem_cons.mp hm with z | z
  ·rw[z] at e;rw [s2 p _ e] at hp;cases hp
  ·exact nb (List.mem_cons_of_mem _ z)
 ·cases h4
noncomputable def Ig(ns:List Int):List Int:=ns.mergeSort fun a b=>decide (a≤b)
noncomputable def IB:List D→R D
 | [.lst ds]=>(match ints? ds with | some ns=>R.bZ (decide (ns.length < 64)) (.ok (.lst ((Ig ns).map .int))) | none=> .no)
 | _=> .no
theorem getD_in{l:List Int}{i:Nat}(h:i < l.length):l.getD i 0∈l:=by
 have e:l.getD i 0=l[i]:=by simp [h]
 rw[e];exact List.getElem_mem h
theorem fold_min:∀(ns:List Int) (n:Int),ns.foldl min n∈n ::ns∧∀a∈n ::ns,ns.foldl min n≤a
 | [],n=>⟨by simp,fun a ha=>by simp at ha;subst ha;exact Int.le_refl _⟩
 | x ::ns,n=>by
   obtain⟨h1,h2⟩:=fold_min ns (min n x)
   rw[List.foldl_cons]
   refine⟨?_,fun a ha=>?_⟩
   ·rcases List.mem_cons.mp h1 with z | z
    ·rw[z];by_cases hc:n≤x
     ·rw[Int.min_eq_left hc];simp
     ·rw[Int.min_eq_right (by omega)];simp
    ·exact List.mem_cons_of_mem _ (List.mem_cons_of_mem _ z)
   ·have hm:=h2 _ List.mem_cons_self
    rcases List.mem_cons.mp ha with z | z
    ·subst z;omega
    ·rcases List.mem_cons.mp z with z | z
     ·subst z;omega
     ·exact h2 a (List.mem_cons_of_mem _ z)
theorem fold_max:∀(ns:List Int) (n:Int),ns.foldl max n∈n ::ns∧∀a∈n ::ns,a≤ns.foldl max n
 | [],n=>⟨by simp,fun a ha=>by simp at ha;subst ha;exact Int.le_refl _⟩
 | x ::ns,n=>by
   obtain⟨h1,h2⟩:=fold_max ns (max n x)
   rw[List.foldl_cons]
   refine⟨?_,fun a ha=>?_⟩
   ·rcases List.mem_cons.mp h1 with z | z
    ·rw[z];by_cases hc:n≤x
     ·rw[Int.max_eq_right hc];simp
     ·rw[Int.max_eq_left (by omega)];simp
    ·exact List.mem_cons_of_mem _ (List.mem_cons_of_mem _ z)
   ·have hm:=h2 _ List.mem_cons_self
    rcases List.mem_cons.mp ha with z | z
    ·subst z;omega
    ·rcases List.mem_cons.mp z with z | z
     ·subst z;omega
     ·exact h2 a (List.mem_cons_of_mem _ z)
noncomputable def sf:List D→R D
 | [.lst ds]=>(match ints? ds with | some (n ::ns)=> .ok (.int (ns.foldl min n)) | _=> .no)
 | ds=>qk ds
noncomputable def A6:List D→R D
 | [.lst ds]=>(match ints? ds with | some (n ::ns)=> .ok (.int (ns.foldl max n)) | _=> .no)
 | ds=>Ew ds
theorem z_(hc:X.calm=true):cP X (.builtin "min") sf:=by
 intro pins s σ H B ds d xs us I hb rx rs hg
 unfold sf at hg
 split at hg
 ·split at hg
  ·rename_i es n ns e
   cases hg
   obtain⟨x,rfl,r⟩:=rs.one
   obtain⟨a,ys,rfl,l,r⟩:=Rep.lst.mp r
   obtain⟨u,rfl,ru⟩:=vals1 rx
   cases ru
   obtain⟨its,k,rv,e1,hz⟩:=I.FF l
   rw[fR r e] at rv
   obtain⟨ps,rfl,hps⟩:=gZ rv
   have hl:s.heap.IsList a (intItems ps.toArray):=⟨_,e1,rfl,k,by simp [intItems]⟩
   have hlp:ps.length=ns.length+1:=by have:=congrArg List.length hps;simpa using this
   refine min_intList (I.ok.hd hc) hl (by simp;omega) fun v h' tk hv hk=>?_
   obtain⟨t,rfl⟩:=intItems_at hv
   obtain⟨b1,b2⟩:=argBest_lt (numAt ps.toArray) (ps.toArray.size - 1)
   refine⟨.int _,H,I.kept hk,⟨t,rfl⟩,aW.refl H,Rep.int.mpr ?_⟩
   obtain⟨m1,m2⟩:=fold_min ns n
   have hge:∀j,j < ps.length→numAt ps.toArray j=(n ::ns).getD j 0:=fun j hj=>by rw[numAt_eq,←hps]
   have hin:numAt ps.toArray (argBest (fun i j=>decide (numAt ps.toArray i < numAt ps.toArray j)) (ps.toArray.size - 1))∈n ::ns:=by
    rw[hge _ (by simp at b1 ⊢;omega)];exact getD_in (by simp at b1 ⊢;omega)
   have hle:=m2 _ hin
   obtain⟨j,hj,ej⟩:=List.getElem_of_mem m1
   have hj':j < ns.length+1:=by simpa using hj
   have h3:=b2 j (by simp;omega)
   rw[hge j (by omega)] at h3
   have h4:(n ::ns).getD j 0=ns.foldl min n:=by rw[←ej,List.getD_eq_getElem?_getD,List.getElem?_eq_getElem hj];rfl
   rw[h4] at h3
   congr 1
   omega
  ·cases hg
 ·exact HI hc pins s σ H B _ d xs us I hb rx rs hg
theorem FE(hc:X.calm=true):cP X (.builtin "max") A6:=by
 intro pins s σ H B ds d xs us I hb rx rs hg
 unfold A6 at hg
 split at hg
 ·split at hg
  ·rename_i es n ns e
   cases hg
   obtain⟨x,rfl,r⟩:=rs.one
   obtain⟨a,ys,rfl,l,r⟩:=Rep.lst.mp r
   obtain⟨u,rfl,ru⟩:=vals1 rx
   cases ru
   obtain⟨its,k,rv,e1,hz⟩:=I.FF l
   rw[fR r e] at rv
   obtain⟨ps,rfl,hps⟩:=gZ rv
   have hl:s.heap.IsList a (intItems ps.toArray):=⟨_,e1,rfl,k,by simp [intItems]⟩
   have hlp:ps.length=ns.length+1:=by have:=congrArg List.length hps;simpa using this
   refine max_intList (I.ok.hd hc) hl (by simp;omega) fun v h' tk hv hk=>?_
   obtain⟨t,rfl⟩:=intItems_at hv
   obtain⟨b1,b2⟩:=argBest_gt (numAt ps.toArray) (ps.toArray.size - 1)
   refine⟨.int _,H,I.kept hk,⟨t,rfl⟩,aW.refl H,Rep.int.mpr ?_⟩
   obtain⟨m1,m2⟩:=fold_max ns n
   have hge:∀j,j < ps.length→numAt ps.toArray j=(n ::ns).getD j 0:=fun j hj=>by rw[numAt_eq,←hps]
   have hin:numAt ps.toArray (argBest (fun i j=>decide (numAt ps.toArray i > numAt ps.toArray j)) (ps.toArray.size - 1))∈n ::ns:=by
    rw[hge _ (by simp at b1 ⊢;omega)];exact getD_in (by simp at b1 ⊢;omega)
   have hle:=m2 _ hin
   obtain⟨j,hj,ej⟩:=List.getElem_of_mem m1
   have hj':j < ns.length+1:=by simpa using hj
   have h3:=b2 j (by simp;omega)
   rw[hge j (by omega)] at h3
   have h4:(n ::ns).getD j 0=ns.foldl max n:=by rw[←ej,List.getD_eq_getElem?_getD,List.getElem?_eq_getElem hj];rfl
   rw[h4] at h3
   congr 1
   omega
  ·cases hg
 ·exact Hm hc pins s σ H B _ d xs us I hb rx rs hg
end
end L2
namespace L3
open PySem PySem.Spec PyProof.Rows L2
noncomputable def vY(S:aU):V3→Option (List D)
 | .d (.lst ds)=>some ds
 | .loc k=>di S k
 | _=>none
theorem Aa{K:PySem.W.Frag}{cl:Nat→Addr}{ρ:P3}{H:Hp}{S:aU}{v:V3}{x:V}{ds:List D}(w:SW K cl ρ H S)(h:vY S v=some ds)(r:bo K ρ H v x):∃a xs,x= .ref a∧qM K [] H a xs∧aF K ρ.b H ds xs:=by
 unfold vY at h
 split at h
 ·cases h
  unfold bo Rep at r
  obtain⟨a,xs,e,l,rs⟩:=r
  exact⟨a,xs,e,l.bq (fun b o e _=>⟨e,by simp⟩),rs⟩
 ·unfold bo at r
  obtain⟨a,a1,rfl⟩:=r
  obtain⟨xs,e,rs⟩:=w.ob _ a _ a1 (fI h)
  exact⟨a,xs,rfl, .inl ⟨by simp, .inl e⟩,rs⟩
 ·cases h
section
variable {X:Cx} {cl:Nat→Addr}
noncomputable def Du(fa fb:FX):FX:=fun δ S=>(fa δ S).bind fun a S1=>(fb δ S1).bind fun b S2=>match vY S2 a,vY S2 b with
 | some ds,some es=>R3.bZ (decide (ds.length+es.length≤sizeLine)) (.ok (.loc S2.length) (S2++[.lst (ds++es)]))
 | _,_=> .no
theorem Bj{a b:Expr}{fa fb:FX}{pos:Pos}(ha:PX X cl a fa)(hb:PX X cl b fb):PX X cl (.BinOp a .Add b pos) (Du fa fb):=⟨(xf xG ha.1 hb.1).imp fun σ H Q ⟨ρ,S,δ,v,S',E,hf,q⟩=>by
 obtain⟨a,S1,h1,h2⟩:=R3.ak hf
 obtain⟨b,S2,h3,h4⟩:=R3.ak h2
 split at h4
 ·rename_i ds es e1 e2'
  obtain⟨hl,h5⟩:=R3.bp h4
  cases h5
  refine⟨ρ,S,δ,a,S1,E,h1,fun u1 ρ1 H1 p1 w1 r1=>⟨ρ1,S1,δ,b,S2,E.to p1 w1,h3,fun u2 ρ2 H2 p2 w2 r2=>?_⟩⟩
  obtain⟨la,xs,rfl,l1,rs1⟩:=Aa w2 e1 (r1.pre p2)
  obtain⟨lb,ys,rfl,l2,rs2⟩:=Aa w2 e2' r2
  refine⟨[],la,lb,xs,ys,rfl,rfl,l1,l2,by rw[←rs1.length,←rs2.length];exact of_decide_eq_true hl,fun p hp=>?_⟩
  obtain⟨w3,p3⟩:=w2.new (a:=p) (o:= .lst (ds++es)) (aY (o:= .lst (xs++ys)) hp) hp ⟨xs++ys,bb,(rs1.append rs2).bq (fun b o e nb=>⟨by rw[bg (cj e hp)];exact e,fun hb=>by
   rcases P3.mem_push hb with z | z
   ·exact nb z
   ·exact cj e hp z⟩)⟩
  exact q _ _ _ (p1.trans (p2.trans p3)) w3 (by unfold bo;exact⟨p,by show(ρ2.r++[p])[_]? =_;rw [←w2.len,List.getElem?_append_right (Nat.le_refl _),Nat.sub_self];rfl,rfl⟩)
 ·cases h4⟩
theorem D1{fa fb:FX}{δ:DE}{S:aU}{Q:V3→aU→Prop}(h:W3 (fa δ S) fun a S1=>W3 (fb δ S1) fun b S2=>∃ds es,vY S2 a=some ds∧vY S2 b=some es∧ds.length+es.length≤sizeLine∧Q (.loc S2.length) (S2++[.lst (ds++es)])):W3 (Du fa fb δ S) Q:=
 W3.bind (h.mono fun _ _ h=>W3.bind (h.mono fun _ _ ⟨ds,es,e1,e2',hl,q⟩=>by
  simp only[e1,e2']
  exact W3.wh (decide_eq_true hl) (W3.ok q)))
noncomputable def Lq(i:Nat):FZ:=fun δ S=>match gB δ i with
 | none=> .no
 | some k=>(match di S k with | some _=> .ok (.nx δ) (S.set k (.lst [])) | none=> .no)
end
end L3
end
section
set_option maxRecDepth 100000
set_option maxHeartbeats 4000000
namespace L3
open PySem PySem.Spec PyProof.Rows L2
noncomputable def kU(S:aU)(c k:Nat):Option (List (Str × V3)):=match S[k]? with | some (.ins c' fs)=>(if c'=c then some fs else none) | _=>none
theorem jZ{S:aU}{c k:Nat}{fs:List (Str × V3)}(h:kU S c k=some fs):S[k]? =some (.ins c fs):=by
 unfold kU at h
 split at h
 ·rename_i c' fs' e
  split at h
  ·rename_i hc;cases h;rw [e,hc]
  ·cases h
 ·cases h
theorem xN{K:PySem.W.Frag}{ρ:P3}{H:Hp}{f:Str}{v:V3}:∀{fs:List (Str × V3)} {ys:List (Str × V)},ys.map (·.1)=fs.map (·.1)→aG K ρ H (fs.map (·.2)) (ys.map (·.2))→fs.lookup f=some v→∃x,ys.lookup f=some x∧bo K ρ H v x
 | [],ys,_,_,h=>by simp at h
 | (g,w) ::fs,[],e,_,_=>by simp at e
 | (g,w) ::fs,(g',y) ::ys,e,r,h=>by
   obtain⟨e1,e2'⟩:=List.cons.inj e
   have e1:g'=g:=e1
   subst e1
   obtain⟨x,xs,ex,r1,r2⟩:=r.cn
   cases ex
   rw[List.lookup_cons] at h ⊢
   cases hq:f==g' with
   | true=>rw [hq] at h;cases h;exact⟨y,rfl,r1⟩
   | false=>rw [hq] at h;exact xN e2' r2 h
theorem uh{f:Str}:∀{fs:List (Str × V3)} {ys:List (Str × V)},ys.map (·.1)=fs.map (·.1)→fs.lookup f=none→ys.lookup f=none
 | [],[],_,_=>rfl
 | [],_ ::_,e,_=>by simp at e
 | _ ::_,[],e,_=>by simp at e
 | (g,w) ::fs,(g',y) ::ys,e,h=>by
   obtain⟨e1,e2'⟩:=List.cons.inj e
   have e1:g'=g:=e1
   subst e1
   rw[List.lookup_cons] at h ⊢
   cases hq:f==g' with
   | true=>rw [hq] at h;cases h
   | false=>rw [hq] at h;exact uh e2' h
noncomputable def t9(f:Str)(v:V3):List (Str × V3)→List (Str × V3)
 | []=>[(f,v)]
 | (g,x) ::r=>if g=f then(g,v) ::r else(g,x) ::t9 f v r
theorem xr{K:PySem.W.Frag}{ρ:P3}{H:Hp}{f:Str}{v:V3}{u:V}(rv:bo K ρ H v u):∀{fs:List (Str × V3)} {ys:List (Str × V)},ys.map (·.1)=fs.map (·.1)→aG K ρ H (fs.map (·.2)) (ys.map (·.2))→
 (ju f u ys).map (·.1)=(t9 f v fs).map (·.1)∧aG K ρ H ((t9 f v fs).map (·.2)) ((ju f u ys).map (·.2))
 | [],[],_,_=>⟨rfl,aG.cons rv aG.nil⟩
 | [],_ ::_,e,_=>by simp at e
 | _ ::_,[],e,_=>by simp at e
 | (g,w) ::fs,(g',y) ::ys,e,r=>by
   obtain⟨e1,e2'⟩:=List.cons.inj e
   have e1:g'=g:=e1
   subst e1
   obtain⟨x,xs,ex,r1,r2⟩:=r.cn
   cases ex
   unfold t9 ju
   by_cases hg:g'=f
   ·rw[if_pos hg,if_pos hg]
    exact⟨by rw[List.map_cons,List.map_cons,e2'],aG.cons rv r2⟩
   ·rw[if_neg hg,if_neg hg]
    obtain⟨h1,h2⟩:=xr rv e2' r2
    exact⟨by rw[List.map_cons,List.map_cons,h1],aG.cons r1 h2⟩
section
variable {X:Cx} {cl:Nat→Addr}
noncomputable def mW(c:Nat)(f:Str)(g:FX):FX:=fun δ S=>(g δ S).bind fun v S1=>match v with
 | .loc k=>(match kU S1 c k with | some fs=>(match fs.lookup f with | some v=> .ok v S1 | none=> .no) | none=> .no)
 | _=> .no
theorem hX{c:Nat}{e:Expr}{f:Str}{g:FX}{pos:Pos}(hC:tS X.K (cl c))(hn:dh X.K (cl c) f)(he:PX X cl e g)(hb:attributeBase e f X.env (eval e X.env)=eval e X.env:=by rfl):PX X cl (.Attribute e f pos) (mW c f g):=⟨(Fp he.1 hb).imp fun σ H Q ⟨ρ,S,δ,v,S',E,hf,q⟩=>by
 obtain⟨o,S1,h1,h2⟩:=R3.ak hf
 split at h2
 ·rename_i k
  split at h2
  ·rename_i fs e1
   split at h2
   ·rename_i w e2'
    cases h2
    refine⟨ρ,S,δ, .loc k,_,E,h1,fun u ρ1 H1 p1 w1 r1=>?_⟩
    unfold bo at r1
    obtain⟨a,a1,rfl⟩:=r1
    obtain⟨dx,ys,ey,ek,rs⟩:=w1.ob k a _ a1 (jZ e1)
    obtain⟨x,hx,rx⟩:=xN ek rs e2'
    exact⟨a,cl c,dx,ys,x,rfl,ey,hC,hn,hx,q x ρ1 H1 p1 w1 rx⟩
   ·cases h2
  ·cases h2
 ·cases h2⟩
theorem w_fld{c k:Nat}{f:Str}{g:FX}{δ:DE}{S:aU}{Q:V3→aU→Prop}(h:W3 (g δ S) fun v S1=>∃fs w,v= .loc k∧S1[k]? =some (.ins c fs)∧fs.lookup f=some w∧Q w S1):W3 (mW c f g δ S) Q:=
 W3.bind (h.mono fun v S1 ⟨fs,w,e1,e2',e3,q⟩=>by
  subst e1
  have e4:kU S1 c k=some fs:=by unfold kU;simp only[e2',if_true]
  simp only[e4,e3]
  exact W3.ok q)
noncomputable def fw(P:Program)(w:World)(K:PySem.W.Frag)(mg:Str→Option Value)(base:Heap)(cl:Nat→Addr)(k c:Nat)(m:Str)(n:Nat)(g:List V3→aU→R3 V3):Prop:=
 ∃(f:Addr) (fd:FuncData) (ps:List Str),tS K (cl c)∧Meth K (cl c) m f∧ip P w K mg base qO k f fd ps (zu K cl (n+1) g)∧Binds K fd ps []
noncomputable def mP(c:Nat)(m:Str)(g:List V3→aU→R3 V3)(fo:FX)(fs:FA):FX:=fun δ S=>(fo δ S).bind fun o S1=>match o with
 | .loc k=>(match kU S1 c k with | some ys=>(match ys.lookup m with | none=>(fs δ S1).bind fun vs S2=>g (.loc k ::vs) S2 | some _=> .no) | none=> .no)
 | _=> .no
theorem j4{g:List V3→aU→R3 V3}{k j n c:Nat}{m:Str}{o e:Expr}{es:List Expr}{fo:FX}{fs:FA}{apos pos:Pos}{pl:Sem Bool}(M:fw X.prog X.w X.K X.mg X.base cl k c m n g)(hr:eB j X.A)(hkj:k≤j)(ho:PX X cl o fo)(ha:BY X cl (e ::es) fs)(hn:∀δ S ds S',fs δ S= .ok ds S'→ds.length=n)
 (hst:starEach (e ::es) X.env=(false,eval e X.env) ::starEach es X.env:=by rfl) (hpl:(backTo pos (starEach es X.env)).any (·.1)=false:=by rfl)
 (ht:eval (.Call (.Attribute o m apos) (e ::es) [] pos) X.env=(do
   let ov ←eval o X.env
   standAt apos.atName
   let(f,first) ←holding [ov] (getMethod ov m pl)
   callWith pos f first (backTo pos (starEach (e ::es) X.env)) (backToKw pos (keywordEach [] X.env))):=by rfl) :
 PX X cl (.Call (.Attribute o m apos) (e ::es) [] pos) (mP c m g fo fs):=by
 obtain⟨f,fd,ps,hC,hm,F,hb⟩:=M
 refine⟨(Co ho.1 hC hm F (hr.mono hkj) hb .nil vq ha.1 hst hpl ht).imp fun σ H Q ⟨ρ,S,δ,v,S',E,hf,q⟩=>?_⟩
 obtain⟨ov,S1,h1,h2⟩:=R3.ak hf
 split at h2
 ·rename_i kk
  split at h2
  ·rename_i ys e1
   split at h2
   ·rename_i e2'
    obtain⟨vs,S2,h3,h4⟩:=R3.ak h2
    refine⟨ρ,S,δ, .loc kk,S1,E,h1,fun u ρ1 H1 p1 w1 r1=>?_⟩
    have r1':=r1
    unfold bo at r1
    obtain⟨a,a1,rfl⟩:=r1
    obtain⟨dx,zs,ey,ek,rs⟩:=w1.ob kk a _ a1 (jZ e1)
    refine⟨a,dx,zs,rfl,ey,uh ek e2',ρ1,S1,δ,vs,S2,E.to p1 w1,h3,fun us ρ2 H2 p2 w2 r2=>?_⟩
    show zu X.K cl (n+1) g (V.ref a ::(us++[])) H2 Q E0
    rw[List.append_nil]
    exact⟨by rw[List.length_cons,←r2.length,hn δ S1 vs S2 h3],ρ2,S2, .loc kk ::vs,v,S',w2,aG.cons (r1'.pre p2) r2,h4,fun z ρ3 H3 p3 w3 r3=>q z ρ3 H3 (p1.trans (p2.trans p3)) w3 r3⟩
   ·cases h2
  ·cases h2
 ·cases h2
noncomputable def qj(P:Program)(w:World)(K:PySem.W.Frag)(mg:Str→Option Value)(base:Heap)(cl:Nat→Addr)(k c:Nat)(x:Str)(n:Nat)(g:List V3→aU→R3 V3):Prop:=
 ∃(f:Addr) (fd:FuncData) (ps:List Str),Mk K (cl c) f∧ip P w K mg base qO k f fd ps (zu K cl (n+1) g)∧mg x=some (.ref (cl c))∧Binds K fd ps []
noncomputable def xE(c:Nat)(g:List V3→aU→R3 V3)(fs:FA):FX:=fun δ S=>(fs δ S).bind fun vs S1=>(g (.loc S1.length ::vs) (S1++[.ins c []])).bind fun v S2=>match v with
 | .d .cq=> .ok (.loc S1.length) S2
 | _=> .no
theorem wV{g:List V3→aU→R3 V3}{k j n c:Nat}{x:Str}{p pos:Pos}{e:Expr}{es:List Expr}{fs:FA}(M:qj X.prog X.w X.K X.mg X.base cl k c x n g)(hr:eB j X.A)(hkj:k+1≤j)(hg:Gl X x)(ha:BY X cl (e ::es) fs)(hn:∀δ S ds S',fs δ S= .ok ds S'→ds.length=n)
 (hdb:(x==("__debug__":Str))=false:=by decide) (he:starEach (e ::es) X.env=(false,eval e X.env) ::starEach es X.env:=by rfl) (hpl:(backTo pos (starEach es X.env)).any (·.1)=false:=by rfl) :
 PX X cl (.Call (.Name x p) (e ::es) [] pos) (xE c g fs):=by
 obtain⟨f,fd,ps,M,F,hm,hb⟩:=M
 refine⟨(Di M F (hr.mono hkj) hg hm hb .nil vq ha.1 hdb he hpl).imp fun σ H Q ⟨ρ,S,δ,v,S',E,hf,q⟩=>?_⟩
 obtain⟨vs,S1,h1,h2⟩:=R3.ak hf
 obtain⟨v0,S2,h3,h4⟩:=R3.ak h2
 split at h4
 ·cases h4
  refine⟨ρ,S,δ,vs,S1,E,h1,fun us ρ1 H1 p1 w1 r1 xa dx hx hdx hne=>?_⟩
  have hx1:upd H1 dx (.own xa) xa=none:=by rw[bg (fun z=>hne z.symm)];exact hx
  have sm:aW H1 (upd (upd H1 dx (.own xa)) xa (.ins (cl c) dx [])):=(aY hdx).trans (aY hx1)
  obtain⟨w2,p2⟩:=w1.new (a:=xa) (o:= .ins c []) sm hx ⟨dx,[],bb,rfl,aG.nil⟩
  show zu X.K cl (n+1) g (V.ref xa ::(us++[])) _ _ E0
  rw[List.append_nil]
  have rl:bo X.K (ρ1.push xa) (upd (upd H1 dx (.own xa)) xa (.ins (cl c) dx [])) (.loc S1.length) (.ref xa):=by
   unfold bo
   exact⟨xa,by show(ρ1.r++[xa])[_]? =_;rw [←w1.len,List.getElem?_append_right (Nat.le_refl _),Nat.sub_self];rfl,rfl⟩
  exact⟨by rw[List.length_cons,←r1.length,hn δ S vs S1 h1],_,_, .loc S1.length ::vs, .d .cq,_,w2,aG.cons rl (r1.pre p2),h3,fun z ρ3 H3 p3 w3 r3=>⟨by unfold bo Rep at r3;exact r3,q _ ρ3 H3 (p1.trans (p2.trans p3)) w3 (rl.pre p3)⟩⟩
 ·cases h4
noncomputable def sU(c:Nat)(f:Str)(fo fe:FX):FZ:=fun δ S=>(fe δ S).bind fun v S1=>(fo δ S1).bind fun o S2=>match o with
 | .loc k=>(match kU S2 c k with | some fs=>R3.bZ (decide (fs.length < 1000)) (.ok (.nx δ) (S2.set k (.ins c (t9 f v fs)))) | none=> .no)
 | _=> .no
theorem ml{c:Nat}{o value:Expr}{f:Str}{fo fe:FX}{pos pos':Pos}(hC:tS X.K (cl c))(hn:dh X.K (cl c) f)(ho:PX X cl o fo)(he:PX X cl value fe)(hs:swapsWith value (some (.Attribute o f pos')) pos.line X.env=pure false:=by rfl) :
 PZ X cl (.Assign [.Attribute o f pos'] value pos) (sU c f fo fe):=⟨(EJ ho.1 he.1 hs).imp fun D σ H ⟨ρ,S,δ,ou,S',E,hf,q⟩=>by
 obtain⟨v,S1,h1,h2⟩:=R3.ak hf
 obtain⟨vo,S2,h3,h4⟩:=R3.ak h2
 split at h4
 ·rename_i k
  split at h4
  ·rename_i fs e1
   obtain⟨hl,h5⟩:=R3.bp h4
   cases h5
   refine⟨ρ,S,δ,v,S1,E,h1,fun u ρ1 H1 p1 w1 r1=>⟨ρ1,S1,δ, .loc k,S2,E.to p1 w1,h3,fun u2 ρ2 H2 p2 w2 r2=>?_⟩⟩
   unfold bo at r2
   obtain⟨a,a1,rfl⟩:=r2
   obtain⟨dx,ys,ey,ek,rs⟩:=w2.ob k a _ a1 (jZ e1)
   have hlen:ys.length=fs.length:=by have:=congrArg List.length ek;simpa using this
   obtain⟨k1,k2⟩:=xr (f:=f) (r1.pre p2) ek rs
   obtain⟨w3,p3⟩:=w2.put (o:= .ins c (t9 f v fs)) (u:= .ins (cl c) dx (ju f u ys)) a1 (w2.fz k a a1 (by rw[jZ e1];intro h;cases h)) ⟨dx,_,rfl,k1,k2⟩
   exact⟨a,cl c,dx,ys,rfl,ey,hC,hn,by rw[hlen];exact of_decide_eq_true hl,q σ ρ2 _ (p1.trans (p2.trans p3)) (E.to (p1.trans (p2.trans p3)) w3)⟩
  ·cases h4
 ·cases h4⟩
theorem iJ{c k:Nat}{f:Str}{fo fe:FX}{δ:DE}{S:aU}{QO:Ou→aU→Prop}(h:W3 (fe δ S) fun v S1=>W3 (fo δ S1) fun o S2=>∃fs,o= .loc k∧S2[k]? =some (.ins c fs)∧fs.length < 1000∧QO (.nx δ) (S2.set k (.ins c (t9 f v fs)))):W3 (sU c f fo fe δ S) QO:=
 W3.bind (h.mono fun v S1 h=>W3.bind (h.mono fun o S2 ⟨fs,e1,e2',hl,q⟩=>by
  subst e1
  have e4:kU S2 c k=some fs:=by unfold kU;simp only[e2',if_true]
  simp only[e4]
  exact W3.wh (decide_eq_true hl) (W3.ok q)))
theorem lU{c k:Nat}{m:Str}{g:List V3→aU→R3 V3}{fo:FX}{fs:FA}{δ:DE}{S:aU}{Q:V3→aU→Prop}(h:W3 (fo δ S) fun o S1=>∃ys,o= .loc k∧S1[k]? =some (.ins c ys)∧ys.lookup m=none∧W3 (fs δ S1) fun vs S2=>W3 (g (.loc k ::vs) S2) Q):W3 (mP c m g fo fs δ S) Q:=
 W3.bind (h.mono fun o S1 ⟨ys,e1,e2',e3,h⟩=>by
  subst e1
  have e4:kU S1 c k=some ys:=by unfold kU;simp only[e2',if_true]
  simp only[e4,e3]
  exact W3.bind h)
theorem zR{c:Nat}{g:List V3→aU→R3 V3}{fs:FA}{δ:DE}{S:aU}{Q:V3→aU→Prop}(h:W3 (fs δ S) fun vs S1=>W3 (g (.loc S1.length ::vs) (S1++[.ins c []])) fun v S2=>v= .d .cq∧Q (.loc S1.length) S2):W3 (xE c g fs δ S) Q:=
 W3.bind (h.mono fun vs S1 h=>W3.bind (h.mono fun v S2 ⟨e,q⟩=>by subst e;exact W3.ok q))
end
end L3
end
section
set_option maxRecDepth 100000
set_option maxHeartbeats 4000000
namespace PySem
open Sem (wp)
noncomputable def fZ(t:Bool)(h:Heap)(i l:Addr)(k:Nat):Prop:=cond t (h.IsTupleIter i l k) (h.IsListIter i l k)
noncomputable def i3(t:Bool)(h:Heap)(l:Addr)(xs:Array Value):Prop:=cond t (h.IsTuple l xs) (h.IsList l xs)
noncomputable def qi(t:Bool):String:=cond t "tuple_iterator" "list_iterator"
theorem fZ.at{t:Bool}{h h':Heap}{i l:Addr}{k:Nat}(x:fZ t h i l k)(e:∀o,h.get? i=some o→h'.get? i=some o):fZ t h' i l k:=by
 cases t with
 | true=>exact Heap.IsTupleIter.at x e
 | false=>exact Heap.IsListIter.at x e
theorem i3.at{t:Bool}{h h':Heap}{l:Addr}{xs:Array Value}(x:i3 t h l xs)(e:∀o,h.get? l=some o→h'.get? l=some o):i3 t h' l xs:=by
 cases t with
 | true=>exact Heap.IsTuple.at x e
 | false=>exact Heap.IsList.at x e
theorem fZ.xb{t:Bool}{h h':Heap}{i l b:Addr}{k:Nat}(x:fZ t h i l k)(hs:Heap.ExtBut b h h')(hab:i≠b):fZ t h' i l k:=x.at fun o e=>hs i o hab e
theorem i3.xb{t:Bool}{h h':Heap}{l b:Addr}{xs:Array Value}(x:i3 t h l xs)(hs:Heap.ExtBut b h h')(hab:l≠b):i3 t h' l xs:=x.at fun o e=>hs l o hab e
theorem fZ.ob{t:Bool}{h:Heap}{i l:Addr}{k:Nat}(x:fZ t h i l k):∃o,h.get? i=some o∧∀v,o.data≠ .cell v:=by
 cases t with
 | true=>obtain⟨o,e,_,d⟩:=x;exact⟨o,e,fun v z=>by rw[d] at z;cases z⟩
 | false=>obtain⟨o,e,_,d⟩:=x;exact⟨o,e,fun v z=>by rw[d] at z;cases z⟩
theorem i3.lt{t:Bool}{h:Heap}{l:Addr}{xs:Array Value}(x:i3 t h l xs):l < h.objs.size:=by
 cases t with
 | true=>obtain⟨o,e,_⟩:=x;exact Heap.lt_size e
 | false=>obtain⟨o,e,_⟩:=x;exact Heap.lt_size e
theorem fZ.lt{t:Bool}{h:Heap}{i l:Addr}{k:Nat}(x:fZ t h i l k):i < h.objs.size:=let⟨_,e,_⟩:=x.ob;Heap.lt_size e
section
variable {prog:Program} {w:World} {A:Around} {E:Value→Shared→Prop} {s:Shared}
theorem iV{t:Bool}{it l:Addr}{i:Nat}{items:Array Value}{x:Value}{Q:Value→Shared→Prop}(hit:fZ t s.heap it l i)(hl:i3 t s.heap l items)(hx:items[i]? =some x)
 (hQ:∀h',fZ t h' it l (i+1)→Heap.SameBut it s.heap h'→Q x {s with heap:=h'}):wpAny (model prog w) A (Builtin.SmallTypes.nextOf (.ref it)) Q E s:=by
 cases t with
 | true=>exact km hit hl hx hQ
 | false=>exact wpAny_nextOf_list_item hit hl hx hQ
theorem lI{t:Bool}{it l:Addr}{i:Nat}{items:Array Value}{Q:Value→Shared→Prop}(hh:A.handled=none)(hit:fZ t s.heap it l i)(hl:i3 t s.heap l items)(hx:items[i]? =none)
 (hE:∀h' e,Heap.ExtBut it s.heap h'→(∃o,h'.get? e=some o∧o.cls= .type "StopIteration")→E (.ref e) {s with heap:=h'}):wpAny (model prog w) A (Builtin.SmallTypes.nextOf (.ref it)) Q E s:=by
 cases t with
 | true=>exact iU hh hit hl hx hE
 | false=>exact wpAny_nextOf_list_end hh hit hl hx hE
theorem rY{t:Bool}{l:Addr}{items:Array Value}{Q:Value→Shared→Prop}(hl:i3 t s.heap l items)
 (hQ:Q (.ref s.heap.objs.size) {s with heap:=s.heap.push {cls:= .type (qi t),data:= .fields #[.ref l, .int 0 0]}}):wpAny (model prog w) A (pyIter (.ref l)) Q E s:=by
 cases t with
 | true=>exact wpAny_pyIter_tuple hl hQ
 | false=>exact wpAny_pyIter_list hl hQ
theorem yq{t u:Bool}{z TI TO i1 i2 l1 l2:Addr}{k1 k2:Nat}{xs ys:Array Value}{x y a b:Value}{Q:Value→Shared→Prop}(D:ZipApart z TI TO i1 i2 l1 l2)(hz:IsZip s.heap z TI TO .none)(hTI:IsPair s.heap TI (.ref i1) (.ref i2))
 (hTO:IsPair s.heap TO a b) (h1:fZ t s.heap i1 l1 k1) (h2:fZ u s.heap i2 l2 k2) (hl1:i3 t s.heap l1 xs) (hl2:i3 u s.heap l2 ys) (hx:xs[k1]? =some x) (hy:ys[k2]? =some y)
 (hQ:∀h',IsZip h' z TI TO (rawInt s.heap.objs.size)→IsPair h' TO x y→fZ t h' i1 l1 (k1+1)→fZ u h' i2 l2 (k2+1)→IsPair h' s.heap.objs.size x y→h'.objs.size=s.heap.objs.size+1→(∀c o,c≠z→c≠TO→c≠i1→c≠i2→s.heap.get? c=some o→h'.get? c=some o)→Q (.ref s.heap.objs.size) {s with heap:=h'}) :
 wpAny (model prog w) A (Builtin.«zip.__next__» ⟨[.ref z],[]⟩) (fun fin s'=>∃v,fin= .done (.ret v)∧Q v s') E s:=by
 show wpAny _ _ (field (.ref z) 2 >>=_) _ _ _;refine wpAny_bind (wpAny_field hz rfl (x:= .bool false) rfl ?_);show wpAny _ _ (field (.ref z) 3 >>=_) _ _ _
 refine wpAny_bind (wpAny_field hz rfl (x:= .ref TI) rfl ?_);refine wpAny_bind (wpAny_seqItems hTI rfl ?_);show wpAny _ _ (Builtin.SmallTypes.ownedTupleIsFree (.ref z) >>=_) _ _ _
 refine wpAny_bind ?_;unfold Builtin.SmallTypes.ownedTupleIsFree;refine wpAny_bind (wpAny_field hz rfl (x:= .none) rfl (wpAny_pure ?_));simp only[if_true]
 refine wpAny_bind (wpAny_rule ?_);refine wpAny_bind (wpAny_field hz rfl (x:= .ref TO) rfl ?_);refine wpAny_bind (wpAny_setField_rec hz (by simp) fun h₁ hz₁ hs₁=>?_)
 replace hz₁:IsZip h₁ z TI TO .ellipsis:=hz₁;refine wpAny_bind ?_;simp only[List.zipIdx_cons,List.zipIdx_nil,List.forIn_cons,List.forIn_nil]
 refine wpAny_bind (wpAny_bind (wpAny_onRaise ?_));show wpAny _ _ (Builtin.SmallTypes.nextOf (.ref i1) >>=_) _ _ _
 refine wpAny_bind (iV (h1.xb hs₁.extBut D.i1z) (hl1.xb hs₁.extBut D.l1z) hx fun h₂ h1₂ hs₂=>wpAny_pure ?_)
 have hTO₂:IsPair h₂ TO a b:=hs₂.extBut _ _ D.TOi1 (hs₁.extBut _ _ D.TOz hTO);refine wpAny_bind (wpAny_seqItems hTO₂ rfl ?_);refine wpAny_bind (wpAny_updateSeq_pair hTO₂ fun h₃ hTO₃ hs₃=>?_)
 replace hTO₃:IsPair h₃ TO x b:=hTO₃;refine wpAny_bind (wpAny_letGo (wpAny_pure ?_));refine wpAny_bind (wpAny_bind (wpAny_onRaise ?_));show wpAny _ _ (Builtin.SmallTypes.nextOf (.ref i2) >>=_) _ _ _
 refine wpAny_bind (iV (((h2.xb hs₁.extBut D.i2z).xb hs₂.extBut D.i12.symm).xb hs₃.extBut D.TOi2.symm) (((hl2.xb hs₁.extBut D.l2z).xb hs₂.extBut D.l2i1).xb hs₃.extBut D.l2TO) hy fun h₄ h2₄ hs₄=>wpAny_pure ?_)
 have hTO₄:IsPair h₄ TO x b:=hs₄.extBut _ _ D.TOi2 hTO₃;refine wpAny_bind (wpAny_seqItems hTO₄ rfl ?_);refine wpAny_bind (wpAny_updateSeq_pair hTO₄ fun h₅ hTO₅ hs₅=>?_)
 replace hTO₅:IsPair h₅ TO x y:=hTO₅;refine wpAny_bind (wpAny_letGo (wpAny_pure (wpAny_pure ?_)));refine wpAny_bind (wpAny_seqItems hTO₅ rfl ?_);refine wpAny_bind (wpAny_newTuple ?_)
 have hsz:h₅.objs.size=s.heap.objs.size:=(hs₅.1.trans (hs₄.1.trans (hs₃.1.trans (hs₂.1.trans hs₁.1))))
 have hz₅:IsZip h₅ z TI TO .ellipsis:=hs₅.extBut _ _ D.TOz.symm <| hs₄.extBut _ _ D.i2z.symm <| hs₃.extBut _ _ D.TOz.symm <| hs₂.extBut _ _ D.i1z.symm hz₁
 have hk₅:∀c o,c≠z→c≠TO→c≠i1→c≠i2→s.heap.get? c=some o→h₅.get? c=some o:=fun c o c1 c2 c3 c4 e=>hs₅.extBut _ _ c2 <| hs₄.extBut _ _ c4 <| hs₃.extBut _ _ c2 <| hs₂.extBut _ _ c3 <| hs₁.extBut _ _ c1 e
 have h1₅:fZ t h₅ i1 l1 (k1+1):=((h1₂.xb hs₃.extBut D.TOi1.symm).xb hs₄.extBut D.i12).xb hs₅.extBut D.TOi1.symm
 have h2₅:fZ u h₅ i2 l2 (k2+1):=h2₄.xb hs₅.extBut D.TOi2.symm
 have hzlt:=Heap.lt_size hz₅
 show wpAny _ _ (Builtin.SmallTypes.ownedTupleHandOut (.ref z) (.ref h₅.objs.size) >>=_) _ _ _;refine wpAny_bind ?_;unfold Builtin.SmallTypes.ownedTupleHandOut
 have hz₆:IsZip (h₅.push {cls:= .type "tuple",data:= .seq #[x,y]}) z TI TO .ellipsis:=Heap.get?_push_of_some _ hz₅;refine wpAny_bind (wpAny_setField_rec hz₆ (by simp) fun h₇ hz₇ hs₇=>?_)
 replace hz₇:IsZip h₇ z TI TO (rawInt h₅.objs.size):=hz₇;refine wpAny_setField_rec hz₇ (by simp) fun h₈ hz₈ hs₈=>?_;replace hz₈:IsZip h₈ z TI TO (rawInt h₅.objs.size):=hz₈
 have up:∀c o,c≠z→h₅.get? c=some o→h₈.get? c=some o:=fun c o c1 e=>hs₈.extBut _ _ c1 <| hs₇.extBut _ _ c1 (Heap.get?_push_of_some _ e)
 have hT₈:IsPair h₈ h₅.objs.size x y:=hs₈.extBut _ _ (Nat.ne_of_gt hzlt) <| hs₇.extBut _ _ (Nat.ne_of_gt hzlt) (Heap.get?_push_size _ rfl)
 have hz8:h₈.objs.size=h₅.objs.size+1:=(hs₈.1.trans hs₇.1).trans (Heap.size_push ..)
 rw[hsz] at hz₈ hT₈ hz8;refine wpAny_pure ⟨_,rfl,?_⟩;show Q (.ref h₅.objs.size) _;rw [hsz]
 exact hQ h₈ hz₈ (up _ _ D.TOz hTO₅) (h1₅.at fun o e=>up _ o D.i1z e) (h2₅.at fun o e=>up _ o D.i2z e) hT₈ hz8 fun c o c1 c2 c3 c4 e=>up c o c1 (hk₅ c o c1 c2 c3 c4 e)
theorem Aj{t u:Bool}{z TI TO i1 i2 l1 l2:Addr}{k1 k2:Nat}{xs ys:Array Value}{a b:Value}{Q:Fin→Shared→Prop}(hh:A.handled=none)(D:ZipApart z TI TO i1 i2 l1 l2)(hz:IsZip s.heap z TI TO .none)
 (hTI:IsPair s.heap TI (.ref i1) (.ref i2)) (hTO:IsPair s.heap TO a b) (h1:fZ t s.heap i1 l1 k1) (h2:fZ u s.heap i2 l2 k2) (hl1:i3 t s.heap l1 xs) (hl2:i3 u s.heap l2 ys) (hend:xs[k1]? =none∨ys[k2]? =none)
 (hE:∀h' e,(∀c o,c≠z→c≠TO→c≠i1→c≠i2→s.heap.get? c=some o→h'.get? c=some o)→(∃o,h'.get? e=some o∧o.cls= .type "StopIteration")→E (.ref e) {s with heap:=h'}):wpAny (model prog w) A (Builtin.«zip.__next__» ⟨[.ref z],[]⟩) Q E s:=by
 show wpAny _ _ (field (.ref z) 2 >>=_) _ _ _;refine wpAny_bind (wpAny_field hz rfl (x:= .bool false) rfl ?_);show wpAny _ _ (field (.ref z) 3 >>=_) _ _ _
 refine wpAny_bind (wpAny_field hz rfl (x:= .ref TI) rfl ?_);refine wpAny_bind (wpAny_seqItems hTI rfl ?_);show wpAny _ _ (Builtin.SmallTypes.ownedTupleIsFree (.ref z) >>=_) _ _ _
 refine wpAny_bind ?_;unfold Builtin.SmallTypes.ownedTupleIsFree;refine wpAny_bind (wpAny_field hz rfl (x:= .none) rfl (wpAny_pure ?_));simp only[if_true]
 refine wpAny_bind (wpAny_rule ?_);refine wpAny_bind (wpAny_field hz rfl (x:= .ref TO) rfl ?_);refine wpAny_bind (wpAny_setField_rec hz (by simp) fun h₁ hz₁ hs₁=>?_)
 replace hz₁:IsZip h₁ z TI TO .ellipsis:=hz₁;refine wpAny_bind ?_;simp only[List.zipIdx_cons,List.zipIdx_nil,List.forIn_cons,List.forIn_nil]
 refine wpAny_bind (wpAny_bind (wpAny_onRaise ?_));show wpAny _ _ (Builtin.SmallTypes.nextOf (.ref i1) >>=_) _ _ _
 cases hx:xs[k1]? with
 | none=>
   refine wpAny_bind (lI hh (h1.xb hs₁.extBut D.i1z) (hl1.xb hs₁.extBut D.l1z) hx fun h₂ e hs₂ he=>?_)
   obtain⟨oe,hoe,hce⟩:=he;have hz₂:IsZip h₂ z TI TO .ellipsis:=hs₂ _ _ D.i1z.symm hz₁
   have hez:e≠z:=fun x=>by {subst x;rw [hz₂] at hoe;cases hoe;simp at hce}
   exact wpAny_setField_rec hz₂ (by simp) fun h₃ _ hs₃=>hE h₃ e (fun c o c1 _ c3 _ x=>hs₃.extBut _ _ c1 <| hs₂ _ _ c3 <| hs₁.extBut _ _ c1 x) ⟨oe,hs₃.extBut _ _ hez hoe,hce⟩
 | some x=>
   have hy:ys[k2]? =none:=hend.resolve_left fun h=>by {rw [hx] at h;cases h}
   refine wpAny_bind (iV (h1.xb hs₁.extBut D.i1z) (hl1.xb hs₁.extBut D.l1z) hx fun h₂ h1₂ hs₂=>wpAny_pure ?_)
   have hTO₂:IsPair h₂ TO a b:=hs₂.extBut _ _ D.TOi1 (hs₁.extBut _ _ D.TOz hTO);refine wpAny_bind (wpAny_seqItems hTO₂ rfl ?_);refine wpAny_bind (wpAny_updateSeq_pair hTO₂ fun h₃ hTO₃ hs₃=>?_)
   refine wpAny_bind (wpAny_letGo (wpAny_pure ?_));refine wpAny_bind (wpAny_bind (wpAny_onRaise ?_));show wpAny _ _ (Builtin.SmallTypes.nextOf (.ref i2) >>=_) _ _ _
   refine wpAny_bind (lI hh (((h2.xb hs₁.extBut D.i2z).xb hs₂.extBut D.i12.symm).xb hs₃.extBut D.TOi2.symm) (((hl2.xb hs₁.extBut D.l2z).xb hs₂.extBut D.l2i1).xb hs₃.extBut D.l2TO) hy fun h₄ e hs₄ he=>?_)
   obtain⟨oe,hoe,hce⟩:=he;have hz₄:IsZip h₄ z TI TO .ellipsis:=hs₄ _ _ D.i2z.symm <| hs₃.extBut _ _ D.TOz.symm <| hs₂.extBut _ _ D.i1z.symm hz₁
   have hez:e≠z:=fun x=>by {subst x;rw [hz₄] at hoe;cases hoe;simp at hce}
   exact wpAny_setField_rec hz₄ (by simp) fun h₅ _ hs₅=>hE h₅ e (fun c o c1 c2 c3 c4 x=>hs₅.extBut _ _ c1 <| hs₄ _ _ c4 <| hs₃.extBut _ _ c2 <| hs₂.extBut _ _ c3 <| hs₁.extBut _ _ c1 x) ⟨oe,hs₅.extBut _ _ hez hoe,hce⟩
end
noncomputable abbrev Iw(t:Bool)(h:Heap)(l1:Addr):Heap:=h.push {cls:= .type (qi t),data:= .fields #[.ref l1, .int 0 0]}
noncomputable abbrev Ij(t u:Bool)(h:Heap)(l1 l2:Addr):Heap:=(Iw t h l1).push {cls:= .type (qi u),data:= .fields #[.ref l2, .int 0 0]}
noncomputable abbrev Iq(t u:Bool)(h:Heap)(l1 l2:Addr):Heap:=(Ij t u h l1 l2).push {cls:= .type "tuple",data:= .seq #[.ref h.objs.size, .ref (Iw t h l1).objs.size]}
noncomputable abbrev IA(t u:Bool)(h:Heap)(l1 l2:Addr):Heap:=(Iq t u h l1 l2).push {cls:= .type "tuple",data:= .seq #[.none, .none]}
noncomputable abbrev GL(t u:Bool)(h:Heap)(l1 l2:Addr):Heap:=(IA t u h l1 l2).push {cls:= .type "zip",data:= .fields #[.none, .bool false, .bool false, .ref (Ij t u h l1 l2).objs.size, .ref (Iq t u h l1 l2).objs.size]}
theorem wk(t u:Bool)(l1 l2:Addr)(xs ys:Array Value):Meets (Builtin.«zip.__new__» ⟨[.type "zip", .ref l1, .ref l2],[]⟩) (fun _ R s=>i3 t s.heap l1 xs∧i3 u s.heap l2 ys∧R (.ok (.ret (.ref (IA t u s.heap l1 l2).objs.size))) {s with heap:=GL t u s.heap l1 l2}):=
 .of_wp fun prog w A R s h=>by
  obtain⟨hp,g,d,tk,os⟩:=s
  obtain⟨hl1,hl2,h⟩:=h;have hsub:=sub_zip
  have hL1:i3 t (Shared.heap ⟨hp,g,d,tk,os⟩) l1 xs:=hl1
  have hL2:i3 u (Shared.heap ⟨hp.push {cls:= .type (qi t),data:= .fields #[.ref l1, .int 0 0]},g,d,tk,os⟩) l2 ys:=hl2.at fun o e=>Heap.get?_push_of_some _ e
  wp_walk using rY hL1,rY hL2
  exact⟨_,rfl,h⟩
theorem fZ.new{t:Bool}{h:Heap}{i l:Addr}(e:h.get? i=some {cls:= .type (qi t),data:= .fields #[.ref l, .int 0 0]}):fZ t h i l 0:=by
 cases t with
 | true=>exact⟨_,e,rfl,rfl⟩
 | false=>exact⟨_,e,rfl,rfl⟩
theorem yS{prog:Program}{w:World}{A:Around}{E:Value→Shared→Prop}{s:Shared}{t u:Bool}{l1 l2:Addr}{xs ys:Array Value}{Q:Value→Shared→Prop}(hl1:i3 t s.heap l1 xs)(hl2:i3 u s.heap l2 ys)
 (h:∀h',IsZip h' (s.heap.objs.size+4) (s.heap.objs.size+2) (s.heap.objs.size+3) .none→IsPair h' (s.heap.objs.size+2) (.ref s.heap.objs.size) (.ref (s.heap.objs.size+1))→IsPair h' (s.heap.objs.size+3) .none .none→
   fZ t h' s.heap.objs.size l1 0→fZ u h' (s.heap.objs.size+1) l2 0→(∀c o,s.heap.get? c=some o→h'.get? c=some o)→Q (.ref (s.heap.objs.size+4)) {s with heap:=h'}):wpAny (model prog w) A (call (.type "zip") [.ref l1, .ref l2]) Q E s:=by
 refine callType_new F.called_zip (by decide) (F.typeCall_zip_2 _ _) (F.newCall_zip_2 _ _) (fun obj=>F.args_object_init_3 obj _ _) F.entry_zip_new (wk t u l1 l2 xs ys) ⟨hl1,hl2,?_⟩
 have z1:(Iw t s.heap l1).objs.size=s.heap.objs.size+1:=Heap.size_push ..
 have z2:(Ij t u s.heap l1 l2).objs.size=s.heap.objs.size+2:=(Heap.size_push ..).trans (congrArg (·+1) z1)
 have z3:(Iq t u s.heap l1 l2).objs.size=s.heap.objs.size+3:=(Heap.size_push ..).trans (congrArg (·+1) z2)
 have z4:(IA t u s.heap l1 l2).objs.size=s.heap.objs.size+4:=(Heap.size_push ..).trans (congrArg (·+1) z3)
 have g5:(GL t u s.heap l1 l2).get? (IA t u s.heap l1 l2).objs.size=some _:=Heap.get?_push_size _ rfl
 have g4:(GL t u s.heap l1 l2).get? (Iq t u s.heap l1 l2).objs.size=some _:=Heap.get?_push_of_some _ (Heap.get?_push_size _ rfl)
 have g3:(GL t u s.heap l1 l2).get? (Ij t u s.heap l1 l2).objs.size=some _:=Heap.get?_push_of_some _ <| Heap.get?_push_of_some _ (Heap.get?_push_size _ rfl)
 have g2:(GL t u s.heap l1 l2).get? (Iw t s.heap l1).objs.size=some _:=Heap.get?_push_of_some _ <| Heap.get?_push_of_some _ <| Heap.get?_push_of_some _ (Heap.get?_push_size _ rfl)
 have g1:(GL t u s.heap l1 l2).get? s.heap.objs.size=some _:=Heap.get?_push_of_some _ <| Heap.get?_push_of_some _ <| Heap.get?_push_of_some _ <| Heap.get?_push_of_some _ (Heap.get?_push_size _ rfl)
 show _∧_
 rw[z2,z3,z4] at g5;rw [z1,z2] at g3;rw [z3] at g4;rw [z1] at g2;rw [z4]
 exact⟨⟨_,g5,rfl⟩,h _ g5 g3 g4 (fZ.new g1) (fZ.new g2) fun c o x=>Heap.get?_push_of_some _ <| Heap.get?_push_of_some _ <| Heap.get?_push_of_some _ <| Heap.get?_push_of_some _ <| Heap.get?_push_of_some _ x⟩
end PySem
namespace L2
open PySem PySem.Spec PyProof.Rows
noncomputable def B8(t:Bool)(K:PySem.W.Frag)(H:Hp)(a:Addr)(xs:List V):Prop:=cond t (oQ K H a xs) (mw K H a xs)
theorem Inv.DM{X:Cx}{pins:List (Addr × Obj)}{σ:L2.St}{H:Hp}{s:Shared}{t:Bool}{a:Addr}{xs:List V}(I:Inv X pins σ H s)(h:B8 t X.K H a xs):∃its:List Value,Vals xs its∧i3 t s.heap a its.toArray:=by
 cases t with
 | true=>obtain⟨its,r,p,_⟩:=I.tuple h;exact⟨its,r,p⟩
 | false=>obtain⟨its,r,p,_⟩:=I.list h;exact⟨its,r,p.isList⟩
theorem Inv.xn{X:Cx}{pins:List (Addr × Obj)}{σ:L2.St}{H:Hp}{s:Shared}{t:Bool}{a:Addr}{xs ys:List V}(I:Inv X pins σ H s)(h:B8 t X.K H a xs)(h':B8 t X.K H a ys):xs=ys:=by
 cases t with
 | true=>exact I.nR h h'
 | false=>exact I.m8 h h'
noncomputable def K3(K:PySem.W.Frag)(t u:Bool)(a b:Addr):It:=
 ⟨fun i H=>∃xs ys x y,B8 t K H a xs∧B8 u K H b ys∧xs[i]? =some x∧ys[i]? =some y,
  fun i H v H'=>∃p x y,H p=none∧v= .ref p∧(∀xs,B8 t K H a xs→xs[i]? =some x)∧(∀ys,B8 u K H b ys→ys[i]? =some y)∧H'=upd H p (.tup [x,y]),
  fun i H=>∃xs ys,B8 t K H a xs∧B8 u K H b ys∧(xs.length≤i∨ys.length≤i)⟩
theorem zS{P:Program}{w:World}{K:PySem.W.Frag}{elts:List Expr}{k:Nat}{pos:Pos}{t u:Bool}{z TI TO i1 i2 a b:Addr}(D:ZipApart z TI TO i1 i2 a b):Turn P w K (.Tuple elts k pos) (K3 K t u a b) [z,TI,TO,i1,i2] z
 (fun i h=>IsZip h z TI TO .none∧IsPair h TI (.ref i1) (.ref i2)∧(∃x y,IsPair h TO x y)∧fZ t h i1 a i∧fZ u h i2 b i) where
 mem:=by simp
 obj:=fun i h st c hc=>by
  obtain⟨hz,hTI,⟨x,y,hTO⟩,h1,h2⟩:=st
  simp only[List.mem_cons,List.not_mem_nil,or_false] at hc
  rcases hc with rfl | rfl | rfl | rfl | rfl
  ·exact⟨_,hz,fun v z=>by cases z⟩
  ·exact⟨_,hTI,fun v z=>by cases z⟩
  ·exact⟨_,hTO,fun v z=>by cases z⟩
  ·exact h1.ob
  ·exact h2.ob
 keep:=fun i h h' st k=>by
  obtain⟨hz,hTI,⟨x,y,hTO⟩,h1,h2⟩:=st
  exact⟨k z (by simp) _ hz,k TI (by simp) _ hTI,⟨x,y,k TO (by simp) _ hTO⟩,h1.at fun o e=>k i1 (by simp) o e,h2.at fun o e=>k i2 (by simp) o e⟩
 item:=by
  intro X hP hw hK hc i pins s σ H E I hf st hg
  subst hP hw hK
  obtain⟨xs,ys,x,y,hq,hr,hx,hy⟩:=hg
  obtain⟨its,rv,p⟩:=I.DM hq
  obtain⟨jts,rw',p'⟩:=I.DM hr
  obtain⟨ux,hu,ru⟩:=rv.get hx
  obtain⟨uy,hu',ru'⟩:=rw'.get hy
  obtain⟨hz,hTI,⟨a0,b0,hTO⟩,h1,h2⟩:=st
  have hT:s.TypeIs (.ref z) "zip":=⟨_,hz,rfl⟩
  unfold pyNext
  refine wpAny_bind (wpAny_attempt (wpAny_callSpecial?_slot (name:=Str.ofString "__next__") hT F.slot_zip_next (wpAny_call_entry F.slot_zip_next hT F.entry_zip_next (yq D hz hTI hTO h1 h2 p p' (x:=ux) (y:=uy) (by simpa using hu) (by simpa using hu') fun h₁ a1 a2 a3 a4 a5 a6 hk₁=>wpAny_pure ?_) (F.args_zip_next_1 _))))
  refine⟨_,rfl,wpAny_letOwnedTupleGo_zip a1 fun h₂ hz₂ hs₂=>?_⟩
  replace hs₂:Heap.SameBut z h₁ h₂:=hs₂
  have hzl:z < s.heap.objs.size:=Heap.lt_size hz
  have ht₂:h₂.get? s.heap.objs.size=some {cls:= .type "tuple",data:= .seq #[ux,uy]}:=(hs₂.2 _ (Nat.ne_of_gt hzl)).trans a5
  have kk:∀b o,b≠z→b≠TO→b≠i1→b≠i2→s.heap.get? b=some o→h₂.get? b=some o:=fun b o c1 c2 c3 c4 q=>(hs₂.2 b c1).trans (hk₁ b o c1 c2 c3 c4 q)
  have hn:H s.heap.objs.size=none:=I.fresh
  have sm:aW H (upd H s.heap.objs.size (.tup [x,y])):=aY hn
  have f0:∀c∈[z,TI,TO,i1,i2],H c=none:=fun c hc=>(hf c hc).1
  have nit:∀b o,H b=some o→b≠z∧b≠TO∧b≠i1∧b≠i2:=fun b o q=>by
   refine⟨fun e=>?_,fun e=>?_,fun e=>?_,fun e=>?_⟩
   ·rw[e,f0 z (by simp)] at q;cases q
   ·rw[e,f0 TO (by simp)] at q;cases q
   ·rw[e,f0 i1 (by simp)] at q;cases q
   ·rw[e,f0 i2 (by simp)] at q;cases q
  have kH:∀b o q,H b=some q→s.heap.get? b=some o→h₂.get? b=some o:=fun b o q hb e=>let⟨c1,c2,c3,c4⟩:=nit b q hb;kk b o c1 c2 c3 c4 e
  have hok:lH X.prog X.w (upd H s.heap.objs.size (.tup [x,y])) h₂:=fun b ob q=>by
   by_cases hb:b=s.heap.objs.size
   ·subst hb
    rw[bb] at q
    cases q
    exact⟨by show 2≤sizeLine;decide,[ux,uy], .cons ru (.cons ru' .nil),⟨_,ht₂,rfl,_,rfl⟩⟩
   ·rw[bg hb] at q
    refine(I.hok b ob q).sI (fun c v hc e=>?_) (fun c e=>sm c _ e) fun c ys e=>sm c _ e
    rcases hc with rfl | hc
    ·exact kH c v _ q e
    ·exact kH c v _ hc e
  have nch:∀b,b ∉ [z,TI,TO,i1,i2]→b≠z∧b≠TO∧b≠i1∧b≠i2:=fun b hb=>⟨fun e=>hb (by simp [e]),fun e=>hb (by simp [e]),fun e=>hb (by simp [e]),fun e=>hb (by simp [e])⟩
  have kc:∀b o,b ∉ [z,TI,TO,i1,i2]→s.heap.get? b=some o→h₂.get? b=some o:=fun b o hb e=>let⟨c1,c2,c3,c4⟩:=nch b hb;kk b o c1 c2 c3 c4 e
  have I2:Inv X pins σ (upd H s.heap.objs.size (.tup [x,y])) {s with heap:=h₂,toks:=s.toks}:=by
   refine I.step (g':=s.gens) (d':=s.drawn) (ch:=[z,TI,TO,i1,i2]) (fun b hb=>?_) (fun b o _ _ hb q _=>kc b o hb q) (fun b o _ _ hb q _=>⟨o.slots,kc b o hb q⟩)
    (fun b o hb q n=>by rw[bg (Nat.ne_of_lt (Heap.lt_size q))];exact n) (fun b o hb q=>⟨o,kc b o hb q⟩) (fun b ys e=>sm b _ e) (fun b o u e=>sm b _ e) (fun b ps e=>⟨#[],by rw[sm b _ e];simp⟩) (fun m hm=>?_) hok I.bare
   ·obtain⟨g0,g1,g2,g3,g4,g5⟩:=hf b hb
    exact⟨g3,g1,g4,g5⟩
   ·obtain⟨o,es,ep,ho,r⟩:=hm
    refine⟨o,es,ep,kc _ o (fun hb=>?_) ho,r⟩
    exact(hf _ hb).2.1 rfl
  have up:∀c,c≠z→∀o,h₁.get? c=some o→h₂.get? c=some o:=fun c hc o e=>(hs₂.2 c hc).trans e
  refine⟨.ref s.heap.objs.size,_,I2,rfl,⟨s.heap.objs.size,x,y,hn,rfl,fun zs hy'=>(by rw[I.xn hy' hq];exact hx),fun zs hy'=>(by rw[I.xn hy' hr];exact hy),rfl⟩,
   ⟨hz₂,up _ D.TIz _ (hk₁ TI _ D.TIz D.TITO D.TIi1 D.TIi2 hTI),⟨_,_,up _ D.TOz _ a2⟩,a3.at fun o e=>up _ D.i1z o e,a4.at fun o e=>up _ D.i2z o e⟩,fun c hc=>?_⟩
  have hlt:c < s.heap.objs.size:=by
   simp only[List.mem_cons,List.not_mem_nil,or_false] at hc
   rcases hc with rfl | rfl | rfl | rfl | rfl
   ·exact hzl
   ·exact Heap.lt_size hTI
   ·exact Heap.lt_size hTO
   ·exact h1.lt
   ·exact h2.lt
  rw[bg (Nat.ne_of_lt hlt)]
  exact f0 c hc
 done:=by
  intro X hP hw hK hc i pins s σ H E I hf st hg
  subst hP hw hK
  obtain⟨xs,ys,hq,hr,hl⟩:=hg
  obtain⟨its,rv,p⟩:=I.DM hq
  obtain⟨jts,rw',p'⟩:=I.DM hr
  obtain⟨hz,hTI,⟨a0,b0,hTO⟩,h1,h2⟩:=st
  have hT:s.TypeIs (.ref z) "zip":=⟨_,hz,rfl⟩
  have l1:=rv.length
  have l2:=rw'.length
  unfold pyNext
  refine wpAny_bind (wpAny_attempt (wpAny_callSpecial?_slot (name:=Str.ofString "__next__") hT F.slot_zip_next (wpAny_call_entry F.slot_zip_next hT F.entry_zip_next (Aj (I.ok.hd hc) D hz hTI hTO h1 h2 p p' ?_ fun h' e hk he=>?_) (F.args_zip_next_1 _))))
  ·rcases hl with hl | hl
   ·exact .inl (by simp;omega)
   ·exact .inr (by simp;omega)
  obtain⟨o,ho,hcl⟩:=he
  refine wpAny_bind (wpAny_isInstance (T:="StopIteration") (b:=true) ⟨o,ho,hcl⟩ isSubtype_stop ?_)
  have nch:∀b,b ∉ [z,TI,TO,i1,i2]→b≠z∧b≠TO∧b≠i1∧b≠i2:=fun b hb=>⟨fun e=>hb (by simp [e]),fun e=>hb (by simp [e]),fun e=>hb (by simp [e]),fun e=>hb (by simp [e])⟩
  have kc:∀b o,b ∉ [z,TI,TO,i1,i2]→s.heap.get? b=some o→h'.get? b=some o:=fun b o hb e=>let⟨c1,c2,c3,c4⟩:=nch b hb;hk b o c1 c2 c3 c4 e
  have f0:∀c∈[z,TI,TO,i1,i2],H c=none:=fun c hc=>(hf c hc).1
  have kH:∀b o q,H b=some q→s.heap.get? b=some o→h'.get? b=some o:=fun b o q hb e=>kc b o (fun z=>by rw[f0 b z] at hb;cases hb) e
  refine wpAny_pure ⟨rfl,?_⟩
  refine I.step (h':=h') (H':=H) (g':=s.gens) (d':=s.drawn) (t':=s.toks) (ch:=[z,TI,TO,i1,i2]) (fun b hb=>?_) (fun b o _ _ hb q _=>kc b o hb q) (fun b o _ _ hb q _=>⟨o.slots,kc b o hb q⟩)
   (fun b o hb q n=>n) (fun b o hb q=>⟨o,kc b o hb q⟩) (fun b ys e=>e) (fun b o u e=>e) (fun b ps e=>⟨#[],by rw[e];simp⟩) (fun m hm=>?_) (fun b ob q=>?_) I.bare
  ·obtain⟨g0,g1,g2,g3,g4,g5⟩:=hf b hb
   exact⟨g3,g1,g4,g5⟩
  ·obtain⟨o,es,ep,ho,r⟩:=hm
   refine⟨o,es,ep,kc _ o (fun hb=>?_) ho,r⟩
   exact(hf _ hb).2.1 rfl
  ·refine(I.hok b ob q).sI (fun c v hc e=>?_) (fun c e=>e) fun c ys e=>e
   rcases hc with rfl | hc
   ·exact kH c v _ q e
   ·exact kH c v _ hc e
 self:=fun A i s Q E st h=>wpAny_pyIter_zip st.1 h
section
variable {X:Cx}
noncomputable def ve(ds es:List D):List D:=(ds.zip es).map fun p=> .tup [p.1,p.2]
noncomputable def seqD?:D→Option (List D)
 | .lst ds=>some ds
 | .tup ds=>some ds
 | _=>none
noncomputable def Ki(f g:FD):aw→R (List D):=fun δ=>(f δ).bind fun d=>(g δ).bind fun e=>match seqD? d,seqD? e with | some ds,some es=> .ok (ve ds es) | _,_=> .no
theorem Rep.DM{K:PySem.W.Frag}{B:List Addr}{H:Hp}{d:D}{v:V}{ds:List D}(r:Rep K B H d v)(h:seqD? d=some ds):∃t a xs,v= .ref a∧(∀B' H',dG B H B' H'→B8 t K H' a xs∧aF K B' H' ds xs):=by
 cases d with
 | lst es=>
   cases h
   obtain⟨a,xs,rfl,l,rs⟩:=Rep.lst.mp r
   exact⟨false,a,xs,rfl,fun B' H' p=>⟨(l.bq p).sq,rs.bq p⟩⟩
 | tup es=>
   cases h
   obtain⟨a,xs,rfl,l,rs⟩:=Rep.tup.mp r
   refine⟨true,a,xs,rfl,fun B' H' p=>⟨?_,rs.bq p⟩⟩
   have l':se K B' H' a xs:=l.elim (fun z=> .inl ⟨(p.rd z.2 z.1).2,(p.rd z.2 z.1).1⟩) .inr
   exact l'.sq
 | _=>cases h
noncomputable def JQ(T U:String)(f:FD):FD:=fun δ=>(f δ).bind fun d=>match d with | .dct _ _=> .no | _=> .ok (.bl (lX (tyName d) T || lX (tyName d) U))
noncomputable def Lz(lo:Int)(n:Nat):It:=⟨fun i _=>i < n,fun i H x H'=>H'=H∧x= .int (lo - i),fun i _=>n≤i⟩
noncomputable def Je(lo:Int)(n:Nat):List D:=(List.range n).map fun(i:Nat)=>D.int (lo - i)
noncomputable def JY(f g h:FD):aw→R (List D):=fun δ=>(f δ).bind fun d=>(g δ).bind fun e=>(h δ).bind fun k=>match d,e,k with
 | .int i, .int j, .int m=>R.bZ (decide (m= -1∧ -(2 ^ 60)≤i∧i < 2 ^ 60∧ -(2 ^ 60)≤j∧j < 2 ^ 60)) (.ok (Je i (i - j).toNat)) | _,_,_=> .no
noncomputable def bls?:List D→Option (List Bool)
 | []=>some []
 | .bl b ::ds=>(bls? ds).map (b ::·)
 | _ ::_=>none
noncomputable def Lm:List D→R D
 | [.lst ds]=>(match bls? ds with | some bs=> .ok (.bl (bs.all id)) | none=> .no)
 | _=> .no
noncomputable def Ky:List D→R D
 | [.lst ds]=>(match bls? ds with | some bs=> .ok (.bl (bs.any id)) | none=> .no)
 | _=> .no
end
end L2
end
section
set_option maxRecDepth 100000
set_option maxHeartbeats 4000000
namespace L2
open PySem PySem.Spec PyProof.Rows
section
variable {X:Cx}
noncomputable def LI:FS:=fun _=> .no
noncomputable def Kb(f:FD):FS:=fun δ=>(f δ).bind fun _=> .ok (.nx δ)
end
end L2
namespace L3
open PySem PySem.Spec PyProof.Rows L2
section
variable {X:Cx} {cl:Nat→Addr}
noncomputable def LF:FZ:=fun _ _=> .no
noncomputable def JT(f:aw→R (List D)):FX:=fun δ S=>(R3.of (f (bR S δ)) S).bind fun ds S=>R3.bZ (jd ds) (.ok (.loc S.length) (S++[.lst ds]))
noncomputable def K8(i:Nat)(f:FX):FZ:=fun δ S=>match gB δ i with
 | none=> .no
 | some k=>match di S k with
   | none=> .no
   | some _=>(f δ S).bind fun v S1=>match v with
     | .d (.lst es)=>(match di S1 k with
       | some ds=>R3.bZ (decide (ds.length+es.length≤sizeLine)) (.ok (.nx δ) (S1.set k (.lst (ds++es))))
       | none=> .no)
     | _=> .no
end
end L3
end
section
set_option maxRecDepth 100000
set_option maxHeartbeats 4000000
namespace L2
open PySem PySem.Spec PyProof.Rows
section
variable {X:Cx}
theorem zJ{prog:Program}{w:World}{A:Around}{E:Value→Shared→Prop}{s:Shared}{t b:Addr}{vs ws:List Value}{Q:Value→Shared→Prop}(ht:IsTup s.heap t vs.toArray)(hb:IsTup s.heap b ws.toArray)
 (h0:vs=[]→Q (.ref b) s) (h1:vs≠[]→ws=[]→Q (.ref t) s) (h2:vs≠[]→ws≠[]→Q (.ref s.heap.objs.size) {s with heap:=s.heap.push {cls:= .type "tuple",data:= .seq (vs++ws).toArray}})
 (hsz:vs.length+ws.length≤sizeLine):wpAny (model prog w) A (binaryOp .Add (.ref t) (.ref b)) Q E s:=by
 by_cases hv:vs=[]
 ·obtain⟨⟨cls,dd,data,sl⟩,ho,hc,n,hd⟩:=id ht;obtain⟨⟨cls2,dd2,data2,sl2⟩,ho2,hc2,n2,hd2⟩:=id hb
  simp only at hc hd hc2 hd2;subst hc hd hc2 hd2
  exact concat_meets ⟨_,ho,rfl⟩ ⟨_,ho2,rfl⟩ noFill_tuple_add seq_tuple_add PySem.F.slot_tuple_add PySem.F.entry_tuple_add (PySem.F.args_tuple_add_2 _ _) (tuple_addW0 t b vs.toArray ws.toArray n n2 dd dd2 sl sl2 (by simp [hv])) ⟨ho,ho2,h0 hv⟩
 ·exact HT.DD ht hb hv (h1 hv) (h2 hv) hsz
noncomputable def lQ(d e:D):R D:=match d,e with
 | .tup a, .tup b=>R.bZ (decide (a.length+b.length≤sizeLine)) (.ok (.tup (a++b)))
 | d,e=>ei d e
theorem se.fresh{K:PySem.W.Frag}{B:List Addr}{H:Hp}{p:Addr}{xs:List V}(hb:∀a∈B,∃o,H a=some o)(hp:H p=none):se K B (upd H p (.tup xs)) p xs:= .inl ⟨fun ha=>(by obtain⟨o,ho⟩:=hb p ha;rw [hp] at ho;cases ho), .inl bb⟩
theorem qF:jA X (binaryOp .Add) lQ:=by
 intro pins s σ H B da db d x y v u I hb rx ry ra rb hg
 by_cases ht:∃a b,da= .tup a∧db= .tup b
 ·obtain⟨a,b,rfl,rfl⟩:=ht
  have hg:R.bZ (decide (a.length+b.length≤sizeLine)) (.ok (.tup (a++b)))= .ok d:=hg
  obtain⟨h1,h2⟩:=R.bp hg
  cases h2
  have h1:=of_decide_eq_true h1
  have ra':=ra
  have rb':=rb
  obtain⟨a1,xs1,rfl,l1,r1⟩:=Rep.tup.mp ra
  obtain⟨a2,xs2,rfl,l2,r2⟩:=Rep.tup.mp rb
  cases rx
  cases ry
  obtain⟨its,rv1,p1,_⟩:=I.tuple l1.sq
  obtain⟨its2,rv2,p2,_⟩:=I.tuple l2.sq
  have e1:=rv1.length
  have e2:=rv2.length
  have e3:=r1.length
  have e4:=r2.length
  refine zJ p1 p2 (fun z=>⟨.ref a2,H,I,rfl,aW.refl H,?_⟩) (fun _ z=>⟨.ref a1,H,I,rfl,aW.refl H,?_⟩) (fun _ _=>?_) (by omega)
  ·obtain rfl:a=[]:=List.eq_nil_of_length_eq_zero (by rw[e3,e1,z];rfl)
   exact rb'
  ·obtain rfl:b=[]:=List.eq_nil_of_length_eq_zero (by rw[e4,e2,z];rfl)
   rw[List.append_nil];exact ra'
  ·have hp:H s.heap.objs.size=none:=I.hok.fresh (Nat.le_refl _)
   refine⟨.ref s.heap.objs.size,_,I.laid (t':=s.toks) (o:= .tup (xs1++xs2)) (fun b ob q=>Heap.get?_push_of_some _ q) (Nat.le_refl _) ⟨by rw[List.length_append];omega,_,rv1.append rv2,IsTup.new _ _⟩,rfl,aY hp,Rep.tup.mpr ⟨_,_,rfl,se.fresh hb hp,(r1.append r2).same (aY hp)⟩⟩
 ·have hg:ei da db= .ok d:=by
   unfold lQ at hg
   split at hg
   ·exact absurd ⟨_,_,rfl,rfl⟩ ht
   ·exact hg
  exact gx pins s σ H B da db d x y v u I hb rx ry ra rb hg
theorem wI.or{tg e:Expr}{F F1 F2:aw→R (List D)}(h1:wI X tg e F1)(h2:wI X tg e F2)(h:∀δ ds,F δ= .ok ds→F1 δ= .ok ds∨F2 δ= .ok ds):wI X tg e F:=
 ⟨fun pins s σ H R I ⟨Z,B,δ,ds,E,hf,q⟩=>(h δ ds hf).elim (fun z=>h1.1 pins s σ H R I ⟨Z,B,δ,ds,E,z,q⟩) fun z=>h2.1 pins s σ H R I ⟨Z,B,δ,ds,E,z,q⟩⟩
noncomputable def xl(f:FD):aw→R (List D):=fun δ=>(f δ).bind fun d=>match d with | .lst ds=> .ok (fj ds) | .tup ds=> .ok (fj ds) | _=> .no
theorem wF{elts:List Expr}{k:Nat}{tpos:Pos}{a:Expr}{f:FD}{p pos:Pos}(h:QD X a f)(hg:Gl X "enumerate")(hm:X.mg "enumerate"=none)(hs:starEach [a] X.env=[(false,eval a X.env)]:=by rfl):wI X (.Tuple elts k tpos) (.Call (.Name "enumerate" p) [a] [] pos) (xl f):=
 wI.or (F1:=j7 f) (F2:=tF f) ⟨t6 h.1 hg hm hs⟩ (vU h hg hm hs) fun δ ds hf=>by
  obtain⟨d,h1,h2⟩:=R.ak hf
  cases d with
  | lst es=>cases h2;exact .inl (by unfold j7;rw [h1];rfl)
  | tup es=>cases h2;exact .inr (by unfold tF;rw [h1];rfl)
  | _=>cases h2
noncomputable def KU(K:PySem.W.Frag)(a:Addr)(n:Nat):It:=
 ⟨fun i H=>∃xs x,mw K H a xs∧xs.length=n∧i < n∧xs[n - 1 - i]? =some x,fun i H v H'=>H'=H∧∀xs,mw K H a xs→xs[n - 1 - i]? =some v,fun i H=>(∃xs,mw K H a xs)∧i=n⟩
theorem Bs{P:Program}{w:World}{K:PySem.W.Frag}{tg:Expr}(a it:Addr)(n:Nat):Turn P w K tg (KU K a n) [it] it (fun i h=>h.IsRevIter it a ((n:Int) - 1 - (i:Int))) where
 mem:=by simp
 obj:=fun i h st b hb=>by
  have e:b=it:=by simpa using hb
  subst e
  obtain⟨o,e,c,d⟩:=st
  exact⟨o,e,fun v z=>by rw[d] at z;cases z⟩
 keep:=fun i h h' st k=>st.at fun o e=>k it (by simp) o e
 item:=by
  intro X hP hw hK hc i pins s σ H E I hf st hg
  subst hP hw hK
  obtain⟨xs,x,hq,hn,hi,hx⟩:=hg
  obtain⟨its,rv,p,hz⟩:=I.list hq
  obtain⟨u,hu,ru⟩:=rv.get hx
  obtain⟨f0,f1,f2,f3,f4,f5⟩:=hf it (by simp)
  have e0:(n:Int) - 1 - (i:Int)=((n - 1 - i:Nat):Int):=by omega
  rw[e0] at st
  refine wpAny_pyNext_rev_item st p.isList (x:=u) (by simpa using hu) fun h' st' sb=>?_
  have I1:Inv X pins σ H {s with heap:=h'}:=I.turned (t':=s.toks) (fun b o hb e=>(sb.2 b hb).trans e) f0 f1 f3 f4 f5
  have st2:h'.IsRevIter it a ((n:Int) - 1 - ((i+1:Nat):Int)):=by
   rw[show((n - 1 - i:Nat):Int) - 1=(n:Int) - 1 - ((i+1:Nat):Int) by omega] at st';exact st'
  obtain⟨o,e,c,d⟩:=id st2
  exact⟨u,rfl,xZ (s:={s with heap:=h'}) e c d (by decide) ⟨x,H,I1,ru,⟨rfl,fun ys hy=>by rw[I.m8 hy hq];exact hx⟩,st2,fun b hb=>(hf b hb).1⟩⟩
 done:=by
  intro X hP hw hK hc i pins s σ H E I hf st hg
  subst hP hw hK
  obtain⟨_,rfl⟩:=hg
  obtain⟨f0,f1,f2,f3,f4,f5⟩:=hf it (by simp)
  rw[show(i:Int) - 1 - (i:Int)= -1 by omega] at st
  exact wpAny_pyNext_rev_end (I.ok.hd hc) st fun h' eb=>⟨rfl,I.turned (t':=s.toks) (fun b o hb e=>eb b o hb e) f0 f1 f3 f4 f5⟩
 self:=fun _ _ _ _ _ st h=>wpAny_pyIter_revIter st h
noncomputable def D2(f:FD):aw→R (List D):=fun δ=>(f δ).bind fun d=>match d with | .lst ds=> .ok ds.reverse | _=> .no
theorem BS{tg a:Expr}{f:FD}{p pos:Pos}(h:QD X a f)(hg:Gl X "reversed")(hm:X.mg "reversed"=none)(hs:starEach [a] X.env=[(false,eval a X.env)]:=by rfl):wI X tg (.Call (.Name "reversed" p) [a] [] pos) (D2 f):=by
 refine⟨?_⟩
 intro pins s σ H RR I ⟨Z,B,δ,ds,E,hf,q⟩
 obtain⟨d,h1,h2⟩:=R.ak hf
 have hA:=f_ h.1 jy hs pos pins s σ H (fun vs H1=>aW H H1∧∃v,vs=[v]∧Rep X.K B H1 d v) I ⟨Z,B,δ,d,E,h1,fun v H1 s1 r1=>⟨s1,v,rfl,r1⟩⟩
 refine Call_ (k8 I hg hm boot_reversed (PyProof.Rows.callWith_type1 (dW hA fun us s1 ⟨vs,H1,I1,r1,ss,v,ev,rr⟩=>?_) hs rfl))
 subst ev
 obtain⟨u,rfl,ru⟩:=vals1 r1
 cases d with
 | lst es=>
   cases h2
   obtain⟨b,xs,rfl,l,rs⟩:=Rep.lst.mp rr
   cases ru
   obtain⟨its,rv,pl,hz⟩:=I1.list l.sq
   have e1:=rv.length
   have e2:=rs.length
   refine call_reversed_list pl.isList (wpAny_pyIter_revIter (i:=(its.toArray.size:Int) - 1) ⟨_,Heap.get?_push_size _ rfl,rfl,rfl⟩ ?_)
   refine⟨s1.heap.objs.size,[s1.heap.objs.size],_,_,H1,rfl,I1.kept (t':=s1.toks) fun b o e=>Heap.get?_push_of_some _ e,Bs b _ es.length,?_,fun c hc=>?_,q _ H1 ss fun B' H' pr=>?_⟩
   ·refine⟨_,Heap.get?_push_size _ rfl,rfl,?_⟩
    show Data.fields #[.ref b,rawInt ((its.toArray.size:Int) - 1)]=Data.fields #[.ref b,rawInt ((es.length:Int) - 1 - ((0:Nat):Int))]
    rw[List.size_toArray,←e1,←e2,show((es.length:Nat):Int) - 1 - ((0:Nat):Int)=(es.length:Int) - 1 by omega]
   ·have e:c=s1.heap.objs.size:=by simpa using hc
    subst e
    exact I1.qP (Nat.le_refl _) (I1.hok.fresh (Nat.le_refl _))
   ·have l':qM X.K B' H' b xs:=l.bq pr
    have rs':=rs.bq pr
    refine⟨fun i d hd=>?_,⟨xs,l'.sq⟩,by rw[List.length_reverse]⟩
    have hi:i < es.length:=by have:=(List.getElem?_eq_some_iff.mp hd).1;rwa [List.length_reverse] at this
    rw[List.getElem?_reverse hi] at hd
    obtain⟨x,hx,rx⟩:=rs'.get hd
    refine⟨⟨xs,x,l'.sq,e2.symm,hi,hx⟩,fun v H'' yl hB'=>?_⟩
    obtain⟨rfl,hy⟩:=yl
    have hy2:=hy xs l'.sq
    rw[hx] at hy2
    cases hy2
    exact⟨aW.refl _,rx⟩
 | _=>cases h2
noncomputable def ph(K:PySem.W.Frag)(C:Addr)(m qual:Str)(st:Stmt):Prop:=∃f fd,xB K m qual st f fd∧Meth K C m f
noncomputable def yQ(K:PySem.W.Frag)(C:Addr)(m qual:Str)(st:Stmt):Prop:=∃f fd,xB K m qual st f fd∧Mk K C f
end
end L2
namespace L3
open PySem PySem.Spec PyProof.Rows L2
section
variable {X:Cx} {cl:Nat→Addr}
theorem fw.p{P:Program}{w:World}{K:PySem.W.Frag}{mg:Str→Option Value}{base:Heap}{cl:Nat→Addr}{k c:Nat}{m:Str}{n:Nat}{N:List Str}{F:FZ}(C:fw P w K mg base cl k c m n (lR N F)):fw P w K mg base cl k c m n (n6 N F):=
 let⟨f,fd,ps,c1,c2,F,h⟩:=C;⟨f,fd,ps,c1,c2,F.imp fun _ _ _ _ h=>vE h,h⟩
end
end L3
end
section
set_option maxRecDepth 100000
set_option maxHeartbeats 4000000
namespace L2
open PySem PySem.Spec PyProof.Rows
section
variable {X:Cx}
noncomputable def K2(f:FD):aw→R (List D):=fun δ=>(f δ).bind fun d=>match d with | .int j=>R.bZ (decide (-(2 ^ 62)≤j∧j < 16777216)) (.ok (bU 0 j.toNat)) | _=> .no
noncomputable def KS(f:FD):FD:=fun δ=>(f δ).bind fun d=>match d with | .lst ds=> .ok (.lst ds.reverse) | _=> .no
end
end L2
end
section
set_option maxRecDepth 100000
set_option maxHeartbeats 4000000
namespace L2
open PySem PySem.Spec PyProof.Rows
section
variable {X:Cx}
noncomputable def Lh(K:PySem.W.Frag)(n:Nat)(t:AW):TG:=fun v σ H Q=>∃a xs,v= .ref a∧mw K H a xs∧xs.length=n∧t xs σ H Q
end
end L2
namespace L3
open PySem PySem.Spec PyProof.Rows L2
section
variable {X:Cx} {cl:Nat→Addr}
noncomputable def LK(n:Nat)(t:Ck):FG:=fun d δ=>match d with
 | .d (.lst ds)=>if ds.length=n then t (ds.map .d) δ else none
 | .lst vs=>if vs.length=n then t vs δ else none
 | _=>none
noncomputable def Gg(f g:FX):FA:=fun δ S=>(ax f (ax g ck) δ S).bind fun vs S1=>match vs with
 | [.d d, .d e]=>(match seqD? d,seqD? e with | some ds,some es=> .ok ((ve ds es).map .d) S1 | _,_=> .no)
 | _=> .no
theorem Cv{elts:List Expr}{k:Nat}{tpos:Pos}{a b:Expr}{f g:FX}{p pos:Pos}(h:PX X cl a f)(h':PX X cl b g)(hg:Gl X "zip")(hm:X.mg "zip"=none)(hs:starEach [a,b] X.env=[(false,eval a X.env),(false,eval b X.env)]:=by rfl)(hs2:starEach [b] X.env=[(false,eval b X.env)]:=by rfl) :
 EH X cl (.Tuple elts k tpos) (.Call (.Name "zip" p) [a,b] [] pos) (Gg f g):=by
 refine⟨?_⟩
 intro pins s σ H RR I ⟨ρ,S,δ,vs,S',E,hf,q⟩
 obtain⟨ws,S1,h1,h2⟩:=R3.ak hf
 have hA:=(ai h (ai h' aS hs2) (by rw[hs,hs2])).1 pos pins s σ H (fun us H1=>∃ρ1,Pre ρ H ρ1 H1∧SW X.K cl ρ1 H1 S1∧aG X.K ρ1 H1 ws us) I
  ⟨ρ,S,δ,ws,S1,E,h1,fun us ρ1 H1 p1 w1 r1=>⟨ρ1,p1,w1,r1⟩⟩
 refine Call_ (k8 I hg hm boot_zip (PyProof.Rows.callWith_type1 (dW hA fun us s1 ⟨xs,H1,I1,r1,ρ1,p1,w1,rr⟩=>?_) (by rw[hs,hs2]) (by rw[hs2];rfl)))
 rcases hsh:ws with _ | ⟨w0,_ | ⟨w2,_ | ⟨w3,wr⟩⟩⟩ <;> subst hsh
 ·cases h2
 ·cases w0 <;> cases h2
 ·rcases w0 with d | _ | _ | _ <;> rcases w2 with e | _ | _ | _ <;> try (cases h2;done)
  have h2:(match seqD? d,seqD? e with | some ds,some es=>R3.ok ((ve ds es).map V3.d) S1 | _,_=> .no)= .ok vs S':=h2
  cases e1:seqD? d with
  | none=>rw [e1] at h2;cases h2
  | some ls=>
    cases e2:seqD? e with
    | none=>rw [e1,e2] at h2;cases h2
    | some ms=>
      rw[e1,e2] at h2
      cases h2
      obtain⟨v,ys,ev,ra,rr⟩:=rr.cn
      obtain⟨v',zs,ev',rb,rr⟩:=rr.cn
      unfold aG at rr
      subst rr ev' ev
      obtain⟨u,u',rfl,ru,ru'⟩:=vals2 r1
      unfold bo at ra rb
      obtain⟨t,a,xs,rfl,k1⟩:=ra.DM e1
      obtain⟨w,b,ys,rfl,k2⟩:=rb.DM e2
      cases ru
      cases ru'
      obtain⟨its,rv,pp⟩:=I1.DM (k1 ρ1.b H1 (dG.refl _ H1)).1
      obtain⟨jts,rw',pp'⟩:=I1.DM (k2 ρ1.b H1 (dG.refl _ H1)).1
      have la:=pp.lt
      have lb:=pp'.lt
      refine yS pp pp' fun h₂ hz hTI hTO hi1 hi2 kk=>wpAny_pyIter_zip hz ?_
      have I2:Inv X pins σ H1 {s1 with heap:=h₂}:=I1.kept (t':=s1.toks) kk
      refine⟨s1.heap.objs.size+4,[s1.heap.objs.size+4,s1.heap.objs.size+2,s1.heap.objs.size+3,s1.heap.objs.size,s1.heap.objs.size+1],_,_,H1,rfl,I2,zS (t:=t) (u:=w) (zipApart_new la lb),⟨hz,hTI,⟨_,_,hTO⟩,hi1,hi2⟩,fun c hc=>?_,q _ ρ1 H1 p1 w1 (GI.of fun B' H' pr=>?_)⟩
      ·have hle:s1.heap.objs.size≤c:=by
        simp only[List.mem_cons,List.not_mem_nil,or_false] at hc
        rcases hc with rfl | rfl | rfl | rfl | rfl <;> omega
       exact I1.qP hle (I1.hok.fresh hle)
      ·obtain⟨l1,rs1⟩:=k1 B' H' pr
       obtain⟨l2,rs2⟩:=k2 B' H' pr
       refine⟨fun i d hd=>?_,⟨xs,ys,l1,l2,?_⟩⟩
       ·unfold ve at hd
        rw[List.getElem?_map] at hd
        cases ez:(ls.zip ms)[i]? with
        | none=>rw [ez] at hd;cases hd
        | some pr'=>
          rw[ez] at hd
          have hd:D.tup [pr'.1,pr'.2]=d:=Option.some.inj hd
          obtain⟨ea,eb⟩:=List.getElem?_zip_eq_some.mp ez
          obtain⟨x,hx,rx⟩:=rs1.get ea
          obtain⟨y,hy,ry⟩:=rs2.get eb
          refine⟨⟨xs,ys,x,y,l1,l2,hx,hy⟩,fun v H'' yl hB'=>?_⟩
          obtain⟨p,x2,y2,hp,rfl,hx2,hy2,rfl⟩:=yl
          refine⟨aY hp,?_⟩
          subst hd
          have hx2:=hx2 xs l1
          have hy2:=hy2 ys l2
          rw[hx] at hx2;cases hx2
          rw[hy] at hy2;cases hy2
          refine Rep.tup.mpr ⟨p,_,rfl, .inl ⟨fun ha=>?_, .inl bb⟩,aF.cons (rx.same (aY hp)) (aF.cons (ry.same (aY hp)) aF.nil)⟩
          obtain⟨o,ho⟩:=hB' p ha
          rw[hp] at ho;cases ho
       ·rw[←rs1.length,←rs2.length]
        unfold ve
        rw[List.length_map,List.length_zip]
        omega
 ·cases w0 <;> cases w2 <;> cases h2
theorem GZ{f g:FX}{δ:DE}{S:aU}{Q:List V3→aU→Prop}(h:W3 (f δ S) fun v S1=>W3 (g δ S1) fun w S2=>∃d e ds es,v= .d d∧w= .d e∧seqD? d=some ds∧seqD? e=some es∧Q ((ve ds es).map .d) S2):W3 (Gg f g δ S) Q:=
 W3.bind (W3.bind (h.mono fun v S1 h2=>W3.bind (W3.bind (h2.mono fun w S2 ⟨d,e,ds,es,e1,e2',e3,e4,q⟩=>by
  subst e1 e2'
  exact W3.bind (W3.ok (W3.ok (W3.ok (by simp only[e3,e4];exact W3.ok q))))))))
noncomputable def pq(S:aU):Prop:=∀o∈S,me S.length o=true
theorem Flat.Kk{S:aU}(h:Flat S):pq S:=fun o ho=>h o ho _
theorem G2{N:List Str}{F:FZ}{vs:List V3}{S:aU}{QV:V3→aU→Prop}(h:W3 (lR N F vs S) fun v S1=>(∀o∈S1.take S.length,me S.length o=true)∧ft S.length v=true∧∃d,res S1 v=some d∧QV (.d d) (S1.take S.length)):W3 (n6 N F vs S) QV:=
 W3.bind (h.mono fun v S1 ⟨hl,hg,d,e,q⟩=>by
  rw[e]
  exact W3.wh (by rw[List.all_eq_true.mpr hl,hg];rfl) (W3.ok q))
theorem my{N:List Str}{F:FZ}{vs:List V3}{S:aU}{QV:V3→aU→Prop}(hS:pq S)(h:W3 (lR N F vs S) fun v S1=>ft S.length v=true∧(∃T,S1=S++T)∧∃d,res S1 v=some d∧QV (.d d) S):W3 (n6 N F vs S) QV:=
 G2 (h.mono fun v S1 ⟨hg,⟨T,e1⟩,d,e,q⟩=>by
  subst e1
  rw[List.take_append_of_le_length (Nat.le_refl _),List.take_length]
  exact⟨hS,hg,d,e,q⟩)
end
end L3
end
section
set_option maxRecDepth 100000
set_option maxHeartbeats 4000000
namespace L2
open PySem PySem.Spec PyProof.Rows
section
variable {X:Cx}
noncomputable def ois?:List D→Option (List (Option Int))
 | []=>some []
 | .int i ::ds=>(ois? ds).map (some i ::·)
 | .cq ::ds=>(ois? ds).map (none ::·)
 | _ ::_=>none
noncomputable def Jg:Option Int→V | some i=> .int i | none=> .cq
theorem mY{K:PySem.W.Frag}{B:List Addr}{H:Hp}:∀{ds:List D} {xs:List V} {ss:List (Option Int)},aF K B H ds xs→ois? ds=some ss→xs=ss.map Jg
 | [],xs,ss,r,h=>by unfold aF at r;subst r;cases h;rfl
 | d ::ds,xs,ss,r,h=>by
   obtain⟨x,r',rfl,r1,r2⟩:=r.cn
   cases d with
   | int z=>
     unfold ois? at h
     cases e:ois? ds with
     | none=>rw [e] at h;cases h
     | some tt=>
       rw[e] at h
       cases h
       rw[Rep.int.mp r1,mY r2 e]
       rfl
   | cq=>
     unfold ois? at h
     cases e:ois? ds with
     | none=>rw [e] at h;cases h
     | some tt=>
       rw[e] at h
       cases h
       rw[Rep.cq.mp r1,mY r2 e]
       rfl
   | _=>cases h
noncomputable def IX(d e:D):R Bool:=match d,e with
 | .cq, .lst ds=>(match ois? ds with | some ss=> .ok (ss.any (·.isNone)) | none=> .no)
 | _,_=> .no
noncomputable def Dx(d e:D):R D:=(IX d e).bind fun b=> .ok (.bl b)
theorem xH:∀ss:List (Option Int),Ap .cq (ss.map Jg)=ss.any (·.isNone)
 | []=>rfl
 | y ::ss=>by
   unfold Ap
   rw[List.map_cons,List.any_cons,List.any_cons]
   have ih:=xH ss
   unfold Ap at ih
   rw[ih]
   cases y <;> rfl
theorem Bq(ss:List (Option Int)):(ss.map Jg).all jF=true:=by
 rw[List.all_map,List.all_eq_true]
 intro x _
 cases x <;> rfl
theorem He:jA X (compareOp .In) Dx:=by
 intro pins s σ H B da db d x y v u I hb rx ry ra rb hg'
 obtain⟨b,hi,h2⟩:=R.ak hg'
 cases h2
 unfold IX at hi
 split at hi
 ·rename_i ds
  split at hi
  ·rename_i ss e
   cases hi
   obtain⟨a,xs,rfl,l,rs⟩:=Rep.lst.mp rb
   refine rX pins s σ H x _ v u _ I rx ry ⟨a,xs,rfl, .inl l.sq,by rw[Rep.cq.mp ra];rfl,by rw[mY rs e];exact Bq _,aW.refl H,Rep.bl.mpr ?_⟩
   rw[mY rs e,Rep.cq.mp ra,xH];rfl
  ·cases hi
 ·cases hi
end
end L2
end
section
set_option maxRecDepth 100000
set_option maxHeartbeats 4000000
namespace NT
noncomputable def mx(f:Nat→Nat)(w:List Nat):Nat:=(w.map f).foldl max 0
structure BA (f:Nat→Nat) (M:Nat) (bs:List Int):Prop where
 a:∀(z:Nat) (v:Int),bs[z]? =some v→v= -1∨(0≤v∧v+f z≤M)
noncomputable def BB(f:Nat→Nat)(M:Nat)(bs:List Int)(n:Nat):Prop:=∃(z:Nat) (v:Int),z < n∧bs[z]? =some v∧0≤v∧(M:Int)≤v+f z
noncomputable def Up(bs bs':List Int):Prop:=bs'.length=bs.length∧∀(z:Nat) (v:Int),bs[z]? =some v→∃v',bs'[z]? =some v'∧v≤v'
end NT
namespace NT
open PySem PySem.Spec PyProof.Rows L2 L3
structure Gt where
 k:Str
 w:List Nat
 s:Bool
noncomputable def nN(z:Nat):D:= .int z
noncomputable def wN(w:List Nat):D:= .tup (w.map nN)
noncomputable def gN(g:Gt):D:= .tup [.str g.k,wN g.w, .bl g.s]
noncomputable def iN(x:Str × Nat):D:= .tup [.str x.1, .int x.2]
noncomputable def oN(x:Str × List Nat):D:= .tup [.str x.1,wN x.2]
structure Net where
 i:List (Str × Nat)
 g:List Gt
 o:List (Str × List Nat)
noncomputable def Net.d(n:Net):D:= .tup [.lst (n.i.map iN), .lst (n.g.map gN), .lst (n.o.map oN)]
noncomputable def Net.first(n:Net):Nat:=(n.i.map (·.2)).sum
structure J5 (n:Nat) (w:List Nat):Prop where
 ne:w≠[]
 le:w.length≤3
 lt:∀z∈w,z < n
structure Net.Ok (n:Net):Prop where
 i1:1≤n.i.length
 i6:n.i.length≤6
 iw:∀x∈n.i,1≤x.2∧x.2≤3
 is:∀x∈n.i,ka 0 (.str x.1)
 g60:n.g.length≤60
 gw:∀(p:Nat) (g:Gt),n.g[p]? =some g→J5 (n.first+p) g.w
 gs:∀g∈n.g,ka 0 (.str g.k)
 o1:1≤n.o.length
 o6:n.o.length≤6
 ow:∀x∈n.o,J5 (n.first+n.g.length) x.2
 os:∀x∈n.o,ka 0 (.str x.1)
inductive Sm:Nat→D→Prop where
 | int (n:Nat) (i:Int):Sm n (.int i)
 | bl (n:Nat) (b:Bool):Sm n (.bl b)
 | str (n:Nat) (s:Str):Sm n (.str s)
 | lst {n:Nat} {ds:List D} (h:∀d∈ds,Sm n d) (hl:ds.length≤1000000):Sm (n+1) (.lst ds)
 | tup {n:Nat} {ds:List D} (h:∀d∈ds,Sm n d) (hl:ds.length≤1000000):Sm (n+1) (.tup ds)
theorem mN{F G:FS}{δ:aw}{d:D}(h:F δ= .ok (.rt d)):cF F G δ= .ok (.rt d):=by unfold cF;rw [h];rfl
theorem ke{m i:Nat}{v:V3}(h:((bU 0 m).map V3.d)[i]? =some v):i < m∧v= .d (.int i):=by
 rw[List.getElem?_map,bU,List.getElem?_map] at h
 cases q:(List.range m)[i]? with
 | none=>rw [q] at h;cases h
 | some j=>
   rw[q] at h;cases h
   obtain⟨q1,q2⟩:=List.getElem?_eq_some_iff.mp q
   rw[List.getElem_range] at q2
   rw[List.length_range] at q1
   subst q2
   exact⟨q1,by simp⟩
theorem nW{α:Type}{l:List α}{f:α→D}{i:Nat}{v:V3}(h:((l.map f).map V3.d)[i]? =some v):∃x,l[i]? =some x∧v= .d (f x):=by
 rw[List.getElem?_map,List.getElem?_map] at h
 cases q:l[i]? with
 | none=>rw [q] at h;cases h
 | some x=>rw [q] at h;cases h;exact⟨x,rfl,rfl⟩
theorem xk{α:Type}{l:List α}{f:α→D}{i:Nat}{v:D}(h:(l.map f)[i]? =some v):∃x,l[i]? =some x∧v=f x:=by
 rw[List.getElem?_map] at h
 cases q:l[i]? with
 | none=>rw [q] at h;cases h
 | some x=>rw [q] at h;cases h;exact⟨x,rfl,rfl⟩
theorem eM{α:Type}{t:FT}{c:aw→R Bool}{f:FD}{δ:aw}(a b:α→D):∀{xs:List α},(∀x∈xs,∃δ1,t (a x) δ= .ok δ1∧c δ1= .ok true∧f δ1= .ok (b x))→mG t c f δ (xs.map a)= .ok (xs.map b)
 | [],_=>rfl
 | x ::xs,h=>by
   obtain⟨δ1,h1,h2,h3⟩:=h x List.mem_cons_self
   have ih:=eM (t:=t) (c:=c) (f:=f) (δ:=δ) a b (xs:=xs) fun y hy=>h y (List.mem_cons_of_mem _ hy)
   rw[List.map_cons]
   unfold mG
   rw[h1,R.aR,h2,R.aR,if_pos rfl,h3,R.aR,ih]
   rfl
theorem l9{α:Type}{t:FT}{c:aw→R Bool}{f:FD}{δ:aw}(p:α→Bool)(a b:α→D):∀{xs:List α},(∀x∈xs,∃δ1,t (a x) δ= .ok δ1∧c δ1= .ok (p x)∧(p x=true→f δ1= .ok (b x)))→mG t c f δ (xs.map a)= .ok ((xs.filter p).map b)
 | [],_=>rfl
 | x ::xs,h=>by
   obtain⟨δ1,h1,h2,h3⟩:=h x List.mem_cons_self
   have ih:=l9 (t:=t) (c:=c) (f:=f) (δ:=δ) p a b (xs:=xs) fun y hy=>h y (List.mem_cons_of_mem _ hy)
   rw[List.map_cons]
   unfold mG
   rw[h1,R.aR,h2,R.aR]
   cases e:p x with
   | true=>rw [if_pos rfl,h3 e,R.aR,ih,List.filter_cons,if_pos e];rfl
   | false=>rw [if_neg (by decide),ih,List.filter_cons,if_neg (by rw[e];decide)]
theorem C8{n z:Nat}(h:z < n):qt n (z:Int)=some z:=by
 unfold qt
 rw[if_pos (by omega),if_pos (by omega)]
 simp
theorem uD{α:Type}{xs:List α}{z:Nat}{x:α}(h:xs[z]? =some x):oU xs (z:Int)=some x:=by
 have hl:=(List.getElem?_eq_some_iff.mp h).1
 unfold oU
 rw[C8 hl]
 exact h
theorem lj{ds:List D}{z:Nat}{x:D}(h:ds[z]? =some x):bX (.lst ds) (.int z)= .ok x:=jt (uD h)
theorem CT{ds:List D}{z:Nat}{x:D}(h:ds[z]? =some x):bX (.tup ds) (.int z)= .ok x:=nT (uD h)
end NT
end
section
set_option maxRecDepth 100000
set_option maxHeartbeats 4000000
namespace MT
open PySem PySem.Spec PyProof.Rows L2 L3
noncomputable abbrev M:=Nat→Bool
theorem G0{N:List Str}{F:FZ}{vs:List V3}{δ:DE}{S:aU}{QV:V3→aU→Prop}(e:bS N vs=δ)(h:W3 (F δ S) fun o S1=>∃δ',o= .nx δ'∧QV (.d .cq) S1):W3 (lR N F vs S) QV:=by
 subst e
 exact W3.bind (h.mono fun _ _ ⟨_,e,q⟩=>by subst e;exact W3.ok q)
noncomputable def jB:Nat→M→Nat
 | 0,_=>0
 | N+1,f=>(if f 0 then 1 else 0)+2*jB N (fun i=>f (i+1))
theorem gQ:∀(N:Nat) (f:M) (i:Nat),(jB N f).testBit i=(decide (i < N) && f i)
 | 0,f,i=>by unfold jB;simp
 | N+1,f,0=>by
   unfold jB
   rw[Nat.testBit_zero]
   cases f 0 <;> simp <;> omega
 | N+1,f,i+1=>by
   unfold jB
   rw[Nat.testBit_succ]
   have:((if f 0=true then 1 else 0)+2*jB N fun i=>f (i+1)) / 2=jB N fun i=>f (i+1):=by split <;> omega
   rw[this,gQ N _ i]
   simp
theorem lg:∀{N:Nat} {f g:M},(∀i,i < N→f i=g i)→jB N f=jB N g
 | 0,_,_,_=>rfl
 | N+1,f,g,h=>by
   unfold jB
   rw[h 0 (by omega),lg (N:=N) fun i hi=>h (i+1) (by omega)]
theorem xD(N:Nat)(f g:M):jB N f &&& jB N g=jB N fun i=>f i && g i:=by
 refine Nat.eq_of_testBit_eq fun i=>?_
 rw[Nat.testBit_and,gQ,gQ,gQ]
 cases decide (i < N) <;> simp
theorem BV(N:Nat)(f g:M):jB N f ||| jB N g=jB N fun i=>f i || g i:=by
 refine Nat.eq_of_testBit_eq fun i=>?_
 rw[Nat.testBit_or,gQ,gQ,gQ]
 cases decide (i < N) <;> simp
theorem xw:∀(N:Nat) (f g:M),((jB N fun i=>f i || g i:Nat):Int) - (jB N fun i=>f i && g i:Nat)=(jB N fun i=>f i !=g i:Nat)
 | 0,f,g=>rfl
 | N+1,f,g=>by
   have ih:=xw N (fun i=>f (i+1)) (fun i=>g (i+1))
   have e:∀h:M,jB (N+1) h=(if h 0 then 1 else 0)+2*jB N (fun i=>h (i+1)):=fun _=>rfl
   rw[e,e,e]
   generalize jB N (fun i=>f (i+1) || g (i+1))=a at ih ⊢
   generalize jB N (fun i=>f (i+1) && g (i+1))=b at ih ⊢
   generalize jB N (fun i=>f (i+1) !=g (i+1))=c at ih ⊢
   show(((if(f 0 || g 0) then 1 else 0)+2*a:Nat):Int) - ((if(f 0 && g 0) then 1 else 0)+2*b:Nat)=((if(f 0 !=g 0) then 1 else 0)+2*c:Nat)
   cases f 0 <;> cases g 0 <;> simp <;> omega
theorem pM(x y:Nat):Builtin.bitAnd (x:Int) (y:Int)=((x &&& y:Nat):Int):=by
 unfold Builtin.bitAnd
 rw[decide_eq_true (by omega:(0:Int)≤x),decide_eq_true (by omega:(0:Int)≤y)]
 simp
theorem ya(x y:Nat):Builtin.bitOr (x:Int) (y:Int)=((x ||| y:Nat):Int):=by
 unfold Builtin.bitOr Builtin.bitAnd Builtin.bitNot
 rw[decide_eq_false (by omega:¬(0:Int)≤ -(x:Int) - 1),decide_eq_false (by omega:¬(0:Int)≤ -(y:Int) - 1)]
 show -(-(((-(-(x:Int) - 1) - 1).toNat ||| (-(-(y:Int) - 1) - 1).toNat:Nat):Int) - 1) - 1=_
 rw[show(-(-(x:Int) - 1) - 1).toNat=x by omega,show(-(-(y:Int) - 1) - 1).toNat=y by omega]
 omega
noncomputable def mI(N:Nat)(f:M):D:= .int (jB N f:Nat)
theorem uN{N:Nat}{f g:M}(h:∀i,i < N→f i=g i):mI N f=mI N g:=by unfold mI;rw [lg h]
theorem qx(N:Nat)(f g:M):zm (mI N f) (mI N g)= .ok (mI N fun i=>f i && g i):=by
 show R.ok (D.int (Builtin.bitAnd (jB N f:Int) (jB N g:Int)))=_
 rw[pM,xD];rfl
theorem uz(N:Nat)(f g:M):B7 (mI N f) (mI N g)= .ok (mI N fun i=>f i || g i):=by
 show R.ok (D.int (Builtin.bitOr (jB N f:Int) (jB N g:Int)))=_
 rw[ya,BV];rfl
theorem vb(N:Nat)(f g:M):yn (mI N f) (mI N g)= .ok (mI N fun i=>f i !=g i):=by
 show R.ok (D.int (Builtin.bitOr (jB N f:Int) (jB N g:Int) - Builtin.bitAnd (jB N f:Int) (jB N g:Int)))=_
 rw[ya,pM,BV,xD,xw];rfl
noncomputable def one:M:=fun _=>true
theorem uG(N:Nat)(f:M):yn (mI N one) (mI N f)= .ok (mI N fun i=>!f i):=by
 rw[vb]
 have:(fun i=>one i !=f i)=fun i=>!f i:=by funext i;unfold one;simp
 rw[this]
theorem Bu(N:Nat)(f:M)(c:Bool):(if c then yn (mI N one) (mI N f) else .ok (mI N f))= .ok (mI N fun i=>f i !=c):=by
 cases c with
 | true=>
   rw[if_pos rfl,uG]
   have:(fun i=>!f i)=fun i=>f i !=true:=by funext i;cases f i <;> rfl
   rw[this]
 | false=>
   rw[if_neg (by decide)]
   have:f=fun i=>f i !=false:=by funext i;cases f i <;> rfl
   rw[←this]
theorem BI{N:Nat}{f:M}:jB N f=0↔∀i,i < N→f i=false:=by
 constructor
 ·intro h i hi
  have:=gQ N f i
  rw[h,Nat.zero_testBit,decide_eq_true hi,Bool.true_and] at this
  exact this.symm
 ·intro h
  refine Nat.eq_of_testBit_eq fun i=>?_
  rw[gQ,Nat.zero_testBit]
  by_cases q:i < N
  ·rw[h i q];simp
  ·rw[decide_eq_false q];rfl
theorem HC(N:Nat)(f:M)(n:Nat):(nM (mI N f) (.int n)).bind (fun d=>zm d (.int 1))= .ok (.int (if decide (n < N) && f n then 1 else 0)):=by
 have h1:nM (mI N f) (.int n)= .ok (.int ((jB N f / 2 ^ n:Nat):Int)):=by
  show R.bZ (decide ((0:Int)≤n)) (.ok (D.int ((jB N f:Int) / 2 ^ ((n:Int)).toNat)))=_
  rw[bY _ (by omega),Int.toNat_natCast]
  congr 2
 rw[h1,R.aR]
 show R.ok (D.int (Builtin.bitAnd ((jB N f / 2 ^ n:Nat):Int) ((1:Nat):Int)))=_
 rw[pM,Nat.and_one_is_mod,←gQ]
 congr 2
 unfold Nat.testBit
 rw[Nat.shiftRight_eq_div_pow,Nat.one_and_eq_mod_two]
 have:jB N f / 2 ^ n % 2=0∨jB N f / 2 ^ n % 2=1:=by omega
 rcases this with q | q <;> rw[q] <;> rfl
noncomputable def bI(b:Bool):D:= .int (if b then 1 else 0)
noncomputable def B6:List Bool→Nat
 | []=>0
 | b ::bs=>(if b then 1 else 0)+2*B6 bs
theorem Bt:∀bs:List Bool,B6 bs=jB bs.length fun i=>bs.getD i false
 | []=>rfl
 | b ::bs=>by
   unfold B6
   rw[Bt bs]
   rfl
noncomputable def nI(n:Nat):D:= .int (n:Int)
noncomputable def kS:Nat→Str | 0=>Str.ofString "not" | 1=>Str.ofString "and" | 2=>Str.ofString "or" | 3=>Str.ofString "xor" | _=>Str.ofString "vote"
noncomputable def ar:Nat→Nat | 0=>1 | 4=>3 | _=>2
theorem ue(k:Nat):ar k≤3:=by unfold ar;split <;> omega
noncomputable def gv:Nat→List Bool→Bool
 | 0,[a]=>!a
 | 1,[a,b]=>a && b
 | 2,[a,b]=>a || b
 | 3,[a,b]=>a !=b
 | 4,[a,b,c]=>(a && b) || (a && c) || (b && c)
 | _,_=>false
noncomputable def ib(ws:List M)(n:Nat):M:=ws.getD n fun _=>false
theorem pH{ws:List M}{b:M}{n:Nat}(h:n < ws.length):ib (ws++[b]) n=ib ws n:=by
 unfold ib
 rw[List.getD_eq_getElem?_getD,List.getElem?_append_left h,List.getD_eq_getElem?_getD]
theorem qe(ws:List M)(b:M):ib (ws++[b]) ws.length=b:=by
 unfold ib
 rw[List.getD_eq_getElem?_getD,List.getElem?_append_right (Nat.le_refl _),Nat.sub_self]
 rfl
noncomputable abbrev Gt:=Nat × List Nat × Bool
noncomputable def gK(g:Gt):D:= .tup [.str (kS g.1), .tup (g.2.1.map nI), .bl g.2.2]
noncomputable def lB(n:Nat)(g:Gt):Prop:=g.1≤4∧g.2.1.length=ar g.1∧∀w∈g.2.1,w < n
noncomputable def inD(x:Str × Nat):D:= .tup [.str x.1,nI x.2]
noncomputable def v8(x:Str × List Nat):D:= .tup [.str x.1, .tup (x.2.map nI)]
noncomputable def bL(ins:List (Str × Nat))(gs:List Gt)(os:List (Str × List Nat)):D:= .tup [.lst (ins.map inD), .lst (gs.map gK), .lst (os.map v8)]
noncomputable def iW(ins:List (Str × Nat)):Nat:=(ins.map (·.2)).sum
noncomputable def gF(g:Gt)(ws:List M):M:=fun p=>gv g.1 (g.2.1.map fun n=>ib ws n p)
noncomputable def fg(bad:List Int)(b:M):Nat→List M→List M
 | 0,ws=>ws
 | n+1,ws=>fg bad b n ws++[fun p=>b p !=bad.contains ((fg bad b n ws).length:Int)]
theorem fT(bad:List Int)(b:M):∀n ws,(fg bad b n ws).length=ws.length+n
 | 0,ws=>rfl
 | n+1,ws=>by unfold fg;rw [List.length_append,fT bad b n ws];rfl
noncomputable def cg(ins:List (Str × Nat))(bits:List M)(bad:List Int):Nat→List M
 | 0=>[]
 | i+1=>match ins[i]?,bits[i]? with | some x,some b=>fg bad b x.2 (cg ins bits bad i) | _,_=>cg ins bits bad i
theorem jI{ins:List (Str × Nat)}{bits:List M}{bad:List Int}(hb:bits.length=ins.length):∀i,i≤ins.length→(cg ins bits bad i).length=iW (ins.take i)
 | 0,_=>rfl
 | i+1,hi=>by
   have h1:ins[i]? =some ins[i]:=List.getElem?_eq_getElem (by omega)
   have h2:bits[i]? =some bits[i]:=List.getElem?_eq_getElem (by omega)
   unfold cg
   rw[h1,h2]
   show(fg bad bits[i] ins[i].2 (cg ins bits bad i)).length=_
   rw[fT,jI hb i (by omega),List.take_add_one,h1]
   unfold iW
   simp only[Option.toList_some,List.map_append,List.sum_append,List.map_cons,List.map_nil,List.sum_cons,List.sum_nil]
   omega
noncomputable def jQ(gs:List Gt)(turned:List Int)(w0:List M):Nat→List M
 | 0=>w0
 | i+1=>match gs[i]? with | some g=>jQ gs turned w0 i++[fun p=>gF g (jQ gs turned w0 i) p !=turned.contains (i:Int)] | none=>jQ gs turned w0 i
theorem ll{gs:List Gt}{turned:List Int}{w0:List M}:∀i,i≤gs.length→(jQ gs turned w0 i).length=w0.length+i
 | 0,_=>rfl
 | i+1,hi=>by
   have h1:gs[i]? =some gs[i]:=List.getElem?_eq_getElem (by omega)
   unfold jQ
   rw[h1]
   show(jQ gs turned w0 i++[_]).length=_
   rw[List.length_append,ll i (by omega)]
   rfl
structure jh (ins:List (Str × Nat)) (gs:List Gt) (os:List (Str × List Nat)):Prop where
 hi:ins.length < 100
 hw:∀x∈ins,x.2 < 100
 hg:gs.length < 1000
 g:∀(i:Nat) (x:Gt),gs[i]? =some x→lB (iW ins+i) x
 ho:os.length < 1000
 o:∀x∈os,x.2.length < 1000∧∀w∈x.2,w < iW ins+gs.length
noncomputable def pP(ins:List (Str × Nat))(gs:List Gt)(bits:List M)(turned bad:List Int):List M:=jQ gs turned (cg ins bits bad ins.length) gs.length
theorem sZ:∀{l:List (Str × Nat)},(∀x∈l,x.2 < 100)→iW l≤100*l.length
 | [],_=>by simp [iW]
 | x ::l,h=>by
   have ih:=sZ (l:=l) fun y hy=>h y (List.mem_cons_of_mem _ hy)
   have:=h x List.mem_cons_self
   unfold iW at ih ⊢
   rw[List.map_cons,List.sum_cons,List.length_cons]
   omega
theorem tZ{ins:List (Str × Nat)}{gs:List Gt}{bits:List M}{turned bad:List Int}(hb:bits.length=ins.length):(pP ins gs bits turned bad).length=iW ins+gs.length:=by unfold pP;rw [ll _ (Nat.le_refl _),jI hb _ (Nat.le_refl _),List.take_length]
noncomputable def tell(ws:List M)(x:Str × List Nat):List M:=x.2.map (ib ws)
noncomputable def GF:List Bool→Bool × Bool
 | [a]=>(!a,a)
 | [a,b]=>(!(a || b),a && b)
 | [a,b,c]=>let v:=(a && b) || (a && c) || (b && c);(!v,v)
 | _=>(false,false)
noncomputable def brk(safe:Bool)(x y:Bool × Bool):Bool:=if safe then(x.1 && y.2) || (x.2 && y.1) else(x.1 !=y.1) || (x.2 !=y.2)
theorem pA(i:Int)(ps:List Int):o9 (.int i) (.tup (ps.map .int))= .ok (.bl (ps.contains i)):=by
 show((match ints? (ps.map D.int) with | some ss=>R.ok (ss.contains i) | none=> .no)).bind (fun b=>R.ok (D.bl b))=_
 rw[L2.ints_map];rfl
theorem xp{ds:List D}{i:Nat}{v:V3}(h:((fj ds).map V3.d)[i]? =some v):∃d,ds[i]? =some d∧v= .d (.tup [.int i,d]):=by
 rw[List.getElem?_map,fj,List.getElem?_map,List.getElem?_zipIdx] at h
 cases q:ds[i]? with
 | none=>rw [q] at h;cases h
 | some d=>
   rw[q] at h
   simp at h
   exact⟨d,rfl,h.symm⟩
theorem sC{c:aw→R Bool}{f g:FD}{δ:aw}{b:Bool}{r:R D}(h:c δ= .ok b)(h2:(if b then f δ else g δ)=r):wq c f g δ=r:=by unfold wq;rw [h,R.aR];exact h2
theorem eO(S:aU)(x y:SO):(S++[x]).set S.length y=S++[y]:=by
 rw[List.set_append_right _ _ (Nat.le_refl _),Nat.sub_self];rfl
theorem bz(S:aU)(x:SO):(S++[x])[S.length]? =some x:=by rw[List.getElem?_append_right (Nat.le_refl _),Nat.sub_self];rfl
theorem zH{N:Nat}{ws:List M}{n:Nat}(h:n < ws.length):bX (.lst (ws.map (mI N))) (nI n)= .ok (mI N (ib ws n)):=by
 refine NT.lj ?_
 rw[List.getElem?_map,List.getElem?_eq_getElem h]
 unfold ib
 rw[List.getD_eq_getElem?_getD,List.getElem?_eq_getElem h]
 rfl
end MT
namespace MT
open PySem PySem.Spec PyProof.Rows L2 L3
noncomputable def Km:List Nat→Nat→List (List Nat)
 | _,0=>[[]]
 | ps,s+1=>(List.range ps.length).flatMap fun a=>(Km (ps.drop (a+1)) s).map (ps.getD a 0 ::·)
end MT
end
section
set_option Elab.async false
set_option linter.all false
set_option maxRecDepth 100000
set_option maxHeartbeats 4000000
namespace K15
open PySem PySem.Spec PyProof.Rows L2 L3
noncomputable def top(i:Nat):Stmt:=PySem.Challenge.pw_bearfaults_k15_what_each_alone_does.main.body.getD i (.Pass ⟨0,0,0,0⟩)
structure Tp (K:PySem.W.Frag) (mg:Str→Option Value) (cl:Nat→Addr):Prop where
 z_enumerate:mg (Str.ofString "enumerate")=none
 z_range:mg (Str.ofString "range")=none
 z_len:mg (Str.ofString "len")=none
 z_tuple:mg (Str.ofString "tuple")=none
 z_reversed:mg (Str.ofString "reversed")=none
 z_zip:mg (Str.ofString "zip")=none
 z_abs:mg (Str.ofString "abs")=none
 z_min:mg (Str.ofString "min")=none
 z_max:mg (Str.ofString "max")=none
 z_sum:mg (Str.ofString "sum")=none
 z_int:mg (Str.ofString "int")=none
 z_isinstance:mg (Str.ofString "isinstance")=none
 z_bool:mg (Str.ofString "bool")=none
 z_str:mg (Str.ofString "str")=none
 z_list:mg (Str.ofString "list")=none
 C_Bench:tS K (cl 0)
 N_Bench_net:dh K (cl 0) (Str.ofString "net")
 N_Bench_many_inputs:dh K (cl 0) (Str.ofString "many_inputs")
 N_Bench_full:dh K (cl 0) (Str.ofString "full")
 N_Bench_in_masks:dh K (cl 0) (Str.ofString "in_masks")
 M_Bench:mg (Str.ofString "Bench")=some (.ref (cl 0))
 C_Trial:tS K (cl 1)
 N_Trial_bench:dh K (cl 1) (Str.ofString "bench")
 N_Trial_plain:dh K (cl 1) (Str.ofString "plain")
 N_Trial_unsure:dh K (cl 1) (Str.ofString "unsure")
 M_Trial:mg (Str.ofString "Trial")=some (.ref (cl 1))
noncomputable abbrev eV:Stmt:=top 2
noncomputable abbrev rD:List Str:=[(Str.ofString "masks")]
noncomputable def vA:{b:List Stmt // ao eV=b}:=by
 have e:ao eV=ao eV:=rfl
 conv at e=>rhs;whnf
 exact⟨_,e⟩
noncomputable def pQ:{b:Scope // af eV=b}:=by
 have e:af eV=af eV:=rfl
 conv at e=>rhs;whnf
 exact⟨_,e⟩
theorem yJ:ba rD [(Str.ofString "masks")] pQ.1:=⟨rfl,rfl,rfl,by decide+kernel,rfl,by decide+kernel,by decide+kernel⟩
noncomputable def so:FS:=(dc (e2 B7 (e2 B7 (e2 zm (e2 bX (ae 0) (eC (.int 0))) (e2 bX (ae 0) (eC (.int 1)))) (e2 zm (e2 bX (ae 0) (eC (.int 0))) (e2 bX (ae 0) (eC (.int 2))))) (e2 zm (e2 bX (ae 0) (eC (.int 1))) (e2 bX (ae 0) (eC (.int 2))))))
noncomputable def fX:List D→R D:=lZ rD so
theorem yO{P:Program}{w:World}{K:PySem.W.Frag}{mg:Str→Option Value}{base:Heap}{cl:Nat→Addr}(T:Tp K mg cl)(h:Def K mg (Str.ofString "vote_of") eV):Callee P w K mg base 1 (Str.ofString "vote_of") 1 fX:=by
 obtain⟨f,fd,F,hm⟩:=h
 exact⟨f,fd,_,cz (k:=0) vA.2 pQ.2 F yJ (fun cdv A outer s H E hr=>(aM (a_ (aJ vk (aJ vk (aJ tW (ay (aa 0) ag (fun _ _=>rfl)) (ay (aa 0) ag (fun _ _=>rfl))) (aJ tW (ay (aa 0) ag (fun _ _=>rfl)) (ay (aa 0) ag (fun _ _=>rfl)))) (aJ tW (ay (aa 0) ag (fun _ _=>rfl)) (ay (aa 0) ag (fun _ _=>rfl))))))),hm,F.kp,F.binds fun _ _ _ _ _ _ us hl=>match us,hl with | [_],_=>rfl⟩
noncomputable abbrev dD:Stmt:=top 3
noncomputable abbrev kD:List Str:=[(Str.ofString "kind"),(Str.ofString "masks"),(Str.ofString "full")]
noncomputable def tO:{b:List Stmt // ao dD=b}:=by
 have e:ao dD=ao dD:=rfl
 conv at e=>rhs;whnf
 exact⟨_,e⟩
noncomputable def nv:{b:Scope // af dD=b}:=by
 have e:af dD=af dD:=rfl
 conv at e=>rhs;whnf
 exact⟨_,e⟩
theorem uF:ba kD [(Str.ofString "kind"),(Str.ofString "masks"),(Str.ofString "full")] nv.1:=⟨rfl,rfl,rfl,by decide+kernel,rfl,by decide+kernel,by decide+kernel⟩
noncomputable def oC:FS:=(cF (ky (b2 ja (ae 0) (eC (.str (Str.ofString "not")))) (dc (e2 yn (ae 2) (e2 bX (ae 1) (eC (.int 0))))) fH) (cF (ky (b2 ja (ae 0) (eC (.str (Str.ofString "and")))) (dc (e2 zm (e2 bX (ae 1) (eC (.int 0))) (e2 bX (ae 1) (eC (.int 1))))) fH) (cF (ky (b2 ja (ae 0) (eC (.str (Str.ofString "or")))) (dc (e2 B7 (e2 bX (ae 1) (eC (.int 0))) (e2 bX (ae 1) (eC (.int 1))))) fH) (cF (ky (b2 ja (ae 0) (eC (.str (Str.ofString "xor")))) (dc (e2 yn (e2 bX (ae 1) (eC (.int 0))) (e2 bX (ae 1) (eC (.int 1))))) fH) (dc (aA fX (aq (ae 1) aD)))))))
noncomputable def fP:List D→R D:=lZ kD oC
theorem uO{P:Program}{w:World}{K:PySem.W.Frag}{mg:Str→Option Value}{base:Heap}{cl:Nat→Addr}(T:Tp K mg cl)(h:Def K mg (Str.ofString "gate_mask") dD)(C_vote_of:Callee P w K mg base 1 (Str.ofString "vote_of") 1 fX):Callee P w K mg base 2 (Str.ofString "gate_mask") 3 fP:=by
 obtain⟨f,fd,F,hm⟩:=h
 exact⟨f,fd,_,cz (k:=1) tO.2 nv.2 F uF (fun cdv A outer s H E hr=>(aN (cK (bB (h_ hr.units) (aa 0) bF (bG _)) (aM (a_ (aJ tI (aa 2) (ay (aa 1) ag (fun _ _=>rfl))))) cm) (aN (cK (bB (h_ hr.units) (aa 0) bF (bG _)) (aM (a_ (aJ tW (ay (aa 1) ag (fun _ _=>rfl)) (ay (aa 1) ag (fun _ _=>rfl))))) cm) (aN (cK (bB (h_ hr.units) (aa 0) bF (bG _)) (aM (a_ (aJ vk (ay (aa 1) ag (fun _ _=>rfl)) (ay (aa 1) ag (fun _ _=>rfl))))) cm) (aN (cK (bB (h_ hr.units) (aa 0) bF (bG _)) (aM (a_ (aJ tI (ay (aa 1) ag (fun _ _=>rfl)) (ay (aa 1) ag (fun _ _=>rfl))))) cm) (aM (a_ (bO C_vote_of hr (by decide) rfl (ab (aa 1) ah) (aH b3))))))))),hm,F.kp,F.binds fun _ _ _ _ _ _ us hl=>match us,hl with | [_,_,_],_=>rfl⟩
noncomputable abbrev cb:Stmt:=top 4
noncomputable abbrev fE:List Str:=[(Str.ofString "ins"),(Str.ofString "in_masks"),(Str.ofString "full"),(Str.ofString "bad"),(Str.ofString "wires"),(Str.ofString "place"),(Str.ofString "mask"),(Str.ofString "figure")]
noncomputable def nL:{b:List Stmt // ao cb=b}:=by
 have e:ao cb=ao cb:=rfl
 conv at e=>rhs;whnf
 exact⟨_,e⟩
noncomputable def jD:{b:Scope // af cb=b}:=by
 have e:af cb=af cb:=rfl
 conv at e=>rhs;whnf
 exact⟨_,e⟩
theorem el:ba fE [(Str.ofString "ins"),(Str.ofString "in_masks"),(Str.ofString "full"),(Str.ofString "bad")] jD.1:=⟨rfl,rfl,rfl,by decide+kernel,rfl,by decide+kernel,by decide+kernel⟩
noncomputable def gc:FZ:=(i0 4 (xT (wq (b2 o9 (aA cC (aq (ae 4) aD)) (ae 3)) (e2 yn (ae 2) (ae 6)) (ae 6))))
noncomputable def jb:FZ:=(k3 (iP (d8 (e2 bX (e2 bX (ae 0) (ae 5)) (eC (.int 1))))) (kQ 7) gc)
noncomputable def hW:FZ:=(bC (cA 4 (l6 (dM aD))) (bC (k3 (iP (xl (ae 1))) (zg 2 (wK (kQ 5) (wK (kQ 6) zj))) jb) (js (bK 4))))
noncomputable def de:List V3→aU→R3 V3:=lR fE hW
noncomputable def nO:List V3→aU→R3 V3:=n6 fE hW
theorem o3{P:Program}{w:World}{K:PySem.W.Frag}{mg:Str→Option Value}{base:Heap}{cl:Nat→Addr}(T:Tp K mg cl)(h:Def K mg (Str.ofString "in_wire_masks") cb):aQ P w K mg base cl 1 (Str.ofString "in_wire_masks") 4 de:=by
 obtain⟨f,fd,F,hm⟩:=h
 exact⟨f,fd,_,cx (k:=0) nL.2 jD.2 F el (fun cdv A outer s H E hr=>(av (bj el.nd rfl (Or.inl rfl) (gO (cc ah))) (av (fJ PassesOwn.never rfl (eg (wF (aa 1) rfl T.z_enumerate)) (tQ rfl (iy (bQ el.nd rfl (Or.inl rfl)) (iy (bQ el.nd rfl (Or.inl rfl)) pS))) (aZ (fJ PassesOwn.never rfl (eg (bW (ay (ay (aa 0) (aa 5) (fun _ _=>rfl)) ag (fun _ _=>rfl)) rfl T.z_range)) (bQ el.nd rfl (Or.inl rfl)) (aZ (fM rfl (Or.inl rfl) (cB (vH (bB zi (aI cO rfl T.z_len PySem.boot_len (ab (aa 4) ah)) (aa 3) (by with_unfolding_all rfl)) (aJ tI (aa 2) (aa 6)) (aa 6)))))))) (aZ (d6 (aT 4)))))),hm,F.kp,F.binds fun _ _ _ _ _ _ us hl=>match us,hl with | [_,_,_,_],_=>rfl⟩
noncomputable abbrev dZ:Stmt:=top 5
noncomputable abbrev lT:List Str:=[(Str.ofString "wires"),(Str.ofString "numbers")]
noncomputable def u9:{b:List Stmt // ao dZ=b}:=by
 have e:ao dZ=ao dZ:=rfl
 conv at e=>rhs;whnf
 exact⟨_,e⟩
noncomputable def k4:{b:Scope // af dZ=b}:=by
 have e:af dZ=af dZ:=rfl
 conv at e=>rhs;whnf
 exact⟨_,e⟩
theorem vz:ba lT [(Str.ofString "wires"),(Str.ofString "numbers")] k4.1:=⟨rfl,rfl,rfl,by decide+kernel,rfl,by decide+kernel,by decide+kernel⟩
noncomputable def qB:FS:=(dc (aA fL (aq (eNew (gn (gG (ae 1)) (bh 0) qy (e2 bX (ae 1) (ae 0)) [(Str.ofString "number")] [0])) aD)))
noncomputable def eL:List D→R D:=lZ lT qB
theorem wm{P:Program}{w:World}{K:PySem.W.Frag}{mg:Str→Option Value}{base:Heap}{cl:Nat→Addr}(T:Tp K mg cl)(h:Def K mg (Str.ofString "masks_at") dZ):Callee P w K mg base 1 (Str.ofString "masks_at") 2 eL:=by
 obtain⟨f,fd,F,hm⟩:=h
 exact⟨f,fd,_,cz (k:=0) u9.2 k4.2 F vz (fun cdv A outer s H E hr=>(aM (a_ (cI pJ rfl T.z_tuple PyProof.Rows.boot_tuple (ab (cV (gb rfl (cv.of (own:=[(Str.ofString "number")]) (kp:=[0]) (kn:=[(Str.ofString "wires")]) (sc:=k4.1) (N:=lT) rfl rfl (by decide+kernel)) (eh (aa 1)) (fun _ _ _=>(bx (show List.Nodup [(Str.ofString "number"),(Str.ofString "wires")] from by decide+kernel) rfl (Or.inl rfl))) (fun _ _ _=>fO) (fun _ _ _=>(ay (aa 1) (aa 0) (fun _ _=>rfl))))) ah))))),hm,F.kp,F.binds fun _ _ _ _ _ _ us hl=>match us,hl with | [_,_],_=>rfl⟩
noncomputable abbrev cZ:Stmt:=top 6
noncomputable abbrev il:List Str:=[(Str.ofString "net"),(Str.ofString "in_masks"),(Str.ofString "full"),(Str.ofString "turned"),(Str.ofString "bad"),(Str.ofString "wires"),(Str.ofString "place"),(Str.ofString "gate"),(Str.ofString "mask")]
noncomputable def qT:{b:List Stmt // ao cZ=b}:=by
 have e:ao cZ=ao cZ:=rfl
 conv at e=>rhs;whnf
 exact⟨_,e⟩
noncomputable def lG:{b:Scope // af cZ=b}:=by
 have e:af cZ=af cZ:=rfl
 conv at e=>rhs;whnf
 exact⟨_,e⟩
theorem f9:ba il [(Str.ofString "net"),(Str.ofString "in_masks"),(Str.ofString "full"),(Str.ofString "turned"),(Str.ofString "bad")] lG.1:=⟨rfl,rfl,rfl,by decide+kernel,rfl,by decide+kernel,by decide+kernel⟩
noncomputable def iQ:FZ:=(bC (cA 8 (xT (aA fP (aq (e2 bX (ae 7) (eC (.int 0))) (aq (aA eL (aq (ae 5) (aq (e2 bX (ae 7) (eC (.int 1))) aD))) (aq (ae 2) aD)))))) (i0 5 (xP (wq (b2 o9 (ae 6) (ae 3)) (e2 yn (ae 2) (ae 8)) (ae 8)))))
noncomputable def kg:FZ:=(bC (cA 5 (cf de (ax (xP (e2 bX (ae 0) (eC (.int 0)))) (ax (xP (ae 1)) (ax (xP (ae 2)) (ax (xP (ae 4)) ck)))))) (bC (k3 (iP (j7 (e2 bX (ae 0) (eC (.int 1))))) (zg 2 (wK (kQ 6) (wK (kQ 7) zj))) iQ) (js (bK 5))))
noncomputable def lJ:List V3→aU→R3 V3:=lR il kg
noncomputable def fA:List V3→aU→R3 V3:=n6 il kg
theorem sQ{P:Program}{w:World}{K:PySem.W.Frag}{mg:Str→Option Value}{base:Heap}{cl:Nat→Addr}(T:Tp K mg cl)(h:Def K mg (Str.ofString "wire_masks") cZ)(C_masks_at:Callee P w K mg base 1 (Str.ofString "masks_at") 2 eL)(C_gate_mask:Callee P w K mg base 2 (Str.ofString "gate_mask") 3 fP)(XK_in_wire_masks:aQ P w K mg base cl 1 (Str.ofString "in_wire_masks") 4 de):aQ P w K mg base cl 3 (Str.ofString "wire_masks") 5 lJ:=by
 obtain⟨f,fd,F,hm⟩:=h
 exact⟨f,fd,_,cx (k:=2) qT.2 lG.2 F f9 (fun cdv A outer s H E hr=>(av (bj f9.nd rfl (Or.inl rfl) (bw XK_in_wire_masks hr (by decide) rfl (ai (au (ay (aa 0) ag (fun _ _=>rfl))) (ai (au (aa 1)) (ai (au (aa 2)) (ai (au (aa 4)) aS)))) (aj (aj (aj (aj aP)))))) (av (fJ PassesOwn.never rfl (eg (rZ (ay (aa 0) ag (fun _ _=>rfl)) rfl T.z_enumerate)) (tQ rfl (iy (bQ f9.nd rfl (Or.inl rfl)) (iy (bQ f9.nd rfl (Or.inl rfl)) pS))) (av (bj f9.nd rfl (Or.inl rfl) (cB (bO C_gate_mask hr (by decide) rfl (ab (ay (aa 7) ag (fun _ _=>rfl)) (ab (bO C_masks_at hr (by decide) rfl (ab (aa 5) (ab (ay (aa 7) ag (fun _ _=>rfl)) ah)) (aH (aH b3))) (ab (aa 2) ah))) (aH (aH (aH b3)))))) (aZ (fM rfl (Or.inl rfl) (au (vH (bB zi (aa 6) (aa 3) (by with_unfolding_all rfl)) (aJ tI (aa 2) (aa 8)) (aa 8))))))) (aZ (d6 (aT 5)))))),hm,F.kp,F.binds fun _ _ _ _ _ _ us hl=>match us,hl with | [_,_,_,_,_],_=>rfl⟩
noncomputable abbrev dw:Stmt:=top 7
noncomputable abbrev g7:List Str:=[(Str.ofString "net"),(Str.ofString "wires")]
noncomputable def sE:{b:List Stmt // ao dw=b}:=by
 have e:ao dw=ao dw:=rfl
 conv at e=>rhs;whnf
 exact⟨_,e⟩
noncomputable def j1:{b:Scope // af dw=b}:=by
 have e:af dw=af dw:=rfl
 conv at e=>rhs;whnf
 exact⟨_,e⟩
theorem uj:ba g7 [(Str.ofString "net"),(Str.ofString "wires")] j1.1:=⟨rfl,rfl,rfl,by decide+kernel,rfl,by decide+kernel,by decide+kernel⟩
noncomputable def k7:FZ:=(js (l6 (gn (gG (e2 bX (ae 0) (eC (.int 2)))) (iR 2 (dH (bh 0) (dH (bh 1) iG))) qy (aA eL (aq (ae 2) (aq (ae 1) aD))) [(Str.ofString "name"),(Str.ofString "numbers")] [1])))
noncomputable def m_:List V3→aU→R3 V3:=lR g7 k7
noncomputable def gu:List V3→aU→R3 V3:=n6 g7 k7
theorem uY{P:Program}{w:World}{K:PySem.W.Frag}{mg:Str→Option Value}{base:Heap}{cl:Nat→Addr}(T:Tp K mg cl)(h:Def K mg (Str.ofString "out_masks") dw)(C_masks_at:Callee P w K mg base 1 (Str.ofString "masks_at") 2 eL):aQ P w K mg base cl 2 (Str.ofString "out_masks") 2 m_:=by
 obtain⟨f,fd,F,hm⟩:=h
 exact⟨f,fd,_,cx (k:=1) sE.2 j1.2 F uj (fun cdv A outer s H E hr=>(aZ (d6 (gO (gb rfl (cv.of (own:=[(Str.ofString "name"),(Str.ofString "numbers")]) (kp:=[1]) (kn:=[(Str.ofString "wires")]) (sc:=j1.1) (N:=g7) rfl rfl (by decide+kernel)) (eh (ay (aa 0) ag (fun _ _=>rfl))) (fun _ _ _=>(nj rfl (d9 (bx (show List.Nodup [(Str.ofString "name"),(Str.ofString "numbers"),(Str.ofString "wires")] from by decide+kernel) rfl (Or.inl rfl)) (d9 (bx (show List.Nodup [(Str.ofString "name"),(Str.ofString "numbers"),(Str.ofString "wires")] from by decide+kernel) rfl (Or.inl rfl)) k9)))) (fun _ _ _=>fO) (fun _ _ _=>(bO C_masks_at hr (by decide) rfl (ab (aa 2) (ab (aa 1) ah)) (aH (aH b3))))))))),hm,F.kp,F.binds fun _ _ _ _ _ _ us hl=>match us,hl with | [_,_],_=>rfl⟩
noncomputable abbrev eX:Stmt:=top 8
noncomputable abbrev lA:List Str:=[(Str.ofString "masks"),(Str.ofString "full"),(Str.ofString "ones")]
noncomputable def vO:{b:List Stmt // ao eX=b}:=by
 have e:ao eX=ao eX:=rfl
 conv at e=>rhs;whnf
 exact⟨_,e⟩
noncomputable def qc:{b:Scope // af eX=b}:=by
 have e:af eX=af eX:=rfl
 conv at e=>rhs;whnf
 exact⟨_,e⟩
theorem sk:ba lA [(Str.ofString "masks"),(Str.ofString "full")] qc.1:=⟨rfl,rfl,rfl,by decide+kernel,rfl,by decide+kernel,by decide+kernel⟩
noncomputable def sd:FS:=(cF (ky (b2 ja (aA cC (aq (ae 0) aD)) (eC (.int 2))) (dc (eK (aq (e2 yn (ae 1) (e2 B7 (e2 bX (ae 0) (eC (.int 0))) (e2 bX (ae 0) (eC (.int 1))))) (aq (e2 zm (e2 bX (ae 0) (eC (.int 0))) (e2 bX (ae 0) (eC (.int 1)))) aD)))) fH) (cF (fG 2 (wq (b2 ja (aA cC (aq (ae 0) aD)) (eC (.int 1))) (e2 bX (ae 0) (eC (.int 0))) (aA fX (aq (ae 0) aD)))) (dc (eK (aq (e2 yn (ae 1) (ae 2)) (aq (ae 2) aD))))))
noncomputable def iu:List D→R D:=lZ lA sd
theorem yT{P:Program}{w:World}{K:PySem.W.Frag}{mg:Str→Option Value}{base:Heap}{cl:Nat→Addr}(T:Tp K mg cl)(h:Def K mg (Str.ofString "reading") eX)(C_vote_of:Callee P w K mg base 1 (Str.ofString "vote_of") 1 fX):Callee P w K mg base 2 (Str.ofString "reading") 2 iu:=by
 obtain⟨f,fd,F,hm⟩:=h
 exact⟨f,fd,_,cz (k:=1) vO.2 qc.2 F sk (fun cdv A outer s H E hr=>(aN (cK (bB (h_ hr.units) (aI cO rfl T.z_len PySem.boot_len (ab (aa 0) ah)) ag (bG _)) (aM (a_ (cL (ab (aJ tI (aa 1) (aJ vk (ay (aa 0) ag (fun _ _=>rfl)) (ay (aa 0) ag (fun _ _=>rfl)))) (ab (aJ tW (ay (aa 0) ag (fun _ _=>rfl)) (ay (aa 0) ag (fun _ _=>rfl))) ah))))) cm) (aN (dg sk.nd rfl (Or.inl rfl) (vH (bB (h_ hr.units) (aI cO rfl T.z_len PySem.boot_len (ab (aa 0) ah)) ag (bG _)) (ay (aa 0) ag (fun _ _=>rfl)) (bO C_vote_of hr (by decide) rfl (ab (aa 0) ah) (aH b3)))) (aM (a_ (cL (ab (aJ tI (aa 1) (aa 2)) (ab (aa 2) ah)))))))),hm,F.kp,F.binds fun _ _ _ _ _ _ us hl=>match us,hl with | [_,_],_=>rfl⟩
noncomputable abbrev gp:Stmt:=top 9
noncomputable abbrev uu:List Str:=[(Str.ofString "mask"),(Str.ofString "number")]
noncomputable def yw:{b:List Stmt // ao gp=b}:=by
 have e:ao gp=ao gp:=rfl
 conv at e=>rhs;whnf
 exact⟨_,e⟩
noncomputable def rG:{b:Scope // af gp=b}:=by
 have e:af gp=af gp:=rfl
 conv at e=>rhs;whnf
 exact⟨_,e⟩
theorem Bx:ba uu [(Str.ofString "mask"),(Str.ofString "number")] rG.1:=⟨rfl,rfl,rfl,by decide+kernel,rfl,by decide+kernel,by decide+kernel⟩
noncomputable def uq:FS:=(dc (e2 zm (e2 nM (ae 0) (ae 1)) (eC (.int 1))))
noncomputable def jC:List D→R D:=lZ uu uq
theorem BP{P:Program}{w:World}{K:PySem.W.Frag}{mg:Str→Option Value}{base:Heap}{cl:Nat→Addr}(T:Tp K mg cl)(h:Def K mg (Str.ofString "bit_at") gp):Callee P w K mg base 1 (Str.ofString "bit_at") 2 jC:=by
 obtain⟨f,fd,F,hm⟩:=h
 exact⟨f,fd,_,cz (k:=0) yw.2 rG.2 F Bx (fun cdv A outer s H E hr=>(aM (a_ (aJ tW (aJ H0 (aa 0) (aa 1)) ag)))),hm,F.kp,F.binds fun _ _ _ _ _ _ us hl=>match us,hl with | [_,_],_=>rfl⟩
noncomputable abbrev c7:Stmt:=top 10
noncomputable abbrev ig:List Str:=[(Str.ofString "count"),(Str.ofString "inputs"),(Str.ofString "place"),(Str.ofString "longer"),(Str.ofString "bits")]
noncomputable def rf:{b:List Stmt // ao c7=b}:=by
 have e:ao c7=ao c7:=rfl
 conv at e=>rhs;whnf
 exact⟨_,e⟩
noncomputable def lP:{b:Scope // af c7=b}:=by
 have e:af c7=af c7:=rfl
 conv at e=>rhs;whnf
 exact⟨_,e⟩
theorem eR:ba ig [(Str.ofString "count")] lP.1:=⟨rfl,rfl,rfl,by decide+kernel,rfl,by decide+kernel,by decide+kernel⟩
noncomputable def kM:FZ:=(bC (i0 3 (xP (e2 lQ (ae 4) (eK (aq (eC (.int 0)) aD))))) (i0 3 (xP (e2 lQ (ae 4) (eK (aq (eC (.int 1)) aD))))))
noncomputable def kB:FZ:=(Bw 1 (bC (cA 3 (l6 (dM aD))) (bC (k3 (iP (gG (ae 1))) (kQ 4) kM) (cA 1 (bK 3)))))
noncomputable def kf:FZ:=(bC (cA 1 (l6 (dM (aq (eK aD) aD)))) (bC (k3 (iP (d8 (ae 0))) (kQ 2) kB) (js (bK 1))))
noncomputable def lF:List V3→aU→R3 V3:=lR ig kf
noncomputable def fu:List V3→aU→R3 V3:=n6 ig kf
theorem tw{P:Program}{w:World}{K:PySem.W.Frag}{mg:Str→Option Value}{base:Heap}{cl:Nat→Addr}(T:Tp K mg cl)(h:Def K mg (Str.ofString "all_inputs") c7):aQ P w K mg base cl 1 (Str.ofString "all_inputs") 1 lF:=by
 obtain⟨f,fd,F,hm⟩:=h
 exact⟨f,fd,_,cx (k:=0) rf.2 lP.2 F eR (fun cdv A outer s H E hr=>(av (bj eR.nd rfl (Or.inl rfl) (gO (cc (ab (cL ah) ah)))) (av (fJ PassesOwn.never rfl (eg (bW (aa 0) rfl T.z_range)) (bQ eR.nd rfl (Or.inl rfl)) (DA 1 (av (bj eR.nd rfl (Or.inl rfl) (gO (cc ah))) (av (fJ PassesOwn.never rfl (eg (eh (aa 1))) (bQ eR.nd rfl (Or.inl rfl)) (av (fM rfl (Or.inl rfl) (au (aJ qF (aa 4) (cL (ab ag ah))))) (aZ (fM rfl (Or.inl rfl) (au (aJ qF (aa 4) (cL (ab ag ah)))))))) (aZ (bj eR.nd rfl (Or.inl rfl) (aT 3))))))) (aZ (d6 (aT 1)))))),hm,F.kp,F.binds fun _ _ _ _ _ _ us hl=>match us,hl with | [_],_=>rfl⟩
noncomputable abbrev eU:Stmt:=top 11
noncomputable abbrev nX:List Str:=[(Str.ofString "bits"),(Str.ofString "mask"),(Str.ofString "bit")]
noncomputable def vV:{b:List Stmt // ao eU=b}:=by
 have e:ao eU=ao eU:=rfl
 conv at e=>rhs;whnf
 exact⟨_,e⟩
noncomputable def qo:{b:Scope // af eU=b}:=by
 have e:af eU=af eU:=rfl
 conv at e=>rhs;whnf
 exact⟨_,e⟩
theorem lx:ba nX [(Str.ofString "bits")] qo.1:=⟨rfl,rfl,rfl,by decide+kernel,rfl,by decide+kernel,by decide+kernel⟩
noncomputable def kJ:FS:=(fG 1 (e2 ei (e2 lW (ae 1) (eC (.int 2))) (ae 2)))
noncomputable def rm:FS:=(cF (fG 1 (eC (.int 0))) (cF (pd (D2 (ae 0)) (bh 2) kJ) (dc (ae 1))))
noncomputable def fV:List D→R D:=lZ nX rm
theorem zf{P:Program}{w:World}{K:PySem.W.Frag}{mg:Str→Option Value}{base:Heap}{cl:Nat→Addr}(T:Tp K mg cl)(h:Def K mg (Str.ofString "mask_of") eU):Callee P w K mg base 1 (Str.ofString "mask_of") 1 fV:=by
 obtain⟨f,fd,F,hm⟩:=h
 exact⟨f,fd,_,cz (k:=0) vV.2 qo.2 F lx (fun cdv A outer s H E hr=>(aN (dg lx.nd rfl (Or.inl rfl) ag) (aN (hJ PassesOwn.never rfl (BS (aa 0) rfl T.z_reversed) (bx lx.nd rfl (Or.inl rfl)) (aM (dg lx.nd rfl (Or.inl rfl) (aJ gx (aJ t4 (aa 1) ag) (aa 2))))) (aM (a_ (aa 1)))))),hm,F.kp,F.binds fun _ _ _ _ _ _ us hl=>match us,hl with | [_],_=>rfl⟩
noncomputable abbrev eY:Stmt:=top 12
noncomputable abbrev n8:List Str:=[(Str.ofString "inputs"),(Str.ofString "place")]
noncomputable def vK:{b:List Stmt // ao eY=b}:=by
 have e:ao eY=ao eY:=rfl
 conv at e=>rhs;whnf
 exact⟨_,e⟩
noncomputable def mf:{b:Scope // af eY=b}:=by
 have e:af eY=af eY:=rfl
 conv at e=>rhs;whnf
 exact⟨_,e⟩
theorem yk:ba n8 [(Str.ofString "inputs"),(Str.ofString "place")] mf.1:=⟨rfl,rfl,rfl,by decide+kernel,rfl,by decide+kernel,by decide+kernel⟩
noncomputable def rV:FS:=(dc (aA fV (aq (eNew (gn (gG (ae 0)) (bh 0) qy (e2 bX (ae 0) (ae 1)) [(Str.ofString "bits")] [1])) aD)))
noncomputable def ix:List D→R D:=lZ n8 rV
theorem yu{P:Program}{w:World}{K:PySem.W.Frag}{mg:Str→Option Value}{base:Heap}{cl:Nat→Addr}(T:Tp K mg cl)(h:Def K mg (Str.ofString "in_mask") eY)(C_mask_of:Callee P w K mg base 1 (Str.ofString "mask_of") 1 fV):Callee P w K mg base 2 (Str.ofString "in_mask") 2 ix:=by
 obtain⟨f,fd,F,hm⟩:=h
 exact⟨f,fd,_,cz (k:=1) vK.2 mf.2 F yk (fun cdv A outer s H E hr=>(aM (a_ (bO C_mask_of hr (by decide) rfl (ab (cV (gb rfl (cv.of (own:=[(Str.ofString "bits")]) (kp:=[1]) (kn:=[(Str.ofString "place")]) (sc:=mf.1) (N:=n8) rfl rfl (by decide+kernel)) (eh (aa 0)) (fun _ _ _=>(bx (show List.Nodup [(Str.ofString "bits"),(Str.ofString "place")] from by decide+kernel) rfl (Or.inl rfl))) (fun _ _ _=>fO) (fun _ _ _=>(ay (aa 0) (aa 1) (fun _ _=>rfl))))) ah) (aH b3))))),hm,F.kp,F.binds fun _ _ _ _ _ _ us hl=>match us,hl with | [_,_],_=>rfl⟩
noncomputable abbrev bu:Stmt:=inClass (top 13) 0
noncomputable abbrev df:List Str:=[(Str.ofString "self"),(Str.ofString "net"),(Str.ofString "inputs")]
noncomputable def mL:{b:List Stmt // ao bu=b}:=by
 have e:ao bu=ao bu:=rfl
 conv at e=>rhs;whnf
 exact⟨_,e⟩
noncomputable def et:{b:Scope // af bu=b}:=by
 have e:af bu=af bu:=rfl
 conv at e=>rhs;whnf
 exact⟨_,e⟩
theorem jK:ba df [(Str.ofString "self"),(Str.ofString "net")] et.1:=⟨rfl,rfl,rfl,by decide+kernel,rfl,by decide+kernel,by decide+kernel⟩
noncomputable def gI:FZ:=(bC (cA 2 (cf fu (ax (xP (aA cC (aq (e2 bX (ae 1) (eC (.int 0))) aD))) ck))) (bC (sU 0 (Str.ofString "net") (bK 0) (xP (ae 1))) (bC (sU 0 (Str.ofString "many_inputs") (bK 0) (xP (aA cC (aq (ae 2) aD)))) (bC (sU 0 (Str.ofString "full") (bK 0) (xP (aA fV (aq (eNew (gn (gG (ae 2)) (bh 0) qy (eC (.int 1)) [(Str.ofString "bits")] [])) aD)))) (sU 0 (Str.ofString "in_masks") (bK 0) (xP (eNew (gn (d8 (aA cC (aq (e2 bX (ae 1) (eC (.int 0))) aD))) (bh 0) qy (aA ix (aq (ae 1) (aq (ae 0) aD))) [(Str.ofString "place")] [2]))))))))
noncomputable def cU:List V3→aU→R3 V3:=lR df gI
noncomputable def xq:List V3→aU→R3 V3:=n6 df gI
theorem dQ{P:Program}{w:World}{K:PySem.W.Frag}{mg:Str→Option Value}{base:Heap}{cl:Nat→Addr}(T:Tp K mg cl)(h:yQ K (cl 0) (Str.ofString "__init__") (Str.ofString "Bench.__init__") bu)(C_mask_of:Callee P w K mg base 1 (Str.ofString "mask_of") 1 fV)(C_in_mask:Callee P w K mg base 2 (Str.ofString "in_mask") 2 ix)(XP_all_inputs:aQ P w K mg base cl 1 (Str.ofString "all_inputs") 1 fu):qj P w K mg base cl 3 0 (Str.ofString "Bench") 1 cU:=by
 obtain⟨f,fd,F,hm⟩:=h
 exact⟨f,fd,_,hm,cx (k:=2) mL.2 et.2 F jK (fun cdv A outer s H E hr=>(av (bj jK.nd rfl (Or.inr rfl) (bw XP_all_inputs hr (by decide) rfl (ai (au (aI cO rfl T.z_len PySem.boot_len (ab (ay (aa 1) ag (fun _ _=>rfl)) ah))) aS) (aj aP))) (av (ml T.C_Bench T.N_Bench_net (aT 0) (au (aa 1))) (av (ml T.C_Bench T.N_Bench_many_inputs (aT 0) (au (aI cO rfl T.z_len PySem.boot_len (ab (aa 2) ah)))) (av (ml T.C_Bench T.N_Bench_full (aT 0) (au (bO C_mask_of hr (by decide) rfl (ab (cV (gb rfl (cv.of (own:=[(Str.ofString "bits")]) (kp:=[]) (kn:=[]) (sc:=et.1) (N:=df) rfl rfl (by decide+kernel)) (eh (aa 2)) (fun _ _ _=>(bx (show List.Nodup [(Str.ofString "bits")] from by decide+kernel) rfl (Or.inl rfl))) (fun _ _ _=>fO) (fun _ _ _=>ag))) ah) (aH b3)))) (aZ (ml T.C_Bench T.N_Bench_in_masks (aT 0) (au (cV (gb rfl (cv.of (own:=[(Str.ofString "place")]) (kp:=[2]) (kn:=[(Str.ofString "inputs")]) (sc:=et.1) (N:=df) rfl rfl (by decide+kernel)) (bW (aI cO rfl T.z_len PySem.boot_len (ab (ay (aa 1) ag (fun _ _=>rfl)) ah)) rfl T.z_range) (fun _ _ _=>(bx (show List.Nodup [(Str.ofString "place"),(Str.ofString "inputs")] from by decide+kernel) rfl (Or.inl rfl))) (fun _ _ _=>fO) (fun _ _ _=>(bO C_in_mask hr (by decide) rfl (ab (aa 1) (ab (aa 0) ah)) (aH (aH b3)))))))))))))),T.M_Bench,F.binds fun _ _ _ _ _ _ us hl=>match us,hl with | [_,_],_=>rfl⟩
noncomputable abbrev bN:Stmt:=inClass (top 13) 1
noncomputable abbrev gT:List Str:=[(Str.ofString "self"),(Str.ofString "turned"),(Str.ofString "bad")]
noncomputable def p_:{b:List Stmt // ao bN=b}:=by
 have e:ao bN=ao bN:=rfl
 conv at e=>rhs;whnf
 exact⟨_,e⟩
noncomputable def kP:{b:Scope // af bN=b}:=by
 have e:af bN=af bN:=rfl
 conv at e=>rhs;whnf
 exact⟨_,e⟩
theorem rh:ba gT [(Str.ofString "self"),(Str.ofString "turned"),(Str.ofString "bad")] kP.1:=⟨rfl,rfl,rfl,by decide+kernel,rfl,by decide+kernel,by decide+kernel⟩
noncomputable def jl:FZ:=(js (cf gu (ax (mW 0 (Str.ofString "net") (bK 0)) (ax (cf fA (ax (mW 0 (Str.ofString "net") (bK 0)) (ax (mW 0 (Str.ofString "in_masks") (bK 0)) (ax (mW 0 (Str.ofString "full") (bK 0)) (ax (xP (ae 1)) (ax (xP (ae 2)) ck)))))) ck))))
noncomputable def kN:List V3→aU→R3 V3:=lR gT jl
noncomputable def eF:List V3→aU→R3 V3:=n6 gT jl
theorem fD{P:Program}{w:World}{K:PySem.W.Frag}{mg:Str→Option Value}{base:Heap}{cl:Nat→Addr}(T:Tp K mg cl)(h:ph K (cl 0) (Str.ofString "tells") (Str.ofString "Bench.tells") bN)(XP_out_masks:aQ P w K mg base cl 2 (Str.ofString "out_masks") 2 gu)(XP_wire_masks:aQ P w K mg base cl 3 (Str.ofString "wire_masks") 5 fA):fw P w K mg base cl 4 0 (Str.ofString "tells") 2 kN:=by
 obtain⟨f,fd,F,hm⟩:=h
 exact⟨f,fd,_,T.C_Bench,hm,cx (k:=3) p_.2 kP.2 F rh (fun cdv A outer s H E hr=>(aZ (d6 (bw XP_out_masks hr (by decide) rfl (ai (hX T.C_Bench T.N_Bench_net (aT 0)) (ai (bw XP_wire_masks hr (by decide) rfl (ai (hX T.C_Bench T.N_Bench_net (aT 0)) (ai (hX T.C_Bench T.N_Bench_in_masks (aT 0)) (ai (hX T.C_Bench T.N_Bench_full (aT 0)) (ai (au (aa 1)) (ai (au (aa 2)) aS))))) (aj (aj (aj (aj (aj aP)))))) aS)) (aj (aj aP)))))),F.binds fun _ _ _ _ _ _ us hl=>match us,hl with | [_,_,_],_=>rfl⟩
noncomputable abbrev bt:Stmt:=inClass (top 13) 2
noncomputable abbrev dS:List Str:=[(Str.ofString "self"),(Str.ofString "turned")]
noncomputable def mC:{b:List Stmt // ao bt=b}:=by
 have e:ao bt=ao bt:=rfl
 conv at e=>rhs;whnf
 exact⟨_,e⟩
noncomputable def gf:{b:Scope // af bt=b}:=by
 have e:af bt=af bt:=rfl
 conv at e=>rhs;whnf
 exact⟨_,e⟩
theorem nP:ba dS [(Str.ofString "self"),(Str.ofString "turned")] gf.1:=⟨rfl,rfl,rfl,by decide+kernel,rfl,by decide+kernel,by decide+kernel⟩
noncomputable def gH:FZ:=(js (kl (De (mP 0 (Str.ofString "tells") eF (bK 0) (ax (xP (ae 1)) (ax (xP (eK aD)) ck)))) (kQ 0) DF (kI iu (ax (xP (ae 0)) (ax (mW 0 (Str.ofString "full") (bK 1)) ck))) [(Str.ofString "masks")] [0]))
noncomputable def jg:List V3→aU→R3 V3:=lR dS gH
noncomputable def cw:List V3→aU→R3 V3:=n6 dS gH
theorem dR{P:Program}{w:World}{K:PySem.W.Frag}{mg:Str→Option Value}{base:Heap}{cl:Nat→Addr}(T:Tp K mg cl)(h:ph K (cl 0) (Str.ofString "readings") (Str.ofString "Bench.readings") bt)(C_reading:Callee P w K mg base 2 (Str.ofString "reading") 2 iu)(XP_Bench_tells:fw P w K mg base cl 4 0 (Str.ofString "tells") 2 eF):fw P w K mg base cl 5 0 (Str.ofString "readings") 1 jg:=by
 obtain⟨f,fd,F,hm⟩:=h
 exact⟨f,fd,_,T.C_Bench,hm,cx (k:=4) mC.2 gf.2 F nP (fun cdv A outer s H E hr=>(aZ (d6 (pI rfl (cv.of (own:=[(Str.ofString "masks")]) (kp:=[0]) (kn:=[(Str.ofString "self")]) (sc:=gf.1) (N:=dS) rfl rfl (by decide+kernel)) (yb (j4 XP_Bench_tells hr (by decide) (aT 0) (ai (au (aa 1)) (ai (au (cL ah)) aS)) (aj (aj aP)))) (fun _ _ _=>(bQ (show List.Nodup [(Str.ofString "masks"),(Str.ofString "self")] from by decide+kernel) rfl (Or.inl rfl))) (fun _ _ _=>si) (fun _ _ _=>(vp C_reading hr (by decide) rfl (ai (au (aa 0)) (ai (hX T.C_Bench T.N_Bench_full (aT 1)) aS)) (aj (aj aP)))))))),F.binds fun _ _ _ _ _ _ us hl=>match us,hl with | [_,_],_=>rfl⟩
noncomputable abbrev br:Stmt:=inClass (top 15) 0
noncomputable abbrev dP:List Str:=[(Str.ofString "self"),(Str.ofString "net")]
noncomputable def mz:{b:List Stmt // ao br=b}:=by
 have e:ao br=ao br:=rfl
 conv at e=>rhs;whnf
 exact⟨_,e⟩
noncomputable def gq:{b:Scope // af br=b}:=by
 have e:af br=af br:=rfl
 conv at e=>rhs;whnf
 exact⟨_,e⟩
theorem nF:ba dP [(Str.ofString "self"),(Str.ofString "net")] gq.1:=⟨rfl,rfl,rfl,by decide+kernel,rfl,by decide+kernel,by decide+kernel⟩
noncomputable def gJ:FZ:=(bC (sU 1 (Str.ofString "bench") (bK 0) (xE 0 cU (ax (xP (ae 1)) ck))) (bC (sU 1 (Str.ofString "plain") (bK 0) (mP 0 (Str.ofString "readings") cw (mW 1 (Str.ofString "bench") (bK 0)) (ax (xP (eK aD)) ck))) (sU 1 (Str.ofString "unsure") (bK 0) (xP (eNew (gn (j7 (e2 bX (ae 1) (eC (.int 1)))) (iR 2 (dH (bh 0) (dH (bh 1) iG))) (jr (hV (e2 bX (ae 1) (eC (.int 2))))) (ae 0) [(Str.ofString "place"),(Str.ofString "gate")] []))))))
noncomputable def cR:List V3→aU→R3 V3:=lR dP gJ
noncomputable def xW:List V3→aU→R3 V3:=n6 dP gJ
theorem dO{P:Program}{w:World}{K:PySem.W.Frag}{mg:Str→Option Value}{base:Heap}{cl:Nat→Addr}(T:Tp K mg cl)(h:yQ K (cl 1) (Str.ofString "__init__") (Str.ofString "Trial.__init__") br)(XK_Bench___init__:qj P w K mg base cl 3 0 (Str.ofString "Bench") 1 cU)(XP_Bench_readings:fw P w K mg base cl 5 0 (Str.ofString "readings") 1 cw):qj P w K mg base cl 6 1 (Str.ofString "Trial") 1 cR:=by
 obtain⟨f,fd,F,hm⟩:=h
 exact⟨f,fd,_,hm,cx (k:=5) mz.2 gq.2 F nF (fun cdv A outer s H E hr=>(av (ml T.C_Trial T.N_Trial_bench (aT 0) (wV XK_Bench___init__ hr (by decide) rfl (ai (au (aa 1)) aS) (aj aP))) (av (ml T.C_Trial T.N_Trial_plain (aT 0) (j4 XP_Bench_readings hr (by decide) (hX T.C_Trial T.N_Trial_bench (aT 0)) (ai (au (cL ah)) aS) (aj aP))) (aZ (ml T.C_Trial T.N_Trial_unsure (aT 0) (au (cV (gb rfl (cv.of (own:=[(Str.ofString "place"),(Str.ofString "gate")]) (kp:=[]) (kn:=[]) (sc:=gq.1) (N:=dP) rfl rfl (by decide+kernel)) (rZ (ay (aa 1) ag (fun _ _=>rfl)) rfl T.z_enumerate) (fun _ _ _=>(nj rfl (d9 (bx (show List.Nodup [(Str.ofString "place"),(Str.ofString "gate")] from by decide+kernel) rfl (Or.inl rfl)) (d9 (bx (show List.Nodup [(Str.ofString "place"),(Str.ofString "gate")] from by decide+kernel) rfl (Or.inl rfl)) k9)))) (fun _ _ _=>(uo (lz (gR (ay (aa 1) ag (fun _ _=>rfl)))))) (fun _ _ _=>(aa 0)))))))))),T.M_Trial,F.binds fun _ _ _ _ _ _ us hl=>match us,hl with | [_,_],_=>rfl⟩
noncomputable abbrev bf:Stmt:=inClass (top 15) 1
noncomputable abbrev eu:List Str:=[(Str.ofString "self"),(Str.ofString "turned"),(Str.ofString "level"),(Str.ofString "mask"),(Str.ofString "before"),(Str.ofString "after")]
noncomputable def l5:{b:List Stmt // ao bf=b}:=by
 have e:ao bf=ao bf:=rfl
 conv at e=>rhs;whnf
 exact⟨_,e⟩
noncomputable def iM:{b:Scope // af bf=b}:=by
 have e:af bf=af bf:=rfl
 conv at e=>rhs;whnf
 exact⟨_,e⟩
theorem cS:ba eu [(Str.ofString "self"),(Str.ofString "turned"),(Str.ofString "level")] iM.1:=⟨rfl,rfl,rfl,by decide+kernel,rfl,by decide+kernel,by decide+kernel⟩
noncomputable def ie:FZ:=(AQ (bP (b2 ja (ae 2) (eC (.str (Str.ofString "safe"))))) (cA 3 (xP (e2 B7 (e2 B7 (ae 3) (e2 zm (e2 bX (ae 4) (eC (.int 0))) (e2 bX (ae 5) (eC (.int 1))))) (e2 zm (e2 bX (ae 4) (eC (.int 1))) (e2 bX (ae 5) (eC (.int 0))))))) (cA 3 (xP (e2 B7 (e2 B7 (ae 3) (e2 yn (e2 bX (ae 4) (eC (.int 0))) (e2 bX (ae 5) (eC (.int 0))))) (e2 yn (e2 bX (ae 4) (eC (.int 1))) (e2 bX (ae 5) (eC (.int 1))))))))
noncomputable def gd:FZ:=(bC (cA 3 (xP (eC (.int 0)))) (bC (k3 (Gg (mW 1 (Str.ofString "plain") (bK 0)) (mP 0 (Str.ofString "readings") cw (mW 1 (Str.ofString "bench") (bK 0)) (ax (xP (ae 1)) ck))) (zg 2 (wK (kQ 4) (wK (kQ 5) zj))) ie) (js (xP (ae 3)))))
noncomputable def iL:List V3→aU→R3 V3:=lR eu gd
noncomputable def cH:List V3→aU→R3 V3:=n6 eu gd
theorem dA{P:Program}{w:World}{K:PySem.W.Frag}{mg:Str→Option Value}{base:Heap}{cl:Nat→Addr}(T:Tp K mg cl)(h:ph K (cl 1) (Str.ofString "breaks_at") (Str.ofString "Trial.breaks_at") bf)(XP_Bench_readings:fw P w K mg base cl 5 0 (Str.ofString "readings") 1 cw):fw P w K mg base cl 6 1 (Str.ofString "breaks_at") 2 iL:=by
 obtain⟨f,fd,F,hm⟩:=h
 exact⟨f,fd,_,T.C_Trial,hm,cx (k:=5) l5.2 iM.2 F cS (fun cdv A outer s H E hr=>(av (bj cS.nd rfl (Or.inl rfl) (au ag)) (av (fJ PassesOwn.never rfl (Cv (hX T.C_Trial T.N_Trial_plain (aT 0)) (j4 XP_Bench_readings hr (by decide) (hX T.C_Trial T.N_Trial_bench (aT 0)) (ai (au (aa 1)) aS) (aj aP)) rfl T.z_zip) (tQ rfl (iy (bQ cS.nd rfl (Or.inl rfl)) (iy (bQ cS.nd rfl (Or.inl rfl)) pS))) (aZ (pW (jE (bB (h_ hr.units) (aa 2) bF (bG _))) (aZ (bj cS.nd rfl (Or.inl rfl) (au (aJ vk (aJ vk (aa 3) (aJ tW (ay (aa 4) ag (fun _ _=>rfl)) (ay (aa 5) ag (fun _ _=>rfl)))) (aJ tW (ay (aa 4) ag (fun _ _=>rfl)) (ay (aa 5) ag (fun _ _=>rfl))))))) (aZ (bj cS.nd rfl (Or.inl rfl) (au (aJ vk (aJ vk (aa 3) (aJ tI (ay (aa 4) ag (fun _ _=>rfl)) (ay (aa 5) ag (fun _ _=>rfl)))) (aJ tI (ay (aa 4) ag (fun _ _=>rfl)) (ay (aa 5) ag (fun _ _=>rfl)))))))))) (aZ (d6 (au (aa 3))))))),F.binds fun _ _ _ _ _ _ us hl=>match us,hl with | [_,_,_],_=>rfl⟩
noncomputable abbrev bc:Stmt:=inClass (top 13) 4
noncomputable abbrev dz:List Str:=[(Str.ofString "self"),(Str.ofString "mask")]
noncomputable def mq:{b:List Stmt // ao bc=b}:=by
 have e:ao bc=ao bc:=rfl
 conv at e=>rhs;whnf
 exact⟨_,e⟩
noncomputable def fF:{b:Scope // af bc=b}:=by
 have e:af bc=af bc:=rfl
 conv at e=>rhs;whnf
 exact⟨_,e⟩
theorem ny:ba dz [(Str.ofString "self"),(Str.ofString "mask")] fF.1:=⟨rfl,rfl,rfl,by decide+kernel,rfl,by decide+kernel,by decide+kernel⟩
noncomputable def gr:FZ:=(js (kl (lO (mW 0 (Str.ofString "many_inputs") (bK 0))) (kQ 0) (bP (b2 ja (aA jC (aq (ae 1) (aq (ae 0) aD))) (eC (.int 1)))) (xP (ae 0)) [(Str.ofString "number")] [1]))
noncomputable def iI:List V3→aU→R3 V3:=lR dz gr
noncomputable def cG:List V3→aU→R3 V3:=n6 dz gr
theorem dE{P:Program}{w:World}{K:PySem.W.Frag}{mg:Str→Option Value}{base:Heap}{cl:Nat→Addr}(T:Tp K mg cl)(h:ph K (cl 0) (Str.ofString "inputs_in") (Str.ofString "Bench.inputs_in") bc)(C_bit_at:Callee P w K mg base 1 (Str.ofString "bit_at") 2 jC):fw P w K mg base cl 2 0 (Str.ofString "inputs_in") 1 iI:=by
 obtain⟨f,fd,F,hm⟩:=h
 exact⟨f,fd,_,T.C_Bench,hm,cx (k:=1) mq.2 fF.2 F ny (fun cdv A outer s H E hr=>(aZ (d6 (pI rfl (cv.of (own:=[(Str.ofString "number")]) (kp:=[1]) (kn:=[(Str.ofString "mask")]) (sc:=fF.1) (N:=dz) rfl rfl (by decide+kernel)) (gL (hX T.C_Bench T.N_Bench_many_inputs (aT 0)) rfl T.z_range) (fun _ _ _=>(bQ (show List.Nodup [(Str.ofString "number"),(Str.ofString "mask")] from by decide+kernel) rfl (Or.inl rfl))) (fun _ _ _=>(nC (jE (bB (h_ hr.units) (bO C_bit_at hr (by decide) rfl (ab (aa 1) (ab (aa 0) ah)) (aH (aH b3))) ag (bG _))))) (fun _ _ _=>(au (aa 0))))))),F.binds fun _ _ _ _ _ _ us hl=>match us,hl with | [_,_],_=>rfl⟩
noncomputable abbrev eW:Stmt:=top 16
noncomputable abbrev lu:List Str:=[(Str.ofString "net"),(Str.ofString "trial"),(Str.ofString "found"),(Str.ofString "place"),(Str.ofString "wrong"),(Str.ofString "none")]
noncomputable def wM:{b:List Stmt // ao eW=b}:=by
 have e:ao eW=ao eW:=rfl
 conv at e=>rhs;whnf
 exact⟨_,e⟩
noncomputable def qb:{b:Scope // af eW=b}:=by
 have e:af eW=af eW:=rfl
 conv at e=>rhs;whnf
 exact⟨_,e⟩
theorem iz:ba lu [(Str.ofString "net")] qb.1:=⟨rfl,rfl,rfl,by decide+kernel,rfl,by decide+kernel,by decide+kernel⟩
noncomputable def og:FZ:=(bC (cA 4 (mP 1 (Str.ofString "breaks_at") cH (bK 1) (ax (xP (eK (aq (ae 3) aD))) (ax (xP (eC (.str (Str.ofString "safe")))) ck)))) (bC (cA 5 (x2 yn (mP 1 (Str.ofString "breaks_at") cH (bK 1) (ax (xP (eK (aq (ae 3) aD))) (ax (xP (eC (.str (Str.ofString "right")))) ck))) (xP (ae 4)))) (i0 2 (yY (ax (xP (ae 3)) (ax (kI cC (ax (mP 0 (Str.ofString "inputs_in") cG (mW 1 (Str.ofString "bench") (bK 1)) (ax (xP (ae 4)) ck)) ck)) (ax (kI cC (ax (mP 0 (Str.ofString "inputs_in") cG (mW 1 (Str.ofString "bench") (bK 1)) (ax (xP (ae 5)) ck)) ck)) ck)))))))
noncomputable def nK:FZ:=(bC (cA 1 (xE 1 cR (ax (xP (ae 0)) ck))) (bC (cA 2 (l6 (dM aD))) (bC (k3 (De (mW 1 (Str.ofString "unsure") (bK 1))) (kQ 3) og) (js (bK 2)))))
noncomputable def iK:List V3→aU→R3 V3:=lR lu nK
noncomputable def mh:List V3→aU→R3 V3:=n6 lu nK
theorem ym{P:Program}{w:World}{K:PySem.W.Frag}{mg:Str→Option Value}{base:Heap}{cl:Nat→Addr}(T:Tp K mg cl)(h:Def K mg (Str.ofString "matters") eW)(XK_Trial___init__:qj P w K mg base cl 6 1 (Str.ofString "Trial") 1 cR)(XP_Trial_breaks_at:fw P w K mg base cl 6 1 (Str.ofString "breaks_at") 2 cH)(XP_Bench_inputs_in:fw P w K mg base cl 2 0 (Str.ofString "inputs_in") 1 cG):aQ P w K mg base cl 8 (Str.ofString "matters") 1 iK:=by
 obtain⟨f,fd,F,hm⟩:=h
 exact⟨f,fd,_,cx (k:=7) wM.2 qb.2 F iz (fun cdv A outer s H E hr=>(av (bj iz.nd rfl (Or.inl rfl) (wV XK_Trial___init__ hr (by decide) rfl (ai (au (aa 0)) aS) (aj aP))) (av (bj iz.nd rfl (Or.inl rfl) (gO (cc ah))) (av (fJ PassesOwn.never rfl (yb (hX T.C_Trial T.N_Trial_unsure (aT 1))) (bQ iz.nd rfl (Or.inl rfl)) (av (bj iz.nd rfl (Or.inl rfl) (j4 XP_Trial_breaks_at hr (by decide) (aT 1) (ai (au (cL (ab (aa 3) ah))) (ai (au bF) aS)) (aj (aj aP)))) (av (bj iz.nd rfl (Or.inl rfl) (oH tI (j4 XP_Trial_breaks_at hr (by decide) (aT 1) (ai (au (cL (ab (aa 3) ah))) (ai (au bF) aS)) (aj (aj aP))) (au (aa 4)))) (aZ (fM rfl (Or.inl rfl) (tH (ai (au (aa 3)) (ai (uV cO rfl T.z_len PySem.boot_len (ai (j4 XP_Bench_inputs_in hr (by decide) (hX T.C_Trial T.N_Trial_bench (aT 1)) (ai (au (aa 4)) aS) (aj aP)) aS)) (ai (uV cO rfl T.z_len PySem.boot_len (ai (j4 XP_Bench_inputs_in hr (by decide) (hX T.C_Trial T.N_Trial_bench (aT 1)) (ai (au (aa 5)) aS) (aj aP)) aS)) aS))))))))) (aZ (d6 (aT 2))))))),hm,F.kp,F.binds fun _ _ _ _ _ _ us hl=>match us,hl with | [_],_=>rfl⟩
noncomputable abbrev cJ:Stmt:=top 18
noncomputable abbrev jq:List Str:=[(Str.ofString "script"),(Str.ofString "k")]
noncomputable def qz:{b:List Stmt // ao cJ=b}:=by
 have e:ao cJ=ao cJ:=rfl
 conv at e=>rhs;whnf
 exact⟨_,e⟩
noncomputable def kY:{b:Scope // af cJ=b}:=by
 have e:af cJ=af cJ:=rfl
 conv at e=>rhs;whnf
 exact⟨_,e⟩
theorem qU:ba jq [(Str.ofString "script"),(Str.ofString "k")] kY.1:=⟨rfl,rfl,rfl,by decide+kernel,rfl,by decide+kernel,by decide+kernel⟩
noncomputable def jo:FS:=(cF (ky (b2 zk (ae 1) (aA cC (aq (ae 0) aD))) (dc (e2 bX (ae 0) (ae 1))) fH) (dc (eC (.int 0))))
noncomputable def er:List D→R D:=lZ jq jo
theorem qV{P:Program}{w:World}{K:PySem.W.Frag}{mg:Str→Option Value}{base:Heap}{cl:Nat→Addr}(T:Tp K mg cl)(h:Def K mg (Str.ofString "_law_cell_at") cJ):Callee P w K mg base 1 (Str.ofString "_law_cell_at") 2 er:=by
 obtain⟨f,fd,F,hm⟩:=h
 exact⟨f,fd,_,cz (k:=0) qz.2 kY.2 F qU (fun cdv A outer s H E hr=>(aN (cK (bB GX (aa 1) (aI cO rfl T.z_len PySem.boot_len (ab (aa 0) ah)) (bG _)) (aM (a_ (ay (aa 0) (aa 1) (fun _ _=>rfl)))) cm) (aM (a_ ag)))),hm,F.kp,F.binds fun _ _ _ _ _ _ us hl=>match us,hl with | [_,_],_=>rfl⟩
noncomputable abbrev d7:Stmt:=top 19
noncomputable abbrev jT:List Str:=[(Str.ofString "cell")]
noncomputable def uU:{b:List Stmt // ao d7=b}:=by
 have e:ao d7=ao d7:=rfl
 conv at e=>rhs;whnf
 exact⟨_,e⟩
noncomputable def ox:{b:Scope // af d7=b}:=by
 have e:af d7=af d7:=rfl
 conv at e=>rhs;whnf
 exact⟨_,e⟩
theorem wy:ba jT [(Str.ofString "cell")] ox.1:=⟨rfl,rfl,rfl,by decide+kernel,rfl,by decide+kernel,by decide+kernel⟩
noncomputable def mj:FZ:=(js (l6 (dM (aq (aA cAbs (aq (ae 0) aD)) (aq (e2 g9 (e2 lW (e2 ei (e2 g9 (ae 0) (eC (.int 2147483647))) (eC (.int 1))) (eC (.int 742938285))) (eC (.int 2147483647))) aD)))))
noncomputable def eH:List V3→aU→R3 V3:=lR jT mj
noncomputable def uI:List V3→aU→R3 V3:=n6 jT mj
theorem vB{P:Program}{w:World}{K:PySem.W.Frag}{mg:Str→Option Value}{base:Heap}{cl:Nat→Addr}(T:Tp K mg cl)(h:Def K mg (Str.ofString "_law_reel") d7):aQ P w K mg base cl 1 (Str.ofString "_law_reel") 1 eH:=by
 obtain⟨f,fd,F,hm⟩:=h
 exact⟨f,fd,_,cx (k:=0) uU.2 ox.2 F wy (fun cdv A outer s H E hr=>(aZ (d6 (gO (cc (ab (aI HS rfl T.z_abs PyProof.Rows.boot_abs (ab (aa 0) ah)) (ab (aJ ko (aJ t4 (aJ gx (aJ ko (aa 0) ag) ag) ag) ag) ah))))))),hm,F.kp,F.binds fun _ _ _ _ _ _ us hl=>match us,hl with | [_],_=>rfl⟩
noncomputable abbrev ee:Stmt:=top 20
noncomputable abbrev jR:List Str:=[(Str.ofString "reel"),(Str.ofString "many"),(Str.ofString "found"),(Str.ofString "stir")]
noncomputable def uC:{b:List Stmt // ao ee=b}:=by
 have e:ao ee=ao ee:=rfl
 conv at e=>rhs;whnf
 exact⟨_,e⟩
noncomputable def oS:{b:Scope // af ee=b}:=by
 have e:af ee=af ee:=rfl
 conv at e=>rhs;whnf
 exact⟨_,e⟩
theorem mr:ba jR [(Str.ofString "reel"),(Str.ofString "many")] oS.1:=⟨rfl,rfl,rfl,by decide+kernel,rfl,by decide+kernel,by decide+kernel⟩
noncomputable def md:FZ:=(bC (AQ (bT (b2 B5 (e2 bX (ae 0) (eC (.int 0))) (e2 qH (eC (.int 10)) (eC (.int 18))))) (bC (cA 2 (xT (e2 g9 (e2 bX (ae 0) (eC (.int 0))) (ae 1)))) (bC (vM (bK 0) (xP (eC (.int 0))) (xT (e2 vd (e2 bX (ae 0) (eC (.int 0))) (ae 1)))) (js (xP (ae 2))))) tf) (bC (vM (bK 0) (xP (eC (.int 1))) (xT (e2 g9 (e2 ei (e2 lW (e2 bX (ae 0) (eC (.int 1))) (eC (.int 48271))) (eC (.int 11))) (eC (.int 2147483647))))) (bC (cA 3 (xT (e2 g9 (e2 lW (e2 bX (ae 0) (eC (.int 1))) (e2 bX (ae 0) (eC (.int 1)))) (eC (.int 2147483629))))) (js (xP (e2 g9 (e2 vd (e2 g9 (e2 lW (ae 3) (eC (.int 69621))) (eC (.int 2147483587))) (eC (.int 8))) (ae 1)))))))
noncomputable def ot:List V3→aU→R3 V3:=lR jR md
noncomputable def aC:List V3→aU→R3 V3:=n6 jR md
theorem wQ{P:Program}{w:World}{K:PySem.W.Frag}{mg:Str→Option Value}{base:Heap}{cl:Nat→Addr}(T:Tp K mg cl)(h:Def K mg (Str.ofString "_law_take") ee):aQ P w K mg base cl 1 (Str.ofString "_law_take") 2 ot:=by
 obtain⟨f,fd,F,hm⟩:=h
 exact⟨f,fd,_,cx (k:=0) uC.2 oS.2 F mr (fun cdv A outer s H E hr=>(av (pW (jM (bB JN (ay (aa 0) ag (fun _ _=>rfl)) (aJ D9 ag ag) (bG _))) (av (bj mr.nd rfl (Or.inl rfl) (cB (aJ ko (ay (aa 0) ag (fun _ _=>rfl)) (aa 1)))) (av (sL (cB (aJ AG (ay (aa 0) ag (fun _ _=>rfl)) (aa 1))) (sO (PX.go (aT 0)) (PX.go (au ag)) set_list)) (aZ (d6 (au (aa 2)))))) nq) (av (sL (cB (aJ ko (aJ gx (aJ t4 (ay (aa 0) ag (fun _ _=>rfl)) ag) ag) ag)) (sO (PX.go (aT 0)) (PX.go (au ag)) set_list)) (av (bj mr.nd rfl (Or.inl rfl) (cB (aJ ko (aJ t4 (ay (aa 0) ag (fun _ _=>rfl)) (ay (aa 0) ag (fun _ _=>rfl))) ag))) (aZ (d6 (au (aJ ko (aJ AG (aJ ko (aJ t4 (aa 3) ag) ag) ag) (aa 1))))))))),hm,F.kp,F.binds fun _ _ _ _ _ _ us hl=>match us,hl with | [_,_],_=>rfl⟩
noncomputable abbrev dr:Stmt:=top 21
noncomputable abbrev i_:List Str:=[(Str.ofString "reel"),(Str.ofString "many"),(Str.ofString "letters"),(Str.ofString "words"),(Str.ofString "names"),(Str.ofString "k"),(Str.ofString "name"),(Str.ofString "j")]
noncomputable def tG:{b:List Stmt // ao dr=b}:=by
 have e:ao dr=ao dr:=rfl
 conv at e=>rhs;whnf
 exact⟨_,e⟩
noncomputable def mR:{b:Scope // af dr=b}:=by
 have e:af dr=af dr:=rfl
 conv at e=>rhs;whnf
 exact⟨_,e⟩
theorem du:ba i_ [(Str.ofString "reel"),(Str.ofString "many")] mR.1:=⟨rfl,rfl,rfl,by decide+kernel,rfl,by decide+kernel,by decide+kernel⟩
noncomputable def lK:FZ:=(cA 6 (x2 ei (xP (ae 6)) (DN (xP (ae 2)) (cf aC (ax (bK 0) (ax (xP (eC (.int 26))) ck))))))
noncomputable def gS:FZ:=(cA 6 (xP (e2 ei (xM (ae 6) kT (jH (EM (eC (.int 1))))) (e2 bX (ae 2) (e2 g9 (e2 ei (yX "str" x_ (ae 2) (aq (e2 bX (ae 6) (EM (eC (.int 1)))) aD)) (eC (.int 1))) (eC (.int 26)))))))
noncomputable def jv:FZ:=(bC (cA 6 (DN (xP (e2 ei (eNew (dM (aq (eC (.str (Str.ofString ""))) (aq (eC (.str (Str.ofString ""))) (aq (eC (.str (Str.ofString "zz"))) (aq (eC (.str (Str.ofString "qrst"))) aD)))))) (ae 3))) (cf aC (ax (bK 0) (ax (xP (eC (.int 13))) ck))))) (bC (k3 (lO (x2 ei (xP (eC (.int 1))) (cf aC (ax (bK 0) (ax (xP (eC (.int 4))) ck))))) (kQ 7) lK) (bC (wu 1000 (bT (wG (b2 o9 (ae 6) (ae 4)) (b2 o9 (ae 6) (ae 3)))) gS) (i0 4 (xP (ae 6))))))
noncomputable def kA:FZ:=(bC (cA 2 (xP (eC (.str (Str.ofString "abcdefghijklmnopqrstuvwxyz"))))) (bC (cA 3 (xP (eNew (dM (aq (eC (.str (Str.ofString "in"))) (aq (eC (.str (Str.ofString "gate"))) (aq (eC (.str (Str.ofString "sure"))) (aq (eC (.str (Str.ofString "out"))) (aq (eC (.str (Str.ofString "not"))) (aq (eC (.str (Str.ofString "and"))) (aq (eC (.str (Str.ofString "or"))) (aq (eC (.str (Str.ofString "xor"))) (aq (eC (.str (Str.ofString "vote"))) aD))))))))))))) (bC (cA 4 (l6 (dM aD))) (bC (k3 (iP (d8 (ae 1))) (kQ 5) jv) (js (bK 4))))))
noncomputable def mZ:List V3→aU→R3 V3:=lR i_ kA
noncomputable def f7:List V3→aU→R3 V3:=n6 i_ kA
theorem t7{P:Program}{w:World}{K:PySem.W.Frag}{mg:Str→Option Value}{base:Heap}{cl:Nat→Addr}(T:Tp K mg cl)(h:Def K mg (Str.ofString "_law_names") dr)(XP_law_take:aQ P w K mg base cl 1 (Str.ofString "_law_take") 2 aC):aQ P w K mg base cl 2 (Str.ofString "_law_names") 2 mZ:=by
 obtain⟨f,fd,F,hm⟩:=h
 exact⟨f,fd,_,cx (k:=1) tG.2 mR.2 F du (fun cdv A outer s H E hr=>(av (bj du.nd rfl (Or.inl rfl) (au bF)) (av (bj du.nd rfl (Or.inl rfl) (au (cV (cc (ab bF (ab bF (ab bF (ab bF (ab bF (ab bF (ab bF (ab bF (ab bF ah))))))))))))) (av (bj du.nd rfl (Or.inl rfl) (gO (cc ah))) (av (fJ PassesOwn.never rfl (eg (bW (aa 1) rfl T.z_range)) (bQ du.nd rfl (Or.inl rfl)) (av (bj du.nd rfl (Or.inl rfl) (rH (au (aJ gx (cV (cc (ab bF (ab bF (ab bF (ab bF ah)))))) (aa 3))) (bw XP_law_take hr (by decide) rfl (ai (aT 0) (ai (au ag) aS)) (aj (aj aP))) (fun _ _=>rfl))) (av (fJ PassesOwn.never rfl (gL (oH gx (au ag) (bw XP_law_take hr (by decide) rfl (ai (aT 0) (ai (au ag) aS)) (aj (aj aP)))) rfl T.z_range) (bQ du.nd rfl (Or.inl rfl)) (aZ (bj du.nd rfl (Or.inl rfl) (oH gx (au (aa 6)) (rH (au (aa 2)) (bw XP_law_take hr (by decide) rfl (ai (aT 0) (ai (au ag) aS)) (aj (aj aP))) (fun _ _=>rfl)))))) (av (zU 1000 PassesOwn.never (jM (mQ (Ds (bB zi (aa 6) (aa 4) (by with_unfolding_all rfl)) (BE (bB zi (aa 6) (aa 3) (by with_unfolding_all rfl)))))) (aZ (bj du.nd rfl (Or.inl rfl) (au (aJ gx (AS (aa 6) Bm (pV (yd ag))) (ay (aa 2) (aJ ko (aJ gx (AV (aa 2) (ab (ay (aa 6) (yd ag) (fun _ _=>rfl)) ah)) ag) ag) (fun _ _=>rfl))))))) (aZ (fM rfl (Or.inl rfl) (au (aa 6)))))))) (aZ (d6 (aT 4)))))))),hm,F.kp,F.binds fun _ _ _ _ _ _ us hl=>match us,hl with | [_,_],_=>rfl⟩
noncomputable abbrev d5:Stmt:=top 22
noncomputable abbrev j8:List Str:=[(Str.ofString "reel"),(Str.ofString "kinds"),(Str.ofString "most_sure"),(Str.ofString "kind"),(Str.ofString "many"),(Str.ofString "wires"),(Str.ofString "k"),(Str.ofString "back"),(Str.ofString "wire")]
noncomputable def uZ:{b:List Stmt // ao d5=b}:=by
 have e:ao d5=ao d5:=rfl
 conv at e=>rhs;whnf
 exact⟨_,e⟩
noncomputable def om:{b:Scope // af d5=b}:=by
 have e:af d5=af d5:=rfl
 conv at e=>rhs;whnf
 exact⟨_,e⟩
theorem eJ:ba j8 [(Str.ofString "reel"),(Str.ofString "kinds"),(Str.ofString "most_sure")] om.1:=⟨rfl,rfl,rfl,by decide+kernel,rfl,by decide+kernel,by decide+kernel⟩
noncomputable def mM:FZ:=(bC (cA 7 (cf aC (ax (bK 0) (ax (xP (eC (.int 2))) ck)))) (bC (cA 8 (cf aC (ax (bK 0) (ax (xT (aA cC (aq (ae 1) aD))) ck)))) (bC (AQ (bP (b2 ja (ae 7) (eC (.int 1)))) (cA 8 (xT (e2 jN (e2 jN (aA cC (aq (ae 1) aD)) (eC (.int 1))) (e2 g9 (ae 8) (aA sf (aq (aA cC (aq (ae 1) aD)) (aq (eC (.int 4)) aD))))))) tf) (i0 5 (xP (ae 8))))))
noncomputable def lY:FZ:=(bC (cA 3 (DN (xP (eNew (dM (aq (eC (.str (Str.ofString "not"))) (aq (eC (.str (Str.ofString "and"))) (aq (eC (.str (Str.ofString "or"))) (aq (eC (.str (Str.ofString "xor"))) (aq (eC (.str (Str.ofString "vote"))) (aq (eC (.str (Str.ofString "xor"))) (aq (eC (.str (Str.ofString "and"))) aD)))))))))) (cf aC (ax (bK 0) (ax (xP (eC (.int 7))) ck))))) (bC (cA 4 (xP (Gu [((Sum.inr (Str.ofString "not"):Key),V.int 1),((Sum.inr (Str.ofString "vote"):Key),V.int 3)] (ae 3) (eC (.int 2))))) (bC (cA 5 (l6 (dM aD))) (bC (k3 (iP (d8 (ae 4))) (kQ 6) mM) (js (yY (ax (xP (ae 3)) (ax (xT (aA fL (aq (ae 5) aD))) (ax (x2 zk (cf aC (ax (bK 0) (ax (xP (eC (.int 4))) ck))) (xP (ae 2))) ck)))))))))
noncomputable def oK:List V3→aU→R3 V3:=lR j8 lY
noncomputable def fU:List V3→aU→R3 V3:=n6 j8 lY
theorem wo{P:Program}{w:World}{K:PySem.W.Frag}{mg:Str→Option Value}{base:Heap}{cl:Nat→Addr}(T:Tp K mg cl)(h:Def K mg (Str.ofString "_law_gate") d5)(XP_law_take:aQ P w K mg base cl 1 (Str.ofString "_law_take") 2 aC):aQ P w K mg base cl 2 (Str.ofString "_law_gate") 3 oK:=by
 obtain⟨f,fd,F,hm⟩:=h
 exact⟨f,fd,_,cx (k:=1) uZ.2 om.2 F eJ (fun cdv A outer s H E hr=>(av (bj eJ.nd rfl (Or.inl rfl) (rH (au (cV (cc (ab bF (ab bF (ab bF (ab bF (ab bF (ab bF (ab bF ah)))))))))) (bw XP_law_take hr (by decide) rfl (ai (aT 0) (ai (au ag) aS)) (aj (aj aP))) (fun _ _=>rfl))) (av (bj eJ.nd rfl (Or.inl rfl) (au (DO (HZ hr) (m7 qg pZ (m7 qg pZ wY)) rfl rfl (by simp) (fun _ _ _ h=>h) (by decide) (aa 3) ag ⟨rfl,rfl,rfl,rfl⟩ (Cq (m7 qg pZ (m7 qg pZ wY)) rfl rfl (by simp) (by decide))))) (av (bj eJ.nd rfl (Or.inl rfl) (gO (cc ah))) (av (fJ PassesOwn.never rfl (eg (bW (aa 4) rfl T.z_range)) (bQ eJ.nd rfl (Or.inl rfl)) (av (bj eJ.nd rfl (Or.inl rfl) (bw XP_law_take hr (by decide) rfl (ai (aT 0) (ai (au ag) aS)) (aj (aj aP)))) (av (bj eJ.nd rfl (Or.inl rfl) (bw XP_law_take hr (by decide) rfl (ai (aT 0) (ai (cB (aI cO rfl T.z_len PySem.boot_len (ab (aa 1) ah))) aS)) (aj (aj aP)))) (av (pW (jE (bB (h_ hr.units) (aa 7) ag (bG _))) (aZ (bj eJ.nd rfl (Or.inl rfl) (cB (aJ oI (aJ oI (aI cO rfl T.z_len PySem.boot_len (ab (aa 1) ah)) ag) (aJ ko (aa 8) (aI (z_ rfl) rfl T.z_min PyProof.Rows.boot_min (ab (aI cO rfl T.z_len PySem.boot_len (ab (aa 1) ah)) (ab ag ah)))))))) nq) (aZ (fM rfl (Or.inl rfl) (au (aa 8)))))))) (aZ (d6 (tH (ai (au (aa 3)) (ai (cB (cI pJ rfl T.z_tuple PyProof.Rows.boot_tuple (ab (aa 5) ah))) (ai (Ax GX (bw XP_law_take hr (by decide) rfl (ai (aT 0) (ai (au ag) aS)) (aj (aj aP))) (au (aa 2)) (bG _)) aS))))))))))),hm,F.kp,F.binds fun _ _ _ _ _ _ us hl=>match us,hl with | [_,_,_],_=>rfl⟩
noncomputable abbrev dt:Stmt:=top 23
noncomputable abbrev g6:List Str:=[(Str.ofString "reel"),(Str.ofString "gate"),(Str.ofString "kinds"),(Str.ofString "wires"),(Str.ofString "wire"),(Str.ofString "same")]
noncomputable def tq:{b:List Stmt // ao dt=b}:=by
 have e:ao dt=ao dt:=rfl
 conv at e=>rhs;whnf
 exact⟨_,e⟩
noncomputable def jW:{b:Scope // af dt=b}:=by
 have e:af dt=af dt:=rfl
 conv at e=>rhs;whnf
 exact⟨_,e⟩
theorem i5:ba g6 [(Str.ofString "reel"),(Str.ofString "gate"),(Str.ofString "kinds")] jW.1:=⟨rfl,rfl,rfl,by decide+kernel,rfl,by decide+kernel,by decide+kernel⟩
noncomputable def lL:FZ:=(bC (cA 5 (kl (lO (xT (aA cC (aq (ae 2) aD)))) (kQ 0) (bT (b2 ja (e2 bX (ae 1) (ae 0)) (e2 bX (ae 1) (ae 2)))) (xP (ae 0)) [(Str.ofString "one")] [2,4])) (i0 3 (DN (xP (ae 5)) (cf aC (ax (bK 0) (ax (xP (aA cC (aq (ae 5) aD))) ck))))))
noncomputable def kG:FZ:=(bC (cA 3 (l6 (dM aD))) (bC (k3 (iP (gG (e2 bX (ae 1) (eC (.int 1))))) (kQ 4) lL) (js (yY (ax (xP (e2 bX (ae 1) (eC (.int 0)))) (ax (xT (aA fL (aq (ae 3) aD))) (ax (x2 ja (cf aC (ax (bK 0) (ax (xP (eC (.int 4))) ck))) (xP (eC (.int 0)))) ck)))))))
noncomputable def mV:List V3→aU→R3 V3:=lR g6 kG
noncomputable def gh:List V3→aU→R3 V3:=n6 g6 kG
theorem va{P:Program}{w:World}{K:PySem.W.Frag}{mg:Str→Option Value}{base:Heap}{cl:Nat→Addr}(T:Tp K mg cl)(h:Def K mg (Str.ofString "_law_again") dt)(XP_law_take:aQ P w K mg base cl 1 (Str.ofString "_law_take") 2 aC):aQ P w K mg base cl 2 (Str.ofString "_law_again") 3 mV:=by
 obtain⟨f,fd,F,hm⟩:=h
 exact⟨f,fd,_,cx (k:=1) tq.2 jW.2 F i5 (fun cdv A outer s H E hr=>(av (bj i5.nd rfl (Or.inl rfl) (gO (cc ah))) (av (fJ PassesOwn.never rfl (eg (eh (ay (aa 1) ag (fun _ _=>rfl)))) (bQ i5.nd rfl (Or.inr rfl)) (av (qG rfl i5.nd rfl rfl (cv.of (own:=[(Str.ofString "one")]) (kp:=[2,4]) (kn:=[(Str.ofString "kinds"),(Str.ofString "wire")]) (sc:=jW.1) (N:=g6) rfl rfl (by decide+kernel)) (gL (cB (aI cO rfl T.z_len PySem.boot_len (ab (aa 2) ah))) rfl T.z_range) (fun _ _ _=>(bQ (show List.Nodup [(Str.ofString "one"),(Str.ofString "kinds"),(Str.ofString "wire")] from by decide+kernel) rfl (Or.inl rfl))) (fun _ _ _=>(nC (jM (bB (h_ hr.units) (ay (aa 1) (aa 0) (fun _ _=>rfl)) (ay (aa 1) (aa 2) (fun _ _=>rfl)) (bG _))))) (fun _ _ _=>(au (aa 0)))) (aZ (fM rfl (Or.inl rfl) (rH (au (aa 5)) (bw XP_law_take hr (by decide) rfl (ai (aT 0) (ai (au (aI cO rfl T.z_len PySem.boot_len (ab (aa 5) ah))) aS)) (aj (aj aP))) (fun _ _=>rfl)))))) (aZ (d6 (tH (ai (au (ay (aa 1) ag (fun _ _=>rfl))) (ai (cB (cI pJ rfl T.z_tuple PyProof.Rows.boot_tuple (ab (aa 3) ah))) (ai (Ax (h_ hr.units) (bw XP_law_take hr (by decide) rfl (ai (aT 0) (ai (au ag) aS)) (aj (aj aP))) (au ag) (bG _)) aS))))))))),hm,F.kp,F.binds fun _ _ _ _ _ _ us hl=>match us,hl with | [_,_,_],_=>rfl⟩
noncomputable abbrev ef:Stmt:=top 24
noncomputable abbrev gM:List Str:=[(Str.ofString "reel"),(Str.ofString "kinds"),(Str.ofString "names"),(Str.ofString "most"),(Str.ofString "outs"),(Str.ofString "k"),(Str.ofString "wire"),(Str.ofString "same"),(Str.ofString "width"),(Str.ofString "some"),(Str.ofString "way")]
noncomputable def uL:{b:List Stmt // ao ef=b}:=by
 have e:ao ef=ao ef:=rfl
 conv at e=>rhs;whnf
 exact⟨_,e⟩
noncomputable def i4:{b:Scope // af ef=b}:=by
 have e:af ef=af ef:=rfl
 conv at e=>rhs;whnf
 exact⟨_,e⟩
theorem eP:ba gM [(Str.ofString "reel"),(Str.ofString "kinds"),(Str.ofString "names"),(Str.ofString "most")] i4.1:=⟨rfl,rfl,rfl,by decide+kernel,rfl,by decide+kernel,by decide+kernel⟩
noncomputable def jX:FZ:=(bC (cA 6 (x2 jN (xT (e2 jN (aA cC (aq (ae 1) aD)) (eC (.int 1)))) (cf aC (ax (bK 0) (ax (xT (aA cC (aq (ae 1) aD))) ck))))) (bC (cA 7 (kl (lO (xT (aA cC (aq (ae 1) aD)))) (kQ 0) (bT (b2 ja (e2 bX (ae 1) (ae 0)) (e2 bX (ae 1) (ae 2)))) (xP (ae 0)) [(Str.ofString "one")] [1,6])) (bC (cA 8 (DN (xP (eNew (dM (aq (eC (.int 1)) (aq (eC (.int 1)) (aq (eC (.int 2)) (aq (eC (.int 2)) (aq (eC (.int 3)) (aq (eC (.int 3)) aD))))))))) (cf aC (ax (bK 0) (ax (xP (eC (.int 6))) ck))))) (bC (cA 9 (Du (xP (eNew (dM (aq (ae 6) aD)))) (kl (iP (d8 (e2 jN (ae 8) (eC (.int 1))))) (kQ 0) DF (DN (xP (ae 2)) (cf aC (ax (bK 1) (ax (xP (aA cC (aq (ae 2) aD))) ck)))) [(Str.ofString "j")] [0,7]))) (bC (cA 10 (cf aC (ax (bK 0) (ax (xP (eC (.int 3))) ck)))) (bC (AQ (bP (j_ (b2 ja (ae 8) (eC (.int 3))) (b2 vt (ae 10) (eC (.int 0))))) (vM (bK 9) (xP (eC (.int 2))) (cf aC (ax (bK 0) (ax (xT (aA cC (aq (ae 1) aD))) ck)))) tf) (bC (AQ (bP (j_ (b2 ja (ae 8) (eC (.int 3))) (b2 vt (ae 10) (eC (.int 1))))) (vM (bK 9) (xP (eC (.int 1))) (cf aC (ax (bK 0) (ax (xT (aA cC (aq (ae 1) aD))) ck)))) tf) (i0 4 (xT (eK (aq (e2 bX (ae 2) (ae 5)) (aq (aA fL (aq (ae 9) aD)) aD))))))))))))
noncomputable def l7:FZ:=(bC (cA 4 (l6 (dM aD))) (bC (k3 (lO (x2 ei (xP (eC (.int 1))) (cf aC (ax (bK 0) (ax (xP (ae 3)) ck))))) (kQ 5) jX) (js (bK 4))))
noncomputable def oJ:List V3→aU→R3 V3:=lR gM l7
noncomputable def g_:List V3→aU→R3 V3:=n6 gM l7
theorem vw{P:Program}{w:World}{K:PySem.W.Frag}{mg:Str→Option Value}{base:Heap}{cl:Nat→Addr}(T:Tp K mg cl)(h:Def K mg (Str.ofString "_law_outs") ef)(XP_law_take:aQ P w K mg base cl 1 (Str.ofString "_law_take") 2 aC):aQ P w K mg base cl 2 (Str.ofString "_law_outs") 4 oJ:=by
 obtain⟨f,fd,F,hm⟩:=h
 exact⟨f,fd,_,cx (k:=1) uL.2 i4.2 F eP (fun cdv A outer s H E hr=>(av (bj eP.nd rfl (Or.inl rfl) (gO (cc ah))) (av (fJ PassesOwn.never rfl (gL (oH gx (au ag) (bw XP_law_take hr (by decide) rfl (ai (aT 0) (ai (au (aa 3)) aS)) (aj (aj aP)))) rfl T.z_range) (bQ eP.nd rfl (Or.inl rfl)) (av (bj eP.nd rfl (Or.inr rfl) (oH oI (cB (aJ oI (aI cO rfl T.z_len PySem.boot_len (ab (aa 1) ah)) ag)) (bw XP_law_take hr (by decide) rfl (ai (aT 0) (ai (cB (aI cO rfl T.z_len PySem.boot_len (ab (aa 1) ah))) aS)) (aj (aj aP))))) (av (bj eP.nd rfl (Or.inr rfl) (pI rfl (cv.of (own:=[(Str.ofString "one")]) (kp:=[1,6]) (kn:=[(Str.ofString "kinds"),(Str.ofString "wire")]) (sc:=i4.1) (N:=gM) rfl rfl (by decide+kernel)) (gL (cB (aI cO rfl T.z_len PySem.boot_len (ab (aa 1) ah))) rfl T.z_range) (fun _ _ _=>(bQ (show List.Nodup [(Str.ofString "one"),(Str.ofString "kinds"),(Str.ofString "wire")] from by decide+kernel) rfl (Or.inl rfl))) (fun _ _ _=>(nC (jM (bB (h_ hr.units) (ay (aa 1) (aa 0) (fun _ _=>rfl)) (ay (aa 1) (aa 2) (fun _ _=>rfl)) (bG _))))) (fun _ _ _=>(au (aa 0))))) (av (bj eP.nd rfl (Or.inl rfl) (rH (au (cV (cc (ab ag (ab ag (ab ag (ab ag (ab ag (ab ag ah))))))))) (bw XP_law_take hr (by decide) rfl (ai (aT 0) (ai (au ag) aS)) (aj (aj aP))) (fun _ _=>rfl))) (av (bj eP.nd rfl (Or.inl rfl) (Bj (au (cV (cc (ab (aa 6) ah)))) (pI rfl (cv.of (own:=[(Str.ofString "j")]) (kp:=[0,7]) (kn:=[(Str.ofString "reel"),(Str.ofString "same")]) (sc:=i4.1) (N:=gM) rfl rfl (by decide+kernel)) (eg (bW (aJ oI (aa 8) ag) rfl T.z_range)) (fun _ _ _=>(bQ (show List.Nodup [(Str.ofString "j"),(Str.ofString "reel"),(Str.ofString "same")] from by decide+kernel) rfl (Or.inl rfl))) (fun _ _ _=>si) (fun _ _ _=>(rH (au (aa 2)) (bw XP_law_take hr (by decide) rfl (ai (aT 1) (ai (au (aI cO rfl T.z_len PySem.boot_len (ab (aa 2) ah))) aS)) (aj (aj aP))) (fun _ _=>rfl)))))) (av (bj eP.nd rfl (Or.inl rfl) (bw XP_law_take hr (by decide) rfl (ai (aT 0) (ai (au ag) aS)) (aj (aj aP)))) (av (pW (jE (mQ (nk (bB (h_ hr.units) (aa 8) ag (bG _)) (lp (bB Cz (aa 10) ag (bG _)))))) (aZ (sL (bw XP_law_take hr (by decide) rfl (ai (aT 0) (ai (cB (aI cO rfl T.z_len PySem.boot_len (ab (aa 1) ah))) aS)) (aj (aj aP))) (sO (PX.go (aT 9)) (PX.go (au ag)) set_list))) nq) (av (pW (jE (mQ (nk (bB (h_ hr.units) (aa 8) ag (bG _)) (lp (bB Cz (aa 10) ag (bG _)))))) (aZ (sL (bw XP_law_take hr (by decide) rfl (ai (aT 0) (ai (cB (aI cO rfl T.z_len PySem.boot_len (ab (aa 1) ah))) aS)) (aj (aj aP))) (sO (PX.go (aT 9)) (PX.go (au ag)) set_list))) nq) (aZ (fM rfl (Or.inl rfl) (cB (cL (ab (ay (aa 2) (aa 5) (fun _ _=>rfl)) (ab (cI pJ rfl T.z_tuple PyProof.Rows.boot_tuple (ab (aa 9) ah)) ah)))))))))))))) (aZ (d6 (aT 4)))))),hm,F.kp,F.binds fun _ _ _ _ _ _ us hl=>match us,hl with | [_,_,_,_],_=>rfl⟩
noncomputable abbrev eT:Stmt:=top 25
noncomputable abbrev lh:List Str:=[(Str.ofString "reel"),(Str.ofString "cells"),(Str.ofString "most_ins"),(Str.ofString "most_sure"),(Str.ofString "names"),(Str.ofString "ins"),(Str.ofString "kinds"),(Str.ofString "k"),(Str.ofString "width"),(Str.ofString "ahead"),(Str.ofString "gates"),(Str.ofString "cell"),(Str.ofString "own"),(Str.ofString "place")]
noncomputable def vT:{b:List Stmt // ao eT=b}:=by
 have e:ao eT=ao eT:=rfl
 conv at e=>rhs;whnf
 exact⟨_,e⟩
noncomputable def pR:{b:Scope // af eT=b}:=by
 have e:af eT=af eT:=rfl
 conv at e=>rhs;whnf
 exact⟨_,e⟩
theorem dj:ba lh [(Str.ofString "reel"),(Str.ofString "cells"),(Str.ofString "most_ins"),(Str.ofString "most_sure")] pR.1:=⟨rfl,rfl,rfl,by decide+kernel,rfl,by decide+kernel,by decide+kernel⟩
noncomputable def k5:FZ:=(bC (cA 8 (x2 ei (xP (eC (.int 1))) (cf aC (ax (bK 0) (ax (xP (eC (.int 3))) ck))))) (bC (i0 5 (xP (eK (aq (e2 bX (ae 4) (e2 jN (eC (.int 7)) (ae 7))) (aq (ae 8) aD))))) (cA 6 (Du (bK 6) (xP (eNew (DV (dM (aq (ae 7) aD)) (ae 8))))))))
noncomputable def kZ:FZ:=(bC (cA 12 (cf eH (ax (xP (ae 11)) ck))) (AQ (Ez (bT (b2 qN (ae 10) (eNew (dM aD)))) (Il ja (cf aC (ax (bK 12) (ax (xP (eC (.int 3))) ck))) (xP (eC (.int 0))))) (bC (cA 13 (cf aC (ax (bK 12) (ax (xT (aA cC (aq (ae 10) aD))) ck)))) (bC (i0 10 (cf gh (ax (bK 12) (ax (xT (e2 bX (ae 10) (ae 13))) (ax (bK 6) ck))))) (i0 6 (xT (e2 bX (ae 6) (e2 ei (ae 9) (ae 13))))))) (bC (i0 10 (cf fU (ax (bK 12) (ax (bK 6) (ax (xP (ae 3)) ck))))) (i0 6 (xT (e2 ei (aA cC (aq (ae 6) aD)) (eC (.int 10))))))))
noncomputable def nH:FZ:=(bC (cA 4 (cf f7 (ax (bK 0) (ax (xP (eC (.int 8))) ck)))) (bC (cA 5 (l6 (dM aD))) (bC (cA 6 (l6 (dM aD))) (bC (k3 (lO (x2 ei (xP (eC (.int 1))) (cf aC (ax (bK 0) (ax (xP (ae 2)) ck))))) (kQ 7) k5) (bC (cA 9 (xT (aA cC (aq (ae 6) aD)))) (bC (cA 10 (l6 (dM aD))) (bC (k3 (iP (gG (ae 1))) (kQ 11) kZ) (js (yY (ax (bK 5) (ax (bK 10) (ax (cf g_ (ax (bK 0) (ax (bK 6) (ax (xP (ae 4)) (ax (xP (eC (.int 6))) ck))))) ck))))))))))))
noncomputable def pY:List V3→aU→R3 V3:=lR lh nH
noncomputable def jY:List V3→aU→R3 V3:=n6 lh nH
theorem y6{P:Program}{w:World}{K:PySem.W.Frag}{mg:Str→Option Value}{base:Heap}{cl:Nat→Addr}(T:Tp K mg cl)(h:Def K mg (Str.ofString "_law_net") eT)(XP_law_names:aQ P w K mg base cl 2 (Str.ofString "_law_names") 2 f7)(XP_law_take:aQ P w K mg base cl 1 (Str.ofString "_law_take") 2 aC)(XK_law_reel:aQ P w K mg base cl 1 (Str.ofString "_law_reel") 1 eH)(XP_law_again:aQ P w K mg base cl 2 (Str.ofString "_law_again") 3 gh)(XP_law_gate:aQ P w K mg base cl 2 (Str.ofString "_law_gate") 3 fU)(XP_law_outs:aQ P w K mg base cl 2 (Str.ofString "_law_outs") 4 g_):aQ P w K mg base cl 3 (Str.ofString "_law_net") 4 pY:=by
 obtain⟨f,fd,F,hm⟩:=h
 exact⟨f,fd,_,cx (k:=2) vT.2 pR.2 F dj (fun cdv A outer s H E hr=>(av (bj dj.nd rfl (Or.inl rfl) (bw XP_law_names hr (by decide) rfl (ai (aT 0) (ai (au ag) aS)) (aj (aj aP)))) (av (bj dj.nd rfl (Or.inl rfl) (gO (cc ah))) (av (bj dj.nd rfl (Or.inl rfl) (gO (cc ah))) (av (fJ PassesOwn.never rfl (gL (oH gx (au ag) (bw XP_law_take hr (by decide) rfl (ai (aT 0) (ai (au (aa 2)) aS)) (aj (aj aP)))) rfl T.z_range) (bQ dj.nd rfl (Or.inl rfl)) (av (bj dj.nd rfl (Or.inl rfl) (oH gx (au ag) (bw XP_law_take hr (by decide) rfl (ai (aT 0) (ai (au ag) aS)) (aj (aj aP))))) (av (fM rfl (Or.inl rfl) (au (cL (ab (ay (aa 4) (aJ oI ag (aa 7)) (fun _ _=>rfl)) (ab (aa 8) ah))))) (aZ (bj dj.nd rfl (Or.inl rfl) (Bj (aT 6) (au (cV (B_ (cc (ab (aa 7) ah)) (aa 8)))))))))) (av (bj dj.nd rfl (Or.inl rfl) (cB (aI cO rfl T.z_len PySem.boot_len (ab (aa 6) ah)))) (av (bj dj.nd rfl (Or.inl rfl) (gO (cc ah))) (av (fJ PassesOwn.never rfl (eg (eh (aa 1))) (bQ dj.nd rfl (Or.inl rfl)) (av (bj dj.nd rfl (Or.inl rfl) (bw XK_law_reel hr (by decide) rfl (ai (au (aa 11)) aS) (aj aP))) (aZ (pW (GH.pb (CH (jM (bB (Br hr.units) (aa 10) (cV (cc ah)) (bG _))) (AO (CM (h_ hr.units) (bw XP_law_take hr (by decide) rfl (ai (aT 12) (ai (au ag) aS)) (aj (aj aP))) (au ag) (bG _))))) (av (bj dj.nd rfl (Or.inl rfl) (bw XP_law_take hr (by decide) rfl (ai (aT 12) (ai (cB (aI cO rfl T.z_len PySem.boot_len (ab (aa 10) ah))) aS)) (aj (aj aP)))) (av (fM rfl (Or.inl rfl) (bw XP_law_again hr (by decide) rfl (ai (aT 12) (ai (cB (ay (aa 10) (aa 13) (fun _ _=>rfl))) (ai (aT 6) aS))) (aj (aj (aj aP))))) (aZ (fM rfl (Or.inl rfl) (cB (ay (aa 6) (aJ gx (aa 9) (aa 13)) (fun _ _=>rfl))))))) (av (fM rfl (Or.inl rfl) (bw XP_law_gate hr (by decide) rfl (ai (aT 12) (ai (aT 6) (ai (au (aa 3)) aS))) (aj (aj (aj aP))))) (aZ (fM rfl (Or.inl rfl) (cB (aJ gx (aI cO rfl T.z_len PySem.boot_len (ab (aa 6) ah)) ag))))))))) (aZ (d6 (tH (ai (aT 5) (ai (aT 10) (ai (bw XP_law_outs hr (by decide) rfl (ai (aT 0) (ai (aT 6) (ai (au (aa 4)) (ai (au ag) aS)))) (aj (aj (aj (aj aP))))) aS)))))))))))))),hm,F.kp,F.binds fun _ _ _ _ _ _ us hl=>match us,hl with | [_,_,_,_],_=>rfl⟩
noncomputable abbrev cu:Stmt:=top 26
noncomputable abbrev kK:List Str:=[(Str.ofString "kind"),(Str.ofString "some")]
noncomputable def pf:{b:List Stmt // ao cu=b}:=by
 have e:ao cu=ao cu:=rfl
 conv at e=>rhs;whnf
 exact⟨_,e⟩
noncomputable def kq:{b:Scope // af cu=b}:=by
 have e:af cu=af cu:=rfl
 conv at e=>rhs;whnf
 exact⟨_,e⟩
theorem pL:ba kK [(Str.ofString "kind"),(Str.ofString "some")] kq.1:=⟨rfl,rfl,rfl,by decide+kernel,rfl,by decide+kernel,by decide+kernel⟩
noncomputable def qC:FS:=(cF (ky (b2 ja (ae 0) (eC (.str (Str.ofString "not")))) (dc (e2 jN (eC (.int 1)) (e2 bX (ae 1) (eC (.int 0))))) fH) (cF (ky (b2 ja (ae 0) (eC (.str (Str.ofString "and")))) (dc (aA sf (aq (ae 1) aD))) fH) (cF (ky (b2 ja (ae 0) (eC (.str (Str.ofString "or")))) (dc (aA A6 (aq (ae 1) aD))) fH) (cF (ky (b2 ja (ae 0) (eC (.str (Str.ofString "xor")))) (dc (e2 g9 (aA Au (aq (ae 1) aD)) (eC (.int 2)))) fH) (dc (aA mE (aq (e2 vt (aA Au (aq (ae 1) aD)) (eC (.int 1))) aD)))))))
noncomputable def eG:List D→R D:=lZ kK qC
theorem qh{P:Program}{w:World}{K:PySem.W.Frag}{mg:Str→Option Value}{base:Heap}{cl:Nat→Addr}(T:Tp K mg cl)(h:Def K mg (Str.ofString "_law_gate_bit") cu):Callee P w K mg base 1 (Str.ofString "_law_gate_bit") 2 eG:=by
 obtain⟨f,fd,F,hm⟩:=h
 exact⟨f,fd,_,cz (k:=0) pf.2 kq.2 F pL (fun cdv A outer s H E hr=>(aN (cK (bB (h_ hr.units) (aa 0) bF (bG _)) (aM (a_ (aJ oI ag (ay (aa 1) ag (fun _ _=>rfl))))) cm) (aN (cK (bB (h_ hr.units) (aa 0) bF (bG _)) (aM (a_ (aI (z_ rfl) rfl T.z_min PyProof.Rows.boot_min (ab (aa 1) ah)))) cm) (aN (cK (bB (h_ hr.units) (aa 0) bF (bG _)) (aM (a_ (aI (FE rfl) rfl T.z_max PyProof.Rows.boot_max (ab (aa 1) ah)))) cm) (aN (cK (bB (h_ hr.units) (aa 0) bF (bG _)) (aM (a_ (aJ ko (aI (AL rfl) rfl T.z_sum PyProof.Rows.boot_sum (ab (aa 1) ah)) ag))) cm) (aM (a_ (cI nU rfl T.z_int PyProof.Rows.boot_int (ab (gz Cz (aI (AL rfl) rfl T.z_sum PyProof.Rows.boot_sum (ab (aa 1) ah)) ag (bG _)) ah))))))))),hm,F.kp,F.binds fun _ _ _ _ _ _ us hl=>match us,hl with | [_,_],_=>rfl⟩
noncomputable abbrev dk:Stmt:=top 27
noncomputable abbrev kR:List Str:=[(Str.ofString "net"),(Str.ofString "bits"),(Str.ofString "turned"),(Str.ofString "bad"),(Str.ofString "wires"),(Str.ofString "k"),(Str.ofString "j"),(Str.ofString "place"),(Str.ofString "kind"),(Str.ofString "own"),(Str.ofString "sure"),(Str.ofString "bit")]
noncomputable def tE:{b:List Stmt // ao dk=b}:=by
 have e:ao dk=ao dk:=rfl
 conv at e=>rhs;whnf
 exact⟨_,e⟩
noncomputable def jV:{b:Scope // af dk=b}:=by
 have e:af dk=af dk:=rfl
 conv at e=>rhs;whnf
 exact⟨_,e⟩
theorem dq:ba kR [(Str.ofString "net"),(Str.ofString "bits"),(Str.ofString "turned"),(Str.ofString "bad")] jV.1:=⟨rfl,rfl,rfl,by decide+kernel,rfl,by decide+kernel,by decide+kernel⟩
noncomputable def gY:FS:=(nu 4 (e2 g9 (e2 ei (e2 bX (ae 1) (ae 5)) (aA mE (aq (je (e2 o9 (aA cC (aq (ae 4) aD)) (ae 3))) aD))) (eC (.int 2))))
noncomputable def gP:FS:=(pd (d8 (e2 bX (e2 bX (e2 bX (ae 0) (eC (.int 0))) (ae 5)) (eC (.int 1)))) (bh 6) gY)
noncomputable def gU:FS:=(cF (o_ (e2 bX (e2 bX (ae 0) (eC (.int 1))) (ae 7)) (iR 3 (dH (bh 8) (dH (bh 9) (dH (bh 10) iG))))) (cF (fG 11 (je (aA eG (aq (ae 8) (aq (eNew (gn (gG (ae 9)) (bh 0) qy (e2 bX (ae 1) (ae 0)) [(Str.ofString "one")] [4])) aD))))) (nu 4 (e2 g9 (e2 ei (ae 11) (aA mE (aq (e2 o9 (ae 7) (ae 2)) aD))) (eC (.int 2))))))
noncomputable def oA:FS:=(cF (pj 4 (dM aD)) (cF (pd (d8 (aA cC (aq (e2 bX (ae 0) (eC (.int 0))) aD))) (bh 5) gP) (cF (pd (d8 (aA cC (aq (e2 bX (ae 0) (eC (.int 1))) aD))) (bh 7) gU) (oY 4 (dc (ae 4))))))
noncomputable def fW:List D→R D:=lZ kR oA
theorem t_{P:Program}{w:World}{K:PySem.W.Frag}{mg:Str→Option Value}{base:Heap}{cl:Nat→Addr}(T:Tp K mg cl)(h:Def K mg (Str.ofString "_law_wires") dk)(C_law_gate_bit:Callee P w K mg base 1 (Str.ofString "_law_gate_bit") 2 eG):Callee P w K mg base 2 (Str.ofString "_law_wires") 4 fW:=by
 obtain⟨f,fd,F,hm⟩:=h
 exact⟨f,fd,_,cz (k:=1) tE.2 jV.2 F dq (fun cdv A outer s H E hr=>(aN (AY dq.nd rfl (Or.inr rfl) (cc ah)) (aN (hJ PassesOwn.never rfl (bW (aI cO rfl T.z_len PySem.boot_len (ab (ay (aa 0) ag (fun _ _=>rfl)) ah)) rfl T.z_range) (bx dq.nd rfl (Or.inl rfl)) (aM (hJ PassesOwn.never rfl (bW (ay (ay (ay (aa 0) ag (fun _ _=>rfl)) (aa 5) (fun _ _=>rfl)) ag (fun _ _=>rfl)) rfl T.z_range) (bx dq.nd rfl (Or.inl rfl)) (aM (ui rfl (Or.inr (Or.inl rfl)) (aJ ko (aJ gx (ay (aa 1) (aa 5) (fun _ _=>rfl)) (cI nU rfl T.z_int PyProof.Rows.boot_int (ab (uA (gz zi (aI cO rfl T.z_len PySem.boot_len (ab (aa 4) ah)) (aa 3) (by with_unfolding_all rfl))) ah))) ag)))))) (aN (hJ PassesOwn.never rfl (bW (aI cO rfl T.z_len PySem.boot_len (ab (ay (aa 0) ag (fun _ _=>rfl)) ah)) rfl T.z_range) (bx dq.nd rfl (Or.inl rfl)) (aN (Am (ay (ay (aa 0) ag (fun _ _=>rfl)) (aa 7) (fun _ _=>rfl)) (nj rfl (d9 (bx dq.nd rfl (Or.inl rfl)) (d9 (bx dq.nd rfl (Or.inl rfl)) (d9 (bx dq.nd rfl (Or.inl rfl)) k9))))) (aN (dg dq.nd rfl (Or.inl rfl) (uA (bO C_law_gate_bit hr (by decide) rfl (ab (aa 8) (ab (cV (gb rfl (cv.of (own:=[(Str.ofString "one")]) (kp:=[4]) (kn:=[(Str.ofString "wires")]) (sc:=jV.1) (N:=kR) rfl rfl (by decide+kernel)) (eh (aa 9)) (fun _ _ _=>(bx (show List.Nodup [(Str.ofString "one"),(Str.ofString "wires")] from by decide+kernel) rfl (Or.inl rfl))) (fun _ _ _=>fO) (fun _ _ _=>(ay (aa 1) (aa 0) (fun _ _=>rfl))))) ah)) (aH (aH b3))))) (aM (ui rfl (Or.inr (Or.inl rfl)) (aJ ko (aJ gx (aa 11) (cI nU rfl T.z_int PyProof.Rows.boot_int (ab (gz zi (aa 7) (aa 2) (by with_unfolding_all rfl)) ah))) ag)))))) (BN 4 (aM (a_ (aa 4)))))))),hm,F.kp,F.binds fun _ _ _ _ _ _ us hl=>match us,hl with | [_,_,_,_],_=>rfl⟩
noncomputable abbrev d_:Stmt:=top 28
noncomputable abbrev qD:List Str:=[(Str.ofString "some")]
noncomputable def uJ:{b:List Stmt // ao d_=b}:=by
 have e:ao d_=ao d_:=rfl
 conv at e=>rhs;whnf
 exact⟨_,e⟩
noncomputable def oO:{b:Scope // af d_=b}:=by
 have e:af d_=af d_:=rfl
 conv at e=>rhs;whnf
 exact⟨_,e⟩
theorem v7:ba qD [(Str.ofString "some")] oO.1:=⟨rfl,rfl,rfl,by decide+kernel,rfl,by decide+kernel,by decide+kernel⟩
noncomputable def wO:FS:=(cF (ky (j_ (b2 ja (aA cC (aq (ae 0) aD)) (eC (.int 2))) (b2 qN (e2 bX (ae 0) (eC (.int 0))) (e2 bX (ae 0) (eC (.int 1))))) (dc (eC .cq)) fH) (cF (ky (b2 ja (aA cC (aq (ae 0) aD)) (eC (.int 3))) (dc (aA mE (aq (e2 vt (aA Au (aq (ae 0) aD)) (eC (.int 1))) aD))) fH) (dc (e2 bX (ae 0) (eC (.int 0))))))
noncomputable def iT:List D→R D:=lZ qD wO
theorem vW{P:Program}{w:World}{K:PySem.W.Frag}{mg:Str→Option Value}{base:Heap}{cl:Nat→Addr}(T:Tp K mg cl)(h:Def K mg (Str.ofString "_law_read") d_):Callee P w K mg base 1 (Str.ofString "_law_read") 1 iT:=by
 obtain⟨f,fd,F,hm⟩:=h
 exact⟨f,fd,_,cz (k:=0) uJ.2 oO.2 F v7 (fun cdv A outer s H E hr=>(aN (cK (mQ (nk (bB (h_ hr.units) (aI cO rfl T.z_len PySem.boot_len (ab (aa 0) ah)) ag (bG _)) (lp (bB (Br hr.units) (ay (aa 0) ag (fun _ _=>rfl)) (ay (aa 0) ag (fun _ _=>rfl)) (bG _))))) (aM (a_ mK)) cm) (aN (cK (bB (h_ hr.units) (aI cO rfl T.z_len PySem.boot_len (ab (aa 0) ah)) ag (bG _)) (aM (a_ (cI nU rfl T.z_int PyProof.Rows.boot_int (ab (gz Cz (aI (AL rfl) rfl T.z_sum PyProof.Rows.boot_sum (ab (aa 0) ah)) ag (bG _)) ah)))) cm) (aM (a_ (ay (aa 0) ag (fun _ _=>rfl))))))),hm,F.kp,F.binds fun _ _ _ _ _ _ us hl=>match us,hl with | [_],_=>rfl⟩
noncomputable abbrev dy:Stmt:=top 29
noncomputable abbrev jc:List Str:=[(Str.ofString "net"),(Str.ofString "bits"),(Str.ofString "turned"),(Str.ofString "bad"),(Str.ofString "wires")]
noncomputable def sJ:{b:List Stmt // ao dy=b}:=by
 have e:ao dy=ao dy:=rfl
 conv at e=>rhs;whnf
 exact⟨_,e⟩
noncomputable def j6:{b:Scope // af dy=b}:=by
 have e:af dy=af dy:=rfl
 conv at e=>rhs;whnf
 exact⟨_,e⟩
theorem oM:ba jc [(Str.ofString "net"),(Str.ofString "bits"),(Str.ofString "turned"),(Str.ofString "bad")] j6.1:=⟨rfl,rfl,rfl,by decide+kernel,rfl,by decide+kernel,by decide+kernel⟩
noncomputable def oR:FS:=(cF (fG 4 (aA fW (aq (ae 0) (aq (ae 1) (aq (ae 2) (aq (ae 3) aD)))))) (dc (eNew (gn (gG (e2 bX (ae 0) (eC (.int 2)))) (iR 2 (dH (bh 0) (dH (bh 1) iG))) qy (aA iT (aq (eNew (gn (gG (ae 1)) (bh 0) qy (e2 bX (ae 1) (ae 0)) [(Str.ofString "one")] [2])) aD)) [(Str.ofString "name"),(Str.ofString "own")] [4]))))
noncomputable def eE:List D→R D:=lZ jc oR
theorem uM{P:Program}{w:World}{K:PySem.W.Frag}{mg:Str→Option Value}{base:Heap}{cl:Nat→Addr}(T:Tp K mg cl)(h:Def K mg (Str.ofString "_law_reads") dy)(C_law_wires:Callee P w K mg base 2 (Str.ofString "_law_wires") 4 fW)(C_law_read:Callee P w K mg base 1 (Str.ofString "_law_read") 1 iT):Callee P w K mg base 3 (Str.ofString "_law_reads") 4 eE:=by
 obtain⟨f,fd,F,hm⟩:=h
 exact⟨f,fd,_,cz (k:=2) sJ.2 j6.2 F oM (fun cdv A outer s H E hr=>(aN (dg oM.nd rfl (Or.inr rfl) (bO C_law_wires hr (by decide) rfl (ab (aa 0) (ab (aa 1) (ab (aa 2) (ab (aa 3) ah)))) (aH (aH (aH (aH b3)))))) (aM (a_ (cV (gb rfl (cv.of (own:=[(Str.ofString "name"),(Str.ofString "own")]) (kp:=[4]) (kn:=[(Str.ofString "wires")]) (sc:=j6.1) (N:=jc) rfl rfl (by decide+kernel)) (eh (ay (aa 0) ag (fun _ _=>rfl))) (fun _ _ _=>(nj rfl (d9 (bx (show List.Nodup [(Str.ofString "name"),(Str.ofString "own"),(Str.ofString "wires")] from by decide+kernel) rfl (Or.inl rfl)) (d9 (bx (show List.Nodup [(Str.ofString "name"),(Str.ofString "own"),(Str.ofString "wires")] from by decide+kernel) rfl (Or.inl rfl)) k9)))) (fun _ _ _=>fO) (fun _ _ _=>(bO C_law_read hr (by decide) rfl (ab (cV (gb rfl (cv.of (own:=[(Str.ofString "one")]) (kp:=[2]) (kn:=[(Str.ofString "wires")]) rfl rfl rfl) (eh (aa 1)) (fun _ _ _=>(bx (show List.Nodup [(Str.ofString "one"),(Str.ofString "wires")] from by decide+kernel) rfl (Or.inl rfl))) (fun _ _ _=>fO) (fun _ _ _=>(ay (aa 1) (aa 0) (fun _ _=>rfl))))) ah) (aH b3))))))))),hm,F.kp,F.binds fun _ _ _ _ _ _ us hl=>match us,hl with | [_,_,_,_],_=>rfl⟩
noncomputable abbrev cX:Stmt:=top 30
noncomputable abbrev jU:List Str:=[(Str.ofString "many"),(Str.ofString "found"),(Str.ofString "k"),(Str.ofString "wider"),(Str.ofString "bits")]
noncomputable def qY:{b:List Stmt // ao cX=b}:=by
 have e:ao cX=ao cX:=rfl
 conv at e=>rhs;whnf
 exact⟨_,e⟩
noncomputable def lM:{b:Scope // af cX=b}:=by
 have e:af cX=af cX:=rfl
 conv at e=>rhs;whnf
 exact⟨_,e⟩
theorem d4:ba jU [(Str.ofString "many")] lM.1:=⟨rfl,rfl,rfl,by decide+kernel,rfl,by decide+kernel,by decide+kernel⟩
noncomputable def iX:FS:=(fG 3 (e2 lQ (ae 3) (eNew (dM (aq (e2 lQ (ae 4) (eK (aq (eC (.int 0)) aD))) (aq (e2 lQ (ae 4) (eK (aq (eC (.int 1)) aD))) aD))))))
noncomputable def iY:FS:=(cF (fG 3 (eNew (dM aD))) (cF (pd (gG (ae 1)) (bh 4) iX) (fG 1 (ae 3))))
noncomputable def mS:FS:=(cF (fG 1 (eNew (dM (aq (eK aD) aD)))) (cF (pd (d8 (ae 0)) (bh 2) iY) (dc (ae 1))))
noncomputable def eZ:List D→R D:=lZ jU mS
theorem sY{P:Program}{w:World}{K:PySem.W.Frag}{mg:Str→Option Value}{base:Heap}{cl:Nat→Addr}(T:Tp K mg cl)(h:Def K mg (Str.ofString "_law_inputs") cX):Callee P w K mg base 1 (Str.ofString "_law_inputs") 1 eZ:=by
 obtain⟨f,fd,F,hm⟩:=h
 exact⟨f,fd,_,cz (k:=0) qY.2 lM.2 F d4 (fun cdv A outer s H E hr=>(aN (dg d4.nd rfl (Or.inl rfl) (cV (cc (ab (cL ah) ah)))) (aN (hJ PassesOwn.never rfl (bW (aa 0) rfl T.z_range) (bx d4.nd rfl (Or.inl rfl)) (aN (dg d4.nd rfl (Or.inl rfl) (cV (cc ah))) (aN (hJ PassesOwn.never rfl (eh (aa 1)) (bx d4.nd rfl (Or.inl rfl)) (aM (dg d4.nd rfl (Or.inl rfl) (aJ qF (aa 3) (cV (cc (ab (aJ qF (aa 4) (cL (ab ag ah))) (ab (aJ qF (aa 4) (cL (ab ag ah))) ah)))))))) (aM (dg d4.nd rfl (Or.inl rfl) (aa 3)))))) (aM (a_ (aa 1)))))),hm,F.kp,F.binds fun _ _ _ _ _ _ us hl=>match us,hl with | [_],_=>rfl⟩
noncomputable abbrev dv:Stmt:=top 31
noncomputable abbrev jf:List Str:=[(Str.ofString "found"),(Str.ofString "due"),(Str.ofString "k")]
noncomputable def tJ:{b:List Stmt // ao dv=b}:=by
 have e:ao dv=ao dv:=rfl
 conv at e=>rhs;whnf
 exact⟨_,e⟩
noncomputable def nA:{b:Scope // af dv=b}:=by
 have e:af dv=af dv:=rfl
 conv at e=>rhs;whnf
 exact⟨_,e⟩
theorem oP:ba jf [(Str.ofString "found"),(Str.ofString "due")] nA.1:=⟨rfl,rfl,rfl,by decide+kernel,rfl,by decide+kernel,by decide+kernel⟩
noncomputable def fB(self:List D→R D):FS:=(ky (jr (hV (aA self (aq (e2 bX (ae 0) (ae 2)) (aq (e2 bX (ae 1) (ae 2)) aD))))) (dc (eC (.bl false))) fH)
noncomputable def g8(self:List D→R D):FS:=(cF (ky (b2 Im (ae 1) (eC .cq)) (dc (e2 Im (ae 0) (eC .cq))) fH) (cF (ky (hV (j3 "bool" (ae 1))) (dc (kC (j3 "bool" (ae 0)) (e2 ja (ae 0) (ae 1)))) fH) (cF (ky (hV (j3 "int" (ae 1))) (dc (kC (j3 "int" (ae 0)) (kC (qw (j3 "bool" (ae 0))) (e2 ja (ae 0) (ae 1))))) fH) (cF (ky (hV (j3 "str" (ae 1))) (dc (kC (j3 "str" (ae 0)) (e2 ja (ae 0) (ae 1)))) fH) (cF (ky (hV (j3 "tuple" (ae 1))) (ky (jr (hV (j3 "tuple" (ae 0)))) (dc (eC (.bl false))) fH) (ky (jr (hV (j3 "list" (ae 0)))) (dc (eC (.bl false))) fH)) (cF (ky (b2 qN (aA cC (aq (ae 0) aD)) (aA cC (aq (ae 1) aD))) (dc (eC (.bl false))) fH) (cF (pd (d8 (aA cC (aq (ae 1) aD))) (bh 2) (fB self)) (dc (eC (.bl true))))))))))
noncomputable def bH:Nat→List D→R D
 | 0=>fun _=> .no
 | n+1=>lZ jf (g8 (bH n))
theorem oj{P:Program}{w:World}{K:PySem.W.Frag}{mg:Str→Option Value}{base:Heap}{cl:Nat→Addr}(T:Tp K mg cl)(h:Def K mg (Str.ofString "_law_alike") dv):∀n,Callee P w K mg base (1+n) (Str.ofString "_law_alike") 2 (bH n)
 | 0=>by
   obtain⟨f,fd,F,hm⟩:=h
   exact⟨f,fd,[(Str.ofString "found"),(Str.ofString "due")],Hz,hm,F.kp,F.binds fun _ _ _ _ _ _ us hl=>match us,hl with | [_,_],_=>rfl⟩
 | n+1=>by
   have C_self:=oj (P:=P) (w:=w) (K:=K) (mg:=mg) (base:=base) T h n
   obtain⟨f,fd,F,hm⟩:=h
   exact⟨f,fd,_,cz (k:=1+n) tJ.2 nA.2 F oP (fun cdv A outer s H E hr=>(aN (cK (bB GR (aa 1) mK (bG _)) (aM (a_ (gz GR (aa 0) mK (bG _)))) cm) (aN (cK (gR (gW (aa 1) (by decide) rfl T.z_isinstance rfl T.z_bool PyProof.Rows.boot_bool)) (aM (a_ (m6 (gW (aa 0) (by decide) rfl T.z_isinstance rfl T.z_bool PyProof.Rows.boot_bool) (pG (gz (h_ hr.units) (aa 0) (aa 1) (bG _)))))) cm) (aN (cK (gR (gW (aa 1) (by decide) rfl T.z_isinstance rfl T.z_int PyProof.Rows.boot_int)) (aM (a_ (m6 (gW (aa 0) (by decide) rfl T.z_isinstance rfl T.z_int PyProof.Rows.boot_int) (m6 (Cr (gW (aa 0) (by decide) rfl T.z_isinstance rfl T.z_bool PyProof.Rows.boot_bool)) (pG (gz (h_ hr.units) (aa 0) (aa 1) (bG _))))))) cm) (aN (cK (gR (gW (aa 1) (by decide) rfl T.z_isinstance rfl T.z_str PyProof.Rows.boot_str)) (aM (a_ (m6 (gW (aa 0) (by decide) rfl T.z_isinstance rfl T.z_str PyProof.Rows.boot_str) (pG (gz (h_ hr.units) (aa 0) (aa 1) (bG _)))))) cm) (aN (cK (gR (gW (aa 1) (by decide) rfl T.z_isinstance rfl T.z_tuple PyProof.Rows.boot_tuple)) (aM (cK (lz (gR (gW (aa 0) (by decide) rfl T.z_isinstance rfl T.z_tuple PyProof.Rows.boot_tuple))) (aM (a_ nJ)) cm)) (aM (cK (lz (gR (gW (aa 0) (by decide) rfl T.z_isinstance rfl T.z_list PyProof.Rows.boot_list))) (aM (a_ nJ)) cm))) (aN (cK (bB (Br hr.units) (aI cO rfl T.z_len PySem.boot_len (ab (aa 0) ah)) (aI cO rfl T.z_len PySem.boot_len (ab (aa 1) ah)) (bG _)) (aM (a_ nJ)) cm) (aN (hJ PassesOwn.never rfl (bW (aI cO rfl T.z_len PySem.boot_len (ab (aa 1) ah)) rfl T.z_range) (bx oP.nd rfl (Or.inl rfl)) (aM (cK (lz (gR (bO C_self hr (by omega) rfl (ab (ay (aa 0) (aa 2) (fun _ _=>rfl)) (ab (ay (aa 1) (aa 2) (fun _ _=>rfl)) ah)) (aH (aH b3))))) (aM (a_ nJ)) cm))) (aM (a_ nJ)))))))))),hm,F.kp,F.binds fun _ _ _ _ _ _ us hl=>match us,hl with | [_,_],_=>rfl⟩
noncomputable abbrev c_:Stmt:=top 32
noncomputable abbrev mB:List Str:=[(Str.ofString "net")]
noncomputable def qZ:{b:List Stmt // ao c_=b}:=by
 have e:ao c_=ao c_:=rfl
 conv at e=>rhs;whnf
 exact⟨_,e⟩
noncomputable def lD:{b:Scope // af c_=b}:=by
 have e:af c_=af c_:=rfl
 conv at e=>rhs;whnf
 exact⟨_,e⟩
theorem sv:ba mB [(Str.ofString "net")] lD.1:=⟨rfl,rfl,rfl,by decide+kernel,rfl,by decide+kernel,by decide+kernel⟩
noncomputable def sx:FS:=(dc (eK (aq (aA jP (aq (e2 bX (ae 0) (eC (.int 0))) aD)) (aq (aA jP (aq (e2 bX (ae 0) (eC (.int 1))) aD)) (aq (aA jP (aq (e2 bX (ae 0) (eC (.int 2))) aD)) aD)))))
noncomputable def ij:List D→R D:=lZ mB sx
theorem sP{P:Program}{w:World}{K:PySem.W.Frag}{mg:Str→Option Value}{base:Heap}{cl:Nat→Addr}(T:Tp K mg cl)(h:Def K mg (Str.ofString "_law_copied") c_):Callee P w K mg base 1 (Str.ofString "_law_copied") 1 ij:=by
 obtain⟨f,fd,F,hm⟩:=h
 exact⟨f,fd,_,cz (k:=0) qZ.2 lD.2 F sv (fun cdv A outer s H E hr=>(aM (a_ (cL (ab (cI vF rfl T.z_list PyProof.Rows.boot_list (ab (ay (aa 0) ag (fun _ _=>rfl)) ah)) (ab (cI vF rfl T.z_list PyProof.Rows.boot_list (ab (ay (aa 0) ag (fun _ _=>rfl)) ah)) (ab (cI vF rfl T.z_list PyProof.Rows.boot_list (ab (ay (aa 0) ag (fun _ _=>rfl)) ah)) ah))))))),hm,F.kp,F.binds fun _ _ _ _ _ _ us hl=>match us,hl with | [_],_=>rfl⟩
noncomputable abbrev c6:Stmt:=top 33
noncomputable abbrev gm:List Str:=[(Str.ofString "net"),(Str.ofString "place"),(Str.ofString "wrong"),(Str.ofString "none"),(Str.ofString "bits"),(Str.ofString "due"),(Str.ofString "now"),(Str.ofString "other")]
noncomputable def qX:{b:List Stmt // ao c6=b}:=by
 have e:ao c6=ao c6:=rfl
 conv at e=>rhs;whnf
 exact⟨_,e⟩
noncomputable def jz:{b:Scope // af c6=b}:=by
 have e:af c6=af c6:=rfl
 conv at e=>rhs;whnf
 exact⟨_,e⟩
theorem cY:ba gm [(Str.ofString "net"),(Str.ofString "place")] jz.1:=⟨rfl,rfl,rfl,by decide+kernel,rfl,by decide+kernel,by decide+kernel⟩
noncomputable def iF:FS:=(cF (fG 5 (aA eE (aq (ae 0) (aq (ae 4) (aq (eK aD) (aq (eK aD) aD)))))) (cF (fG 6 (aA eE (aq (ae 0) (aq (ae 4) (aq (eK (aq (ae 1) aD)) (aq (eK aD) aD)))))) (cF (fG 7 (eNew (gn (d8 (aA cC (aq (ae 5) aD))) (bh 0) (j_ (b2 B9 (e2 bX (ae 2) (ae 0)) (eC .cq)) (b2 qN (e2 bX (ae 2) (ae 0)) (e2 bX (ae 1) (ae 0)))) (ae 0) [(Str.ofString "k")] [5,6]))) (cF (fG 2 (e2 ei (ae 2) (aA mE (aq (e2 qN (ae 7) (eNew (dM aD))) aD)))) (fG 3 (e2 ei (ae 3) (aA mE (aq (kC (e2 ja (ae 7) (eNew (dM aD))) (e2 Dx (eC .cq) (ae 6))) aD))))))))
noncomputable def nD:FS:=(cF (fG 2 (eC (.int 0))) (cF (fG 3 (eC (.int 0))) (cF (pd (gG (aA eZ (aq (aA cC (aq (e2 bX (ae 0) (eC (.int 0))) aD)) aD))) (bh 4) iF) (dc (eK (aq (ae 1) (aq (ae 2) (aq (ae 3) aD))))))))
noncomputable def gy:List D→R D:=lZ gm nD
theorem tP{P:Program}{w:World}{K:PySem.W.Frag}{mg:Str→Option Value}{base:Heap}{cl:Nat→Addr}(T:Tp K mg cl)(h:Def K mg (Str.ofString "_law_counts") c6)(C_law_inputs:Callee P w K mg base 1 (Str.ofString "_law_inputs") 1 eZ)(C_law_reads:Callee P w K mg base 3 (Str.ofString "_law_reads") 4 eE):Callee P w K mg base 4 (Str.ofString "_law_counts") 2 gy:=by
 obtain⟨f,fd,F,hm⟩:=h
 exact⟨f,fd,_,cz (k:=3) qX.2 jz.2 F cY (fun cdv A outer s H E hr=>(aN (dg cY.nd rfl (Or.inl rfl) ag) (aN (dg cY.nd rfl (Or.inl rfl) ag) (aN (hJ PassesOwn.never rfl (eh (bO C_law_inputs hr (by decide) rfl (ab (aI cO rfl T.z_len PySem.boot_len (ab (ay (aa 0) ag (fun _ _=>rfl)) ah)) ah) (aH b3))) (bx cY.nd rfl (Or.inl rfl)) (aN (dg cY.nd rfl (Or.inr rfl) (bO C_law_reads hr (by decide) rfl (ab (aa 0) (ab (aa 4) (ab (cL ah) (ab (cL ah) ah)))) (aH (aH (aH (aH b3)))))) (aN (dg cY.nd rfl (Or.inr rfl) (bO C_law_reads hr (by decide) rfl (ab (aa 0) (ab (aa 4) (ab (cL (ab (aa 1) ah)) (ab (cL ah) ah)))) (aH (aH (aH (aH b3)))))) (aN (sS rfl cY.nd rfl rfl (cv.of (own:=[(Str.ofString "k")]) (kp:=[5,6]) (kn:=[(Str.ofString "due"),(Str.ofString "now")]) (sc:=jz.1) (N:=gm) rfl rfl (by decide+kernel)) (bW (aI cO rfl T.z_len PySem.boot_len (ab (aa 5) ah)) rfl T.z_range) (fun _ _ _=>(bx (show List.Nodup [(Str.ofString "k"),(Str.ofString "due"),(Str.ofString "now")] from by decide+kernel) rfl (Or.inl rfl))) (fun _ _ _=>(uo (mQ (nk (bB GW (ay (aa 2) (aa 0) (fun _ _=>rfl)) mK (bG _)) (lp (bB (Br hr.units) (ay (aa 2) (aa 0) (fun _ _=>rfl)) (ay (aa 1) (aa 0) (fun _ _=>rfl)) (bG _))))))) (fun _ _ _=>(aa 0))) (aN (dg cY.nd rfl (Or.inl rfl) (aJ gx (aa 2) (cI nU rfl T.z_int PyProof.Rows.boot_int (ab (gz (Br hr.units) (aa 7) (cV (cc ah)) (bG _)) ah)))) (aM (dg cY.nd rfl (Or.inl rfl) (aJ gx (aa 3) (cI nU rfl T.z_int PyProof.Rows.boot_int (ab (m6 (gz (h_ hr.units) (aa 7) (cV (cc ah)) (bG _)) (pG (gz He mK (aa 6) (by with_unfolding_all rfl)))) ah)))))))))) (aM (a_ (cL (ab (aa 1) (ab (aa 2) (ab (aa 3) ah)))))))))),hm,F.kp,F.binds fun _ _ _ _ _ _ us hl=>match us,hl with | [_,_],_=>rfl⟩
noncomputable abbrev oF:Stmt:=top 34
noncomputable abbrev oh:List Str:=[(Str.ofString "script"),(Str.ofString "reel"),(Str.ofString "cells"),(Str.ofString "k"),(Str.ofString "net"),(Str.ofString "due"),(Str.ofString "handed"),(Str.ofString "found")]
noncomputable def EF:{b:List Stmt // ao oF=b}:=by
 have e:ao oF=ao oF:=rfl
 conv at e=>rhs;whnf
 exact⟨_,e⟩
noncomputable def v_:{b:Scope // af oF=b}:=by
 have e:af oF=af oF:=rfl
 conv at e=>rhs;whnf
 exact⟨_,e⟩
theorem nc:ba oh [(Str.ofString "script")] v_.1:=⟨rfl,rfl,rfl,by decide+kernel,rfl,by decide+kernel,by decide+kernel⟩
noncomputable def xC:FZ:=(cA 2 (x2 ei (xP (ae 2)) (EL (ax (cf aC (ax (bK 1) (ax (xP (e2 qH (eC (.int 10)) (eC (.int 40)))) ck))) ck))))
noncomputable def rA:FZ:=(bC (cA 1 (cf eH (ax (xP (aA er (aq (ae 0) (aq (eC (.int 0)) aD)))) ck))) (bC (cA 2 (xP (xM (ae 0) (jH (eC (.int 1))) (jH (eC (.int 11)))))) (bC (k3 (iP (d8 (e2 jN (eC (.int 2)) (aA cC (aq (ae 2) aD))))) (kQ 3) xC) (bC (cA 4 (cf jY (ax (bK 1) (ax (xP (ae 2)) (ax (xP (eC (.int 6))) (ax (xP (eC (.int 1))) ck)))))) (bC (cA 5 (kl (iP (d8 (aA cC (aq (e2 bX (ae 4) (eC (.int 1))) aD)))) (kQ 0) (bP (jr (hV (e2 bX (e2 bX (e2 bX (ae 1) (eC (.int 1))) (ae 0)) (eC (.int 2)))))) (xP (aA gy (aq (ae 1) (aq (ae 0) aD)))) [(Str.ofString "place")] [4])) (bC (cA 6 (xP (aA ij (aq (ae 4) aD)))) (bC (cA 7 (cf iK (ax (xP (ae 6)) ck))) (bC (AQ (bT (jr (hV (aA (bH 5) (aq (ae 7) (aq (ae 5) aD)))))) (js (xP (eC (.bl false)))) tf) (bC (i0 7 (xP (eK (aq (eC (.int 0)) (aq (eC (.int 0)) (aq (eC (.int 0)) aD)))))) (js (Et (kI (bH 5) (ax (cf mh (ax (xP (ae 6)) ck)) (ax (xP (ae 5)) ck))) (xP (aA (bH 5) (aq (ae 6) (aq (ae 4) aD)))))))))))))))
noncomputable def Jy:List V3→aU→R3 V3:=lR oh rA
noncomputable def IK:List V3→aU→R3 V3:=n6 oh rA
noncomputable def xy:List D→R D:=Io oh rA
structure Cf (K:PySem.W.Frag) (mg:Str→Option Value) (cl:Nat→Addr):Prop where
 C_Bench:tS K (cl 0)
 N_Bench_net:dh K (cl 0) (Str.ofString "net")
 N_Bench_many_inputs:dh K (cl 0) (Str.ofString "many_inputs")
 N_Bench_full:dh K (cl 0) (Str.ofString "full")
 N_Bench_in_masks:dh K (cl 0) (Str.ofString "in_masks")
 M_Bench:mg (Str.ofString "Bench")=some (.ref (cl 0))
 C_Trial:tS K (cl 1)
 N_Trial_bench:dh K (cl 1) (Str.ofString "bench")
 N_Trial_plain:dh K (cl 1) (Str.ofString "plain")
 N_Trial_unsure:dh K (cl 1) (Str.ofString "unsure")
 M_Trial:mg (Str.ofString "Trial")=some (.ref (cl 1))
 D_Bench___init__:yQ K (cl 0) (Str.ofString "__init__") (Str.ofString "Bench.__init__") bu
 D_Bench_tells:ph K (cl 0) (Str.ofString "tells") (Str.ofString "Bench.tells") bN
 D_Bench_readings:ph K (cl 0) (Str.ofString "readings") (Str.ofString "Bench.readings") bt
 D_Trial___init__:yQ K (cl 1) (Str.ofString "__init__") (Str.ofString "Trial.__init__") br
 D_Trial_breaks_at:ph K (cl 1) (Str.ofString "breaks_at") (Str.ofString "Trial.breaks_at") bf
 D_Bench_inputs_in:ph K (cl 0) (Str.ofString "inputs_in") (Str.ofString "Bench.inputs_in") bc
theorem Ho{K:PySem.W.Frag}{h:Heap}{mg:Str→Option Value}(X:K.In h)(G:h.Ns mainGlobals mg){C0:Addr}{C1:Addr}{f0:Addr}{od0 an0:Option Addr}{sl0:Array (Option Value)}{oc0 kV0 dc0 pm0 cd0 ct0:Value}{f1:Addr}{od1 an1:Option Addr}{sl1:Array (Option Value)}{oc1 kV1 dc1 pm1 cd1 ct1:Value}{f2:Addr}{od2 an2:Option Addr}{sl2:Array (Option Value)}{oc2 kV2 dc2 pm2 cd2 ct2:Value}{f3:Addr}{od3 an3:Option Addr}{sl3:Array (Option Value)}{oc3 kV3 dc3 pm3 cd3 ct3:Value}{f4:Addr}{od4 an4:Option Addr}{sl4:Array (Option Value)}{oc4 kV4 dc4 pm4 cd4 ct4:Value}{f5:Addr}{od5 an5:Option Addr}{sl5:Array (Option Value)}{oc5 kV5 dc5 pm5 cd5 ct5:Value}(aC0:PySem.W.nsIn K mainGlobals (Str.ofString "Bench")=some (some (.ref C0)))(pg0:PySem.W.plainGet K C0 Str.empty=true)(hd0:PySem.W.hasDictIn K C0=true)(po0:PySem.W.plainOver K C0=true)(sa0:PySem.W.findIn K (.ref C0) "__setattr__"=some (some (.builtin "object.__setattr__")))(mk0:PySem.W.makesIn K C0=true)(kc0:PySem.W.keepIn K (.ref C0)=true)(n0_net:PySem.W.findIn K (.ref C0) (Str.ofString "net")=some none)(n0_many_inputs:PySem.W.findIn K (.ref C0) (Str.ofString "many_inputs")=some none)(n0_full:PySem.W.findIn K (.ref C0) (Str.ofString "full")=some none)(n0_in_masks:PySem.W.findIn K (.ref C0) (Str.ofString "in_masks")=some none)(aC1:PySem.W.nsIn K mainGlobals (Str.ofString "Trial")=some (some (.ref C1)))(pg1:PySem.W.plainGet K C1 Str.empty=true)(hd1:PySem.W.hasDictIn K C1=true)(po1:PySem.W.plainOver K C1=true)(sa1:PySem.W.findIn K (.ref C1) "__setattr__"=some (some (.builtin "object.__setattr__")))(mk1:PySem.W.makesIn K C1=true)(kc1:PySem.W.keepIn K (.ref C1)=true)(n1_bench:PySem.W.findIn K (.ref C1) (Str.ofString "bench")=some none)(n1_plain:PySem.W.findIn K (.ref C1) (Str.ofString "plain")=some none)(n1_unsure:PySem.W.findIn K (.ref C1) (Str.ofString "unsure")=some none)(a_Bench___init__:PySem.W.findIn K (.ref C0) (Str.ofString "__init__")=some (some (.ref f0)))(i_Bench___init__:PySem.W.isFn K (.ref f0)=true)(l_Bench___init__:K.lookup f0=some ⟨oc0,od0, .func (PySem.W.fnOf (Str.ofString "__init__") (Str.ofString "Bench.__init__") (gA bu) (ao bu) (af bu) .none kV0 dc0 pm0 an0 cd0 ct0),sl0⟩)(dQ:PySem.W.codeIn K cd0 (Str.ofString "Bench.__init__")=true)(k_Bench___init__:PySem.W.keepIn K (.ref f0)=true)(a_Bench_tells:PySem.W.findIn K (.ref C0) (Str.ofString "tells")=some (some (.ref f1)))(i_Bench_tells:PySem.W.isFn K (.ref f1)=true)(l_Bench_tells:K.lookup f1=some ⟨oc1,od1, .func (PySem.W.fnOf (Str.ofString "tells") (Str.ofString "Bench.tells") (gA bN) (ao bN) (af bN) .none kV1 dc1 pm1 an1 cd1 ct1),sl1⟩)(fD:PySem.W.codeIn K cd1 (Str.ofString "Bench.tells")=true)(k_Bench_tells:PySem.W.keepIn K (.ref f1)=true)(a_Bench_readings:PySem.W.findIn K (.ref C0) (Str.ofString "readings")=some (some (.ref f2)))(i_Bench_readings:PySem.W.isFn K (.ref f2)=true)(l_Bench_readings:K.lookup f2=some ⟨oc2,od2, .func (PySem.W.fnOf (Str.ofString "readings") (Str.ofString "Bench.readings") (gA bt) (ao bt) (af bt) .none kV2 dc2 pm2 an2 cd2 ct2),sl2⟩)(dR:PySem.W.codeIn K cd2 (Str.ofString "Bench.readings")=true)(k_Bench_readings:PySem.W.keepIn K (.ref f2)=true)(a_Trial___init__:PySem.W.findIn K (.ref C1) (Str.ofString "__init__")=some (some (.ref f3)))(i_Trial___init__:PySem.W.isFn K (.ref f3)=true)(l_Trial___init__:K.lookup f3=some ⟨oc3,od3, .func (PySem.W.fnOf (Str.ofString "__init__") (Str.ofString "Trial.__init__") (gA br) (ao br) (af br) .none kV3 dc3 pm3 an3 cd3 ct3),sl3⟩)(dO:PySem.W.codeIn K cd3 (Str.ofString "Trial.__init__")=true)(k_Trial___init__:PySem.W.keepIn K (.ref f3)=true)(a_Trial_breaks_at:PySem.W.findIn K (.ref C1) (Str.ofString "breaks_at")=some (some (.ref f4)))(i_Trial_breaks_at:PySem.W.isFn K (.ref f4)=true)(l_Trial_breaks_at:K.lookup f4=some ⟨oc4,od4, .func (PySem.W.fnOf (Str.ofString "breaks_at") (Str.ofString "Trial.breaks_at") (gA bf) (ao bf) (af bf) .none kV4 dc4 pm4 an4 cd4 ct4),sl4⟩)(dA:PySem.W.codeIn K cd4 (Str.ofString "Trial.breaks_at")=true)(k_Trial_breaks_at:PySem.W.keepIn K (.ref f4)=true)(a_Bench_inputs_in:PySem.W.findIn K (.ref C0) (Str.ofString "inputs_in")=some (some (.ref f5)))(i_Bench_inputs_in:PySem.W.isFn K (.ref f5)=true)(l_Bench_inputs_in:K.lookup f5=some ⟨oc5,od5, .func (PySem.W.fnOf (Str.ofString "inputs_in") (Str.ofString "Bench.inputs_in") (gA bc) (ao bc) (af bc) .none kV5 dc5 pm5 an5 cd5 ct5),sl5⟩)(dE:PySem.W.codeIn K cd5 (Str.ofString "Bench.inputs_in")=true)(k_Bench_inputs_in:PySem.W.keepIn K (.ref f5)=true):∃cl,Cf K mg cl:=by
 exact⟨fun n=>if n=0 then C0 else C1,⟨pg0,hd0,po0,sa0⟩,n0_net,n0_many_inputs,n0_full,n0_in_masks,PySem.W.mg_of X G aC0,⟨pg1,hd1,po1,sa1⟩,n1_bench,n1_plain,n1_unsure,PySem.W.mg_of X G aC1,⟨_,_,mm (st:=bu) l_Bench___init__ dQ k_Bench___init__,⟨mk0,a_Bench___init__,i_Bench___init__,kc0⟩⟩,⟨_,_,mm (st:=bN) l_Bench_tells fD k_Bench_tells,⟨a_Bench_tells,i_Bench_tells,k_Bench_tells⟩⟩,⟨_,_,mm (st:=bt) l_Bench_readings dR k_Bench_readings,⟨a_Bench_readings,i_Bench_readings,k_Bench_readings⟩⟩,⟨_,_,mm (st:=br) l_Trial___init__ dO k_Trial___init__,⟨mk1,a_Trial___init__,i_Trial___init__,kc1⟩⟩,⟨_,_,mm (st:=bf) l_Trial_breaks_at dA k_Trial_breaks_at,⟨a_Trial_breaks_at,i_Trial_breaks_at,k_Trial_breaks_at⟩⟩,⟨_,_,mm (st:=bc) l_Bench_inputs_in dE k_Bench_inputs_in,⟨a_Bench_inputs_in,i_Bench_inputs_in,k_Bench_inputs_in⟩⟩⟩
theorem Gv{P:Program}{w:World}{K:PySem.W.Frag}{mg:Str→Option Value}{base:Heap}{f:Addr}{fd:FuncData}{cl:Nat→Addr}(T:Tp K mg cl)(D_vote_of:Def K mg (Str.ofString "vote_of") eV)(D_gate_mask:Def K mg (Str.ofString "gate_mask") dD)(D_in_wire_masks:Def K mg (Str.ofString "in_wire_masks") cb)(D_masks_at:Def K mg (Str.ofString "masks_at") dZ)(D_wire_masks:Def K mg (Str.ofString "wire_masks") cZ)(D_out_masks:Def K mg (Str.ofString "out_masks") dw)(D_reading:Def K mg (Str.ofString "reading") eX)(D_bit_at:Def K mg (Str.ofString "bit_at") gp)(D_all_inputs:Def K mg (Str.ofString "all_inputs") c7)(D_mask_of:Def K mg (Str.ofString "mask_of") eU)(D_in_mask:Def K mg (Str.ofString "in_mask") eY)(D_Bench___init__:yQ K (cl 0) (Str.ofString "__init__") (Str.ofString "Bench.__init__") bu)(D_Bench_tells:ph K (cl 0) (Str.ofString "tells") (Str.ofString "Bench.tells") bN)(D_Bench_readings:ph K (cl 0) (Str.ofString "readings") (Str.ofString "Bench.readings") bt)(D_Trial___init__:yQ K (cl 1) (Str.ofString "__init__") (Str.ofString "Trial.__init__") br)(D_Trial_breaks_at:ph K (cl 1) (Str.ofString "breaks_at") (Str.ofString "Trial.breaks_at") bf)(D_Bench_inputs_in:ph K (cl 0) (Str.ofString "inputs_in") (Str.ofString "Bench.inputs_in") bc)(D_matters:Def K mg (Str.ofString "matters") eW)(D_law_cell_at:Def K mg (Str.ofString "_law_cell_at") cJ)(D_law_reel:Def K mg (Str.ofString "_law_reel") d7)(D_law_take:Def K mg (Str.ofString "_law_take") ee)(D_law_names:Def K mg (Str.ofString "_law_names") dr)(D_law_gate:Def K mg (Str.ofString "_law_gate") d5)(D_law_again:Def K mg (Str.ofString "_law_again") dt)(D_law_outs:Def K mg (Str.ofString "_law_outs") ef)(D_law_net:Def K mg (Str.ofString "_law_net") eT)(D_law_gate_bit:Def K mg (Str.ofString "_law_gate_bit") cu)(D_law_wires:Def K mg (Str.ofString "_law_wires") dk)(D_law_read:Def K mg (Str.ofString "_law_read") d_)(D_law_reads:Def K mg (Str.ofString "_law_reads") dy)(D_law_inputs:Def K mg (Str.ofString "_law_inputs") cX)(D_law_alike:Def K mg (Str.ofString "_law_alike") dv)(D_law_copied:Def K mg (Str.ofString "_law_copied") c_)(D_law_counts:Def K mg (Str.ofString "_law_counts") c6)(F:xB K (Str.ofString "law") (Str.ofString "law") oF f fd):ip P w K mg base qO 9 f fd [Str.ofString "script"] (zr K 1 xy):=by
 have C_vote_of:Callee P w K mg base 1 (Str.ofString "vote_of") 1 fX:=yO T D_vote_of
 have C_gate_mask:Callee P w K mg base 2 (Str.ofString "gate_mask") 3 fP:=uO T D_gate_mask C_vote_of
 have XK_in_wire_masks:aQ P w K mg base cl 1 (Str.ofString "in_wire_masks") 4 de:=o3 T D_in_wire_masks
 have XP_in_wire_masks:aQ P w K mg base cl 1 (Str.ofString "in_wire_masks") 4 nO:=XK_in_wire_masks.p
 have C_masks_at:Callee P w K mg base 1 (Str.ofString "masks_at") 2 eL:=wm T D_masks_at
 have XK_wire_masks:aQ P w K mg base cl 3 (Str.ofString "wire_masks") 5 lJ:=sQ T D_wire_masks C_masks_at C_gate_mask XK_in_wire_masks
 have XP_wire_masks:aQ P w K mg base cl 3 (Str.ofString "wire_masks") 5 fA:=XK_wire_masks.p
 have XK_out_masks:aQ P w K mg base cl 2 (Str.ofString "out_masks") 2 m_:=uY T D_out_masks C_masks_at
 have XP_out_masks:aQ P w K mg base cl 2 (Str.ofString "out_masks") 2 gu:=XK_out_masks.p
 have C_reading:Callee P w K mg base 2 (Str.ofString "reading") 2 iu:=yT T D_reading C_vote_of
 have C_bit_at:Callee P w K mg base 1 (Str.ofString "bit_at") 2 jC:=BP T D_bit_at
 have XK_all_inputs:aQ P w K mg base cl 1 (Str.ofString "all_inputs") 1 lF:=tw T D_all_inputs
 have XP_all_inputs:aQ P w K mg base cl 1 (Str.ofString "all_inputs") 1 fu:=XK_all_inputs.p
 have C_mask_of:Callee P w K mg base 1 (Str.ofString "mask_of") 1 fV:=zf T D_mask_of
 have C_in_mask:Callee P w K mg base 2 (Str.ofString "in_mask") 2 ix:=yu T D_in_mask C_mask_of
 have XK_Bench___init__:qj P w K mg base cl 3 0 (Str.ofString "Bench") 1 cU:=dQ T D_Bench___init__ C_mask_of C_in_mask XP_all_inputs
 have XK_Bench_tells:fw P w K mg base cl 4 0 (Str.ofString "tells") 2 kN:=fD T D_Bench_tells XP_out_masks XP_wire_masks
 have XP_Bench_tells:fw P w K mg base cl 4 0 (Str.ofString "tells") 2 eF:=XK_Bench_tells.p
 have XK_Bench_readings:fw P w K mg base cl 5 0 (Str.ofString "readings") 1 jg:=dR T D_Bench_readings C_reading XP_Bench_tells
 have XP_Bench_readings:fw P w K mg base cl 5 0 (Str.ofString "readings") 1 cw:=XK_Bench_readings.p
 have XK_Trial___init__:qj P w K mg base cl 6 1 (Str.ofString "Trial") 1 cR:=dO T D_Trial___init__ XK_Bench___init__ XP_Bench_readings
 have XK_Trial_breaks_at:fw P w K mg base cl 6 1 (Str.ofString "breaks_at") 2 iL:=dA T D_Trial_breaks_at XP_Bench_readings
 have XP_Trial_breaks_at:fw P w K mg base cl 6 1 (Str.ofString "breaks_at") 2 cH:=XK_Trial_breaks_at.p
 have XK_Bench_inputs_in:fw P w K mg base cl 2 0 (Str.ofString "inputs_in") 1 iI:=dE T D_Bench_inputs_in C_bit_at
 have XP_Bench_inputs_in:fw P w K mg base cl 2 0 (Str.ofString "inputs_in") 1 cG:=XK_Bench_inputs_in.p
 have XK_matters:aQ P w K mg base cl 8 (Str.ofString "matters") 1 iK:=ym T D_matters XK_Trial___init__ XP_Trial_breaks_at XP_Bench_inputs_in
 have XP_matters:aQ P w K mg base cl 8 (Str.ofString "matters") 1 mh:=XK_matters.p
 have C_law_cell_at:Callee P w K mg base 1 (Str.ofString "_law_cell_at") 2 er:=qV T D_law_cell_at
 have XK_law_reel:aQ P w K mg base cl 1 (Str.ofString "_law_reel") 1 eH:=vB T D_law_reel
 have XP_law_reel:aQ P w K mg base cl 1 (Str.ofString "_law_reel") 1 uI:=XK_law_reel.p
 have XK_law_take:aQ P w K mg base cl 1 (Str.ofString "_law_take") 2 ot:=wQ T D_law_take
 have XP_law_take:aQ P w K mg base cl 1 (Str.ofString "_law_take") 2 aC:=XK_law_take.p
 have XK_law_names:aQ P w K mg base cl 2 (Str.ofString "_law_names") 2 mZ:=t7 T D_law_names XP_law_take
 have XP_law_names:aQ P w K mg base cl 2 (Str.ofString "_law_names") 2 f7:=XK_law_names.p
 have XK_law_gate:aQ P w K mg base cl 2 (Str.ofString "_law_gate") 3 oK:=wo T D_law_gate XP_law_take
 have XP_law_gate:aQ P w K mg base cl 2 (Str.ofString "_law_gate") 3 fU:=XK_law_gate.p
 have XK_law_again:aQ P w K mg base cl 2 (Str.ofString "_law_again") 3 mV:=va T D_law_again XP_law_take
 have XP_law_again:aQ P w K mg base cl 2 (Str.ofString "_law_again") 3 gh:=XK_law_again.p
 have XK_law_outs:aQ P w K mg base cl 2 (Str.ofString "_law_outs") 4 oJ:=vw T D_law_outs XP_law_take
 have XP_law_outs:aQ P w K mg base cl 2 (Str.ofString "_law_outs") 4 g_:=XK_law_outs.p
 have XK_law_net:aQ P w K mg base cl 3 (Str.ofString "_law_net") 4 pY:=y6 T D_law_net XP_law_names XP_law_take XK_law_reel XP_law_again XP_law_gate XP_law_outs
 have XP_law_net:aQ P w K mg base cl 3 (Str.ofString "_law_net") 4 jY:=XK_law_net.p
 have C_law_gate_bit:Callee P w K mg base 1 (Str.ofString "_law_gate_bit") 2 eG:=qh T D_law_gate_bit
 have C_law_wires:Callee P w K mg base 2 (Str.ofString "_law_wires") 4 fW:=t_ T D_law_wires C_law_gate_bit
 have C_law_read:Callee P w K mg base 1 (Str.ofString "_law_read") 1 iT:=vW T D_law_read
 have C_law_reads:Callee P w K mg base 3 (Str.ofString "_law_reads") 4 eE:=uM T D_law_reads C_law_wires C_law_read
 have C_law_inputs:Callee P w K mg base 1 (Str.ofString "_law_inputs") 1 eZ:=sY T D_law_inputs
 have C_law_alike:Callee P w K mg base 6 (Str.ofString "_law_alike") 2 (bH 5):=oj T D_law_alike 5
 have C_law_copied:Callee P w K mg base 1 (Str.ofString "_law_copied") 1 ij:=sP T D_law_copied
 have C_law_counts:Callee P w K mg base 4 (Str.ofString "_law_counts") 2 gy:=tP T D_law_counts C_law_inputs C_law_reads
 exact(cx (cl:=cl) (N:=oh) (F:=rA) (k:=8) EF.2 v_.2 F nc (fun cdv A outer s H E hr=>(av (bj nc.nd rfl (Or.inl rfl) (bw XK_law_reel hr (by decide) rfl (ai (au (bO C_law_cell_at hr (by decide) rfl (ab (aa 0) (ab ag ah)) (aH (aH b3)))) aS) (aj aP))) (av (bj nc.nd rfl (Or.inl rfl) (au (AS (aa 0) (pV ag) (pV ag)))) (av (fJ PassesOwn.never rfl (eg (bW (aJ oI ag (aI cO rfl T.z_len PySem.boot_len (ab (aa 2) ah))) rfl T.z_range)) (bQ nc.nd rfl (Or.inl rfl)) (aZ (bj nc.nd rfl (Or.inl rfl) (oH gx (au (aa 2)) (FQ (ai (bw XP_law_take hr (by decide) rfl (ai (aT 1) (ai (au (aJ D9 ag ag)) aS)) (aj (aj aP))) aS)))))) (av (bj nc.nd rfl (Or.inr rfl) (bw XP_law_net hr (by decide) rfl (ai (aT 1) (ai (au (aa 2)) (ai (au ag) (ai (au ag) aS)))) (aj (aj (aj (aj aP)))))) (av (qG rfl nc.nd rfl rfl (cv.of (own:=[(Str.ofString "place")]) (kp:=[4]) (kn:=[(Str.ofString "net")]) (sc:=v_.1) (N:=oh) rfl rfl (by decide+kernel)) (eg (bW (aI cO rfl T.z_len PySem.boot_len (ab (ay (aa 4) ag (fun _ _=>rfl)) ah)) rfl T.z_range)) (fun _ _ _=>(bQ (show List.Nodup [(Str.ofString "place"),(Str.ofString "net")] from by decide+kernel) rfl (Or.inl rfl))) (fun _ _ _=>(nC (jE (lz (gR (ay (ay (ay (aa 1) ag (fun _ _=>rfl)) (aa 0) (fun _ _=>rfl)) ag (fun _ _=>rfl))))))) (fun _ _ _=>(au (bO C_law_counts hr (by decide) rfl (ab (aa 1) (ab (aa 0) ah)) (aH (aH b3)))))) (av (bj nc.nd rfl (Or.inl rfl) (au (bO C_law_copied hr (by decide) rfl (ab (aa 4) ah) (aH b3)))) (av (bj nc.nd rfl (Or.inl rfl) (bw XK_matters hr (by decide) rfl (ai (au (aa 6)) aS) (aj aP))) (av (pW (jM (lz (gR (bO C_law_alike hr (by decide) rfl (ab (aa 7) (ab (aa 5) ah)) (aH (aH b3)))))) (aZ (d6 (au nJ))) nq) (av (fM rfl (Or.inl rfl) (au (cL (ab ag (ab ag (ab ag ah)))))) (aZ (d6 (Fq (vp C_law_alike hr (by decide) rfl (ai (bw XP_matters hr (by decide) rfl (ai (au (aa 6)) aS) (aj aP)) (ai (au (aa 5)) aS)) (aj (aj aP))) (EE (au (bO C_law_alike hr (by decide) rfl (ab (aa 6) (ab (aa 4) ah)) (aH (aH b3))))))))))))))))))).imp fun _ _ _ _ h=>Gz h
end K15
end
section
set_option maxRecDepth 100000
set_option maxHeartbeats 4000000
namespace K15
open PySem PySem.Spec PyProof.Rows L2 L3
theorem jk{S:aU}{k:Nat}{o x:SO}(h:S[k]? =some x):(S.set k o)[k]? =some o:=by
 obtain⟨h1,_⟩:=List.getElem?_eq_some_iff.mp h
 rw[List.getElem?_set_self h1]
noncomputable def oW(k:Nat)(S:aU):Prop:=Flat S∧∃a c,S[k]? =some (.lst [.int a, .int c])
structure Ev (k:Nat) (S S1:aU):Prop where
 p:oW k S1
 len:S1.length=S.length
 oth:∀j,j≠k→S1[j]? =S[j]?
theorem oW.lt{k:Nat}{S:aU}(p:oW k S):k < S.length:=by
 obtain⟨_,a,c,e⟩:=p
 exact(List.getElem?_eq_some_iff.mp e).1
theorem lN(ds:List D):∀n,me n (.lst ds)=true:=fun _=>rfl
theorem xh{a b:Int}(h:0 < b)(h2:b.natAbs.log2 < 9000):vd (.int a) (.int b)= .ok (.int (a / b)):=by unfold vd uX;exact bY _ ⟨h,h2⟩
theorem rR{m:Int}(h0:0 < m)(h:m < 1000000):m.natAbs.log2 < 9000:=by
 have h1:m.natAbs≠0:=by omega
 have:m.natAbs.log2 < 20:=(Nat.log2_lt h1).mpr (by omega)
 omega
theorem sM{S:aU}{k:Nat}{m:Int}(p:oW k S)(hm:0 < m)(hm2:m.natAbs.log2 < 9000){Q:V3→aU→Prop}
 (h:∀(r:Int) S1,0≤r→r < m→Ev k S S1→Q (.d (.int r)) S1):W3 (aC [.loc k, .d (.int m)] S) Q:=by
 obtain⟨hL,a,c,e⟩:=p
 have fin:∀(r:Int) S2,0≤r→r < m→Ev k S S2→Flat S2∧ft S.length (.d (.int r))=true∧∃d,res S2 (.d (.int r))=some d∧Q (.d d) (S2.take S.length):=fun r S2 h1 h2 v=>by
  refine⟨v.p.1,by unfold ft;rfl, .int r,by unfold res;rfl,?_⟩
  rw[List.take_of_length_le (by have:=v.len;omega)]
  exact h r S2 h1 h2 v
 have h0:bX (.lst [.int a, .int c]) (.int 0)= .ok (.int a):=rfl
 have h1:bX (.lst [.int a, .int c]) (.int 1)= .ok (.int c):=rfl
 unfold aC
 refine rM (u6 rfl ?_)
 simp only[bS,jR,List.map_cons,List.map_nil,List.length_cons,List.length_nil,List.replicate,List.cons_append,List.nil_append,Nat.reduceAdd,Nat.reduceSub]
 unfold md
 by_cases hc:(1000000000000000000:Int)≤a
 ·refine EZ (wx (Dj (b:=true) ?_ ?_))
  ·simp (implicitDefEqProofs:=false) (disch:=first | omega | decide) only[lZ,cW,cF,fG,pj,nu,oT,u_,oY,dc,ky,fH,o_,ae,eC,e2,eNew,je,aA,eK,wq,xM,yX,i7,vn,kC,Eb,qw,uP,j3,lX,zd,b2,oG,j_,wG,jr,hV,dM,nList,aD,aq,vj,oz,kT,jH,ei,jN,oi,g9,qH,nM,zk,Ef,vt,B5,ni,uX,yg,lW,ja,qN,o9,kE,cInt,cStr,qk,fL,jP,cC,tp,ql,bh,iR,dH,iG,i9,ik,j5,D.atom,tyName,R.aR,R.fS,List.map_cons,List.map_nil,List.map_append,List.set_cons_zero,List.set_cons_succ,List.getElem?_cons_zero,List.getElem?_cons_succ,List.length_cons,List.length_nil,List.nil_append,List.cons_append,List.append_nil,List.length_map,List.length_append,List.replicate,Nat.reduceAdd,Nat.reduceSub,Nat.zero_add,decide_true,decide_false,Nat.lt_add_one,Nat.reduceLT,Nat.reduceLeDiff,Nat.reduceEqDiff,if_true,if_false,Bool.false_eq_true,ite_true,ite_false,Bool.true_or,Bool.or_true,Bool.true_and,Bool.and_true,beq_self_eq_true,down,bR,res,l8,bS,gE,kX,kQ,zg,wK,zj,Option.map_some,Option.bind_some,gB,di,qt,kj,iZ,j0,bY,decide_eq_true_eq,Int.reduceToNat,e,h0]
   simp [hc]
  rw[if_pos rfl]
  refine aX (bJ (by simp only[List.length_cons,List.length_nil,List.length_set];omega) (tU (d:= .int (a % m)) ?_ rfl ⟨_,rfl,?_⟩))
  ·simp (implicitDefEqProofs:=false) (disch:=first | omega | decide) only[lZ,cW,cF,fG,pj,nu,oT,u_,oY,dc,ky,fH,o_,ae,eC,e2,eNew,je,aA,eK,wq,xM,yX,i7,vn,kC,Eb,qw,uP,j3,lX,zd,b2,oG,j_,wG,jr,hV,dM,nList,aD,aq,vj,oz,kT,jH,ei,jN,oi,g9,qH,nM,zk,Ef,vt,B5,ni,uX,yg,lW,ja,qN,o9,kE,cInt,cStr,qk,fL,jP,cC,tp,ql,bh,iR,dH,iG,i9,ik,j5,D.atom,tyName,R.aR,R.fS,List.map_cons,List.map_nil,List.map_append,List.set_cons_zero,List.set_cons_succ,List.getElem?_cons_zero,List.getElem?_cons_succ,List.length_cons,List.length_nil,List.nil_append,List.cons_append,List.append_nil,List.length_map,List.length_append,List.replicate,Nat.reduceAdd,Nat.reduceSub,Nat.zero_add,decide_true,decide_false,Nat.lt_add_one,Nat.reduceLT,Nat.reduceLeDiff,Nat.reduceEqDiff,if_true,if_false,Bool.false_eq_true,ite_true,ite_false,Bool.true_or,Bool.or_true,Bool.true_and,Bool.and_true,beq_self_eq_true,down,bR,res,l8,bS,gE,kX,kQ,zg,wK,zj,Option.map_some,Option.bind_some,gB,di,qt,kj,iZ,j0,bY,decide_eq_true_eq,Int.reduceToNat,e,h0]
  simp only[List.set_cons_succ,List.set_cons_zero]
  refine aX (BO (tU (d:= .int (a / m)) ?_ rfl (w_var (v:= .loc k) rfl (dJ (d:= .int 0) rfl ⟨_,k,0,_,0,rfl,rfl,rfl,e,rfl,_,rfl,?_⟩))))
  ·refine az (a:= .int a) (b:= .int m) ?_ rfl (xh hm hm2)
   simp (implicitDefEqProofs:=false) (disch:=first | omega | decide) only[lZ,cW,cF,fG,pj,nu,oT,u_,oY,dc,ky,fH,o_,ae,eC,e2,eNew,je,aA,eK,wq,xM,yX,i7,vn,kC,Eb,qw,uP,j3,lX,zd,b2,oG,j_,wG,jr,hV,dM,nList,aD,aq,vj,oz,kT,jH,ei,jN,oi,g9,qH,nM,zk,Ef,vt,B5,ni,uX,yg,lW,ja,qN,o9,kE,cInt,cStr,qk,fL,jP,cC,tp,ql,bh,iR,dH,iG,i9,ik,j5,D.atom,tyName,R.aR,R.fS,List.map_cons,List.map_nil,List.map_append,List.set_cons_zero,List.set_cons_succ,List.getElem?_cons_zero,List.getElem?_cons_succ,List.length_cons,List.length_nil,List.nil_append,List.cons_append,List.append_nil,List.length_map,List.length_append,List.replicate,Nat.reduceAdd,Nat.reduceSub,Nat.zero_add,decide_true,decide_false,Nat.lt_add_one,Nat.reduceLT,Nat.reduceLeDiff,Nat.reduceEqDiff,if_true,if_false,Bool.false_eq_true,ite_true,ite_false,Bool.true_or,Bool.or_true,Bool.true_and,Bool.and_true,beq_self_eq_true,down,bR,res,l8,bS,gE,kX,kQ,zg,wK,zj,Option.map_some,Option.bind_some,gB,di,qt,kj,iZ,j0,bY,decide_eq_true_eq,Int.reduceToNat,e,h0]
  refine gC (dJ (d:= .int (a % m)) rfl ⟨_,rfl,_,rfl,?_⟩)
  exact fin _ _ (Int.emod_nonneg _ (by omega)) (Int.emod_lt_of_pos _ hm) ⟨⟨hL.set _ (lN _),_,_,jk e⟩,List.length_set,fun j hj=>List.getElem?_set_ne (Ne.symm hj)⟩
 ·refine aX (wx (Dj (b:=false) ?_ ?_))
  ·simp (implicitDefEqProofs:=false) (disch:=first | omega | decide) only[lZ,cW,cF,fG,pj,nu,oT,u_,oY,dc,ky,fH,o_,ae,eC,e2,eNew,je,aA,eK,wq,xM,yX,i7,vn,kC,Eb,qw,uP,j3,lX,zd,b2,oG,j_,wG,jr,hV,dM,nList,aD,aq,vj,oz,kT,jH,ei,jN,oi,g9,qH,nM,zk,Ef,vt,B5,ni,uX,yg,lW,ja,qN,o9,kE,cInt,cStr,qk,fL,jP,cC,tp,ql,bh,iR,dH,iG,i9,ik,j5,D.atom,tyName,R.aR,R.fS,List.map_cons,List.map_nil,List.map_append,List.set_cons_zero,List.set_cons_succ,List.getElem?_cons_zero,List.getElem?_cons_succ,List.length_cons,List.length_nil,List.nil_append,List.cons_append,List.append_nil,List.length_map,List.length_append,List.replicate,Nat.reduceAdd,Nat.reduceSub,Nat.zero_add,decide_true,decide_false,Nat.lt_add_one,Nat.reduceLT,Nat.reduceLeDiff,Nat.reduceEqDiff,if_true,if_false,Bool.false_eq_true,ite_true,ite_false,Bool.true_or,Bool.or_true,Bool.true_and,Bool.and_true,beq_self_eq_true,down,bR,res,l8,bS,gE,kX,kQ,zg,wK,zj,Option.map_some,Option.bind_some,gB,di,qt,kj,iZ,j0,bY,decide_eq_true_eq,Int.reduceToNat,e,h0]
   simp [hc]
  rw[if_neg (by decide)]
  refine tR ⟨_,rfl,?_⟩
  refine aX (BO (tU (d:= .int ((c*48271+11) % 2147483647)) ?_ rfl (w_var (v:= .loc k) rfl (dJ (d:= .int 1) rfl ⟨_,k,1,_,1,rfl,rfl,rfl,e,rfl,_,rfl,?_⟩))))
  ·simp (implicitDefEqProofs:=false) (disch:=first | omega | decide) only[lZ,cW,cF,fG,pj,nu,oT,u_,oY,dc,ky,fH,o_,ae,eC,e2,eNew,je,aA,eK,wq,xM,yX,i7,vn,kC,Eb,qw,uP,j3,lX,zd,b2,oG,j_,wG,jr,hV,dM,nList,aD,aq,vj,oz,kT,jH,ei,jN,oi,g9,qH,nM,zk,Ef,vt,B5,ni,uX,yg,lW,ja,qN,o9,kE,cInt,cStr,qk,fL,jP,cC,tp,ql,bh,iR,dH,iG,i9,ik,j5,D.atom,tyName,R.aR,R.fS,List.map_cons,List.map_nil,List.map_append,List.set_cons_zero,List.set_cons_succ,List.getElem?_cons_zero,List.getElem?_cons_succ,List.length_cons,List.length_nil,List.nil_append,List.cons_append,List.append_nil,List.length_map,List.length_append,List.replicate,Nat.reduceAdd,Nat.reduceSub,Nat.zero_add,decide_true,decide_false,Nat.lt_add_one,Nat.reduceLT,Nat.reduceLeDiff,Nat.reduceEqDiff,if_true,if_false,Bool.false_eq_true,ite_true,ite_false,Bool.true_or,Bool.or_true,Bool.true_and,Bool.and_true,beq_self_eq_true,down,bR,res,l8,bS,gE,kX,kQ,zg,wK,zj,Option.map_some,Option.bind_some,gB,di,qt,kj,iZ,j0,bY,decide_eq_true_eq,Int.reduceToNat,e,h1]
  have hx1:0≤(c*48271+11) % 2147483647:=Int.emod_nonneg _ (by omega)
  have hx2:(c*48271+11) % 2147483647 < 2147483647:=Int.emod_lt_of_pos _ (by omega)
  generalize (c*48271+11) % 2147483647=x at hx1 hx2
  simp only[List.set_cons_succ,List.set_cons_zero]
  have e1:(S.set k (.lst [.int a, .int x]))[k]? =some (.lst [.int a, .int x]):=jk e
  have v1:Ev k S (S.set k (.lst [.int a, .int x])):=⟨⟨hL.set _ (lN _),_,_,e1⟩,List.length_set,fun j hj=>List.getElem?_set_ne (Ne.symm hj)⟩
  generalize S.set k (.lst [.int a, .int x])=S1 at e1 v1
  refine aX (bJ (by simp only[List.length_cons,List.length_nil,List.length_set];omega) (tU (d:= .int (x*x % 2147483629)) ?_ rfl ⟨_,rfl,?_⟩))
  ·have h2:bX (.lst [.int a, .int x]) (.int 1)= .ok (.int x):=rfl
   simp (implicitDefEqProofs:=false) (disch:=first | omega | decide) only[lZ,cW,cF,fG,pj,nu,oT,u_,oY,dc,ky,fH,o_,ae,eC,e2,eNew,je,aA,eK,wq,xM,yX,i7,vn,kC,Eb,qw,uP,j3,lX,zd,b2,oG,j_,wG,jr,hV,dM,nList,aD,aq,vj,oz,kT,jH,ei,jN,oi,g9,qH,nM,zk,Ef,vt,B5,ni,uX,yg,lW,ja,qN,o9,kE,cInt,cStr,qk,fL,jP,cC,tp,ql,bh,iR,dH,iG,i9,ik,j5,D.atom,tyName,R.aR,R.fS,List.map_cons,List.map_nil,List.map_append,List.set_cons_zero,List.set_cons_succ,List.getElem?_cons_zero,List.getElem?_cons_succ,List.length_cons,List.length_nil,List.nil_append,List.cons_append,List.append_nil,List.length_map,List.length_append,List.replicate,Nat.reduceAdd,Nat.reduceSub,Nat.zero_add,decide_true,decide_false,Nat.lt_add_one,Nat.reduceLT,Nat.reduceLeDiff,Nat.reduceEqDiff,if_true,if_false,Bool.false_eq_true,ite_true,ite_false,Bool.true_or,Bool.or_true,Bool.true_and,Bool.and_true,beq_self_eq_true,down,bR,res,l8,bS,gE,kX,kQ,zg,wK,zj,Option.map_some,Option.bind_some,gB,di,qt,kj,iZ,j0,bY,decide_eq_true_eq,Int.reduceToNat,e1,h2]
  simp only[List.set_cons_succ,List.set_cons_zero]
  generalize x*x % 2147483629=y
  refine gC (dJ (d:= .int (y*69621 % 2147483587 / 8 % m)) ?_ ⟨_,rfl,?_⟩)
  ·refine az (a:= .int (y*69621 % 2147483587 / 8)) (b:= .int m) (az (a:= .int (y*69621 % 2147483587)) (b:= .int 8) ?_ rfl (xh (by omega) (by decide))) rfl (we hm)
   simp (implicitDefEqProofs:=false) (disch:=first | omega | decide) only[lZ,cW,cF,fG,pj,nu,oT,u_,oY,dc,ky,fH,o_,ae,eC,e2,eNew,je,aA,eK,wq,xM,yX,i7,vn,kC,Eb,qw,uP,j3,lX,zd,b2,oG,j_,wG,jr,hV,dM,nList,aD,aq,vj,oz,kT,jH,ei,jN,oi,g9,qH,nM,zk,Ef,vt,B5,ni,uX,yg,lW,ja,qN,o9,kE,cInt,cStr,qk,fL,jP,cC,tp,ql,bh,iR,dH,iG,i9,ik,j5,D.atom,tyName,R.aR,R.fS,List.map_cons,List.map_nil,List.map_append,List.set_cons_zero,List.set_cons_succ,List.getElem?_cons_zero,List.getElem?_cons_succ,List.length_cons,List.length_nil,List.nil_append,List.cons_append,List.append_nil,List.length_map,List.length_append,List.replicate,Nat.reduceAdd,Nat.reduceSub,Nat.zero_add,decide_true,decide_false,Nat.lt_add_one,Nat.reduceLT,Nat.reduceLeDiff,Nat.reduceEqDiff,if_true,if_false,Bool.false_eq_true,ite_true,ite_false,Bool.true_or,Bool.or_true,Bool.true_and,Bool.and_true,beq_self_eq_true,down,bR,res,l8,bS,gE,kX,kQ,zg,wK,zj,Option.map_some,Option.bind_some,gB,di,qt,kj,iZ,j0,bY,decide_eq_true_eq,Int.reduceToNat]
  exact fin _ _ (Int.emod_nonneg _ (by omega)) (Int.emod_lt_of_pos _ hm) v1
section
variable {S:aU} {δ:DE} {k i:Nat}
theorem draw{Q:V3→aU→Prop}{f:FD}{m:Int}(hv:δ[i]? =some (some (.loc k)))(p:oW k S)(hf:f (down δ)= .ok (.int m))(hm:0 < m)(hm2:m < 1000000)
 (h:∀(r:Int) S1,0≤r→r < m→Ev k S S1→Q (.d (.int r)) S1):W3 (cf aC (ax (bK i) (ax (xP f) ck)) δ S) Q:=
 fk (aO (w_var hv (aO (dJ hf (cQ (sM p hm (rR hm hm2) h))))))
theorem D3{Q:V3→aU→Prop}{m:Int}(hv:δ[i]? =some (some (.loc k)))(p:oW k S)(hm:0 < m)(hm2:m < 1000000)
 (h:∀(r:Nat) S1,1≤r→(r:Int)≤m→Ev k S S1→Q (.d (.int r)) S1):W3 (x2 ei (xP (eC (.int 1))) (cf aC (ax (bK i) (ax (xP (eC (.int m))) ck))) δ S) Q:=
 B4 (dJ rfl (draw hv p rfl hm hm2 fun r S1 h1 h2 v=>⟨_,_, .int ((1+r).toNat:Nat),rfl,rfl,by rw[Int.toNat_of_nonneg (by omega)];rfl,h _ S1 (by omega) (by omega) v⟩))
end
theorem xV(c:Int){S:aU}{Q:V3→aU→Prop}(hS:Flat S)(h:∀S1,oW S.length S1→S1.length=S.length+1→(∀j,j < S.length→S1[j]? =S[j]?)→Q (.loc S.length) S1):W3 (eH [.d (.int c)] S) Q:=by
 have hz:sizeLine=16777216:=sizeLine_eq
 unfold eH
 refine u6 rfl ?_
 simp only[bS,jT,List.map_cons,List.map_nil,List.length_cons,List.length_nil,List.replicate,List.cons_append,List.nil_append,Nat.reduceAdd,Nat.reduceSub]
 unfold mj
 refine gC (jG (ds:=[.int (if c < 0 then -c else c), .int ((c % 2147483647+1)*742938285 % 2147483647)]) ?_ ⟨_,rfl,?_⟩)
 ·simp (implicitDefEqProofs:=false) (disch:=first | omega | decide) only[lZ,cW,cF,fG,pj,nu,oT,u_,oY,dc,ky,fH,o_,ae,eC,e2,eNew,je,aA,eK,wq,xM,yX,i7,vn,kC,Eb,qw,uP,j3,lX,zd,b2,oG,j_,wG,jr,hV,dM,nList,aD,aq,vj,oz,kT,jH,ei,jN,oi,g9,qH,nM,zk,Ef,vt,B5,ni,uX,yg,lW,ja,qN,o9,kE,cInt,cStr,qk,fL,jP,cC,tp,ql,bh,iR,dH,iG,i9,ik,j5,D.atom,tyName,R.aR,R.fS,List.map_cons,List.map_nil,List.map_append,List.set_cons_zero,List.set_cons_succ,List.getElem?_cons_zero,List.getElem?_cons_succ,List.length_cons,List.length_nil,List.nil_append,List.cons_append,List.append_nil,List.length_map,List.length_append,List.replicate,Nat.reduceAdd,Nat.reduceSub,Nat.zero_add,decide_true,decide_false,Nat.lt_add_one,Nat.reduceLT,Nat.reduceLeDiff,Nat.reduceEqDiff,if_true,if_false,Bool.false_eq_true,ite_true,ite_false,Bool.true_or,Bool.or_true,Bool.true_and,Bool.and_true,beq_self_eq_true,down,bR,res,l8,bS,gE,kX,kQ,zg,wK,zj,Option.map_some,Option.bind_some,gB,di,qt,kj,iZ,j0,bY,decide_eq_true_eq,Int.reduceToNat,cAbs]
 refine h _ ⟨hS.push (lN _),_,_,by rw[List.getElem?_append_right (Nat.le_refl _),Nat.sub_self];rfl⟩ (by simp) fun j hj=>List.getElem?_append_left hj
end K15
end
section
set_option maxRecDepth 100000
set_option maxHeartbeats 4000000
namespace K15
open PySem PySem.Spec PyProof.Rows L2 L3 MT
theorem yI{a:D}{r:List D}:bX (.tup (a ::r)) (.int 0)= .ok a:=nT (by rw[jn (by omega) (by simp)];rfl)
theorem Bc{a b:D}{r:List D}:bX (.tup (a ::b ::r)) (.int 1)= .ok b:=nT (by rw[jn (by omega) (by simp)];rfl)
theorem Kd{a b c:D}{r:List D}:bX (.tup (a ::b ::c ::r)) (.int 2)= .ok c:=nT (by rw[jn (by omega) (by simp)];rfl)
theorem wU{N:Nat}{a b c:M}:fX [.tup [mI N a,mI N b,mI N c]]= .ok (mI N fun p=>(a p && b p) || (a p && c p) || (b p && c p)):=by
 unfold fX so
 refine dI (c5 ?_)
 exact az (az (az (az rfl rfl yI) (az rfl rfl Bc) (qx N a b)) (az (az rfl rfl yI) (az rfl rfl Kd) (qx N a c)) (uz N _ _)) (az (az rfl rfl Bc) (az rfl rfl Kd) (qx N b c)) (uz N _ _)
theorem HJ(k j:Nat)(hk:k≤4)(hj:j≤4):ja (.str (kS k)) (.str (kS j))= .ok (.bl (decide (k=j))):=by
 show R.ok (D.bl (kS k==kS j))=_
 congr 2
 revert hk hj
 have:∀a∈List.range 5,∀b∈List.range 5,(kS a==kS b)=decide (a=b):=by decide+kernel
 intro hk hj
 exact this k (by rw[List.mem_range];omega) j (by rw[List.mem_range];omega)
theorem DL{N kd:Nat}{xs:List M}(hk:kd≤4)(hx:xs.length=ar kd):fP [.str (kS kd), .tup (xs.map (mI N)),mI N one]= .ok (mI N fun p=>gv kd (xs.map (· p))):=by
 unfold fP oC
 have q:∀j,j≤4→b2 ja (ae 0) (eC (.str (kS j))) (cW kD [.str (kS kd), .tup (xs.map (mI N)),mI N one])= .ok (decide (kd=j)):=fun j hj=>ic (a:= .str (kS kd)) (b:= .str (kS j)) rfl rfl (HJ kd j hk hj)
 have q0:=q 0 (by omega)
 have q1:=q 1 (by omega)
 have q2:=q 2 (by omega)
 have q3:=q 3 (by omega)
 match kd,hk,xs,hx with
 | 0,_,[a],_=>
   refine dI (NT.mN (p8 q0 (c5 (az (a:=mI N one) (b:=mI N a) rfl (az rfl rfl yI) (uG N a)))))
 | 1,_,[a,b],_=>
   refine dI (aV (dN q0 rfl) (NT.mN (p8 q1 (c5 (az (az rfl rfl yI) (az rfl rfl Bc) (qx N a b))))))
 | 2,_,[a,b],_=>
   refine dI (aV (dN q0 rfl) (aV (dN q1 rfl) (NT.mN (p8 q2 (c5 (az (az rfl rfl yI) (az rfl rfl Bc) (uz N a b)))))))
 | 3,_,[a,b],_=>
   refine dI (aV (dN q0 rfl) (aV (dN q1 rfl) (aV (dN q2 rfl) (NT.mN (p8 q3 (c5 (az (az rfl rfl yI) (az rfl rfl Bc) (vb N a b))))))))
 | 4,_,[a,b,c],_=>
   refine dI (aV (dN q0 rfl) (aV (dN q1 rfl) (aV (dN q2 rfl) (aV (dN q3 rfl) (c5 (aL (ds:=[.tup [mI N a,mI N b,mI N c]]) rfl wU))))))
theorem El{N:Nat}{ws:List M}{ns:List Nat}(hn:∀n∈ns,n < ws.length)(hl:ns.length < 1000):eL [.lst (ws.map (mI N)), .tup (ns.map nI)]= .ok (.tup ((ns.map (ib ws)).map (mI N))):=by
 have hz:sizeLine=16777216:=sizeLine_eq
 unfold eL qB
 refine dI (c5 (aL (ds:=[.lst ((ns.map (ib ws)).map (mI N))]) (aK (e_ (f6 (ds:=ns.map nI) (wb rfl) (by rw[List.length_map];omega) ?_)) rfl) rfl))
 rw[List.map_map]
 exact NT.eM nI _ fun n hn'=>⟨[.val (nI n), .val (.lst (ws.map (mI N)))],rfl,rfl,az (a:= .lst (ws.map (mI N))) (b:=nI n) rfl rfl (zH (hn n hn'))⟩
noncomputable def vZ(N:Nat)(S:aU)(insD bitsD badD:D)(a5 a6 a7:Option V3):DE:=[some (.d insD),some (.d bitsD),some (.d (mI N one)),some (.d badD),some (.loc S.length),a5,a6,a7]
theorem zE{N:Nat}{S:aU}{insD bitsD:D}{bad:List Int}{a5 a7:Option V3}{b:M}{ws:List M}(hl:ws.length < 10000) :
 W3 (gc (vZ N S insD bitsD (.tup (bad.map .int)) a5 (some (.d (mI N b))) a7) (S++[.lst (ws.map (mI N))])) fun o S1=>o= .nx (vZ N S insD bitsD (.tup (bad.map .int)) a5 (some (.d (mI N b))) a7)∧S1=S++[SO.lst ((ws++[fun p=>b p !=bad.contains (ws.length:Int)]).map (mI N))]:=by
 have hz:sizeLine=16777216:=sizeLine_eq
 unfold gc
 refine iS (k:=S.length) rfl ⟨_,bz _ _⟩ (tU (d:=mI N fun p=>b p !=bad.contains (ws.length:Int)) ?_ rfl ⟨_,_,rfl,bz _ _,by rw[List.length_map];omega,rfl,?_⟩)
 ·have h4:(bR (S++[.lst (ws.map (mI N))]) (vZ N S insD bitsD (.tup (bad.map .int)) a5 (some (.d (mI N b))) a7))[4]? =some (.val (.lst (ws.map (mI N)))):=by
   unfold bR vZ
   show some (match res (S++[.lst (ws.map (mI N))]) (.loc S.length) with | some d=>Sl.val d | none=> .un)=_
   unfold res
   rw[bz]
  refine sC (b:=bad.contains (ws.length:Int)) (ic (a:= .int ws.length) (b:= .tup (bad.map .int)) (aL (ds:=[.lst (ws.map (mI N))]) (aK (by unfold ae;rw [h4]) rfl) (by rw[kx,List.length_map])) rfl (pA _ _)) ?_
  rw[←Bu]
  rfl
 ·rw[eO,List.map_append];rfl
theorem uQ{N:Nat}{S:aU}{bD:D}{ins:List (Str × Nat)}{bits:List M}{bad:List Int}(hB:bD= .lst (bits.map (mI N))∨bD= .tup (bits.map (mI N)))(hb:bits.length=ins.length)(hi:ins.length < 100)(hw:∀x∈ins,x.2 < 100){Q:V3→aU→Prop}
 (h:Q (.loc S.length) (S++[.lst ((cg ins bits bad ins.length).map (mI N))])) :
 W3 (de [.d (.lst (ins.map inD)), .d bD, .d (mI N one), .d (.tup (bad.map .int))] S) Q:=by
 have hz:sizeLine=16777216:=sizeLine_eq
 unfold de
 refine u6 rfl ?_
 simp only[bS,fE,List.map_cons,List.map_nil,List.length_cons,List.length_nil,List.replicate,List.cons_append,List.nil_append,Nat.reduceAdd,Nat.reduceSub]
 unfold hW
 refine aX (bJ (by simp only[List.length_cons,List.length_nil,List.length_set];omega) (jG (ds:=[]) rfl ⟨_,rfl,?_⟩))
 simp only[List.set_cons_succ,List.set_cons_zero]
 refine aX (iC (oX (ds:=fj (bits.map (mI N))) (by rcases hB with rfl | rfl <;> rfl) ?_))
 have big:∀i,i≤ins.length→(cg ins bits bad i).length≤100*i:=by
  intro i hi'
  induction i with
  | zero=>simp [cg]
  | succ i ih=>
    have ih:=ih (by omega)
    have h1:ins[i]? =some ins[i]:=List.getElem?_eq_getElem (by omega)
    have h2:bits[i]? =some bits[i]:=List.getElem?_eq_getElem (by omega)
    unfold cg
    rw[h1,h2]
    show(fg bad bits[i] ins[i].2 (cg ins bits bad i)).length≤_
    rw[fT]
    have:=hw ins[i] (List.getElem_mem _)
    omega
 refine(cD (fun i δ S2=>(∃a b c,δ=vZ N S (.lst (ins.map inD)) bD (.tup (bad.map .int)) a b c)∧S2=S++[SO.lst ((cg ins bits bad i).map (mI N))])
  ⟨⟨_,_,_,rfl⟩,rfl⟩ ?_).mono fun o S2 ⟨δ2,e2',⟨a,b,c,hδ⟩,hS⟩=>⟨δ2,e2',?_⟩
 ·rintro i v δ S2 hv ⟨⟨a,b,c,rfl⟩,rfl⟩
  obtain⟨d,hd,rfl⟩:=xp hv
  rw[List.getElem?_map] at hd
  have hib:i < bits.length:=by
   have:=(List.getElem?_eq_some_iff.mp hv).1
   simpa [fj] using this
  have h1:ins[i]? =some ins[i]:=List.getElem?_eq_getElem (by omega)
  have h2:bits[i]? =some bits[i]:=List.getElem?_eq_getElem hib
  rw[h2] at hd
  cases hd
  refine⟨vZ N S (.lst (ins.map inD)) bD (.tup (bad.map .int)) (some (.d (.int i))) (some (.d (mI N bits[i]))) c,rfl,?_⟩
  unfold jb
  have hwi:=hw ins[i] (List.getElem_mem _)
  refine iC (oX (eA (n:=ins[i].2) ?_ (by omega)) ?_)
  ·refine az (a:=inD ins[i]) (b:= .int 1) (az (a:= .lst (ins.map inD)) (b:= .int i) rfl rfl (jt ?_)) rfl rfl
   rw[jn (by omega) (by rw[List.length_map,Int.toNat_natCast];omega)]
   simp
  refine(cD (fun j δ S3=>(∃c,δ=vZ N S (.lst (ins.map inD)) bD (.tup (bad.map .int)) (some (.d (.int i))) (some (.d (mI N bits[i]))) c)∧S3=S++[SO.lst ((fg bad bits[i] j (cg ins bits bad i)).map (mI N))])
   ⟨⟨_,rfl⟩,rfl⟩ ?_).mono fun o S3 ⟨δ3,e3,⟨c3,hδ3⟩,hS3⟩=>⟨δ3,e3,⟨_,_,c3,hδ3⟩,?_⟩
  ·rintro j v δ S3 hv ⟨⟨c3,rfl⟩,rfl⟩
   refine⟨_,rfl,?_⟩
   have hj:j < ins[i].2:=by
    have:=(List.getElem?_eq_some_iff.mp hv).1
    rwa [List.length_map,bU,List.length_map,List.length_range] at this
   refine(zE ?_).mono fun o S4 ⟨e4,e5⟩=>⟨_,e4,⟨_,rfl⟩,e5⟩
   rw[fT]
   have:=big i (by omega)
   omega
  ·rw[hS3,List.length_map,bU,List.length_map,List.length_range]
   show _=S++[SO.lst ((match ins[i]?,bits[i]? with | some x,some b=>fg bad b x.2 (cg ins bits bad i) | _,_=>cg ins bits bad i).map (mI N))]
   rw[h1,h2]
 have hlen:((fj (bits.map (mI N))).map V3.d).length=ins.length:=by simp [fj,hb]
 rw[hlen] at hS
 subst hδ hS
 exact gC (w_var rfl ⟨_,rfl,h⟩)
section
variable {N:Nat} {ins:List (Str × Nat)} {gs:List Gt} {os:List (Str × List Nat)} {bits:List M} {turned bad:List Int}
noncomputable def uB(N:Nat)(S:aU)(nt bitsD tD bD:D)(a6 a7 a8:Option V3):DE:=[some (.d nt),some (.d bitsD),some (.d (mI N one)),some (.d tD),some (.d bD),some (.loc S.length),a6,a7,a8]
theorem yE{S:aU}{nt bitsD bD:D}{a8:Option V3}{g:Gt}{i:Nat}{ws:List M}(hg:lB ws.length g)(hl:ws.length < 20000) :
 W3 (iQ (uB N S nt bitsD (.tup (turned.map .int)) bD (some (.d (.int i))) (some (.d (gK g))) a8) (S++[.lst (ws.map (mI N))])) fun o S1=>(∃c,o= .nx (uB N S nt bitsD (.tup (turned.map .int)) bD (some (.d (.int i))) (some (.d (gK g))) c))∧S1=S++[SO.lst ((ws++[fun p=>gF g ws p !=turned.contains (i:Int)]).map (mI N))]:=by
 have hz:sizeLine=16777216:=sizeLine_eq
 have ha:=ue g.1
 unfold iQ
 refine aX (bJ (by unfold uB;simp only[List.length_cons,List.length_nil];omega) (tU (d:=mI N (gF g ws)) ?_ rfl ⟨_,rfl,?_⟩))
 ·have h5:(bR (S++[.lst (ws.map (mI N))]) (uB N S nt bitsD (.tup (turned.map .int)) bD (some (.d (.int i))) (some (.d (gK g))) a8))[5]? =some (.val (.lst (ws.map (mI N)))):=by
   unfold bR uB
   show some (match res (S++[.lst (ws.map (mI N))]) (.loc S.length) with | some d=>Sl.val d | none=> .un)=_
   unfold res
   rw[bz]
  refine(aL (ds:=[.str (kS g.1), .tup ((g.2.1.map (ib ws)).map (mI N)),mI N one]) (aK (az (a:=gK g) (b:= .int 0) rfl rfl rfl) (aK ?_ (aK rfl rfl))) (DL hg.1 (by rw[List.length_map];exact hg.2.1))).trans ?_
  ·exact aL (ds:=[.lst (ws.map (mI N)), .tup (g.2.1.map nI)]) (aK (by unfold ae;rw [h5]) (aK (az (a:=gK g) (b:= .int 1) rfl rfl rfl) rfl)) (El hg.2.2 (by rw[hg.2.1];omega))
  ·have:(fun p=>gv g.1 ((g.2.1.map (ib ws)).map (· p)))=gF g ws:=by funext p;unfold gF;rw [List.map_map];rfl
   rw[this]
 ·show W3 (i0 5 _ (uB N S nt bitsD (.tup (turned.map .int)) bD (some (.d (.int i))) (some (.d (gK g))) (some (.d (mI N (gF g ws))))) _) _
  refine iS (k:=S.length) rfl ⟨_,bz _ _⟩ (dJ (d:=mI N fun p=>gF g ws p !=turned.contains (i:Int)) ?_ ⟨_,_,rfl,bz _ _,by rw[List.length_map];omega,⟨_,rfl⟩,?_⟩)
  ·refine sC (b:=turned.contains (i:Int)) (ic (a:= .int i) (b:= .tup (turned.map .int)) rfl rfl (pA _ _)) ?_
   rw[←Bu]
   rfl
  ·rw[eO,List.map_append];rfl
theorem zV{S:aU}{bD:D}(hB:bD= .lst (bits.map (mI N))∨bD= .tup (bits.map (mI N)))(NO:jh ins gs os)(hb:bits.length=ins.length)(hS:pq S){Q:V3→aU→Prop}(h:Q (.d (.lst ((pP ins gs bits turned bad).map (mI N)))) S) :
 W3 (fA [.d (bL ins gs os), .d bD, .d (mI N one), .d (.tup (turned.map .int)), .d (.tup (bad.map .int))] S) Q:=by
 have hz:sizeLine=16777216:=sizeLine_eq
 unfold fA
 refine my hS (u6 rfl ?_)
 simp only[bS,il,List.map_cons,List.map_nil,List.length_cons,List.length_nil,List.replicate,List.cons_append,List.nil_append,Nat.reduceAdd,Nat.reduceSub]
 unfold kg
 refine aX <| bJ (by simp only[List.length_cons,List.length_nil,List.length_set];omega) <| fk <| aO <| dJ (d:= .lst (ins.map inD)) rfl <| aO <| dJ (d:=bD) rfl <| aO <| dJ (d:=mI N one) rfl <| aO <| dJ (d:= .tup (bad.map .int)) rfl <| cQ <| uQ hB hb NO.hi NO.hw ⟨_,rfl,?_⟩
 simp only[List.set_cons_succ,List.set_cons_zero]
 have hwd:=sZ NO.hw
 have hN:=NO.hi
 have hG:=NO.hg
 refine aX (iC (oX (ds:=fj (gs.map gK)) rfl ?_))
 refine(cD (fun i δ S2=>(∃a b c,δ=uB N S (bL ins gs os) bD (.tup (turned.map .int)) (.tup (bad.map .int)) a b c)∧S2=S++[SO.lst ((jQ gs turned (cg ins bits bad ins.length) i).map (mI N))])
  ⟨⟨_,_,_,rfl⟩,rfl⟩ ?_).mono fun o S2 ⟨δ2,e2',⟨a,b,c,hδ⟩,hS2⟩=>⟨δ2,e2',?_⟩
 ·rintro i v δ S2 hv ⟨⟨a,b,c,rfl⟩,rfl⟩
  obtain⟨d,hd,rfl⟩:=xp hv
  rw[List.getElem?_map] at hd
  cases q:gs[i]? with
  | none=>rw [q] at hd;cases hd
  | some g=>
    rw[q] at hd
    cases hd
    have hi:i < gs.length:=(List.getElem?_eq_some_iff.mp q).1
    have hl:(jQ gs turned (cg ins bits bad ins.length) i).length=iW ins+i:=by rw[ll _ (by omega),jI hb _ (Nat.le_refl _),List.take_length]
    refine⟨uB N S (bL ins gs os) bD (.tup (turned.map .int)) (.tup (bad.map .int)) (some (.d (.int i))) (some (.d (gK g))) c,rfl,?_⟩
    refine(yE (by rw[hl];exact NO.g i g q) (by rw[hl];omega)).mono fun o S4 ⟨⟨c4,e4⟩,e5⟩=>⟨_,e4,⟨_,_,_,rfl⟩,?_⟩
    rw[e5]
    show _=S++[SO.lst ((match gs[i]? with | some g=>jQ gs turned (cg ins bits bad ins.length) i++[fun p=>gF g (jQ gs turned (cg ins bits bad ins.length) i) p !=turned.contains (i:Int)] | none=>jQ gs turned (cg ins bits bad ins.length) i).map (mI N))]
    rw[q]
 have hlen:((fj (gs.map gK)).map V3.d).length=gs.length:=by simp [fj]
 rw[hlen] at hS2
 subst hδ hS2
 exact gC (w_var rfl ⟨_,rfl,by unfold ft;exact decide_eq_true (Nat.le_refl _),⟨_,rfl⟩,_,by unfold res;rw [bz];rfl,h⟩)
noncomputable def ma(N:Nat)(os:List (Str × List Nat))(ws:List M):List D:=os.map fun x=> .tup ((tell ws x).map (mI N))
theorem Dq{S:aU}{ws:List M}(hO:os.length < 1000)(ho:∀x∈os,x.2.length < 1000∧∀w∈x.2,w < ws.length)(hS:pq S){Q:V3→aU→Prop}(h:Q (.d (.lst (ma N os ws))) S) :
 W3 (gu [.d (bL ins gs os), .d (.lst (ws.map (mI N)))] S) Q:=by
 have hz:sizeLine=16777216:=sizeLine_eq
 unfold gu
 refine my hS (u6 rfl ?_)
 simp only[bS,g7,List.map_cons,List.map_nil,List.length_cons,List.length_nil,List.replicate,List.cons_append,List.nil_append,Nat.reduceAdd,Nat.reduceSub]
 unfold k7
 refine gC (jG (ds:=ma N os ws) ?_ ⟨_,rfl,by unfold ft;exact decide_eq_true (Nat.le_refl _),⟨_,rfl⟩,_,by unfold res;rw [bz],h⟩)
 refine f6 (ds:=os.map v8) (tM (az (a:=bL ins gs os) (b:= .int 2) rfl rfl rfl)) (by rw[List.length_map];omega) ?_
 unfold ma
 refine NT.eM v8 _ fun(x:Str × List Nat) hx=>⟨[.val (.str x.1), .val (.tup (x.2.map nI)), .val (.lst (ws.map (mI N)))],rfl,rfl,?_⟩
 exact aL (ds:=[.lst (ws.map (mI N)), .tup (x.2.map nI)]) rfl (El (ho x hx).2 (ho x hx).1)
end
end K15
end
section
set_option maxRecDepth 100000
set_option maxHeartbeats 4000000
namespace K15
open PySem PySem.Spec PyProof.Rows L2 L3 MT
noncomputable def r0(xs:List M):M:=fun p=>(GF (xs.map (· p))).1
noncomputable def r1(xs:List M):M:=fun p=>(GF (xs.map (· p))).2
theorem qI{n:Nat}{ds:List D}{δ:aw}{j:Int}(h:ae 0 δ= .ok (.tup ds))(hl:ds.length=n):b2 ja (aA cC (aq (ae 0) aD)) (eC (.int j)) δ= .ok (decide ((n:Int)=j)):=by
 refine ic (a:= .int n) (b:= .int j) (aL (ds:=[.tup ds]) (aK h rfl) ?_) rfl ?_
 ·show R.ok (D.int ds.length)=_
  rw[hl]
 ·show R.ok (D.bl ((n:Int)==j))=_
  congr 2
theorem vx{N:Nat}{xs:List M}(h:1≤xs.length∧xs.length≤3):iu [.tup (xs.map (mI N)),mI N one]= .ok (.tup [mI N (r0 xs),mI N (r1 xs)]):=by
 have hz:sizeLine=16777216:=sizeLine_eq
 unfold iu sd
 match xs,h with
 | [a],_=>
   refine dI (aV (dN (qI (n:=1) rfl rfl) rfl) (aV (dC (d:=mI N a) (sC (qI (n:=1) rfl rfl) (az (a:= .tup [mI N a]) (b:= .int 0) rfl rfl yI)) (by simp [cW,lA])) (c5 ?_)))
   exact gg (aK (az (a:=mI N one) (b:=mI N a) rfl rfl (uG N a)) (aK rfl rfl)) (by simp;omega)
 | [a,b],_=>
   refine dI (NT.mN (p8 (qI (n:=2) rfl rfl) (c5 ?_)))
   exact gg (aK (az (a:=mI N one) (b:=mI N fun p=>a p || b p) rfl (az (az rfl rfl yI) (az rfl rfl Bc) (uz N a b)) (uG N _)) (aK (az (az rfl rfl yI) (az rfl rfl Bc) (qx N a b)) rfl)) (by simp;omega)
 | [a,b,c],_=>
   refine dI (aV (dN (qI (n:=3) rfl rfl) rfl) (aV (dC (d:=mI N fun p=>(a p && b p) || (a p && c p) || (b p && c p)) (sC (qI (n:=3) rfl rfl) (aL (ds:=[.tup [mI N a,mI N b,mI N c]]) rfl wU)) (by simp [cW,lA])) (c5 ?_)))
   exact gg (aK (az (a:=mI N one) (b:=mI N fun p=>(a p && b p) || (a p && c p) || (b p && c p)) rfl rfl (uG N _)) (aK rfl rfl)) (by simp;omega)
theorem FI{N n:Nat}{f:M}:jC [mI N f, .int n]= .ok (.int (if decide (n < N) && f n then 1 else 0)):=by
 unfold jC uq
 refine dI (c5 ?_)
 have h:=HC N f n
 show(R.bind (R.bind (R.ok (mI N f)) fun d=>R.bind (R.ok (D.int n)) fun e=>nM d e) fun d=>R.bind (R.ok (D.int 1)) fun e=>zm d e)=_
 exact h
theorem qa{bs:List Bool}(hl:bs.length < 100000):fV [.lst (bs.map bI)]= .ok (.int (B6 bs)):=by
 unfold fV rm
 refine dI (aV (dC (d:= .int 0) rfl (by simp [cW,nX])) ?_)
 obtain⟨δ1,e1,a2,hδ1⟩:=fN (t:=bh 2) (body:=kJ) (ds:=(bs.map bI).reverse)
  (fun i δ=>∃a2,δ=[.val (.lst (bs.map bI)), .val (.int (B6 (bs.drop (bs.length - i)))),a2]) (δ:=[.val (.lst (bs.map bI)), .val (.int 0), .un]) ⟨.un,by simp [B6]⟩ (by
    rintro i d δ hd ⟨a2,rfl⟩
    have hi:i < bs.length:=by
     have:=(List.getElem?_eq_some_iff.mp hd).1
     rwa [List.length_reverse,List.length_map] at this
    rw[List.getElem?_reverse (by rw[List.length_map];exact hi),List.length_map,List.getElem?_map,List.getElem?_eq_getElem (by omega:bs.length - 1 - i < bs.length)] at hd
    cases hd
    have hdr:bs.drop (bs.length - (i+1))=bs[bs.length - 1 - i] ::bs.drop (bs.length - i):=by
     rw[show bs.length - (i+1)=bs.length - 1 - i by omega,List.drop_eq_getElem_cons (by omega:bs.length - 1 - i < bs.length),show bs.length - 1 - i+1=bs.length - i by omega]
    refine⟨_,?_,⟨.val (bI bs[bs.length - 1 - i]),rfl⟩⟩
    have hm:(B6 (bs.drop (bs.length - (i+1))):Int)=(B6 (bs.drop (bs.length - i)):Int)*2+(if bs[bs.length - 1 - i] then 1 else 0):=by
     rw[hdr]
     show(((if bs[bs.length - 1 - i] then 1 else 0)+2*B6 (bs.drop (bs.length - i)):Nat):Int)=_
     cases bs[bs.length - 1 - i] <;> simp <;> omega
    rw[hm]
    generalize (B6 (bs.drop (bs.length - i)):Int)=m
    generalize bs[bs.length - 1 - i]=x
    generalize D.lst (bs.map bI)=y
    rw[show bh 2 (bI x) [.val y, .val (.int m),a2]= .ok [.val y, .val (.int m), .val (bI x)] from rfl,R.aR]
    unfold kJ
    exact dC (az (a:= .int (m*2)) (b:=bI x) (az (a:= .int m) (b:= .int 2) rfl rfl (bY _ (.inr ⟨by omega,by omega⟩))) rfl rfl) (by simp))
 refine aV (iq (ds:=(bs.map bI).reverse) rfl e1) ?_
 rw[List.length_reverse,List.length_map,Nat.sub_self,List.drop_zero] at hδ1
 subst hδ1
 exact c5 rfl
noncomputable def bM:Nat→List (List Bool)
 | 0=>[[]]
 | c+1=>(bM c).flatMap fun b=>[b++[false],b++[true]]
theorem cT:∀c,(bM c).length=2 ^ c
 | 0=>rfl
 | c+1=>by
   unfold bM
   rw[List.length_flatMap]
   have:(bM c).map (fun b=>[b++[false],b++[true]].length)=(bM c).map fun _=>2:=rfl
   rw[this,List.map_const',List.sum_replicate_nat,cT c]
   omega
theorem iB:∀c,∀b∈bM c,b.length=c
 | 0,b,h=>by unfold bM at h;rw [List.mem_singleton.mp h];rfl
 | c+1,b,h=>by
   unfold bM at h
   obtain⟨a,ha,hb⟩:=List.mem_flatMap.mp h
   have:=iB c a ha
   simp only[List.mem_cons,List.not_mem_nil,or_false] at hb
   rcases hb with rfl | rfl <;> simp [this]
noncomputable def b_(b:List Bool):D:= .tup (b.map bI)
noncomputable def aE(c:Nat)(inp:Option V3)(a2 a3 a4:Option V3):DE:=[some (.d (nI c)),inp,a2,a3,a4]
theorem rg{c:Nat}{S:aU}(hc:c≤10)(hS:pq S){Q:V3→aU→Prop}(h:Q (.d (.lst ((bM c).map b_))) S):W3 (fu [.d (nI c)] S) Q:=by
 have hz:sizeLine=16777216:=sizeLine_eq
 unfold fu
 refine my hS (u6 rfl ?_)
 simp only[bS,ig,List.map_cons,List.map_nil,List.length_cons,List.length_nil,List.replicate,List.cons_append,List.nil_append,Nat.reduceAdd,Nat.reduceSub]
 unfold kf
 refine aX <| bJ (by simp only[List.length_cons,List.length_nil,List.length_set];omega) <| jG (ds:=(bM 0).map b_) rfl ⟨_,rfl,?_⟩
 simp only[List.set_cons_succ,List.set_cons_zero]
 refine aX <| iC <| oX (eA (n:=c) rfl (by omega)) ?_
 refine(cD (fun i δ S2=>∃(T:aU) (a2 a3 a4:Option V3),S2=S++T++[.lst ((bM i).map b_)]∧δ=aE c (some (.loc (S++T).length)) a2 a3 a4)
  ⟨[],none,none,none,by simp,by simp [aE]⟩ ?_).mono fun o S2 ⟨δ2,e2',T,a2,a3,a4,hS2,hδ⟩=>⟨δ2,e2',?_⟩
 ·rintro i v δ S2 hv ⟨T,a2,a3,a4,rfl,rfl⟩
  have hi:i < c:=by
   have:=(List.getElem?_eq_some_iff.mp hv).1
   rwa [List.length_map,bU,List.length_map,List.length_range] at this
  have hpow:(bM i).length≤1024:=by
   rw[cT]
   exact Nat.pow_le_pow_right (by omega) (by omega:i≤10)
  refine⟨aE c (some (.loc (S++T).length)) (some v) a3 a4,rfl,?_⟩
  unfold kB aE
  refine HN (i:=1) rfl (bz _ _) ?_
  rw[eO]
  simp only[List.set_cons_succ,List.set_cons_zero]
  refine aX <| bJ (by simp only[List.length_cons,List.length_nil,List.length_set];omega) <| jG (ds:=[]) rfl ⟨_,rfl,?_⟩
  simp only[List.set_cons_succ,List.set_cons_zero]
  generalize hU:S++T++[SO.ik]=U
  refine aX <| iC <| oX (ds:=(bM i).map b_) rfl ?_
  refine(cD (fun j δ S3=>(∃b4,δ=[some (.d (nI c)),some (.d (.lst ((bM i).map b_))),some v,some (.loc U.length),b4])∧S3=U++[.lst ((((bM i).take j).flatMap fun b=>[b++[false],b++[true]]).map b_)])
   ⟨⟨_,rfl⟩,by simp⟩ ?_).mono fun o S3 ⟨δ3,e3,⟨b4,hδ3⟩,hS3⟩=>⟨δ3,e3,?_⟩
  ·rintro j v3 δ S3 hv3 ⟨⟨b4,rfl⟩,rfl⟩
   obtain⟨b,hb,rfl⟩:=NT.nW hv3
   have hj:=(List.getElem?_eq_some_iff.mp hb).1
   have hbl:=iB i b (List.mem_of_getElem? hb)
   refine⟨[some (.d (nI c)),some (.d (.lst ((bM i).map b_))),some v,some (.loc U.length),some (.d (b_ b))],rfl,?_⟩
   unfold kM
   generalize hL:((((bM i).take j).flatMap fun b=>[b++[false],b++[true]]).map b_)=L
   have hLl:L.length≤2048:=by
    rw[←hL,List.length_map,List.length_flatMap]
    have:((bM i).take j).map (fun b=>[b++[false],b++[true]].length)=((bM i).take j).map fun _=>2:=rfl
    rw[this,List.map_const',List.sum_replicate_nat,List.length_take]
    omega
   have add:∀(x:Bool) (δ:aw),ae 4 δ= .ok (b_ b)→e2 lQ (ae 4) (eK (aq (eC (bI x)) aD)) δ= .ok (b_ (b++[x])):=fun x δ h4=>by
    refine az (a:=b_ b) (b:= .tup [bI x]) h4 (gg rfl (by simp;omega)) ?_
    show R.bZ (decide ((b.map bI).length+[bI x].length≤sizeLine)) _=_
    rw[bY _ (by rw[List.length_map];simp;omega)]
    unfold b_
    rw[List.map_append];rfl
   refine aX <| iS (k:=U.length) rfl ⟨_,bz _ _⟩ <| dJ (d:=b_ (b++[false])) (add false _ rfl) ⟨_,_,rfl,bz _ _,by omega,_,rfl,?_⟩
   rw[eO]
   refine iS (k:=U.length) rfl ⟨_,bz _ _⟩ <| dJ (d:=b_ (b++[true])) (add true _ rfl) ⟨_,_,rfl,bz _ _,by rw[List.length_append];simp;omega,_,rfl,⟨_,rfl⟩,?_⟩
   rw[eO,List.take_add_one,hb,List.flatMap_append,List.map_append,hL]
   simp
  rw[List.length_map,List.length_map,List.take_length] at hS3
  subst hδ3 hS3
  refine bJ (by simp only[List.length_cons,List.length_nil,List.length_set];omega) <| w_var (v:= .loc U.length) rfl ⟨_,rfl,T++[SO.ik],some v,some (.loc U.length),b4,?_,?_⟩
  ·rw[←hU,List.append_assoc S];rfl
  ·rw[←hU,List.append_assoc S];rfl
 have hlen:((bU 0 c).map V3.d).length=c:=by simp [bU]
 rw[hlen] at hS2
 subst hδ hS2
 unfold aE
 refine gC (w_var rfl ⟨_,rfl,by unfold ft;exact decide_eq_true (by rw[List.length_append];omega),⟨T++[.lst ((bM c).map b_)],by rw[List.append_assoc]⟩,_,by unfold res;rw [bz],h⟩)
end K15
end
section
set_option maxRecDepth 100000
set_option maxHeartbeats 4000000
namespace K15
open PySem PySem.Spec PyProof.Rows L2 L3 MT
noncomputable def Hi(c j:Nat):M:=fun p=>((bM c).getD p []).getD j false
noncomputable def qR(c:Nat):List M:=(List.range c).map (Hi c)
theorem Gr{b:List Bool}{j:Nat}(h:j < b.length):bX (b_ b) (.int j)= .ok (bI (b.getD j false)):=by
 refine nT ?_
 rw[jn (by omega) (by rw[List.length_map,Int.toNat_natCast];exact h)]
 rw[List.getD_eq_getElem?_getD,List.getElem?_eq_getElem h]
 simp
theorem wj{c j:Nat}(hc:c≤10)(hj:j < c):ix [.lst ((bM c).map b_), .int j]= .ok (mI (2 ^ c) (Hi c j)):=by
 have hz:sizeLine=16777216:=sizeLine_eq
 have hp:2 ^ c≤1024:=Nat.pow_le_pow_right (by omega) hc
 unfold ix rV
 refine dI (c5 (aL (ds:=[.lst (((bM c).map fun b=>b.getD j false).map bI)]) (aK (e_ (f6 (ds:=(bM c).map b_) rfl (by rw[List.length_map,cT];omega) ?_)) rfl) ?_))
 ·rw[List.map_map]
  exact NT.eM b_ _ fun b hb=>⟨[.val (b_ b), .val (.int j)],rfl,rfl,az (a:=b_ b) (b:= .int j) rfl rfl (Gr (by rw[iB c b hb];exact hj))⟩
 ·rw[qa (by rw[List.length_map,cT];omega),Bt,List.length_map,cT]
  unfold mI
  congr 3
  refine lg fun p hp'=>?_
  unfold Hi
  rw[List.getD_eq_getElem?_getD,List.getElem?_map,List.getD_eq_getElem?_getD (l:=bM c),List.getElem?_eq_getElem (by rw[cT];exact hp')]
  rfl
section
variable {c:Nat} {ins:List (Str × Nat)} {gs:List Gt} {os:List (Str × List Nat)}
noncomputable abbrev yD:=Str.ofString "net"
noncomputable abbrev rO:=Str.ofString "many_inputs"
noncomputable abbrev rp:=Str.ofString "full"
noncomputable abbrev nV:=Str.ofString "in_masks"
noncomputable def d3(c:Nat)(nt:D):List (Str × V3):=[(yD, .d nt),(rO, .d (nI (2 ^ c))),(rp, .d (mI (2 ^ c) one)),(nV, .d (.lst ((qR c).map (mI (2 ^ c)))))]
theorem DQ{S:aU}(hc:ins.length=c)(hc1:c≤10)(hS:pq (S++[.ins 0 []])){Q:V3→aU→Prop}(h:Q (.d .cq) (S++[.ins 0 (d3 c (bL ins gs os))])) :
 W3 (cU [.loc S.length, .d (bL ins gs os)] (S++[.ins 0 []])) Q:=by
 have hz:sizeLine=16777216:=sizeLine_eq
 have hp:2 ^ c≤1024:=Nat.pow_le_pow_right (by omega) hc1
 unfold cU
 refine G0 rfl ?_
 simp only[bS,df,List.map_cons,List.map_nil,List.length_cons,List.length_nil,List.replicate,List.cons_append,List.nil_append,Nat.reduceAdd,Nat.reduceSub]
 unfold gI
 refine aX <| bJ (by simp only[List.length_cons,List.length_nil,List.length_set];omega) <| fk <| aO <| dJ (d:=nI c) (aL (ds:=[.lst (ins.map inD)]) rfl (by rw[kx,List.length_map,hc];rfl)) <| cQ <| rg hc1 hS ⟨_,rfl,?_⟩
 simp only[List.set_cons_succ,List.set_cons_zero]
 refine aX <| iJ (k:=S.length) <| dJ (d:=bL ins gs os) rfl <| w_var (v:= .loc S.length) rfl ⟨_,rfl,bz _ _,by simp,_,rfl,?_⟩
 rw[eO]
 refine aX <| iJ (k:=S.length) <| dJ (d:=nI (2 ^ c)) (aL (ds:=[.lst ((bM c).map b_)]) rfl (by rw[kx,List.length_map,cT];rfl)) <| w_var (v:= .loc S.length) rfl ⟨_,rfl,bz _ _,by unfold t9;simp,_,rfl,?_⟩
 rw[eO]
 refine aX <| iJ (k:=S.length) <| dJ (d:=mI (2 ^ c) one) (aL (ds:=[.lst (((bM c).map fun _=>true).map bI)]) (aK (e_ (f6 (ds:=(bM c).map b_) rfl (by rw[List.length_map,cT];omega) ?_)) rfl) ?_) <| w_var (v:= .loc S.length) rfl ⟨_,rfl,bz _ _,?_,_,rfl,?_⟩
 ·rw[List.map_map]
  exact NT.eM b_ _ fun b hb=>⟨[.val (b_ b)],rfl,rfl,rfl⟩
 ·rw[qa (by rw[List.length_map,cT];omega),Bt,List.length_map,cT]
  unfold mI
  congr 3
  refine lg fun p hp'=>?_
  rw[List.getD_eq_getElem?_getD,List.getElem?_map,List.getElem?_eq_getElem (by rw[cT];exact hp')]
  rfl
 ·exact(by decide:2 < 1000)
 rw[eO]
 refine iJ (k:=S.length) <| dJ (d:= .lst ((qR c).map (mI (2 ^ c)))) (e_ (f6 (ds:=bU 0 c) (eA (n:=c) (aL (ds:=[.lst (ins.map inD)]) rfl (by rw[kx,List.length_map,hc])) (by omega)) (by simp [bU];omega) ?_)) <| w_var (v:= .loc S.length) rfl ⟨_,rfl,bz _ _,?_,_,rfl,?_⟩
 ·unfold qR
  rw[List.map_map]
  unfold bU
  refine NT.eM (fun i:Nat=>D.int (0+(i:Int))) _ fun j hj=>⟨[.val (.int (0+(j:Int))), .val (.lst ((bM c).map b_))],rfl,rfl,aL (ds:=[.lst ((bM c).map b_), .int j]) ?_ (wj hc1 (List.mem_range.mp hj))⟩
  rw[Int.zero_add]
  rfl
 ·exact(by decide:3 < 1000)
 rw[eO]
 exact h
end
end K15
end
section
set_option maxRecDepth 100000
set_option maxHeartbeats 4000000
namespace K15
open PySem PySem.Spec PyProof.Rows L2 L3 MT
section
variable {c:Nat} {ins:List (Str × Nat)} {gs:List Gt} {os:List (Str × List Nat)} {S:aU} {k:Nat} {turned bad:List Int}
theorem KA:(rO==yD)=false:=by decide+kernel
theorem Lp:(rp==yD)=false:=by decide+kernel
theorem Ko:(rp==rO)=false:=by decide+kernel
theorem Lj:(nV==yD)=false:=by decide+kernel
theorem Kq:(nV==rO)=false:=by decide+kernel
theorem KP:(nV==rp)=false:=by decide+kernel
theorem Aw{nt:D}:(d3 c nt).lookup yD=some (.d nt):=by unfold d3;rw [List.lookup_cons,beq_self_eq_true]
theorem CU{nt:D}:(d3 c nt).lookup rO=some (.d (nI (2 ^ c))):=by unfold d3;rw [List.lookup_cons,KA,List.lookup_cons,beq_self_eq_true]
theorem xS{nt:D}:(d3 c nt).lookup rp=some (.d (mI (2 ^ c) one)):=by unfold d3;rw [List.lookup_cons,Lp,List.lookup_cons,Ko,List.lookup_cons,beq_self_eq_true]
theorem AF{nt:D}:(d3 c nt).lookup nV=some (.d (.lst ((qR c).map (mI (2 ^ c))))):=by unfold d3;rw [List.lookup_cons,Lj,List.lookup_cons,Kq,List.lookup_cons,KP,List.lookup_cons,beq_self_eq_true]
theorem qA:(qR c).length=c:=by unfold qR;simp
noncomputable abbrev Wd(c:Nat)(ins:List (Str × Nat))(gs:List Gt)(turned bad:List Int):List M:=pP ins gs (qR c) turned bad
theorem Bn(m:Str)(nt:D)(h1:(m==yD)=false)(h2:(m==rO)=false)(h3:(m==rp)=false)(h4:(m==nV)=false):(d3 c nt).lookup m=none:=by unfold d3;rw [List.lookup_cons,h1,List.lookup_cons,h2,List.lookup_cons,h3,List.lookup_cons,h4];rfl
theorem zL(NO:jh ins gs os)(hc:ins.length=c)(hS:pq S)(hb:S[k]? =some (.ins 0 (d3 c (bL ins gs os)))){Q:V3→aU→Prop}(h:Q (.d (.lst (ma (2 ^ c) os (Wd c ins gs turned bad)))) S) :
 W3 (eF [.loc k, .d (.tup (turned.map .int)), .d (.tup (bad.map .int))] S) Q:=by
 have hz:sizeLine=16777216:=sizeLine_eq
 unfold eF
 refine my hS (u6 rfl ?_)
 simp only[bS,gT,List.map_cons,List.map_nil,List.length_cons,List.length_nil,List.replicate,List.cons_append,List.nil_append,Nat.reduceAdd,Nat.reduceSub]
 unfold jl
 have hl:(qR c).length=ins.length:=by rw[qA,hc]
 refine gC <| fk <| aO <| w_fld (k:=k) <| w_var (v:= .loc k) rfl ⟨_,_,rfl,hb,Aw,?_⟩
 refine aO <| fk <| aO <| w_fld (k:=k) <| w_var (v:= .loc k) rfl ⟨_,_,rfl,hb,Aw,?_⟩
 refine aO <| w_fld (k:=k) <| w_var (v:= .loc k) rfl ⟨_,_,rfl,hb,AF,?_⟩
 refine aO <| w_fld (k:=k) <| w_var (v:= .loc k) rfl ⟨_,_,rfl,hb,xS,?_⟩
 refine aO <| dJ (d:= .tup (turned.map .int)) rfl <| aO <| dJ (d:= .tup (bad.map .int)) rfl <| cQ ?_
 refine zV (.inl rfl) NO hl hS (cQ ?_)
 refine Dq NO.ho (fun x hx=>⟨(NO.o x hx).1,fun w hw=>by rw[tZ hl];exact(NO.o x hx).2 w hw⟩) hS ?_
 exact⟨_,rfl,by unfold ft;rfl,⟨[],by simp⟩,_,by unfold res;rfl,h⟩
noncomputable def DT(N:Nat)(os:List (Str × List Nat))(ws:List M):List D:=os.map fun x=> .tup [mI N (r0 (tell ws x)),mI N (r1 (tell ws x))]
theorem oq(NO:jh ins gs os)(hc:ins.length=c)(ho:∀x∈os,1≤x.2.length∧x.2.length≤3)(hS:pq S)(hb:S[k]? =some (.ins 0 (d3 c (bL ins gs os)))){Q:V3→aU→Prop}(h:Q (.d (.lst (DT (2 ^ c) os (Wd c ins gs turned [])))) S) :
 W3 (cw [.loc k, .d (.tup (turned.map .int))] S) Q:=by
 have hz:sizeLine=16777216:=sizeLine_eq
 have hO:=NO.ho
 unfold cw
 refine my hS (u6 rfl ?_)
 simp only[bS,dS,List.map_cons,List.map_nil,List.length_cons,List.length_nil,List.replicate,List.cons_append,List.nil_append,Nat.reduceAdd,Nat.reduceSub]
 unfold gH
 refine gC <| mO (fun j ds S2=>S2=S∧ds=(DT (2 ^ c) os (Wd c ins gs turned [])).take j) ?_
 refine xO <| lU (k:=k) <| w_var (v:= .loc k) rfl ⟨_,rfl,hb,Bn _ _ (by decide+kernel) (by decide+kernel) (by decide+kernel) (by decide+kernel),?_⟩
 refine aO <| dJ (d:= .tup (turned.map .int)) rfl <| aO <| dJ (d:= .tup (([]:List Int).map .int)) rfl <| cQ ?_
 refine zL NO hc hS hb ⟨_,rfl,?_,⟨rfl,by simp⟩,?_,?_⟩
 ·rw[List.length_map,ma,List.length_map];omega
 ·rintro j v ds S2 hv ⟨rfl,rfl⟩
  rw[ma] at hv
  obtain⟨x,hx,rfl⟩:=NT.nW hv
  refine⟨[some (.d (.tup ((tell (Wd c ins gs turned []) x).map (mI (2 ^ c))))),some (.loc k)],rfl,Ej ?_⟩
  rw[if_pos rfl]
  refine pF <| aO <| dJ (d:= .tup ((tell (Wd c ins gs turned []) x).map (mI (2 ^ c)))) rfl <| aO <| w_fld (k:=k) <| w_var (v:= .loc k) rfl ⟨_,_,rfl,hb,xS,cQ ⟨[.tup ((tell (Wd c ins gs turned []) x).map (mI (2 ^ c))),mI (2 ^ c) one],_,rfl,vx ?_,_,rfl,rfl,?_⟩⟩
  ·unfold tell;rw [List.length_map];exact ho x (List.mem_of_getElem? hx)
  ·unfold DT
   rw[List.take_add_one,List.getElem?_map,hx]
   rfl
 ·rintro ds S2 ⟨rfl,rfl⟩
  rw[List.length_map,ma,List.length_map,List.take_of_length_le (by rw[DT,List.length_map];exact Nat.le_refl _)]
  exact⟨_,rfl,by unfold ft;rfl,⟨[],by simp⟩,_,by unfold res;rfl,h⟩
theorem mH{nt:D}{f:M}(hc:c≤10)(hS:pq S)(hb:S[k]? =some (.ins 0 (d3 c nt))){Q:V3→aU→Prop}(h:Q (.d (.lst (((List.range (2 ^ c)).filter f).map nI))) S) :
 W3 (cG [.loc k, .d (mI (2 ^ c) f)] S) Q:=by
 have hz:sizeLine=16777216:=sizeLine_eq
 have hp:2 ^ c≤1024:=Nat.pow_le_pow_right (by omega) hc
 unfold cG
 refine my hS (u6 rfl ?_)
 simp only[bS,dz,List.map_cons,List.map_nil,List.length_cons,List.length_nil,List.replicate,List.cons_append,List.nil_append,Nat.reduceAdd,Nat.reduceSub]
 unfold gr
 refine gC <| mO (fun j ds S2=>S2=S∧ds=((List.range j).filter f).map nI) ?_
 refine nQ <| w_fld (k:=k) <| w_var (v:= .loc k) rfl ⟨_,_,rfl,hb,CU,2 ^ c,rfl,by omega,?_⟩
 have hlen:((bU 0 (2 ^ c)).map V3.d).length=2 ^ c:=by simp [bU]
 rw[hlen]
 refine⟨by omega,⟨rfl,rfl⟩,?_,?_⟩
 ·rintro j v ds S2 hv ⟨rfl,rfl⟩
  obtain⟨hj,rfl⟩:=NT.ke hv
  refine⟨[some (.d (.int j)),some (.d (mI (2 ^ c) f))],rfl,zG (b:=f j) ?_ ?_⟩
  ·refine ic (a:= .int (if decide (j < 2 ^ c) && f j then 1 else 0)) (b:= .int 1) (aL (ds:=[mI (2 ^ c) f, .int j]) rfl FI) rfl ?_
   rw[decide_eq_true hj,Bool.true_and]
   cases f j <;> rfl
  ·rw[List.range_succ,List.filter_append,List.map_append]
   cases hf:f j with
   | true=>rw [if_pos rfl];exact dJ (d:=nI j) rfl ⟨_,rfl,rfl,by simp [hf]⟩
   | false=>rw [if_neg (by decide)];exact⟨rfl,by simp [hf]⟩
 ·rintro ds S2 ⟨rfl,rfl⟩
  exact⟨_,rfl,by unfold ft;rfl,⟨[],by simp⟩,_,by unfold res;rfl,h⟩
end
end K15
end
section
set_option maxRecDepth 100000
set_option maxHeartbeats 4000000
namespace K15
open PySem PySem.Spec PyProof.Rows L2 L3 MT
theorem z9(n:Nat):bU 0 n=(List.range n).map nI:=by
 unfold bU
 refine List.map_congr_left fun i _=>?_
 show D.int (0+(i:Int))=D.int (i:Int)
 rw[Int.zero_add]
noncomputable def Lk(T:List Nat):D:= .tup (T.map nI)
end K15
end
section
set_option maxRecDepth 100000
set_option maxHeartbeats 4000000
namespace K15
open PySem PySem.Spec PyProof.Rows L2 L3 MT
section
variable {c:Nat} {ins:List (Str × Nat)} {gs:List Gt} {os:List (Str × List Nat)} {S:aU} {k:Nat} {turned:List Int} {safe:Bool}
noncomputable abbrev l4:=Str.ofString "bench"
noncomputable abbrev pX:=Str.ofString "plain"
noncomputable abbrev mT:=Str.ofString "unsure"
noncomputable def rF(gs:List Gt):List Nat:=(List.range gs.length).filter fun i=>match gs[i]? with | some g=>!g.2.2 | none=>false
noncomputable def ia(c:Nat)(ins:List (Str × Nat))(gs:List Gt)(os:List (Str × List Nat))(b:Nat):List (Str × V3):=[(l4, .loc b),(pX, .d (.lst (DT (2 ^ c) os (Wd c ins gs [] [])))),(mT, .d (.lst ((rF gs).map nI)))]
theorem K_:(pX==l4)=false:=by decide+kernel
theorem Lv:(mT==l4)=false:=by decide+kernel
theorem KH:(mT==pX)=false:=by decide+kernel
theorem qm{b:Nat}:(ia c ins gs os b).lookup l4=some (.loc b):=by unfold ia;rw [List.lookup_cons,beq_self_eq_true]
theorem zX{b:Nat}:(ia c ins gs os b).lookup pX=some (.d (.lst (DT (2 ^ c) os (Wd c ins gs [] [])))):=by unfold ia;rw [List.lookup_cons,K_,List.lookup_cons,beq_self_eq_true]
theorem Ff{b:Nat}:(ia c ins gs os b).lookup mT=some (.d (.lst ((rF gs).map nI))):=by unfold ia;rw [List.lookup_cons,Lv,List.lookup_cons,KH,List.lookup_cons,beq_self_eq_true]
theorem D4{b:Nat}(m:Str)(h1:(m==l4)=false)(h2:(m==pX)=false)(h3:(m==mT)=false):(ia c ins gs os b).lookup m=none:=by unfold ia;rw [List.lookup_cons,h1,List.lookup_cons,h2,List.lookup_cons,h3];rfl
noncomputable def TS(S:aU)(c:Nat)(ins:List (Str × Nat))(gs:List Gt)(os:List (Str × List Nat)):aU:=S++[.ins 1 (ia c ins gs os (S.length+1)), .ins 0 (d3 c (bL ins gs os))]
mutual
theorem vy{n m:Nat}(h:n≤m):∀v:V3,kO n v=true→kO m v=true
 | .d _,_=>by unfold kO;rfl
 | .loc k,q=>by
   unfold kO at q ⊢
   exact decide_eq_true (Nat.lt_of_lt_of_le (of_decide_eq_true q) h)
 | .lst vs,q=>by unfold kO at q ⊢;exact i8 h vs q
 | .tup vs,q=>by unfold kO at q ⊢;exact i8 h vs q
theorem i8{n m:Nat}(h:n≤m):∀vs:List V3,iO n vs=true→iO m vs=true
 | [],_=>by unfold iO;rfl
 | v ::vs,q=>by
   unfold iO at q ⊢
   rw[Bool.and_eq_true] at q ⊢
   exact⟨vy h v q.1,i8 h vs q.2⟩
end
theorem r_{n m:Nat}(h:n≤m)(o:SO)(q:me n o=true):me m o=true:=by
 cases o with
 | ins k fs=>exact i8 h _ q
 | _=>rfl
theorem pq.push{S:aU}(hS:pq S){x:SO}(hx:∀n,me n x=true):pq (S++[x]):=fun o ho=>by
 rcases List.mem_append.mp ho with q | q
 ·exact r_ (by simp) o (hS o q)
 ·rw[List.mem_singleton.mp q];exact hx _
theorem CZ{S:aU}(hS:pq S){x y:SO}(hx:me (S.length+2) x=true)(hy:me (S.length+2) y=true):pq (S++[x,y]):=fun o ho=>by
 rw[show(S++[x,y]).length=S.length+2 by simp]
 rcases List.mem_append.mp ho with q | q
 ·exact r_ (by omega) o (hS o q)
 ·simp only[List.mem_cons,List.not_mem_nil,or_false] at q
  rcases q with rfl | rfl
  ·exact hx
  ·exact hy
theorem Be{δ:aw}(hg:gs.length < 1000)(h1:ae 1 δ= .ok (bL ins gs os)):gn (j7 (e2 bX (ae 1) (eC (.int 1)))) (iR 2 (dH (bh 0) (dH (bh 1) iG))) (jr (hV (e2 bX (ae 1) (eC (.int 2))))) (ae 0) [(Str.ofString "place"),(Str.ofString "gate")] [] δ= .ok ((rF gs).map nI):=by
 have hz:sizeLine=16777216:=sizeLine_eq
 refine f6 (ds:=fj (gs.map gK)) (Em (az (a:=bL ins gs os) (b:= .int 1) h1 rfl rfl)) (by simp [fj];omega) ?_
 have e:fj (gs.map gK)=(List.range gs.length).map fun i=> .tup [.int i,gK (gs.getD i (0,[],false))]:=by
  refine List.ext_getElem? fun i=>?_
  rw[List.getElem?_map,fj,List.getElem?_map,List.getElem?_zipIdx,List.getElem?_map]
  by_cases q:i < gs.length
  ·rw[List.getElem?_eq_getElem q,List.getElem?_range q]
   show some (D.tup [.int ((0+i:Nat):Int),gK gs[i]])=some (D.tup [.int i,gK (gs.getD i (0,[],false))])
   rw[Nat.zero_add,List.getD_eq_getElem?_getD,List.getElem?_eq_getElem q];rfl
  ·rw[List.getElem?_eq_none (by omega),List.getElem?_eq_none (by simp;omega)];rfl
 rw[e]
 unfold rF
 refine NT.l9 (fun i:Nat=>match gs[i]? with | some g=>!g.2.2 | none=>false) (fun i:Nat=>D.tup [.int i,gK (gs.getD i (0,[],false))]) nI fun i hi=>?_
 rw[List.mem_range] at hi
 refine⟨[.val (.int i), .val (gK (gs.getD i (0,[],false)))],rfl,?_,fun _=>rfl⟩
 rw[List.getElem?_eq_getElem hi,List.getD_eq_getElem?_getD,List.getElem?_eq_getElem hi]
 rfl
theorem Bk(NO:jh ins gs os)(hc:ins.length=c)(hc1:c≤10)(ho:∀x∈os,1≤x.2.length∧x.2.length≤3)(hS:pq S){Q:V3→aU→Prop}(h:Q (.d .cq) (TS S c ins gs os)) :
 W3 (cR [.loc S.length, .d (bL ins gs os)] (S++[.ins 1 []])) Q:=by
 have hz:sizeLine=16777216:=sizeLine_eq
 unfold cR
 refine G0 rfl ?_
 simp only[bS,dP,List.map_cons,List.map_nil,List.length_cons,List.length_nil,List.replicate,List.cons_append,List.nil_append,Nat.reduceAdd,Nat.reduceSub]
 unfold gJ
 have l1:(S++[SO.ins 1 []]).length=S.length+1:=by simp
 have g0:∀(x y:SO),(S++[x,y])[S.length]? =some x:=fun x y=>by rw[List.getElem?_append_right (Nat.le_refl _),Nat.sub_self];rfl
 have g1:∀(x y:SO),(S++[x,y])[S.length+1]? =some y:=fun x y=>by rw[List.getElem?_append_right (by omega),show S.length+1 - S.length=1 by omega];rfl
 have st:∀(x y z:SO),(S++[x,y]).set S.length z=S++[z,y]:=fun x y z=>by rw[List.set_append_right _ _ (Nat.le_refl _),Nat.sub_self];rfl
 have ap:∀(x y:SO),S++[x]++[y]=S++[x,y]:=fun x y=>by simp
 refine aX <| iJ (k:=S.length) <| zR <| aO <| dJ (d:=bL ins gs os) rfl <| cQ <| DQ hc hc1 ?_ ⟨rfl,?_⟩
 ·rw[ap];exact CZ hS rfl rfl
 rw[ap]
 refine w_var (v:= .loc S.length) rfl ⟨_,rfl,g0 _ _,by simp,_,rfl,?_⟩
 rw[st,l1]
 have hcl:∀fs:List (Str × V3),iO (S.length+2) (fs.map (·.2))=true→pq (S++[.ins 1 fs, .ins 0 (d3 c (bL ins gs os))]):=fun fs hf=>CZ hS hf rfl
 refine aX <| iJ (k:=S.length) <| lU (k:=S.length+1) <| w_fld (k:=S.length) <| w_var (v:= .loc S.length) rfl ⟨_,_,rfl,g0 _ _,(by show List.lookup l4 [(l4,V3.loc (S.length+1))]=_;rw [List.lookup_cons,beq_self_eq_true]),_,rfl,g1 _ _,Bn _ _ (by decide+kernel) (by decide+kernel) (by decide+kernel) (by decide+kernel),?_⟩
 refine aO <| dJ (d:= .tup (([]:List Int).map .int)) rfl <| cQ <| oq NO hc ho (hcl _ ?_) (g1 _ _) ?_
 ·show(decide (S.length+1 < S.length+2) && true)=true
  rw[decide_eq_true (by omega)];rfl
 refine w_var (v:= .loc S.length) rfl ⟨_,rfl,g0 _ _,(by decide:1 < 1000),_,rfl,?_⟩
 rw[st]
 refine iJ (k:=S.length) <| dJ (d:= .lst ((rF gs).map nI)) (e_ (Be NO.hg rfl)) <| w_var (v:= .loc S.length) rfl ⟨_,rfl,g0 _ _,?_,_,rfl,?_⟩
 ·exact(by decide:2 < 1000)
 rw[st]
 exact h
noncomputable def EA(safe:Bool):Str:=if safe then Str.ofString "safe" else Str.ofString "right"
noncomputable def pt(ws:List M)(x:Str × List Nat)(p:Nat):Bool × Bool:=GF ((tell ws x).map (· p))
noncomputable def ub(safe:Bool)(c:Nat)(ins:List (Str × Nat))(gs:List Gt)(os:List (Str × List Nat))(turned:List Int):M:=fun p=>os.any fun x=>brk safe (pt (Wd c ins gs [] []) x p) (pt (Wd c ins gs turned []) x p)
theorem rS{b:Nat}(NO:jh ins gs os)(hc:ins.length=c)(ho:∀x∈os,1≤x.2.length∧x.2.length≤3)(hS:pq S)(hk:S[k]? =some (.ins 1 (ia c ins gs os b)))(hb:S[b]? =some (.ins 0 (d3 c (bL ins gs os)))){Q:V3→aU→Prop}
 (h:Q (.d (mI (2 ^ c) (ub safe c ins gs os turned))) S):W3 (cH [.loc k, .d (.tup (turned.map .int)), .d (.str (EA safe))] S) Q:=by
 have hz:sizeLine=16777216:=sizeLine_eq
 unfold cH
 refine my hS (u6 rfl ?_)
 simp only[bS,eu,List.map_cons,List.map_nil,List.length_cons,List.length_nil,List.replicate,List.cons_append,List.nil_append,Nat.reduceAdd,Nat.reduceSub]
 unfold gd
 have h0:D.int 0=mI (2 ^ c) fun _=>false:=by
  unfold mI
  rw[BI.mpr fun _ _=>rfl];rfl
 refine aX <| bJ (by simp only[List.length_cons,List.length_nil,List.length_set];omega) <| dJ (d:=mI (2 ^ c) fun _=>false) (by rw[←h0];rfl) ⟨_,rfl,?_⟩
 simp only[List.set_cons_succ,List.set_cons_zero]
 refine aX <| iC <| GZ <| w_fld (k:=k) <| w_var (v:= .loc k) rfl ⟨_,_,rfl,hk,zX,?_⟩
 refine lU (k:=b) <| w_fld (k:=k) <| w_var (v:= .loc k) rfl ⟨_,_,rfl,hk,qm,_,rfl,hb,Bn _ _ (by decide+kernel) (by decide+kernel) (by decide+kernel) (by decide+kernel),?_⟩
 refine aO <| dJ (d:= .tup (turned.map .int)) rfl <| cQ <| oq NO hc ho hS hb ⟨_,_,_,_,rfl,rfl,rfl,rfl,?_⟩
 have hzip:ve (DT (2 ^ c) os (Wd c ins gs [] [])) (DT (2 ^ c) os (Wd c ins gs turned []))=os.map fun x=> .tup [.tup [mI (2 ^ c) (r0 (tell (Wd c ins gs [] []) x)),mI (2 ^ c) (r1 (tell (Wd c ins gs [] []) x))], .tup [mI (2 ^ c) (r0 (tell (Wd c ins gs turned []) x)),mI (2 ^ c) (r1 (tell (Wd c ins gs turned []) x))]]:=by
  unfold ve DT
  rw[List.zip_map',List.map_map];rfl
 rw[hzip]
 refine(cD (fun i δ S2=>S2=S∧∃a4 a5,δ=[some (.loc k),some (.d (.tup (turned.map .int))),some (.d (.str (EA safe))),some (.d (mI (2 ^ c) fun p=>(os.take i).any fun x=>brk safe (pt (Wd c ins gs [] []) x p) (pt (Wd c ins gs turned []) x p))),a4,a5])
  ⟨rfl,none,none,rfl⟩ ?_).mono fun o S2 ⟨δ2,e2',hS2,a4,a5,hδ⟩=>⟨δ2,e2',?_⟩
 ·rintro i v δ S2 hv ⟨rfl,a4,a5,rfl⟩
  obtain⟨x,hx,rfl⟩:=NT.nW hv
  generalize hm:(fun p=>(os.take i).any fun x=>brk safe (pt (Wd c ins gs [] []) x p) (pt (Wd c ins gs turned []) x p))=m
  have hnext:(fun p=>(os.take (i+1)).any fun x=>brk safe (pt (Wd c ins gs [] []) x p) (pt (Wd c ins gs turned []) x p))=fun p=>m p || brk safe (pt (Wd c ins gs [] []) x p) (pt (Wd c ins gs turned []) x p):=by
   funext p
   rw[List.take_add_one,hx,List.any_append,←hm]
   simp
  rw[hnext]
  refine⟨[some (.loc k),some (.d (.tup (turned.map .int))),some (.d (.str (EA safe))),some (.d (mI (2 ^ c) m)),some (.d (.tup [mI (2 ^ c) (r0 (tell (Wd c ins gs [] []) x)),mI (2 ^ c) (r1 (tell (Wd c ins gs [] []) x))])),some (.d (.tup [mI (2 ^ c) (r0 (tell (Wd c ins gs turned []) x)),mI (2 ^ c) (r1 (tell (Wd c ins gs turned []) x))]))],rfl,?_⟩
  unfold ie
  refine wx <| zG (b:=safe) (ic (a:= .str (EA safe)) (b:= .str (Str.ofString "safe")) rfl rfl ?_) ?_
  ·show R.ok (D.bl (EA safe==Str.ofString "safe"))=_
   congr 2
   cases safe <;> decide+kernel
  cases safe with
  | true=>
    rw[if_pos rfl]
    refine bJ (by simp only[List.length_cons,List.length_nil,List.length_set];omega) <| dJ (az (az (a:=mI (2 ^ c) m) rfl (az (az rfl rfl yI) (az rfl rfl Bc) (qx _ _ _)) (uz _ _ _)) (az (az rfl rfl Bc) (az rfl rfl yI) (qx _ _ _)) (uz _ _ _)) ⟨_,rfl,rfl,some (.d (.tup [mI (2 ^ c) (r0 (tell (Wd c ins gs [] []) x)),mI (2 ^ c) (r1 (tell (Wd c ins gs [] []) x))])),some (.d (.tup [mI (2 ^ c) (r0 (tell (Wd c ins gs turned []) x)),mI (2 ^ c) (r1 (tell (Wd c ins gs turned []) x))])),?_⟩
    simp only[List.set_cons_succ,List.set_cons_zero]
    congr 6
    refine uN fun p _=>?_
    rw[Bool.or_assoc];rfl
  | false=>
    rw[if_neg (by decide)]
    refine bJ (by simp only[List.length_cons,List.length_nil,List.length_set];omega) <| dJ (az (az (a:=mI (2 ^ c) m) rfl (az (az rfl rfl yI) (az rfl rfl yI) (vb _ _ _)) (uz _ _ _)) (az (az rfl rfl Bc) (az rfl rfl Bc) (vb _ _ _)) (uz _ _ _)) ⟨_,rfl,rfl,some (.d (.tup [mI (2 ^ c) (r0 (tell (Wd c ins gs [] []) x)),mI (2 ^ c) (r1 (tell (Wd c ins gs [] []) x))])),some (.d (.tup [mI (2 ^ c) (r0 (tell (Wd c ins gs turned []) x)),mI (2 ^ c) (r1 (tell (Wd c ins gs turned []) x))])),?_⟩
    simp only[List.set_cons_succ,List.set_cons_zero]
    congr 6
    refine uN fun p _=>?_
    rw[Bool.or_assoc];rfl
 rw[List.length_map,List.length_map,List.take_length] at hδ
 subst hδ hS2
 exact gC <| dJ (d:=mI (2 ^ c) (ub safe c ins gs os turned)) rfl ⟨_,rfl,by unfold ft;rfl,⟨[],by simp⟩,_,by unfold res;rfl,h⟩
end
end K15
end
section
set_option maxRecDepth 100000
set_option maxHeartbeats 4000000
namespace K15
open PySem PySem.Spec PyProof.Rows L2 L3 MT
noncomputable def nZ(ps:List Nat):List Int:=ps.map fun(n:Nat)=>(n:Int)
section
variable {c:Nat} {ins:List (Str × Nat)} {gs:List Gt} {os:List (Str × List Nat)} {S:aU}
theorem tm:(rF gs).length≤gs.length:=by
 unfold rF
 exact Nat.le_trans (List.length_filter_le _ _) (by rw[List.length_range];exact Nat.le_refl _)
noncomputable def EG(c:Nat)(f:M):Nat:=((List.range (2 ^ c)).filter f).length
noncomputable def EC(c:Nat)(ins:List (Str × Nat))(gs:List Gt)(os:List (Str × List Nat))(x:Nat):M:=fun p=>ub false c ins gs os (nZ [x]) p !=ub true c ins gs os (nZ [x]) p
noncomputable def kW(c:Nat)(ins:List (Str × Nat))(gs:List Gt)(os:List (Str × List Nat))(x:Nat):D:= .tup [nI x,nI (EG c (ub true c ins gs os (nZ [x]))),nI (EG c (EC c ins gs os x))]
theorem sr(NO:jh ins gs os)(hc:ins.length=c)(hc1:c≤10)(ho:∀x∈os,1≤x.2.length∧x.2.length≤3)(hg:gs.length≤1000)(hS:pq S){Q:V3→aU→Prop}(h:Q (.loc (S.length+2)) (TS S c ins gs os++[.lst ((rF gs).map (kW c ins gs os))])) :
 W3 (iK [.d (bL ins gs os)] S) Q:=by
 have hz:sizeLine=16777216:=sizeLine_eq
 have hpow:2 ^ c≤1024:=Nat.pow_le_pow_right (by omega) (by omega:c≤10)
 have hul:(rF gs).length≤1000:=Nat.le_trans tm hg
 have hTl:(TS S c ins gs os).length=S.length+2:=by unfold TS;simp
 have hk0:(TS S c ins gs os)[S.length]? =some (.ins 1 (ia c ins gs os (S.length+1))):=by unfold TS;rw [List.getElem?_append_right (Nat.le_refl _),Nat.sub_self];rfl
 have hb0:(TS S c ins gs os)[S.length+1]? =some (.ins 0 (d3 c (bL ins gs os))):=by unfold TS;rw [List.getElem?_append_right (by omega),show S.length+1 - S.length=1 by omega];rfl
 have hcl0:pq (TS S c ins gs os):=CZ hS (by
  show(decide (S.length+1 < S.length+2) && true)=true
  rw[decide_eq_true (by omega)];rfl) rfl
 have hk:∀L:List D,(TS S c ins gs os++[SO.lst L])[S.length]? =some (.ins 1 (ia c ins gs os (S.length+1))):=fun L=>by rw[List.getElem?_append_left (by omega)];exact hk0
 have hb:∀L:List D,(TS S c ins gs os++[SO.lst L])[S.length+1]? =some (.ins 0 (d3 c (bL ins gs os))):=fun L=>by rw[List.getElem?_append_left (by omega)];exact hb0
 have hcl:∀L:List D,pq (TS S c ins gs os++[SO.lst L]):=fun L=>pq.push hcl0 fun _=>rfl
 have hlst:∀L:List D,(TS S c ins gs os++[SO.lst L])[S.length+2]? =some (.lst L):=fun L=>by rw[←hTl];exact bz _ _
 unfold iK
 refine u6 rfl ?_
 simp only[bS,lu,List.map_cons,List.map_nil,List.length_cons,List.length_nil,List.replicate,List.cons_append,List.nil_append,Nat.reduceAdd,Nat.reduceSub]
 unfold nK
 refine aX <| bJ (by simp only[List.length_cons,List.length_nil,List.length_set];omega) <| zR <| aO <| dJ (d:=bL ins gs os) rfl <| cQ <| Bk NO hc hc1 ho hS ⟨rfl,_,rfl,?_⟩
 simp only[List.set_cons_succ,List.set_cons_zero]
 refine aX <| bJ (by simp only[List.length_cons,List.length_nil,List.length_set];omega) <| jG (ds:=[]) rfl ⟨_,rfl,?_⟩
 simp only[List.set_cons_succ,List.set_cons_zero]
 rw[hTl]
 refine aX <| iC <| xO <| w_fld (k:=S.length) <| w_var (v:= .loc S.length) rfl ⟨_,_,rfl,hk _,Ff,_,rfl,?_⟩
 refine(cD (fun i δ S2=>S2=TS S c ins gs os++[.lst (((rF gs).take i).map (kW c ins gs os))]∧∃a3 a4 a5,δ=[some (.d (bL ins gs os)),some (.loc S.length),some (.loc (S.length+2)),a3,a4,a5]) ⟨by simp,_,_,_,rfl⟩ ?_).mono fun o S2 ⟨δ2,e2',hS2,a3,a4,a5,hδ⟩=>⟨δ2,e2',?_⟩
 ·rintro i v δ S2 hv ⟨rfl,a3,a4,a5,rfl⟩
  obtain⟨x,hx,rfl⟩:=NT.nW hv
  have hil:=(List.getElem?_eq_some_iff.mp hx).1
  have hnx:((rF gs).take (i+1)).map (kW c ins gs os)=((rF gs).take i).map (kW c ins gs os)++[kW c ins gs os x]:=by rw[List.take_add_one,hx,List.map_append];rfl
  rw[hnx]
  have hLl:(((rF gs).take i).map (kW c ins gs os)).length≤1000:=by rw[List.length_map,List.length_take];omega
  generalize ((rF gs).take i).map (kW c ins gs os)=L at hLl ⊢
  refine⟨[some (.d (bL ins gs os)),some (.loc S.length),some (.loc (S.length+2)),some (.d (nI x)),a4,a5],rfl,?_⟩
  unfold og
  refine aX <| bJ (by simp only[List.length_cons,List.length_nil,List.length_set];omega) <| lU (k:=S.length) <| w_var (v:= .loc S.length) rfl ⟨_,rfl,hk _,D4 _ (by decide+kernel) (by decide+kernel) (by decide+kernel),?_⟩
  refine aO <| dJ (d:= .tup ((nZ [x]).map .int)) (gg (ds:=(nZ [x]).map .int) rfl (by unfold nZ;simp;omega)) <| aO <| dJ (d:= .str (EA true)) rfl <| cQ <| rS NO hc ho (hcl _) (hk _) (hb _) ⟨_,rfl,?_⟩
  simp only[List.set_cons_succ,List.set_cons_zero]
  refine aX <| bJ (by simp only[List.length_cons,List.length_nil,List.length_set];omega) <| B4 <| lU (k:=S.length) <| w_var (v:= .loc S.length) rfl ⟨_,rfl,hk _,D4 _ (by decide+kernel) (by decide+kernel) (by decide+kernel),?_⟩
  refine aO <| dJ (d:= .tup ((nZ [x]).map .int)) (gg (ds:=(nZ [x]).map .int) rfl (by unfold nZ;simp;omega)) <| aO <| dJ (d:= .str (EA false)) rfl <| cQ <| rS NO hc ho (hcl _) (hk _) (hb _) <| dJ (d:=mI (2 ^ c) (ub true c ins gs os (nZ [x]))) rfl ⟨_,_,_,rfl,rfl,vb _ _ _,_,rfl,?_⟩
  simp only[List.set_cons_succ,List.set_cons_zero]
  have lenI:∀f:M,cC [.lst (((List.range (2 ^ c)).filter f).map nI)]= .ok (nI (EG c f)):=fun f=>by rw[kx,List.length_map];rfl
  refine iS (k:=S.length+2) rfl ⟨_,hlst _⟩ <| xA <| aO <| dJ (d:=nI x) rfl <| aO <| pF <| aO <| lU (k:=S.length+1) <| w_fld (k:=S.length) <| w_var (v:= .loc S.length) rfl ⟨_,_,rfl,hk _,qm,_,rfl,hb _,Bn _ _ (by decide+kernel) (by decide+kernel) (by decide+kernel) (by decide+kernel),?_⟩
  refine aO <| dJ (d:=mI (2 ^ c) (ub true c ins gs os (nZ [x]))) rfl <| cQ <| mH hc1 (hcl _) (hb _) <| cQ ⟨[_],_,rfl,lenI _,?_⟩
  refine aO <| pF <| aO <| lU (k:=S.length+1) <| w_fld (k:=S.length) <| w_var (v:= .loc S.length) rfl ⟨_,_,rfl,hk _,qm,_,rfl,hb _,Bn _ _ (by decide+kernel) (by decide+kernel) (by decide+kernel) (by decide+kernel),?_⟩
  refine aO <| dJ (d:=mI (2 ^ c) (EC c ins gs os x)) rfl <| cQ <| mH hc1 (hcl _) (hb _) <| cQ ⟨[_],_,rfl,lenI _,?_⟩
  refine cQ ⟨by simp;omega,kW c ins gs os x,L,rfl,hlst _,by omega,_,rfl,?_,_,_,_,rfl⟩
  rw[←hTl,eO]
 ·subst hδ hS2
  rw[List.length_map,List.length_map,List.take_length]
  exact gC <| w_var (v:= .loc (S.length+2)) rfl ⟨_,rfl,h⟩
theorem y7(NO:jh ins gs os)(hc:ins.length=c)(hc1:c≤10)(ho:∀x∈os,1≤x.2.length∧x.2.length≤3)(hg:gs.length≤1000)(hS:pq S){Q:V3→aU→Prop}(h:Q (.d (.lst ((rF gs).map (kW c ins gs os)))) S) :
 W3 (mh [.d (bL ins gs os)] S) Q:=by
 have hTl:(TS S c ins gs os).length=S.length+2:=by unfold TS;simp
 refine my hS (sr NO hc hc1 ho hg hS ⟨?_,⟨_,by unfold TS;rw [List.append_assoc]⟩, .lst ((rF gs).map (kW c ins gs os)),?_,h⟩)
 ·show decide (S.length≤S.length+2)=true
  exact decide_eq_true (by omega)
 ·unfold res
  rw[←hTl,bz]
end
end K15
end
section
set_option maxRecDepth 100000
set_option maxHeartbeats 4000000
namespace K15
open PySem PySem.Spec PyProof.Rows L2 L3 MT
noncomputable abbrev BZ:Str:=Str.ofString "abcdefghijklmnopqrstuvwxyz"
noncomputable abbrev l_:List Str:=[Str.ofString "in",Str.ofString "gate",Str.ofString "sure",Str.ofString "out",Str.ofString "not",Str.ofString "and",Str.ofString "or",Str.ofString "xor",Str.ofString "vote"]
noncomputable def cN(i:Nat):Str:=⟨#[97+i]⟩
theorem yt:BZ.cps.toList=(List.range 26).map (97+·):=by decide+kernel
theorem DH:BZ.length=26:=by decide+kernel
theorem A3{i:Int}(h0:0≤i)(h:i < 26):bX (.str BZ) (.int i)= .ok (.str (cN i.toNat)):=by
 have hz:sizeLine=16777216:=sizeLine_eq
 refine AH (by rw[DH];omega) ?_
 rw[yt]
 rw[jn h0 (by simp;omega)]
 simp
theorem zF:∀i:Nat,i < 26→Txt.find BZ (cN i)=(i:Int):=by decide+kernel
theorem fQ(i:Nat):(cN i).length=1:=rfl
theorem lq(a b:Str):(a++b).length=a.length+b.length:=Str.length_append a b
theorem C9(p:Str)(i:Nat)(hp:p.length < 1000):bX (.str (p++cN i)) (.int (-1))= .ok (.str (cN i)):=by
 have hz:sizeLine=16777216:=sizeLine_eq
 refine AH (by rw[lq,fQ];omega) ?_
 rw[pB]
 unfold oU qt
 have hl:(p.cps.toList++(cN i).cps.toList).length=p.cps.toList.length+1:=by rw[List.length_append];rfl
 rw[if_neg (by omega),hl,if_pos (by omega)]
 show(p.cps.toList++(cN i).cps.toList)[((-1:Int)+((p.cps.toList.length+1:Nat):Int)).toNat]? =_
 rw[show((-1:Int)+((p.cps.toList.length+1:Nat):Int)).toNat=p.cps.toList.length by omega,List.getElem?_append_right (Nat.le_refl _),Nat.sub_self]
 rfl
theorem BC(p:Str)(i:Nat):Txt.slice (p++cN i) none (some (-1))=p:=by
 have h:=slice_closes_to_neg (x:=p++cN i) (j:= -1) (k:=p.length) (by omega) (by rw[lq,fQ];omega) (by rw[lq,fQ];omega)
 have e:=beq_iff_eq.mp h
 rw[e]
 refine CS ?_
 show((p++cN i).cps.toList.drop 0).take ((p.length:Int) - 0).toNat=_
 rw[pB,List.drop_zero,show((p.length:Int) - 0).toNat=p.cps.toList.length by simp [Str.length],List.take_left]
theorem Cd{p:Str}{i j:Nat}(h:p++cN i=p++cN j):i=j:=by
 have h1:(p++cN i).cps.toList=(p++cN j).cps.toList:=by rw[h]
 rw[pB,pB] at h1
 have h2:[97+i]=[97+j]:=List.append_cancel_left h1
 have h3:97+i=97+j:=by simpa using h2
 omega
theorem yU(ss:List Str)(hs:ss.length≤16)(p:Str)(c:Nat):∃t,t < 26∧¬(p++cN ((c+t) % 26))∈ss++l_:=by
 refine Classical.byContradiction fun hn=>?_
 have all:∀x∈(List.range 26).map (fun t=>p++cN ((c+t) % 26)),x∈ss++l_:=fun x hx=>by
  obtain⟨t,ht,rfl⟩:=List.mem_map.mp hx
  rw[List.mem_range] at ht
  refine Classical.byContradiction fun h=>hn ⟨t,ht,h⟩
 have nd:((List.range 26).map (fun t=>p++cN ((c+t) % 26))).Nodup:=by
  refine List.pairwise_map.mpr (List.Pairwise.imp_of_mem ?_ List.nodup_range)
  intro a b ha hb hab h
  rw[List.mem_range] at ha hb
  have:=Cd h
  exact hab (by omega)
 have:=L2.BR _ _ nd all
 rw[List.length_map,List.length_range,List.length_append] at this
 have hb:l_.length=9:=rfl
 omega
noncomputable def jx(k n:Nat)(many:V3)(kk nm j:Option V3):DE:=[some (.loc k),some many,some (.d (.str BZ)),some (.d (.lst (l_.map .str))),some (.loc n),kk,nm,j]
theorem xv(x:Str)(ss:List Str):o9 (.str x) (.lst (ss.map .str))= .ok (.bl (ss.contains x)):=by
 show((match strs? (ss.map D.str) with | some tt=>R.ok (tt.contains x) | none=> .no)).bind (fun b=>R.ok (D.bl b))=_
 rw[L2.strs_map];rfl
theorem Cc{k n:Nat}{many:V3}{kk j:Option V3}{S:aU}{ss:List Str}{x:Str}(e:S[n]? =some (.lst (ss.map .str))) :
 bT (wG (b2 o9 (ae 6) (ae 4)) (b2 o9 (ae 6) (ae 3))) (jx k n many kk (some (.d (.str x))) j) S= .ok (decide (x∈ss++l_)) S:=by
 have h4:(bR S (jx k n many kk (some (.d (.str x))) j))[4]? =some (.val (.lst (ss.map .str))):=by
  unfold bR jx
  show some (match res S (.loc n) with | some d=>Sl.val d | none=> .un)=_
  unfold res
  simp only[e]
 have h3:(bR S (jx k n many kk (some (.d (.str x))) j))[3]? =some (.val (.lst (l_.map .str))):=rfl
 have h6:(bR S (jx k n many kk (some (.d (.str x))) j))[6]? =some (.val (.str x)):=rfl
 unfold bT
 generalize bR S (jx k n many kk (some (.d (.str x))) j)=δ at h3 h4 h6
 have e1:b2 o9 (ae 6) (ae 4) δ= .ok (ss.contains x):=ic (a:= .str x) (b:= .lst (ss.map .str)) (by unfold ae;rw [h6]) (by unfold ae;rw [h4]) (xv _ _)
 have e3:b2 o9 (ae 6) (ae 3) δ= .ok (l_.contains x):=ic (a:= .str x) (b:= .lst (l_.map .str)) (by unfold ae;rw [h6]) (by unfold ae;rw [h3]) (xv _ _)
 have:wG (b2 o9 (ae 6) (ae 4)) (b2 o9 (ae 6) (ae 3)) δ= .ok (decide (x∈ss++l_)):=by
  unfold wG
  rw[e1,R.aR,e3]
  by_cases h:x∈ss
  ·rw[if_pos (by simpa using h),decide_eq_true (List.mem_append_left _ h)]
  ·rw[if_neg (by simpa using h)]
   congr 1
   by_cases h2:x∈l_
   ·rw[decide_eq_true (List.mem_append_right _ h2)];simpa using h2
   ·rw[decide_eq_false (fun z=>(List.mem_append.mp z).elim h h2)];simpa using h2
 rw[this]
 rfl
theorem CN{k n:Nat}{many:V3}{kk j:Option V3}{S:aU}{p:Str}{c:Nat}(hp:p.length < 500)(hc:c < 26) :
 W3 (gS (jx k n many kk (some (.d (.str (p++cN c)))) j) S) fun o S1=>o= .nx (jx k n many kk (some (.d (.str (p++cN ((c+1) % 26))))) j)∧S1=S:=by
 have hz:sizeLine=16777216:=sizeLine_eq
 unfold gS
 refine bJ (by unfold jx;simp only[List.length_cons,List.length_nil];omega) (dJ (d:= .str (p++cN ((c+1) % 26))) ?_ ⟨rfl,rfl⟩)
 refine az (a:= .str p) (b:= .str (cN ((c+1) % 26))) ?_ ?_ (xt (by rw[fQ];omega))
 ·refine z0 (d:= .str (p++cN c)) (lo:=none) (hi:=some (-1)) rfl rfl rfl ?_
  rw[Fz (by rw[lq,fQ];omega),BC]
 ·refine az (a:= .str BZ) (b:= .int (((c:Int)+1) % 26)) rfl ?_ ?_
  ·refine az (a:= .int ((c:Int)+1)) (b:= .int 26) (az (a:= .int c) (b:= .int 1) ?_ rfl rfl) rfl (we (by omega))
   refine DZ (x:=BZ) (ds:=[.str (cN c)]) rfl (aK (az (a:= .str (p++cN c)) (b:= .int (-1)) rfl rfl (C9 p c (by omega))) rfl) ?_
   show R.ok (D.int (Txt.find BZ (cN c)))=_
   rw[zF c hc]
  ·rw[A3 (by omega) (by omega)]
   congr 3
theorem u7{k n:Nat}{many:V3}{kk j:Option V3}{S:aU}{ss:List Str}{p:Str}(hp:p.length < 500)(e:S[n]? =some (.lst (ss.map .str))) :
 ∀(m ex c:Nat),c < 26→(∃t,t < m∧¬(p++cN ((c+t) % 26))∈ss++l_)→
 W3 (lr (bT (wG (b2 o9 (ae 6) (ae 4)) (b2 o9 (ae 6) (ae 3)))) gS (m+ex) (jx k n many kk (some (.d (.str (p++cN c)))) j) S) fun o S1=>∃c',c' < 26∧o= .nx (jx k n many kk (some (.d (.str (p++cN c')))) j)∧S1=S
 | 0,_,_,_,⟨t,ht,_⟩=>by omega
 | m+1,ex,c,hc,⟨t,ht,hf⟩=>by
   rw[show m+1+ex=(m+ex)+1 by omega]
   unfold lr
   refine W3.bind (W3.eq (Cc e) ?_)
   by_cases hx:(p++cN c)∈ss++l_
   ·rw[decide_eq_true hx,if_pos rfl]
    refine W3.bind ((CN hp hc).mono fun o S1 ⟨e1,e2'⟩=>?_)
    subst e1 e2'
    have ht0:t≠0:=fun z=>by subst z;rw [Nat.add_zero,Nat.mod_eq_of_lt hc] at hf;exact hf hx
    refine u7 hp e m ex ((c+1) % 26) (by omega) ⟨t - 1,by omega,?_⟩
    rw[show((c+1) % 26+(t - 1)) % 26=(c+t) % 26 by omega]
    exact hf
   ·rw[decide_eq_false hx,if_neg (by decide)]
    exact W3.ok ⟨c,hc,rfl,rfl⟩
end K15
end
section
set_option maxRecDepth 100000
set_option maxHeartbeats 4000000
namespace K15
open PySem PySem.Spec PyProof.Rows L2 L3 MT
structure tT (k g:Nat) (L:List D) (S S1:aU):Prop where
 p:oW k S1
 len:S1.length=S.length
 oth:∀j,j≠k→j≠g→S1[j]? =S[j]?
 gl:S1[g]? =some (.lst L)
theorem tT.then{k g:Nat}{L:List D}{S S1 S2:aU}(a:tT k g L S S1)(h:g≠k)(b:Ev k S1 S2):tT k g L S S2:=⟨b.p,b.len.trans a.len,fun j h1 h2=>(b.oth j h1).trans (a.oth j h1 h2),(b.oth g h).trans a.gl⟩
theorem tT.put{k g:Nat}{L L':List D}{S S1:aU}(a:tT k g L S S1)(h:g≠k):tT k g L' S (S1.set g (.lst L')):=by
 obtain⟨hL,x,c,e⟩:=a.p
 exact⟨⟨hL.set _ (lN _),x,c,by rw[List.getElem?_set_ne h];exact e⟩,by rw[List.length_set];exact a.len,fun j h1 h2=>by rw[List.getElem?_set_ne (Ne.symm h2)];exact a.oth j h1 h2,jk a.gl⟩
theorem oW.push{k:Nat}{S:aU}(p:oW k S)(L:List D):oW k (S++[.lst L]):=by
 have h:=p.lt
 obtain⟨hL,a,c,e⟩:=p
 exact⟨hL.push (lN _),a,c,by rw[List.getElem?_append_left h];exact e⟩
theorem tT.sH{k:Nat}{S:aU}(p:oW k S)(L:List D):tT k S.length L (S++[.lst L]) (S++[.lst L]):=⟨p.push L,rfl,fun _ _ _=>rfl,bz _ _⟩
noncomputable def qd:List Str:=[Str.ofString "",Str.ofString "",Str.ofString "zz",Str.ofString "qrst"]++l_
theorem AA(r:Int)(h0:0≤r)(h:r < 13):∃s:Str,s.length≤4∧bX (.lst (qd.map .str)) (.int r)= .ok (.str s):=by
 have hl:qd.length=13:=rfl
 have hlen:∀s∈qd,s.length≤4:=by decide+kernel
 refine⟨qd[r.toNat]'(by omega),hlen _ (List.getElem_mem _),jt ?_⟩
 rw[jn h0 (by rw[List.length_map];omega)]
 simp
theorem yK{k n:Nat}{many:V3}{kk nm j:Option V3}{S S1:aU}{ss:List Str}(hn:n≠k)(hl:ss.length≤15)(E:tT k n (ss.map .str) S S1) :
 W3 (jv (jx k n many kk nm j) S1) fun o S2=>∃δ2,o= .nx δ2∧(∃a b,δ2=jx k n many kk a b)∧∃x:Str,tT k n ((ss++[x]).map .str) S S2:=by
 have hz:sizeLine=16777216:=sizeLine_eq
 unfold jv
 refine aX (bJ (by unfold jx;simp only[List.length_cons,List.length_nil];omega) (zt (dJ (d:= .lst (qd.map .str)) ?_ (draw (k:=k) rfl E.p rfl (by omega) (by omega) fun r S2 h1 h2 v2=>?_))))
 ·exact az (a:= .lst ([Str.ofString "",Str.ofString "",Str.ofString "zz",Str.ofString "qrst"].map .str)) (b:= .lst (l_.map .str)) (e_ (px rfl (by simp;omega))) rfl (tK (by simp;omega))
 obtain⟨s,hs,es⟩:=AA r h1 h2
 refine⟨_,_,_,rfl,rfl,es,_,rfl,?_⟩
 have E2:=E.then hn v2
 show W3 (bC _ _ (jx k n many kk (some (.d (.str s))) j) S2) _
 refine aX (iC (nQ (D3 (k:=k) rfl E2.p (by omega) (by omega) fun r2 S3 h3 h4 v3=>⟨r2,rfl,by omega,?_⟩)))
 have E3:=E2.then hn v3
 refine(cD (fun i δ S4=>∃(x:Str) (a:Option V3),δ=jx k n many kk (some (.d (.str x))) a∧x.length≤4+i∧(i=0∨∃p c,c < 26∧x=p++cN c)∧tT k n (ss.map .str) S S4)
  ⟨s,j,rfl,by omega, .inl rfl,E3⟩ ?_).mono fun o S4 ⟨δ4,e4,x,a,hδ,hx,hx2,E4⟩=>⟨δ4,e4,?_⟩
 ·rintro i v δ S4 hv ⟨x,a,rfl,hx,hx2,E4⟩
  refine⟨jx k n many kk (some (.d (.str x))) (some v),rfl,?_⟩
  have hi:i < 10:=by
   have:=(List.getElem?_eq_some_iff.mp hv).1
   rw[List.length_map,bU,List.length_map,List.length_range] at this
   omega
  unfold lK
  refine bJ (by unfold jx;simp only[List.length_cons,List.length_nil];omega) (B4 (dJ (d:= .str x) rfl (zt (dJ (d:= .str BZ) rfl (draw (k:=k) rfl E4.p rfl (by omega) (by omega) fun r5 S5 h5 h6 v5=>?_)))))
  refine⟨_,_,_,rfl,rfl,A3 h5 h6,_,_, .str (x++cN r5.toNat),rfl,rfl,xt (by rw[fQ];omega),_,rfl,x++cN r5.toNat,some v,rfl,by rw[lq,fQ];omega, .inr ⟨x,r5.toNat,by omega,rfl⟩,E4.then hn v5⟩
 rw[List.length_map,bU,List.length_map,List.length_range] at hx hx2
 subst hδ
 obtain⟨p,c,hc,rfl⟩:∃p c,c < 26∧x=p++cN c:=hx2.resolve_left (by omega)
 have hp:p.length < 500:=by rw[lq,fQ] at hx;omega
 refine aX ?_
 unfold wu
 refine(u7 (n:=n) (ss:=ss) hp E4.gl 26 974 c hc (yU ss (by omega) p c)).mono fun o S5 ⟨c',hc',e5,e6⟩=>⟨_,e5,?_⟩
 subst e6
 refine iS (k:=n) rfl ⟨_,E4.gl⟩ (dJ (d:= .str (p++cN c')) rfl ⟨_,_,rfl,E4.gl,by rw[List.length_map];omega,_,rfl,⟨_,_,rfl⟩,p++cN c',?_⟩)
 rw[List.map_append]
 exact E4.put hn
theorem zx{S:aU}{k:Nat}{m:Nat}(p:oW k S)(hm:m≤15){Q:V3→aU→Prop}(h:∀(ss:List Str) S1,ss.length=m→Ev k S S1→Q (.d (.lst (ss.map .str))) S1):W3 (f7 [.loc k, .d (.int m)] S) Q:=by
 have hz:sizeLine=16777216:=sizeLine_eq
 have hk:=p.lt
 unfold f7
 refine rM (u6 rfl ?_)
 simp only[bS,i_,List.map_cons,List.map_nil,List.length_cons,List.length_nil,List.replicate,List.cons_append,List.nil_append,Nat.reduceAdd,Nat.reduceSub]
 unfold kA
 refine aX (bJ (by simp only[List.length_cons,List.length_nil,List.length_set];omega) (dJ (d:= .str BZ) rfl ⟨_,rfl,?_⟩))
 simp only[List.set_cons_succ,List.set_cons_zero]
 refine aX (bJ (by simp only[List.length_cons,List.length_nil,List.length_set];omega) (dJ (d:= .lst (l_.map .str)) (e_ (px rfl (by simp;omega))) ⟨_,rfl,?_⟩))
 simp only[List.set_cons_succ,List.set_cons_zero]
 refine aX (bJ (by simp only[List.length_cons,List.length_nil,List.length_set];omega) (jG (ds:=[]) rfl ⟨_,rfl,?_⟩))
 simp only[List.set_cons_succ,List.set_cons_zero]
 have g0:=tT.sH p []
 have hgk:S.length≠k:=by omega
 refine aX (iC (oX (eA (n:=m) rfl (by omega)) ?_))
 refine(cD (fun i δ S4=>(∃a b c,δ=jx k S.length (.d (.int m)) a b c)∧∃ss:List Str,ss.length=i∧tT k S.length (ss.map .str) (S++[SO.lst []]) S4) ⟨⟨_,_,_,rfl⟩,[],rfl,g0⟩ ?_).mono fun o S4 ⟨δ4,e4,⟨a,b,c,hδ⟩,ss,hl,g4⟩=>⟨δ4,e4,?_⟩
 ·rintro i v δ S4 hv ⟨⟨a,b,c,rfl⟩,ss,hl,g4⟩
  have hi:i < 15:=by
   have:=(List.getElem?_eq_some_iff.mp hv).1
   rw[List.length_map,bU,List.length_map,List.length_range] at this
   omega
  refine⟨jx k S.length (.d (.int m)) (some v) b c,rfl,?_⟩
  exact(yK hgk (by omega) g4).mono fun o S5 ⟨δ5,e5,⟨a5,b5,h5⟩,x,g5⟩=>⟨δ5,e5,⟨some v,a5,b5,h5⟩,ss++[x],by simp [hl],g5⟩
 rw[List.length_map,bU,List.length_map,List.length_range] at hl
 subst hδ
 unfold jx
 refine gC (w_var rfl ⟨_,rfl,g4.p.1,?_, .lst (ss.map .str),?_,?_⟩)
 ·unfold ft;exact decide_eq_true (Nat.le_refl _)
 ·unfold res;simp only[g4.gl]
 ·refine h ss _ hl ⟨⟨g4.p.1.take _,?_⟩,?_,?_⟩
  ·obtain⟨_,a,c,e⟩:=g4.p
   exact⟨a,c,by rw[List.getElem?_take_of_lt hk];exact e⟩
  ·have:=g4.len
   rw[List.length_append,List.length_singleton] at this
   rw[List.length_take];omega
  ·intro j hj
   by_cases hjl:j < S.length
   ·rw[List.getElem?_take_of_lt hjl,g4.oth _ hj (by omega),List.getElem?_append_left hjl]
   ·have:=g4.len
    rw[List.length_append,List.length_singleton] at this
    rw[List.getElem?_eq_none (by rw[List.length_take];omega),List.getElem?_eq_none (by omega)]
end K15
end
section
set_option maxRecDepth 100000
set_option maxHeartbeats 4000000
namespace K15
open PySem PySem.Spec PyProof.Rows L2 L3 MT
theorem ke{n i:Nat}{d:D}(h:(bU 0 n)[i]? =some d):i < n∧d= .int i:=by
 rw[bU,List.getElem?_map] at h
 cases q:(List.range n)[i]? with
 | none=>rw [q] at h;cases h
 | some j=>
   rw[q] at h;cases h
   obtain⟨q1,q2⟩:=List.getElem?_eq_some_iff.mp q
   rw[List.getElem_range] at q2
   rw[List.length_range] at q1
   subst q2
   exact⟨q1,by simp⟩
theorem ne_int(n:Int):qN (.int n) (.int n)= .ok (.bl false):=by
 have:qN (.int n) (.int n)= .ok (.bl (!decide (n=n))):=rfl
 rw[this,decide_eq_true rfl];rfl
theorem n4{ds:List D}{i:Nat}{x:D}(h:ds[i]? =some x):oU ds (i:Int)=some x:=by
 obtain⟨h1,h2⟩:=List.getElem?_eq_some_iff.mp h
 rw[jn (by omega) (by rw[Int.toNat_natCast];exact h1)]
 simp [h2]
section
variable {gs:List Gt}
theorem Ih{i:Nat}{g:Gt}(h:gs[i]? =some g):bX (.lst (gs.map gK)) (.int i)= .ok (gK g):=by
 obtain⟨h1,h2⟩:=List.getElem?_eq_some_iff.mp h
 refine jt ?_
 rw[jn (by omega) (by rw[List.length_map,Int.toNat_natCast];exact h1)]
 simp [h2]
end
section
variable {S:aU} {δ:DE} {k q i:Nat} {ks:List Int}
theorem wX{Q:V3→aU→Prop}{f:FD}{m:Int}(hv:δ[i]? =some (some (.loc k)))(p:oW k S)(hf:f (bR S δ)= .ok (.int m))(hm:0 < m)(hm2:m < 1000000)
 (h:∀(r:Int) S1,0≤r→r < m→Ev k S S1→Q (.d (.int r)) S1):W3 (cf aC (ax (bK i) (ax (xT f) ck)) δ S) Q:=
 fk (aO (w_var hv (aO (tU hf rfl (cQ (sM p hm (rR hm hm2) h))))))
theorem ji{ds:List D}(e:S[q]? =some (.lst ds)):res S (.loc q)=some (.lst ds):=by unfold res;rw [e]
theorem jw(e:S[q]? =some (.lst (ks.map .int)))(hi:δ[i]? =some (some (.loc q))):aA cC (aq (ae i) aD) (bR S δ)= .ok (.int ks.length):=by
 refine aL (ds:=[.lst (ks.map .int)]) (aK ?_ rfl) (by rw[kx,List.length_map])
 unfold ae bR
 rw[List.getElem?_map,hi]
 show(match some (match res S (.loc q) with | some d=>Sl.val d | none=> .un) with | some (.val d)=>R.ok d | _=> .no)=_
 rw[ji e]
theorem An{w:Nat}(h:w < ks.length):bX (.lst (ks.map .int)) (nI w)= .ok (.int ks[w]):=jt (n4 (by rw[List.getElem?_map,List.getElem?_eq_getElem h];rfl))
theorem xR{own:List Str}{kp:List Nat}{it:FA}{w:Nat}{Q:V3→aU→Prop}(e:S[q]? =some (.lst (ks.map .int)))(hw:w < ks.length)(hn:ks.length < 10000)(hkp:gE own kp δ=[none,some (.loc q),some (.d (nI w))])
 (hit:W3 (it δ S) fun vs S1=>vs=(bU 0 ks.length).map .d∧S1=S) (h:∀l:List Nat,0 < l.length→l.length < 10000→(∀x∈l,x < ks.length∧ks.getD x 0=ks.getD w 0)→Q (.d (.lst (l.map nI))) S) :
 W3 (kl it (kQ 0) (bT (b2 ja (e2 bX (ae 1) (ae 0)) (e2 bX (ae 1) (ae 2)))) (xP (ae 0)) own kp δ S) Q:=by
 have hz:sizeLine=16777216:=sizeLine_eq
 refine mO (fun i ds S2=>S2=S∧∃l:List Nat,ds=l.map nI∧(∀x∈l,x < ks.length∧ks.getD x 0=ks.getD w 0)∧l.length≤i∧(w < i→0 < l.length)) (hit.mono fun vs S1 ⟨e1,e2'⟩=>?_)
 subst e1 e2'
 have hlen:((bU 0 ks.length).map V3.d).length=ks.length:=by simp [bU]
 rw[hlen]
 refine⟨by omega,⟨rfl,[],rfl,by simp,by simp,by omega⟩,?_,?_⟩
 ·rintro i v ds S2 hv ⟨rfl,l,rfl,hl,hli,hw'⟩
  rw[hkp]
  rw[List.getElem?_map] at hv
  cases qq:(bU 0 ks.length)[i]? with
  | none=>rw [qq] at hv;cases hv
  | some d0=>
    rw[qq] at hv
    obtain⟨hi,rfl⟩:=ke qq
    cases hv
    refine⟨[some (.d (.int i)),some (.loc q),some (.d (nI w))],rfl,Dj (b:=decide (ks[i]=ks[w])) ?_ ?_⟩
    ·have hT:bR S2 [some (.d (.int i)),some (.loc q),some (.d (nI w))]=[.val (nI i), .val (.lst (ks.map .int)), .val (nI w)]:=by
      simp only[bR,List.map_cons,List.map_nil,ji e]
      rfl
     rw[hT]
     exact ic (a:= .int ks[i]) (b:= .int ks[w]) (az (a:= .lst (ks.map .int)) (b:=nI i) rfl rfl (An hi)) (az (a:= .lst (ks.map .int)) (b:=nI w) rfl rfl (An hw)) rfl
    ·by_cases hc:ks[i]=ks[w]
     ·rw[decide_eq_true hc,if_pos rfl]
      refine dJ rfl ⟨nI i,rfl,rfl,l++[i],by simp,?_,by simp;omega,by simp⟩
      intro x hx
      rcases List.mem_append.mp hx with z | z
      ·exact hl x z
      ·rw[List.mem_singleton] at z;subst z;exact⟨hi,by rw[List.getD_eq_getElem?_getD,List.getD_eq_getElem?_getD,List.getElem?_eq_getElem hi,List.getElem?_eq_getElem hw,hc]⟩
     ·rw[decide_eq_false hc,if_neg (by decide)]
      refine⟨rfl,l,rfl,hl,by omega,fun hwi=>hw' ?_⟩
      have:w≠i:=fun z=>hc (by subst z;rfl)
      omega
 ·rintro ds S2 ⟨rfl,l,rfl,hl,hli,hw'⟩
  exact h l (hw' hw) (by omega) hl
theorem xg{f:FX}{fm:FD}{l:List Nat}{Q:V3→aU→Prop}(hf:W3 (f δ S) fun v S1=>v= .d (.lst (l.map nI))∧S1=S)(hv:δ[i]? =some (some (.loc k)))(p:oW k S)(hm:fm (down δ)= .ok (.int l.length))(hl:0 < l.length)(hl2:l.length < 10000)
 (h:∀x S1,x∈l→Ev k S S1→Q (.d (nI x)) S1):W3 (DN f (cf aC (ax (bK i) (ax (xP fm) ck))) δ S) Q:=by
 refine zt (hf.mono fun v S1 ⟨e1,e2'⟩=>?_)
 subst e1 e2'
 refine draw hv p hm (by omega) (by omega) fun r S2 h1 h2 v2=>⟨_,_,nI (l[r.toNat]'(by omega)),rfl,rfl,jt ?_,h _ S2 (List.getElem_mem _) v2⟩
 rw[jn h1 (by rw[List.length_map];omega)]
 simp
end
noncomputable def D_:List D:=[.str (Str.ofString "not"), .str (Str.ofString "and"), .str (Str.ofString "or"), .str (Str.ofString "xor"), .str (Str.ofString "vote"), .str (Str.ofString "xor"), .str (Str.ofString "and")]
noncomputable def Jh:List (Key × V):=[((Sum.inr (Str.ofString "not"):Key),V.int 1),((Sum.inr (Str.ofString "vote"):Key),V.int 3)]
theorem DS(r:Nat)(h:r < 7):∃kd,kd≤4∧bX (.lst D_) (.int r)= .ok (.str (kS kd))∧(match kF (jm [] Jh) (Sum.inr (kS kd)) with | some (.int i)=>R.ok (D.int i) | none=> .ok (.int 2) | _=> .no)= .ok (.int (ar kd)):=by
 match r,h with
 | 0,_=>exact⟨0,by omega,rfl,rfl⟩
 | 1,_=>exact⟨1,by omega,rfl,rfl⟩
 | 2,_=>exact⟨2,by omega,rfl,rfl⟩
 | 3,_=>exact⟨3,by omega,rfl,rfl⟩
 | 4,_=>exact⟨4,by omega,rfl,rfl⟩
 | 5,_=>exact⟨3,by omega,rfl,rfl⟩
 | 6,_=>exact⟨1,by omega,rfl,rfl⟩
theorem wa{S:aU}{δ:DE}{i o:Nat}{ws:List Nat}(hi:δ[i]? =some (some (.loc o)))(e:S[o]? =some (.lst (ws.map nI))):aA fL (aq (ae i) aD) (bR S δ)= .ok (.tup (ws.map nI)):=by
 refine aL (ds:=[.lst (ws.map nI)]) (aK ?_ rfl) rfl
 unfold ae bR
 rw[List.getElem?_map,hi]
 show(match some (match res S (.loc o) with | some d=>Sl.val d | none=> .un) with | some (.val d)=>R.ok d | _=> .no)=_
 rw[ji e]
theorem mX(ws:List Nat):ku (.tup (ws.map nI))=true:=by
 unfold ku
 induction ws with
 | nil=>unfold jd;rfl
 | cons w ws ih=>rw [List.map_cons];unfold jd;rw [ih];rfl
noncomputable def HF{S:aU}{k:Nat}{d:D}{Q:V3→aU→Prop}(h:∀S1,Ev k S S1→Q (.d d) S1){S2:aU}{L:List D}{g:Nat}(E:tT k g L (S++[SO.lst []]) S2)(hg:g=S.length)(hk:k < S.length):Flat S2∧ft S.length (.d d)=true∧∃d',res S2 (.d d)=some d'∧Q (.d d') (S2.take S.length):=by
 subst hg
 refine⟨E.p.1,by unfold ft;rfl,d,by unfold res;rfl,h _ ⟨⟨E.p.1.take _,?_⟩,?_,?_⟩⟩
 ·obtain⟨_,a,c,e⟩:=E.p
  exact⟨a,c,by rw[List.getElem?_take_of_lt hk];exact e⟩
 ·have:=E.len
  rw[List.length_append,List.length_singleton] at this
  rw[List.length_take];omega
 ·intro j hj
  by_cases hjl:j < S.length
  ·rw[List.getElem?_take_of_lt hjl,E.oth _ hj (by omega),List.getElem?_append_left hjl]
  ·have:=E.len
   rw[List.length_append,List.length_singleton] at this
   rw[List.getElem?_eq_none (by rw[List.length_take];omega),List.getElem?_eq_none (by omega)]
noncomputable def Ir(k q o:Nat)(ms kd mn:D)(a6 a7 a8:Option V3):DE:=[some (.loc k),some (.loc q),some (.d ms),some (.d kd),some (.d mn),some (.loc o),a6,a7,a8]
theorem yF{S:aU}{k q:Nat}{ks:List Int}{ms:Int}(p:oW k S)(hq:q≠k)(e:S[q]? =some (.lst (ks.map .int)))(h0:0 < ks.length)(hn:ks.length < 10000){Q:V3→aU→Prop}(h:∀g S1,lB ks.length g→Ev k S S1→Q (.d (gK g)) S1) :
 W3 (fU [.loc k, .loc q, .d (.int ms)] S) Q:=by
 have hz:sizeLine=16777216:=sizeLine_eq
 have hk:=p.lt
 have hql:q < S.length:=(List.getElem?_eq_some_iff.mp e).1
 unfold fU
 refine rM (u6 rfl ?_)
 simp only[bS,j8,List.map_cons,List.map_nil,List.length_cons,List.length_nil,List.replicate,List.cons_append,List.nil_append,Nat.reduceAdd,Nat.reduceSub]
 unfold lY
 refine aX <| bJ (by simp only[List.length_cons,List.length_nil,List.length_set];omega) <| zt <| dJ (d:= .lst D_) rfl <| draw (k:=k) rfl p rfl (by omega) (by omega) fun r S1 h1 h2 v1=>?_
 obtain⟨kd,hkd,e1,e2'⟩:=DS r.toNat (by omega)
 rw[Int.toNat_of_nonneg h1] at e1
 refine⟨_,_,_,rfl,rfl,e1,_,rfl,?_⟩
 simp only[List.set_cons_succ,List.set_cons_zero]
 refine aX <| bJ (by simp only[List.length_cons,List.length_nil,List.length_set];omega) <| dJ (d:= .int (ar kd)) e2' ⟨_,rfl,?_⟩
 simp only[List.set_cons_succ,List.set_cons_zero]
 refine aX <| bJ (by simp only[List.length_cons,List.length_nil,List.length_set];omega) <| jG (ds:=[]) rfl ⟨_,rfl,?_⟩
 simp only[List.set_cons_succ,List.set_cons_zero]
 have har:=ue kd
 have hl1:=v1.len
 have E1:=tT.sH v1.p []
 have hok:S1.length≠k:=by omega
 have eq1:S1[q]? =some (.lst (ks.map .int)):=by rw[v1.oth q hq];exact e
 refine aX <| iC <| oX (eA (n:=ar kd) rfl (by omega)) ?_
 refine(cD (fun i δ S2=>(∃a b c,δ=Ir k q S1.length (.int ms) (.str (kS kd)) (.int (ar kd)) a b c)∧∃ws:List Nat,ws.length=i∧(∀w∈ws,w < ks.length)∧tT k S1.length (ws.map nI) (S1++[SO.lst []]) S2)
  ⟨⟨_,_,_,rfl⟩,[],rfl,by simp,E1⟩ ?_).mono fun o S2 ⟨δ2,e3,⟨a,b,c,hδ⟩,ws,hwl,hws,E2⟩=>⟨δ2,e3,?_⟩
 ·rintro i v δ S2 hv ⟨⟨a,b,c,rfl⟩,ws,hwl,hws,E2⟩
  have hi:i < 3:=by
   have:=(List.getElem?_eq_some_iff.mp hv).1
   rw[List.length_map,bU,List.length_map,List.length_range] at this
   omega
  refine⟨Ir k q S1.length (.int ms) (.str (kS kd)) (.int (ar kd)) (some v) b c,rfl,?_⟩
  unfold mM Ir
  refine aX <| bJ (by simp only[List.length_cons,List.length_nil,List.length_set];omega) <| draw (k:=k) rfl E2.p rfl (by omega) (by omega) fun r3 S3 h3 h4 v3=>⟨_,rfl,?_⟩
  simp only[List.set_cons_succ,List.set_cons_zero]
  have E3:=E2.then hok v3
  have eq3:S3[q]? =some (.lst (ks.map .int)):=by rw[E3.oth q hq (by omega),List.getElem?_append_left (by omega)];exact eq1
  refine aX <| bJ (by simp only[List.length_cons,List.length_nil,List.length_set];omega) <| wX (k:=k) rfl E3.p (jw eq3 rfl) (by omega) (by omega) fun r4 S4 h5 h6 v4=>⟨_,rfl,?_⟩
  simp only[List.set_cons_succ,List.set_cons_zero]
  have E4:=E3.then hok v4
  have eq4:S4[q]? =some (.lst (ks.map .int)):=by rw[E4.oth q hq (by omega),List.getElem?_append_left (by omega)];exact eq1
  refine aX ?_
  have kc:W3 (AQ (bP (b2 ja (ae 7) (eC (.int 1)))) (cA 8 (xT (e2 jN (e2 jN (aA cC (aq (ae 1) aD)) (eC (.int 1))) (e2 g9 (ae 8) (aA sf (aq (aA cC (aq (ae 1) aD)) (aq (eC (.int 4)) aD))))))) tf
   [some (.loc k),some (.loc q),some (.d (.int ms)),some (.d (.str (kS kd))),some (.d (.int (ar kd))),some (.loc S1.length),some v,some (.d (.int r3)),some (.d (.int r4))] S4)
   fun o S5=>S5=S4∧∃w:Nat,w < ks.length∧o= .nx [some (.loc k),some (.loc q),some (.d (.int ms)),some (.d (.str (kS kd))),some (.d (.int (ar kd))),some (.loc S1.length),some v,some (.d (.int r3)),some (.d (nI w))]:=by
   refine wx (zG (b:=decide (r3=1)) rfl ?_)
   by_cases hr:r3=1
   ·rw[decide_eq_true hr,if_pos rfl]
    have hmn:∃mn:Int,0 < mn∧mn≤ks.length∧sf [.int ks.length, .int 4]= .ok (.int mn):=⟨if(4:Int) < ks.length then 4 else ks.length,by split <;> omega,by split <;> omega,rfl⟩
    obtain⟨mn,m1,m2,m3⟩:=hmn
    have b1:0≤r4 % mn:=Int.emod_nonneg _ (by omega)
    have b2':r4 % mn < mn:=Int.emod_lt_of_pos _ m1
    refine bJ (by simp only[List.length_cons,List.length_nil,List.length_set];omega) (tU (d:=nI ((ks.length:Int) - 1 - r4 % mn).toNat) ?_ rfl ⟨rfl,((ks.length:Int) - 1 - r4 % mn).toNat,by omega,rfl⟩)
    refine az (a:= .int ((ks.length:Int) - 1)) (b:= .int (r4 % mn)) (az (a:= .int ks.length) (b:= .int 1) (jw eq4 rfl) rfl rfl) (az (a:= .int r4) (b:= .int mn) rfl (aL (ds:=[.int ks.length, .int 4]) (aK (jw eq4 rfl) rfl) m3) (we m1)) ?_
    show R.ok (D.int ((ks.length:Int) - 1 - r4 % mn))=R.ok (D.int ((((ks.length:Int) - 1 - r4 % mn).toNat:Nat):Int))
    rw[Int.toNat_of_nonneg (by omega)]
   ·rw[decide_eq_false hr,if_neg (by decide)]
    refine tR ⟨rfl,r4.toNat,by omega,?_⟩
    unfold nI
    rw[Int.toNat_of_nonneg h5]
  refine kc.mono fun o S5 ⟨e5,w,hw,eo⟩=>⟨_,eo,?_⟩
  subst e5
  refine iS (k:=S1.length) rfl ⟨_,E4.gl⟩ (dJ (d:=nI w) rfl ⟨_,_,rfl,E4.gl,by rw[List.length_map];omega,_,rfl,⟨_,_,_,rfl⟩,ws++[w],by simp [hwl],?_,?_⟩)
  ·intro x hx
   rcases List.mem_append.mp hx with z | z
   ·exact hws x z
   ·rw[List.mem_singleton] at z;subst z;exact hw
  ·rw[List.map_append]
   exact E4.put hok
 rw[List.length_map,bU,List.length_map,List.length_range] at hwl
 subst hδ
 unfold Ir
 refine gC <| xA <| aO <| dJ (d:= .str (kS kd)) rfl <| aO <| tU (d:= .tup (ws.map nI)) (wa rfl E2.gl) (mX ws) <| aO <| B4 <| draw (k:=k) rfl E2.p rfl (by omega) (by omega) fun r6 S6 h7 h8 v6=>dJ (d:= .int ms) rfl ⟨_,_, .bl (decide (r6 < ms)),rfl,rfl,rfl,cQ ⟨by simp;omega,_,rfl,?_⟩⟩
 have E6:=E2.then hok v6
 show Flat S6∧ft S.length (.d (gK (kd,ws,decide (r6 < ms))))=true∧∃d',res S6 (.d (gK (kd,ws,decide (r6 < ms))))=some d'∧_
 have hl6:S6.length=S.length+1:=by rw[E6.len];simp [hl1]
 refine⟨E6.p.1,by unfold ft;rfl,_,by unfold res;rfl,h _ _ ⟨hkd,hwl,hws⟩ ⟨⟨E6.p.1.take _,?_⟩,by rw[List.length_take];omega,fun j hj=>?_⟩⟩
 ·obtain⟨_,a,c,e⟩:=E6.p
  exact⟨a,c,by rw[List.getElem?_take_of_lt hk];exact e⟩
 ·by_cases hjl:j < S.length
  ·rw[List.getElem?_take_of_lt hjl,E6.oth _ hj (by omega),List.getElem?_append_left (by omega)]
   exact v1.oth j hj
  ·rw[List.getElem?_eq_none (by rw[List.length_take];omega),List.getElem?_eq_none (by omega)]
end K15
end
section
set_option maxRecDepth 100000
set_option maxHeartbeats 4000000
namespace K15
open PySem PySem.Spec PyProof.Rows L2 L3 MT
noncomputable def bE(k q o:Nat)(g:D)(a4 a5:Option V3):DE:=[some (.loc k),some (.d g),some (.loc q),some (.loc o),a4,a5]
theorem wR{S:aU}{k q:Nat}{ks:List Int}{g:Gt}(p:oW k S)(hq:q≠k)(e:S[q]? =some (.lst (ks.map .int)))(hg:lB ks.length g)(hn:ks.length < 10000){Q:V3→aU→Prop}(h:∀g' S1,lB ks.length g'→g'.1=g.1→g'.2.1.map (ks.getD · 0)=g.2.1.map (ks.getD · 0)→Ev k S S1→Q (.d (gK g')) S1) :
 W3 (gh [.loc k, .d (gK g), .loc q] S) Q:=by
 have hz:sizeLine=16777216:=sizeLine_eq
 have hk:=p.lt
 have har:=ue g.1
 have hql:q < S.length:=(List.getElem?_eq_some_iff.mp e).1
 unfold gh
 refine rM (u6 rfl ?_)
 simp only[bS,g6,List.map_cons,List.map_nil,List.length_cons,List.length_nil,List.replicate,List.cons_append,List.nil_append,Nat.reduceAdd,Nat.reduceSub]
 unfold kG
 refine aX <| bJ (by simp only[List.length_cons,List.length_nil,List.length_set];omega) <| jG (ds:=[]) rfl ⟨_,rfl,?_⟩
 simp only[List.set_cons_succ,List.set_cons_zero]
 have E1:=tT.sH p []
 have hok:S.length≠k:=by omega
 refine aX <| iC <| oX (ds:=g.2.1.map nI) rfl ?_
 refine(cD (fun i δ S2=>(∃a b,δ=bE k q S.length (gK g) a b)∧∃ws:List Nat,ws.length=i∧(∀w∈ws,w < ks.length)∧ws.map (ks.getD · 0)=(g.2.1.take i).map (ks.getD · 0)∧tT k S.length (ws.map nI) (S++[SO.lst []]) S2)
  ⟨⟨_,_,rfl⟩,[],rfl,by simp,by simp,E1⟩ ?_).mono fun o S2 ⟨δ2,e3,⟨a,b,hδ⟩,ws,hwl,hws,hwk,E2⟩=>⟨δ2,e3,?_⟩
 ·rintro i v δ S2 hv ⟨⟨a,b,rfl⟩,ws,hwl,hws,hwk,E2⟩
  have hi:i < 3:=by
   have:=(List.getElem?_eq_some_iff.mp hv).1
   rw[List.length_map,List.length_map,hg.2.1] at this
   omega
  obtain⟨w,hwi,rfl⟩:=NT.nW hv
  have hwn:=hg.2.2 w (List.mem_of_getElem? hwi)
  have eq2:S2[q]? =some (.lst (ks.map .int)):=by rw[E2.oth q hq (by omega),List.getElem?_append_left hql];exact e
  refine⟨bE k q S.length (gK g) (some (.d (nI w))) b,rfl,?_⟩
  unfold lL bE
  refine aX <| bJ (by simp only[List.length_cons,List.length_nil,List.length_set];omega) <| xR (q:=q) eq2 hwn hn rfl (nQ (tU (d:= .int ks.length) (jw eq2 rfl) rfl ⟨ks.length,rfl,by omega,rfl,rfl⟩)) fun l hl0 hl1 hl2=>⟨_,rfl,?_⟩
  simp only[List.set_cons_succ,List.set_cons_zero]
  refine iS (k:=S.length) rfl ⟨_,E2.gl⟩ (xg (k:=k) (l:=l) (dJ rfl ⟨rfl,rfl⟩) rfl E2.p (aL (ds:=[.lst (l.map nI)]) rfl (by rw[kx,List.length_map])) hl0 hl1 fun x S3 hx v3=>?_)
  have E3:=E2.then hok v3
  refine⟨nI x,_,rfl,E3.gl,by rw[List.length_map];omega,_,rfl,⟨_,_,rfl⟩,ws++[x],by simp [hwl],?_,?_,?_⟩
  ·intro y hy
   rcases List.mem_append.mp hy with z | z
   ·exact hws y z
   ·rw[List.mem_singleton] at z;subst z;exact(hl2 _ hx).1
  ·rw[List.take_add_one,hwi,List.map_append,List.map_append,hwk]
   show _++[ks.getD x 0]=_++[ks.getD w 0]
   rw[(hl2 _ hx).2]
  ·rw[List.map_append]
   exact E3.put hok
 rw[List.length_map,List.length_map] at hwl hwk
 rw[List.take_length] at hwk
 subst hδ
 unfold bE
 refine gC <| xA <| aO <| dJ (d:= .str (kS g.1)) rfl <| aO <| tU (d:= .tup (ws.map nI)) (wa rfl E2.gl) (mX ws) <| aO <| B4 <| draw (k:=k) rfl E2.p rfl (by omega) (by omega) fun r6 S6 h7 h8 v6=>dJ (d:= .int 0) rfl ⟨_,_, .bl (decide (r6=0)),rfl,rfl,rfl,cQ ⟨by simp;omega,_,rfl,?_⟩⟩
 have E6:=E2.then hok v6
 exact HF (d:=gK (g.1,ws,decide (r6=0))) (fun S1 v=>h _ _ ⟨hg.1,by show ws.length=_;rw [hwl];exact hg.2.1,hws⟩ rfl hwk v) E6 rfl hk
structure OS (k o:Nat) (L:List D) (S S1:aU):Prop where
 p:oW k S1
 len:S.length+1≤S1.length
 oth:∀j,j < S.length→j≠k→S1[j]? =S[j]?
 gl:S1[o]? =some (.lst L)
theorem OS.then{k o:Nat}{L:List D}{S S1 S2:aU}(a:OS k o L S S1)(h:o≠k)(b:Ev k S1 S2):OS k o L S S2:=⟨b.p,by rw[b.len];exact a.len,fun j h1 h2=>(b.oth j h2).trans (a.oth j h1 h2),(b.oth o h).trans a.gl⟩
theorem OS.set{k o m:Nat}{L M:List D}{S S1:aU}(a:OS k o L S S1)(h1:m≠k)(h2:m≠o)(h3:S.length≤m):OS k o L S (S1.set m (.lst M)):=by
 obtain⟨f,x,c,e⟩:=a.p
 exact⟨⟨f.set _ (lN _),x,c,by rw[List.getElem?_set_ne h1];exact e⟩,by rw[List.length_set];exact a.len,fun j hj hk=>by rw[List.getElem?_set_ne (by omega)];exact a.oth j hj hk,by rw[List.getElem?_set_ne h2];exact a.gl⟩
theorem OS.push{k o:Nat}{L M:List D}{S S1:aU}(a:OS k o L S S1)(ho:o < S1.length):OS k o L S (S1++[.lst M]):=
 ⟨a.p.push M,by rw[List.length_append];have:=a.len;omega,fun j hj hk=>by rw[List.getElem?_append_left (by have:=a.len;omega)];exact a.oth j hj hk,by rw[List.getElem?_append_left ho];exact a.gl⟩
theorem OS.put{k o:Nat}{L L':List D}{S S1:aU}(a:OS k o L S S1)(h1:o≠k)(h3:S.length≤o):OS k o L' S (S1.set o (.lst L')):=by
 obtain⟨f,x,c,e⟩:=a.p
 exact⟨⟨f.set _ (lN _),x,c,by rw[List.getElem?_set_ne h1];exact e⟩,by rw[List.length_set];exact a.len,fun j hj hk=>by rw[List.getElem?_set_ne (by omega)];exact a.oth j hj hk,jk a.gl⟩
noncomputable def oE(k q o:Nat)(ss:List Str)(a5 a6 a7 a8 a9 a10:Option V3):DE:=[some (.loc k),some (.loc q),some (.d (.lst (ss.map .str))),some (.d (.int 6)),some (.loc o),a5,a6,a7,a8,a9,a10]
noncomputable def GO:List D:=[.int 1, .int 1, .int 2, .int 2, .int 3, .int 3]
theorem F4(r:Nat)(h:r < 6):∃w:Nat,1≤w∧w≤3∧bX (.lst GO) (.int r)= .ok (nI w):=by
 match r,h with
 | 0,_=>exact⟨1,by omega,by omega,rfl⟩
 | 1,_=>exact⟨1,by omega,by omega,rfl⟩
 | 2,_=>exact⟨2,by omega,by omega,rfl⟩
 | 3,_=>exact⟨2,by omega,by omega,rfl⟩
 | 4,_=>exact⟨3,by omega,by omega,rfl⟩
 | 5,_=>exact⟨3,by omega,by omega,rfl⟩
theorem anew{S S1:aU}{k q o m:Nat}{ks:List Int}{L:List D}{ss:List Str}{i wd:Nat}{way lim:Int}{at':Nat}{a6 a7:Option V3}{ws:List Nat}(hq:q≠k)(hqS:q < S.length)(ho:o≠k)(hmk:m≠k)(hmo:m≠o)(hm:S.length≤m)(h0:0 < ks.length)(hn:ks.length < 10000)
 (eS:S[q]? =some (.lst (ks.map .int))) (hwl:ws.length=wd) (hat:at' < 3) (hws:∀w∈ws,w < ks.length) (E:OS k o L S S1) (em:S1[m]? =some (.lst (ws.map nI))) :
 W3 (AQ (bP (j_ (b2 ja (ae 8) (eC (.int 3))) (b2 vt (ae 10) (eC (.int lim))))) (vM (bK 9) (xP (eC (nI at'))) (cf aC (ax (bK 0) (ax (xT (aA cC (aq (ae 1) aD))) ck)))) tf
  (oE k q o ss (some (.d (nI i))) a6 a7 (some (.d (nI wd))) (some (.loc m)) (some (.d (.int way)))) S1)
  fun ou S2=>ou= .nx (oE k q o ss (some (.d (nI i))) a6 a7 (some (.d (nI wd))) (some (.loc m)) (some (.d (.int way))))∧OS k o L S S2∧∃ws':List Nat,ws'.length=wd∧(∀w∈ws',w < ks.length)∧(wd≠3→ws'=ws)∧S2[m]? =some (.lst (ws'.map nI)):=by
 have eq1:S1[q]? =some (.lst (ks.map .int)):=by rw[E.oth q hqS hq];exact eS
 obtain⟨c,hc,hc3⟩:∃c:Bool,j_ (b2 ja (ae 8) (eC (.int 3))) (b2 vt (ae 10) (eC (.int lim))) (down (oE k q o ss (some (.d (nI i))) a6 a7 (some (.d (nI wd))) (some (.loc m)) (some (.d (.int way)))))= .ok c∧(c=true→wd=3):=by
  have e1:b2 ja (ae 8) (eC (.int 3)) (down (oE k q o ss (some (.d (nI i))) a6 a7 (some (.d (nI wd))) (some (.loc m)) (some (.d (.int way)))))= .ok (decide ((wd:Int)=3)):=rfl
  have e3:b2 vt (ae 10) (eC (.int lim)) (down (oE k q o ss (some (.d (nI i))) a6 a7 (some (.d (nI wd))) (some (.loc m)) (some (.d (.int way)))))= .ok (decide (lim < way)):=rfl
  unfold j_
  rw[e1,R.aR,e3]
  by_cases h3:(wd:Int)=3
  ·exact⟨_,by rw[decide_eq_true h3,if_pos rfl],fun _=>by omega⟩
  ·exact⟨false,by rw[decide_eq_false h3,if_neg (by decide)],fun z=>by cases z⟩
 refine wx (zG hc ?_)
 cases c with
 | true=>
   rw[if_pos rfl]
   have hwd:=hc3 rfl
   refine BO (wX (k:=k) rfl E.p (jw eq1 rfl) (by omega) (by omega) fun r S2 h1 h2 v2=>w_var (v:= .loc m) rfl (dJ (d:=nI at') rfl ⟨_,m,(at':Int),ws.map nI,at',rfl,rfl,rfl,by rw[v2.oth m hmk];exact em,?_,rfl,(E.then ho v2).set hmk hmo hm,ws.set at' r.toNat,by rw[List.length_set];exact hwl,?_,fun z=>absurd hwd z,?_⟩))
   ·unfold qt
    rw[if_pos (by omega),if_pos (by rw[List.length_map];omega)]
    simp
   ·intro w hw
    rcases List.mem_or_eq_of_mem_set hw with z | z
    ·exact hws w z
    ·subst z;omega
   ·rw[jk (x:= .lst (ws.map nI)) (by rw[v2.oth m hmk];exact em),List.map_set]
    unfold nI
    rw[Int.toNat_of_nonneg h1]
 | false=>
   rw[if_neg (by decide)]
   exact tR ⟨rfl,E,ws,hwl,hws,fun _=>rfl,em⟩
theorem Ba{S S1:aU}{k q o:Nat}{ks:List Int}{ss:List Str}{i:Nat}{a6 a7 a8 a9 a10:Option V3}{os:List (Str × List Nat)}(hq:q≠k)(hk:k < S.length)(ho:o=S.length)(h0:0 < ks.length)(hn:ks.length < 10000)(hss:ss.length=8)(hi:i < 6)(hl:os.length < 100)(eS:S[q]? =some (.lst (ks.map .int)))(E:OS k o (os.map v8) S S1) :
 W3 (jX (oE k q o ss (some (.d (nI i))) a6 a7 a8 a9 a10) S1) fun ou S2=>∃δ2,ou= .nx δ2∧(∃b5 b6 b7 b8 b9 b10,δ2=oE k q o ss b5 b6 b7 b8 b9 b10)∧∃x:Str × List Nat,((1≤x.2.length∧x.2.length≤3)∧(∀w∈x.2,w < ks.length)∧∀a b,x.2=[a,b]→ks.getD a 0=ks.getD b 0)∧OS k o ((os++[x]).map v8) S S2:=by
 have hz:sizeLine=16777216:=sizeLine_eq
 have hqS:q < S.length:=(List.getElem?_eq_some_iff.mp eS).1
 have hok:o≠k:=by omega
 have keq:∀{S2:aU} {L:List D},OS k o L S S2→S2[q]? =some (.lst (ks.map .int)):=fun E2=>by rw[E2.oth q hqS hq];exact eS
 unfold jX oE
 refine aX <| bJ (by simp only[List.length_cons,List.length_nil,List.length_set];omega) <| B4 <| tU (d:= .int ((ks.length:Int) - 1)) (az (a:= .int ks.length) (b:= .int 1) (jw (keq E) rfl) rfl rfl) rfl <| wX (k:=k) rfl E.p (jw (keq E) rfl) (by omega) (by omega) fun r S2 h1 h2 v2=>⟨_,_,nI ((ks.length:Int) - 1 - r).toNat,rfl,rfl,?_,_,rfl,?_⟩
 ·show R.ok (D.int ((ks.length:Int) - 1 - r))=R.ok (D.int ((((ks.length:Int) - 1 - r).toNat:Nat):Int))
  rw[Int.toNat_of_nonneg (by omega)]
 simp only[List.set_cons_succ,List.set_cons_zero]
 have hw:((ks.length:Int) - 1 - r).toNat < ks.length:=by omega
 generalize ((ks.length:Int) - 1 - r).toNat=w at hw
 have E2:=E.then hok v2
 refine aX <| bJ (by simp only[List.length_cons,List.length_nil,List.length_set];omega) <| xR (q:=q) (keq E2) hw hn rfl (nQ (tU (d:= .int ks.length) (jw (keq E2) rfl) rfl ⟨ks.length,rfl,by omega,rfl,rfl⟩)) fun l hl0 hl1 hl2=>⟨_,rfl,?_⟩
 simp only[List.set_cons_succ,List.set_cons_zero]
 refine aX <| bJ (by simp only[List.length_cons,List.length_nil,List.length_set];omega) <| zt <| dJ (d:= .lst GO) rfl <| draw (k:=k) rfl E2.p rfl (by omega) (by omega) fun r3 S3 h3 h4 v3=>?_
 obtain⟨wd,hw1,hw3,ewd⟩:=F4 r3.toNat (by omega)
 rw[Int.toNat_of_nonneg h3] at ewd
 refine⟨_,_,_,rfl,rfl,ewd,_,rfl,?_⟩
 simp only[List.set_cons_succ,List.set_cons_zero]
 have E3:=E2.then hok v3
 refine aX <| bJ (by simp only[List.length_cons,List.length_nil,List.length_set];omega) <| D1 <| dJ (d:= .lst [nI w]) rfl ?_
 refine mO (fun j ds S4=>OS k o (os.map v8) S S4∧∃ws:List Nat,ds=ws.map nI∧(∀x∈ws,x < ks.length∧ks.getD x 0=ks.getD w 0)∧ws.length=j) (oX (eA (n:=wd - 1) ?_ (by omega)) ⟨by simp [bU];omega,⟨E3,[],rfl,by simp,rfl⟩,?_,?_⟩)
 ·refine az (a:=nI wd) (b:= .int 1) rfl rfl ?_
  show R.ok (D.int ((wd:Int) - 1))=R.ok (D.int (((wd - 1:Nat)):Int))
  rw[Int.ofNat_sub hw1];rfl
 ·rintro j v ds S4 hv ⟨E4,ws,rfl,hws,hwl⟩
  refine⟨[some v,some (.loc k),some (.d (.lst (l.map nI)))],rfl,Ej ?_⟩
  rw[if_pos rfl]
  refine xg (k:=k) (l:=l) (dJ rfl ⟨rfl,rfl⟩) rfl E4.p (aL (ds:=[.lst (l.map nI)]) rfl (by rw[kx,List.length_map])) hl0 hl1 fun x S5 hx v5=>⟨nI x,rfl,E4.then hok v5,ws++[x],by simp,?_,by simp [hwl]⟩
  intro y hy
  rcases List.mem_append.mp hy with z | z
  ·exact hws y z
  ·rw[List.mem_singleton] at z;subst z;exact hl2 _ hx
 ·rintro ds S4 ⟨E4,ws,rfl,hws,hwl⟩
  have hrl:((bU 0 (wd - 1)).map V3.d).length=wd - 1:=by simp [bU]
  rw[hrl] at hwl
  refine⟨[nI w],ws.map nI,rfl,rfl,by rw[List.length_map];simp;omega,_,rfl,?_⟩
  simp only[List.set_cons_succ,List.set_cons_zero]
  have hle:=E4.len
  have ho4:o < S4.length:=(List.getElem?_eq_some_iff.mp E4.gl).1
  have E5:=E4.push (M:=[nI w]++ws.map nI) ho4
  have em5:(S4++[SO.lst ([nI w]++ws.map nI)])[S4.length]? =some (.lst ((w ::ws).map nI)):=bz _ _
  have hmk:S4.length≠k:=by omega
  have hmo:S4.length≠o:=by omega
  have hmS:S.length≤S4.length:=by omega
  have hws1:∀x∈w ::ws,x < ks.length:=fun x hx=>by
   rcases List.mem_cons.mp hx with z | z
   ·subst z;exact hw
   ·exact(hws x z).1
  generalize S4++[SO.lst ([nI w]++ws.map nI)]=S5 at E5 em5
  generalize S4.length=m at em5 hmk hmo hmS
  refine aX <| bJ (by simp only[List.length_cons,List.length_nil,List.length_set];omega) <| draw (k:=k) rfl E5.p rfl (by omega) (by omega) fun way S6 h5 h6 v6=>⟨_,rfl,?_⟩
  simp only[List.set_cons_succ,List.set_cons_zero]
  have E6:=E5.then hok v6
  have em6:S6[m]? =some (.lst ((w ::ws).map nI)):=by rw[v6.oth m hmk];exact em5
  refine aX ((anew (ss:=ss) (i:=i) (wd:=wd) (way:=way) (lim:=0) (at':=2) hq hqS hok hmk hmo hmS h0 hn eS (by simp;omega) (by omega) hws1 E6 em6).mono fun ou S7 ⟨e7,E7,ws7,hl7,hw7,hs7,em7⟩=>⟨_,e7,?_⟩)
  refine aX ((anew (ss:=ss) (i:=i) (wd:=wd) (way:=way) (lim:=1) (at':=1) hq hqS hok hmk hmo hmS h0 hn eS hl7 (by omega) hw7 E7 em7).mono fun ou S8 ⟨e8,E8,ws8,hl8,hw8,hs8,em8⟩=>⟨_,e8,?_⟩)
  unfold oE
  refine iS (k:=o) rfl ⟨_,E8.gl⟩ (tU (d:=v8 (ss[i]'(by omega),ws8)) ?_ ?_ ⟨_,_,rfl,E8.gl,by rw[List.length_map];omega,_,rfl,⟨_,_,_,_,_,_,rfl⟩,(ss[i]'(by omega),ws8),⟨⟨by show 1≤ws8.length;omega,by show ws8.length≤3;omega⟩,hw8,?_⟩,?_⟩)
  ·refine gg (aK (az (a:= .lst (ss.map .str)) (b:=nI i) rfl rfl (jt (n4 (by rw[List.getElem?_map,List.getElem?_eq_getElem (by omega)];rfl)))) (aK (wa rfl em8) rfl)) (by simp;omega)
  ·unfold v8 ku jd
   rw[show ku (.str _)=true from by unfold ku;rfl]
   unfold jd
   rw[mX]
   unfold jd
   rfl
  ·intro a b hab
   have hab:ws8=[a,b]:=hab
   have h2:wd=2:=by rw[←hl8,hab];rfl
   rw[hs8 (by omega),hs7 (by omega)] at hab
   cases hab
   exact((hws b (by simp)).2).symm
  ·rw[List.map_append]
   exact E8.put hok (by omega)
theorem yB{S:aU}{k q:Nat}{ks:List Int}{ss:List Str}(p:oW k S)(hq:q≠k)(e:S[q]? =some (.lst (ks.map .int)))(h0:0 < ks.length)(hn:ks.length < 10000)(hss:ss.length=8){Q:V3→aU→Prop}
 (h:∀(os:List (Str × List Nat)) S1,1≤os.length→os.length < 100→(∀x∈os,(1≤x.2.length∧x.2.length≤3)∧(∀w∈x.2,w < ks.length)∧∀a b,x.2=[a,b]→ks.getD a 0=ks.getD b 0)→Ev k S S1→Q (.d (.lst (os.map v8))) S1):W3 (g_ [.loc k, .loc q, .d (.lst (ss.map .str)), .d (.int 6)] S) Q:=by
 have hz:sizeLine=16777216:=sizeLine_eq
 have hk:=p.lt
 unfold g_
 refine rM (u6 rfl ?_)
 simp only[bS,gM,List.map_cons,List.map_nil,List.length_cons,List.length_nil,List.replicate,List.cons_append,List.nil_append,Nat.reduceAdd,Nat.reduceSub]
 unfold l7
 refine aX <| bJ (by simp only[List.length_cons,List.length_nil,List.length_set];omega) <| jG (ds:=[]) rfl ⟨_,rfl,?_⟩
 simp only[List.set_cons_succ,List.set_cons_zero]
 have E1:OS k S.length (([]:List (Str × List Nat)).map v8) S (S++[.lst []]):=⟨p.push [],by simp,fun j hj _=>List.getElem?_append_left hj,bz _ _⟩
 refine aX <| iC <| nQ <| B4 <| dJ (d:= .int 1) rfl <| draw (k:=k) rfl E1.p rfl (by omega) (by omega) fun r S2 h1 h2 v2=>⟨_,_, .int ((1+r).toNat:Nat),rfl,rfl,by rw[Int.toNat_of_nonneg (by omega)];rfl,(1+r).toNat,rfl,by omega,?_⟩
 have E2:=E1.then (by omega) v2
 refine(cD (fun i δ S3=>(∃b5 b6 b7 b8 b9 b10,δ=oE k q S.length ss b5 b6 b7 b8 b9 b10)∧∃os:List (Str × List Nat),os.length=i∧(∀x∈os,(1≤x.2.length∧x.2.length≤3)∧(∀w∈x.2,w < ks.length)∧∀a b,x.2=[a,b]→ks.getD a 0=ks.getD b 0)∧OS k S.length (os.map v8) S S3)
  ⟨⟨_,_,_,_,_,_,rfl⟩,[],rfl,by simp,E2⟩ ?_).mono fun o S3 ⟨δ3,e3,⟨b5,b6,b7,b8,b9,b10,hδ⟩,os,hol,hos,E3⟩=>⟨δ3,e3,?_⟩
 ·rintro i v δ S3 hv ⟨⟨b5,b6,b7,b8,b9,b10,rfl⟩,os,hol,hos,E3⟩
  rw[List.getElem?_map] at hv
  cases qq:(bU 0 (1+r).toNat)[i]? with
  | none=>rw [qq] at hv;cases hv
  | some d0=>
    rw[qq] at hv
    obtain⟨hi,rfl⟩:=ke qq
    cases hv
    refine⟨oE k q S.length ss (some (.d (nI i))) b6 b7 b8 b9 b10,rfl,?_⟩
    refine(Ba hq hk rfl h0 hn hss (by omega) (by omega) e E3).mono fun ou S4 ⟨δ4,e4,h4,x,hx,E4⟩=>⟨δ4,e4,h4,os++[x],by simp [hol],?_,E4⟩
    intro y hy
    rcases List.mem_append.mp hy with z | z
    ·exact hos y z
    ·rw[List.mem_singleton] at z;subst z;exact hx
 have hrl:((bU 0 (1+r).toNat).map V3.d).length=(1+r).toNat:=by simp [bU]
 rw[hrl] at hol
 subst hδ
 unfold oE
 refine gC (w_var rfl ⟨_,rfl,E3.p.1,by unfold ft;exact decide_eq_true (Nat.le_refl _),_,ji E3.gl,?_⟩)
 have hle:=E3.len
 refine h os _ (by omega) (by omega) hos ⟨⟨E3.p.1.take _,?_⟩,by rw[List.length_take];omega,fun j hj=>?_⟩
 ·obtain⟨_,a,c,e⟩:=E3.p
  exact⟨a,c,by rw[List.getElem?_take_of_lt hk];exact e⟩
 ·by_cases hjl:j < S.length
  ·rw[List.getElem?_take_of_lt hjl,E3.oth _ hjl hj]
  ·rw[List.getElem?_eq_none (by rw[List.length_take];omega),List.getElem?_eq_none (by omega)]
end K15
end
section
set_option maxRecDepth 100000
set_option maxHeartbeats 4000000
namespace K15
open PySem PySem.Spec PyProof.Rows L2 L3 MT
structure IS (k a b:Nat) (l:List (Str × Nat)) (ks:List Int) (S S1:aU):Prop where
 p:oW k S1
 len:S.length+2≤S1.length
 oth:∀j,j < S.length→j≠k→S1[j]? =S[j]?
 ea:S1[a]? =some (.lst (l.map MT.inD))
 eb:S1[b]? =some (.lst (ks.map .int))
 hb:S.length < b
noncomputable def iE(mi ms:Int)(k a b:Nat)(cells:D)(ss:List Str)(a7 a8:Option V3):DE:=[some (.loc k),some (.d cells),some (.d (.int mi)),some (.d (.int ms)),some (.d (.lst (ss.map .str))),some (.loc a),some (.loc b),a7,a8,none,none,none,none,none]
theorem zZ(c:Int)(n:Nat):(List.replicate n [D.int c]).flatten=(List.replicate n c).map D.int:=by
 induction n with
 | zero=>rfl
 | succ n ih=>rw [List.replicate_succ,List.flatten_cons,ih,List.replicate_succ];rfl
theorem FY{f:aw→R (List D)}{g:FD}{δ:aw}{ds:List D}{n:Nat}(h1:f δ= .ok ds)(h2:g δ= .ok (.int n))(hn:n < 1000000)(hl:ds.length*n≤sizeLine):DV f g δ= .ok (List.replicate n ds).flatten:=by
 unfold DV
 rw[h1,R.aR,h2,R.aR]
 show R.bZ (decide (0≤(n:Int)∧(n:Int) < 1000000∧ds.length*(n:Int).toNat≤sizeLine)) _=_
 rw[bY _ ⟨by omega,by omega,by rw[Int.toNat_natCast];exact hl⟩,Int.toNat_natCast]
theorem DW{mi ms:Int}{S S1:aU}{k a b i:Nat}{cells:D}{ss:List Str}{a8:Option V3}{l:List (Str × Nat)}{ks:List Int}(hk:k < S.length)(ha:a=S.length)(hss:ss.length=8)(hi:i < 6)(hl:l.length < 100)(hks:ks.length < 1000)(E:IS k a b l ks S S1) :
 W3 (k5 (iE mi ms k a b cells ss (some (.d (nI i))) a8) S1) fun o S2=>∃δ2,o= .nx δ2∧∃b' a8',δ2=iE mi ms k a b' cells ss (some (.d (nI i))) a8'∧∃(s:Str) (w:Nat),1≤w∧w≤3∧IS k a b' (l++[(s,w)]) (ks++List.replicate w (i:Int)) S S2:=by
 have hz:sizeLine=16777216:=sizeLine_eq
 have hbS:=E.hb
 have hbl:b < S1.length:=(List.getElem?_eq_some_iff.mp E.eb).1
 unfold k5 iE
 refine aX <| bJ (by simp only[List.length_cons,List.length_nil,List.length_set];omega) <| D3 (k:=k) rfl E.p (by omega) (by omega) fun w S2 h1 h2 v2=>⟨_,rfl,?_⟩
 simp only[List.set_cons_succ,List.set_cons_zero]
 have ea2:S2[a]? =some (.lst (l.map MT.inD)):=by rw[v2.oth a (by omega)];exact E.ea
 have eb2:S2[b]? =some (.lst (ks.map .int)):=by rw[v2.oth b (by omega)];exact E.eb
 refine aX <| iS (k:=a) rfl ⟨_,ea2⟩ <| dJ (d:=MT.inD (ss[7 - i]'(by omega),w)) ?_ ⟨_,_,rfl,ea2,by rw[List.length_map];omega,_,rfl,?_⟩
 ·refine gg (aK (az (a:= .lst (ss.map .str)) (b:=nI (7 - i)) rfl ?_ (jt (n4 (by rw[List.getElem?_map,List.getElem?_eq_getElem (by omega)];rfl)))) (aK rfl rfl)) (by simp;omega)
  refine az (a:= .int 7) (b:=nI i) rfl rfl ?_
  show R.ok (D.int (7 - (i:Int)))=R.ok (D.int ((7 - i:Nat):Int))
  rw[Int.ofNat_sub (by omega)];rfl
 have eb3:(S2.set a (.lst (l.map MT.inD++[MT.inD (ss[7 - i]'(by omega),w)])))[b]? =some (.lst (ks.map .int)):=by rw[List.getElem?_set_ne (by omega)];exact eb2
 have ea3:(S2.set a (.lst (l.map MT.inD++[MT.inD (ss[7 - i]'(by omega),w)])))[a]? =some (.lst (l.map MT.inD++[MT.inD (ss[7 - i]'(by omega),w)])):=jk ea2
 have p3:oW k (S2.set a (.lst (l.map MT.inD++[MT.inD (ss[7 - i]'(by omega),w)]))):=by
  obtain⟨f,x,c,e⟩:=v2.p
  exact⟨f.set _ (lN _),x,c,by rw[List.getElem?_set_ne (by omega)];exact e⟩
 have hl3:(S2.set a (.lst (l.map MT.inD++[MT.inD (ss[7 - i]'(by omega),w)]))).length=S1.length:=by rw[List.length_set,v2.len]
 have ho3:∀j,j < S.length→j≠k→(S2.set a (.lst (l.map MT.inD++[MT.inD (ss[7 - i]'(by omega),w)])))[j]? =S[j]?:=fun j hj hk=>by rw[List.getElem?_set_ne (by omega),v2.oth j hk];exact E.oth j hj hk
 generalize S2.set a (.lst (l.map MT.inD++[MT.inD (ss[7 - i]'(by omega),w)]))=S3 at eb3 ea3 p3 hl3 ho3
 refine bJ (by simp only[List.length_cons,List.length_nil,List.length_set];omega) <| D1 <| w_var (v:= .loc b) rfl <| dJ (d:= .lst ((List.replicate w (i:Int)).map .int)) ?_ ⟨ks.map .int,(List.replicate w (i:Int)).map .int,by unfold vY di;simp only[eb3],rfl,by rw[List.length_map,List.length_map,List.length_replicate];omega,_,rfl,S3.length,_,rfl,ss[7 - i]'(by omega),w,h1,by omega,?_⟩
 ·refine e_ ?_
  rw[FY (n:=w) (ds:=[nI i]) (px rfl (by simp;omega)) rfl (by omega) (by simp;omega)]
  unfold nI
  rw[zZ]
 ·have hE:=E.len
  refine⟨p3.push _,by rw[List.length_append];omega,fun j hj hk=>by rw[List.getElem?_append_left (by omega)];exact ho3 j hj hk,?_,?_,by omega⟩
  ·rw[List.getElem?_append_left (by omega),List.map_append];exact ea3
  ·rw[List.map_append];exact bz _ _
structure NS (k a b c:Nat) (l:List (Str × Nat)) (ks:List Int) (gs:List Gt) (S S1:aU):Prop where
 p:oW k S1
 len:S.length+3≤S1.length
 oth:∀j,j < S.length→j≠k→S1[j]? =S[j]?
 ea:S1[a]? =some (.lst (l.map MT.inD))
 eb:S1[b]? =some (.lst (ks.map .int))
 ec:S1[c]? =some (.lst (gs.map gK))
noncomputable def nE(mi ms:Int)(k a b c n:Nat)(cells:D)(ss:List Str)(a7 a8 a11 a12 a13:Option V3):DE:=[some (.loc k),some (.d cells),some (.d (.int mi)),some (.d (.int ms)),some (.d (.lst (ss.map .str))),some (.loc a),some (.loc b),a7,a8,some (.d (nI n)),some (.loc c),a11,a12,a13]
theorem Er(g:Gt):ku (gK g)=true:=by
 unfold gK ku jd
 rw[show ku (.str _)=true from by unfold ku;rfl]
 unfold jd
 rw[mX]
 unfold jd
 rw[show ku (.bl _)=true from by unfold ku;rfl]
 unfold jd
 rfl
theorem ne_nil(gs:List Gt)(hg:∀g∈gs,lB 100000 g):EY (.lst (gs.map gK)) (.lst [])= .ok gs.isEmpty:=by
 have f:ka 4 (.lst (gs.map gK)):=ka.lst fun d hd=>by
  obtain⟨g,h,rfl⟩:=List.mem_map.mp hd
  have hk:=(hg g h).1
  refine ka.tup fun x hx=>?_
  simp only[List.mem_cons,List.not_mem_nil,or_false] at hx
  rcases hx with rfl | rfl | rfl
  ·refine(ka.str ?_).mono (by omega)
   match g.1,hk with
   | 0,_=>decide+kernel
   | 1,_=>decide+kernel
   | 2,_=>decide+kernel
   | 3,_=>decide+kernel
   | 4,_=>decide+kernel
  ·refine(ka.tup (n:=0) fun y hy=>?_).mono (by omega)
   obtain⟨z,_,rfl⟩:=List.mem_map.mp hy
   exact ka.int _
  ·exact(ka.bl _).mono (by omega)
 rw[Bz,f.pl,f.sh (by omega),(ka.lst (n:=0) (ds:=[]) (by simp)).pl,(ka.lst (n:=0) (ds:=[]) (by simp)).sh (by omega)]
 cases gs with
 | nil=>rfl
 | cons g gs=>rfl
theorem NS.own{k a b c m:Nat}{l:List (Str × Nat)}{ks:List Int}{gs:List Gt}{S S1 S2:aU}(E:NS k a b c l ks gs S S1)(hm:S.length≤m)(hk:k < S.length)(ha:a≠m)(hb:b≠m)(hc:c≠m)(v:Ev m S1 S2):NS k a b c l ks gs S S2:=by
 obtain⟨f,x,y,e⟩:=E.p
 exact⟨⟨v.p.1,x,y,by rw[v.oth k (by omega)];exact e⟩,by rw[v.len];exact E.len,fun j hj hjk=>by rw[v.oth j (by omega)];exact E.oth j hj hjk,by rw[v.oth a ha];exact E.ea,by rw[v.oth b hb];exact E.eb,by rw[v.oth c hc];exact E.ec⟩
theorem NS.add{k a b c:Nat}{l:List (Str × Nat)}{ks:List Int}{gs:List Gt}{g:Gt}{x:Int}{S S1:aU}(E:NS k a b c l ks gs S S1)(hk:k < S.length)(hbS:S.length≤b)(hcS:S.length≤c)(hab:a≠b)(hac:a≠c)(hbc:b≠c) :
 NS k a b c l (ks++[x]) (gs++[g]) S ((S1.set c (.lst (gs.map gK++[gK g]))).set b (.lst (ks.map .int++[.int x]))):=by
 obtain⟨f,u,y,e⟩:=E.p
 refine⟨⟨(f.set _ (lN _)).set _ (lN _),u,y,by rw[List.getElem?_set_ne (by omega),List.getElem?_set_ne (by omega)];exact e⟩,by rw[List.length_set,List.length_set];exact E.len,fun j hj hjk=>by rw[List.getElem?_set_ne (by omega),List.getElem?_set_ne (by omega)];exact E.oth j hj hjk,
  by rw[List.getElem?_set_ne (Ne.symm hab),List.getElem?_set_ne (Ne.symm hac)];exact E.ea,?_,?_⟩
 ·rw[List.map_append];exact jk (x:= .lst (ks.map .int)) (by rw[List.getElem?_set_ne (Ne.symm hbc)];exact E.eb)
 ·rw[List.getElem?_set_ne hbc,List.map_append];exact jk E.ec
theorem Eo{S:aU}{δ:DE}{i j c p:Nat}{gs:List Gt}{g:Gt}(hi:δ[i]? =some (some (.loc c)))(hj:δ[j]? =some (some (.d (nI p))))(e:S[c]? =some (.lst (gs.map gK)))(hg:gs[p]? =some g):e2 bX (ae i) (ae j) (bR S δ)= .ok (gK g):=by
 refine az (a:= .lst (gs.map gK)) (b:=nI p) ?_ ?_ (Ih hg)
 ·unfold ae bR
  rw[List.getElem?_map,hi]
  show(match some (match res S (.loc c) with | some d=>Sl.val d | none=> .un) with | some (.val d)=>R.ok d | _=> .no)=_
  rw[ji e]
 ·unfold ae bR
  rw[List.getElem?_map,hj]
  rfl
theorem Az{mi ms:Int}{S S1:aU}{k a b c n:Nat}{cells:D}{ss:List Str}{cell:Int}{a7 a8 a12 a13:Option V3}{l:List (Str × Nat)}{ks:List Int}{gs:List Gt}(hk:k < S.length)(haS:S.length≤a)(hbS:S.length≤b)(hcS:S.length≤c)(hab:a≠b)(hac:a≠c)(hbc:b≠c)
 (hn:0 < n) (hkn:ks.length=n+gs.length) (hks:ks.length < 10000) (hgs:∀(i:Nat) (g:Gt),gs[i]? =some g→lB (n+i) g) (E:NS k a b c l ks gs S S1) :
 W3 (kZ (nE mi ms k a b c n cells ss a7 a8 (some (.d (.int cell))) a12 a13) S1) fun o S2=>∃δ2,o= .nx δ2∧(∃b11 b12 b13,δ2=nE mi ms k a b c n cells ss a7 a8 b11 b12 b13)∧∃(g:Gt) (x:Int),lB ks.length g∧(x=(ks.length:Int)+10∨∃pl g0,gs[pl]? =some g0∧x=ks.getD (n+pl) 0∧g.1=g0.1∧g.2.1.map (ks.getD · 0)=g0.2.1.map (ks.getD · 0))∧NS k a b c l (ks++[x]) (gs++[g]) S S2:=by
 have hz:sizeLine=16777216:=sizeLine_eq
 have hgl:gs.length < 10000:=by omega
 have la:a < S1.length:=(List.getElem?_eq_some_iff.mp E.ea).1
 have lb:b < S1.length:=(List.getElem?_eq_some_iff.mp E.eb).1
 have lc:c < S1.length:=(List.getElem?_eq_some_iff.mp E.ec).1
 have hE:=E.len
 unfold kZ nE
 refine aX <| bJ (by simp only[List.length_cons,List.length_nil,List.length_set];omega) <| fk <| aO <| dJ (d:= .int cell) rfl <| cQ <| xV cell E.p.1 fun S2 p2 l2 o2=>⟨_,rfl,?_⟩
 simp only[List.set_cons_succ,List.set_cons_zero]
 have E2:NS k a b c l ks gs S S2:=by
  obtain⟨f,u,y,e⟩:=E.p
  exact⟨⟨p2.1,u,y,by rw[o2 k (by omega)];exact e⟩,by omega,fun j hj hjk=>by rw[o2 j (by omega)];exact E.oth j hj hjk,by rw[o2 a la];exact E.ea,by rw[o2 b lb];exact E.eb,by rw[o2 c lc];exact E.ec⟩
 have hmS:S.length≤S1.length:=by omega
 have ha:a≠S1.length:=by omega
 have hb:b≠S1.length:=by omega
 have hc:c≠S1.length:=by omega
 generalize S1.length=m at p2 l2 o2 hmS ha hb hc
 have gate:∀(S3:aU),NS k a b c l ks gs S S3→oW m S3→∀(a13':Option V3),W3 (bC (i0 10 (cf fU (ax (bK 12) (ax (bK 6) (ax (xP (ae 3)) ck))))) (i0 6 (xT (e2 ei (aA cC (aq (ae 6) aD)) (eC (.int 10)))))
  [some (.loc k),some (.d cells),some (.d (.int mi)),some (.d (.int ms)),some (.d (.lst (ss.map .str))),some (.loc a),some (.loc b),a7,a8,some (.d (nI n)),some (.loc c),some (.d (.int cell)),some (.loc m),a13'] S3)
  fun o S4=>∃δ2,o= .nx δ2∧(∃b11 b12 b13,δ2=nE mi ms k a b c n cells ss a7 a8 b11 b12 b13)∧∃(g:Gt) (x:Int),lB ks.length g∧(x=(ks.length:Int)+10∨∃pl g0,gs[pl]? =some g0∧x=ks.getD (n+pl) 0∧g.1=g0.1∧g.2.1.map (ks.getD · 0)=g0.2.1.map (ks.getD · 0))∧NS k a b c l (ks++[x]) (gs++[g]) S S4:=fun S3 E3 p3 a13'=>by
  refine aX <| iS (k:=c) rfl ⟨_,E3.ec⟩ <| fk <| aO <| w_var (v:= .loc m) rfl <| aO <| w_var (v:= .loc b) rfl <| aO <| dJ (d:= .int ms) rfl <| cQ <| yF (k:=m) p3 hb E3.eb (by omega) hks fun g S4 hg v4=>?_
  have E4:=E3.own hmS hk ha hb hc v4
  refine⟨gK g,_,rfl,E4.ec,by rw[List.length_map];omega,_,rfl,?_⟩
  have eb5:(S4.set c (.lst (gs.map gK++[gK g])))[b]? =some (.lst (ks.map .int)):=by rw[List.getElem?_set_ne (Ne.symm hbc)];exact E4.eb
  refine iS (k:=b) rfl ⟨_,eb5⟩ (tU (d:= .int ((ks.length:Int)+10)) (az (a:= .int ks.length) (b:= .int 10) (jw eb5 rfl) rfl rfl) rfl ⟨_,_,rfl,eb5,by rw[List.length_map];omega,_,rfl,⟨_,_,_,rfl⟩,g,(ks.length:Int)+10,hg, .inl rfl,E4.add hk hbS hcS hab hac hbc⟩)
 have hT:∀{S3:aU},NS k a b c l ks gs S S3→bT (b2 qN (ae 10) (eNew (dM aD))) [some (.loc k),some (.d cells),some (.d (.int mi)),some (.d (.int ms)),some (.d (.lst (ss.map .str))),some (.loc a),some (.loc b),a7,a8,some (.d (nI n)),some (.loc c),some (.d (.int cell)),some (.loc m),a13] S3= .ok (!gs.isEmpty) S3:=fun {S3} E3=>by
  unfold bT
  have:b2 qN (ae 10) (eNew (dM aD)) (bR S3 [some (.loc k),some (.d cells),some (.d (.int mi)),some (.d (.int ms)),some (.d (.lst (ss.map .str))),some (.loc a),some (.loc b),a7,a8,some (.d (nI n)),some (.loc c),some (.d (.int cell)),some (.loc m),a13])= .ok (!gs.isEmpty):=by
   refine ic (a:= .lst (gs.map gK)) (b:= .lst []) ?_ rfl ?_
   ·unfold ae bR
    show(match some (match res S3 (.loc c) with | some d=>Sl.val d | none=> .un) with | some (.val d)=>R.ok d | _=> .no)=_
    rw[ji E3.ec]
   ·unfold qN
    rw[ne_nil gs fun g hg=>?_]
    ·rfl
    ·obtain⟨i,hi⟩:=List.getElem?_of_mem hg
     obtain⟨g1,g2,g3⟩:=hgs i g hi
     have hil:=(List.getElem?_eq_some_iff.mp hi).1
     exact⟨g1,g2,fun w hw=>by have:=g3 w hw;omega⟩
  rw[this];rfl
 refine wx ?_
 unfold Ez
 refine W3.bind (W3.eq (hT E2) ?_)
 cases hgs0:gs with
 | nil=>
   subst hgs0
   exact W3.ok (gate S2 E2 p2 a13)
 | cons g0 gs0=>
   rw[←hgs0]
   have hne:gs.isEmpty=false:=by rw[hgs0];rfl
   have hpos:0 < gs.length:=by rw[hgs0];simp
   rw[hne]
   show W3 (Il _ _ _ _ S2) _
   refine IF <| draw (k:=m) rfl p2 rfl (by omega) (by omega) fun r S3 h1 h2 v3=>dJ (d:= .int 0) rfl ⟨_,_,decide (r=0),rfl,rfl,rfl,?_⟩
   have E3:=E2.own hmS hk ha hb hc v3
   by_cases hr:r=0
   ·rw[decide_eq_true hr,if_pos rfl]
    have lenG:aA cC (aq (ae 10) aD) (bR S3 [some (.loc k),some (.d cells),some (.d (.int mi)),some (.d (.int ms)),some (.d (.lst (ss.map .str))),some (.loc a),some (.loc b),a7,a8,some (.d (nI n)),some (.loc c),some (.d (.int cell)),some (.loc m),a13])= .ok (.int gs.length):=by
     refine aL (ds:=[.lst (gs.map gK)]) (aK ?_ rfl) (by rw[kx,List.length_map])
     unfold ae bR
     show(match some (match res S3 (.loc c) with | some d=>Sl.val d | none=> .un) with | some (.val d)=>R.ok d | _=> .no)=_
     rw[ji E3.ec]
    refine aX <| bJ (by simp only[List.length_cons,List.length_nil,List.length_set];omega) <| wX (k:=m) rfl v3.p lenG (by omega) (by omega) fun r4 S4 h3 h4 v4=>⟨_,rfl,?_⟩
    simp only[List.set_cons_succ,List.set_cons_zero]
    have E4:=E3.own hmS hk ha hb hc v4
    obtain⟨pl,hpl,epl⟩:∃pl:Nat,pl < gs.length∧D.int r4=nI pl:=⟨r4.toNat,by omega,by unfold nI;rw [Int.toNat_of_nonneg h3]⟩
    rw[epl]
    have hg4:gs[pl]? =some gs[pl]:=List.getElem?_eq_getElem hpl
    obtain⟨q1,q2,q3⟩:=hgs pl _ hg4
    have hgo:lB ks.length gs[pl]:=⟨q1,q2,fun w hw=>by have:=q3 w hw;omega⟩
    refine aX <| iS (k:=c) rfl ⟨_,E4.ec⟩ <| fk <| aO <| w_var (v:= .loc m) rfl <| aO <| tU (d:=gK gs[pl]) (Eo rfl rfl E4.ec hg4) (Er _) <| aO <| w_var (v:= .loc b) rfl <| cQ <| wR (k:=m) v4.p hb E4.eb hgo hks fun g S5 hg hg1 hgk v5=>?_
    have E5:=E4.own hmS hk ha hb hc v5
    refine⟨gK g,_,rfl,E5.ec,by rw[List.length_map];omega,_,rfl,?_⟩
    have eb6:(S5.set c (.lst (gs.map gK++[gK g])))[b]? =some (.lst (ks.map .int)):=by rw[List.getElem?_set_ne (Ne.symm hbc)];exact E5.eb
    have hix:n+pl < ks.length:=by omega
    refine iS (k:=b) rfl ⟨_,eb6⟩ (tU (d:= .int ks[n+pl]) ?_ rfl ⟨_,_,rfl,eb6,by rw[List.length_map];omega,_,rfl,⟨_,_,_,rfl⟩,g,ks[n+pl],hg, .inr ⟨pl,_,hg4,by rw[List.getD_eq_getElem?_getD,List.getElem?_eq_getElem hix];rfl,hg1,hgk⟩,E5.add hk hbS hcS hab hac hbc⟩)
    refine az (a:= .lst (ks.map .int)) (b:=nI (n+pl)) ?_ (az (a:=nI n) (b:=nI pl) rfl rfl ?_) (An hix)
    ·unfold ae bR
     show(match some (match res (S5.set c (.lst (gs.map gK++[gK g]))) (.loc b) with | some d=>Sl.val d | none=> .un) with | some (.val d)=>R.ok d | _=> .no)=_
     rw[ji eb6]
    ·show R.ok (D.int ((n:Int)+(pl:Int)))=R.ok (D.int ((n+pl:Nat):Int))
     rw[Int.natCast_add]
   ·rw[decide_eq_false hr,if_neg (by decide)]
    exact gate S3 E3 v3.p a13
end K15
end
section
set_option maxRecDepth 100000
set_option maxHeartbeats 4000000
namespace K15
open PySem PySem.Spec PyProof.Rows L2 L3 MT
noncomputable def pv(l:List (Str × Nat))(gs:List Gt)(ms:List M)(p n:Nat):Bool:=ib (jQ gs [] (cg l ms [] l.length) gs.length) n p
theorem pE{gs:List Gt}{t:List Int}{w0:List M}{n:Nat}:∀{j i:Nat},i≤j→j≤gs.length→n < w0.length+i→ib (jQ gs t w0 j) n=ib (jQ gs t w0 i) n
 | 0,i,h,_,_=>by rw[show i=0 by omega]
 | j+1,i,h,hj,hn=>by
   by_cases q:i=j+1
   ·rw[q]
   ·rw[←pE (j:=j) (i:=i) (by omega) (by omega) hn]
    conv=>lhs;unfold jQ
    rw[List.getElem?_eq_getElem (by omega:j < gs.length)]
    show ib (jQ gs t w0 j++[_]) n=_
    rw[pH (by rw[ll j (by omega)];omega)]
theorem x9{gs hs:List Gt}{t:List Int}{w0:List M}:∀i,i≤gs.length→jQ (gs++hs) t w0 i=jQ gs t w0 i
 | 0,_=>rfl
 | i+1,hi=>by
   unfold jQ
   rw[List.getElem?_append_left (by omega),List.getElem?_eq_getElem (by omega:i < gs.length),x9 i (by omega)]
theorem ua{l:List (Str × Nat)}{x:Str × Nat}{ms:List M}{bad:List Int}:∀i,i≤l.length→cg (l++[x]) ms bad i=cg l ms bad i
 | 0,_=>rfl
 | i+1,hi=>by
   unfold cg
   rw[List.getElem?_append_left (by omega),ua i (by omega)]
theorem rW{l:List (Str × Nat)}{ms:List M}{bad:List Int}(hb:l.length≤ms.length):∀i,i≤l.length→(cg l ms bad i).length=iW (l.take i)
 | 0,_=>rfl
 | i+1,hi=>by
   have h1:l[i]? =some l[i]:=List.getElem?_eq_getElem (by omega)
   have h2:ms[i]? =some ms[i]:=List.getElem?_eq_getElem (by omega)
   unfold cg
   rw[h1,h2]
   show(fg bad ms[i] l[i].2 (cg l ms bad i)).length=_
   rw[fT,rW hb i (by omega),List.take_add_one,h1]
   unfold iW
   simp only[Option.toList_some,List.map_append,List.sum_append,List.map_cons,List.map_nil,List.sum_cons,List.sum_nil]
   omega
theorem rE(b:M):∀m ws n,n < ws.length→ib (fg [] b m ws) n=ib ws n
 | 0,ws,n,h=>rfl
 | m+1,ws,n,h=>by unfold fg;rw [pH (by rw[fT];omega)];exact rE b m ws n h
theorem rT(b:M):∀m ws n,ws.length≤n→n < ws.length+m→ib (fg [] b m ws) n=b
 | 0,ws,n,h,h2=>by omega
 | m+1,ws,n,h,h2=>by
   have hl:=fT [] b m ws
   unfold fg
   by_cases q:n < ws.length+m
   ·rw[pH (by omega)];exact rT b m ws n h q
   ·rw[show n=(fg [] b m ws).length by omega,qe]
    funext p
    simp
structure Dl (l:List (Str × Nat)) (ks:List Int):Prop where
 len:ks.length=iW l
 v:∀n,n < ks.length→∃j:Nat,j < l.length∧ks.getD n 0=(j:Int)∧∀ms:List M,l.length≤ms.length→ib (cg l ms [] l.length) n=ms.getD j fun _=>false
theorem Dl.nil:Dl [] []:=⟨rfl,fun n h=>by simp at h⟩
theorem jL{ks:List Int}{xs:List Int}{n:Nat}(h:n < ks.length):(ks++xs).getD n 0=ks.getD n 0:=by rw[List.getD_eq_getElem?_getD,List.getElem?_append_left h,List.getD_eq_getElem?_getD]
theorem Dl.add{l:List (Str × Nat)}{ks:List Int}(h:Dl l ks)(s:Str)(w:Nat):Dl (l++[(s,w)]) (ks++List.replicate w (l.length:Int)):=by
 have hw:iW (l++[(s,w)])=iW l+w:=by simp [iW]
 refine⟨by rw[List.length_append,List.length_replicate,h.len,hw],fun n hn=>?_⟩
 rw[List.length_append,List.length_replicate] at hn
 have step:∀ms:List M,(l++[(s,w)]).length≤ms.length→cg (l++[(s,w)]) ms [] (l++[(s,w)]).length=fg [] (ms.getD l.length fun _=>false) w (cg l ms [] l.length)∧(cg l ms [] l.length).length=ks.length:=fun ms hms=>by
  rw[List.length_append] at hms ⊢
  have hms:l.length < ms.length:=hms
  refine⟨?_,by rw[rW (by omega) _ (Nat.le_refl _),List.take_length,h.len]⟩
  show cg (l++[(s,w)]) ms [] (l.length+1)=_
  conv=>lhs;unfold cg
  rw[List.getElem?_append_right (Nat.le_refl _),Nat.sub_self,List.getElem?_eq_getElem hms,ua _ (Nat.le_refl _),List.getD_eq_getElem?_getD,List.getElem?_eq_getElem hms]
  rfl
 by_cases q:n < ks.length
 ·obtain⟨j,hj,hk,hv⟩:=h.v n q
  refine⟨j,by rw[List.length_append];omega,by rw[jL q];exact hk,fun ms hms=>?_⟩
  obtain⟨e1,e2⟩:=step ms hms
  rw[e1,rE _ _ _ _ (by omega)]
  exact hv ms (by rw[List.length_append] at hms;omega)
 ·refine⟨l.length,by rw[List.length_append];simp,?_,fun ms hms=>?_⟩
  ·rw[List.getD_eq_getElem?_getD,List.getElem?_append_right (by omega),List.getElem?_replicate,if_pos (by omega)];rfl
  ·obtain⟨e1,e2⟩:=step ms hms
   rw[e1,rT _ _ _ _ (by omega) (by omega)]
structure KI (l:List (Str × Nat)) (gs:List Gt) (ks:List Int):Prop where
 len:ks.length=iW l+gs.length
 b:∀n,n < ks.length→ks.getD n 0 < (ks.length:Int)+10
 v:∀ms:List M,ms.length=l.length→∀p n n',n < ks.length→n' < ks.length→ks.getD n 0=ks.getD n' 0→pv l gs ms p n=pv l gs ms p n'
theorem Dl.ki{l:List (Str × Nat)}{ks:List Int}(h:Dl l ks)(hl:l.length≤9):KI l [] ks:=by
 refine⟨by rw[h.len];rfl,fun n hn=>?_,fun ms hms p n n' hn hn' e=>?_⟩
 ·obtain⟨j,hj,hk,_⟩:=h.v n hn
  rw[hk];omega
 ·obtain⟨j,hj,hk,hv⟩:=h.v n hn
  obtain⟨j',hj',hk',hv'⟩:=h.v n' hn'
  have:j=j':=by rw[hk,hk'] at e;omega
  subst this
  show ib (cg l ms [] l.length) n p=ib (cg l ms [] l.length) n' p
  rw[hv ms (by omega),hv' ms (by omega)]
section
variable {l:List (Str × Nat)} {gs:List Gt} {g:Gt} {ms:List M} {p n:Nat} {ks:List Int}
theorem Ag(hms:ms.length=l.length):(cg l ms [] l.length).length=iW l:=by rw[jI hms _ (Nat.le_refl _),List.take_length]
theorem Ao(hms:ms.length=l.length)(hn:n < iW l+gs.length):pv l (gs++[g]) ms p n=pv l gs ms p n:=by
 have h0:=Ag hms
 unfold pv
 rw[pE (gs:=gs++[g]) (i:=gs.length) (by rw[List.length_append];omega) (Nat.le_refl _) (by omega),x9 _ (Nat.le_refl _)]
theorem Ek{i:Nat}(hms:ms.length=l.length)(h:gs[i]? =some g)(hg:lB (iW l+i) g):pv l gs ms p (iW l+i)=gv g.1 (g.2.1.map (pv l gs ms p)):=by
 have h0:=Ag hms
 have hi:=(List.getElem?_eq_some_iff.mp h).1
 unfold pv
 rw[pE (i:=i+1) (by omega) (Nat.le_refl _) (by omega)]
 conv=>lhs;unfold jQ
 rw[h]
 show ib (jQ gs [] (cg l ms [] l.length) i++[fun p=>gF g (jQ gs [] (cg l ms [] l.length) i) p !=false]) (iW l+i) p=_
 have hl:=ll (gs:=gs) (turned:=[]) (w0:=cg l ms [] l.length) i (by omega)
 rw[show iW l+i=(jQ gs [] (cg l ms [] l.length) i).length by omega,qe]
 show(gv g.1 (g.2.1.map fun n=>ib (jQ gs [] (cg l ms [] l.length) i) n p) !=false)=_
 have:g.2.1.map (fun n=>ib (jQ gs [] (cg l ms [] l.length) i) n p)=g.2.1.map fun n=>ib (jQ gs [] (cg l ms [] l.length) gs.length) n p:=List.map_congr_left fun z hz=>by
  rw[pE (j:=gs.length) (i:=i) (by omega) (Nat.le_refl _) (by have:=hg.2.2 z hz;omega)]
 rw[this]
 simp
theorem BJ{f:Nat→Bool}{ks:List Int}{N:Nat}(hf:∀a b,a < N→b < N→ks.getD a 0=ks.getD b 0→f a=f b):∀{u v:List Nat},(∀x∈u,x < N)→(∀x∈v,x < N)→u.map (ks.getD · 0)=v.map (ks.getD · 0)→u.map f=v.map f
 | [],[],_,_,_=>rfl
 | [],_ ::_,_,_,h=>by simp at h
 | _ ::_,[],_,_,h=>by simp at h
 | a ::u,b ::v,h1,h2,h=>by
   rw[List.map_cons,List.map_cons] at h
   obtain⟨e1,e2⟩:=List.cons.inj h
   rw[List.map_cons,List.map_cons,hf a b (h1 a List.mem_cons_self) (h2 b List.mem_cons_self) e1,BJ hf (fun x hx=>h1 x (List.mem_cons_of_mem _ hx)) (fun x hx=>h2 x (List.mem_cons_of_mem _ hx)) e2]
theorem KI.add{x:Int}(h:KI l gs ks)(hgs:∀(i:Nat) (g:Gt),gs[i]? =some g→lB (iW l+i) g)(hg:lB ks.length g)
 (hx:x=(ks.length:Int)+10∨∃pl g0,gs[pl]? =some g0∧x=ks.getD (iW l+pl) 0∧g.1=g0.1∧g.2.1.map (ks.getD · 0)=g0.2.1.map (ks.getD · 0)):KI l (gs++[g]) (ks++[x]):=by
 have hl:=h.len
 have hlast:(ks++[x]).getD ks.length 0=x:=by rw[List.getD_eq_getElem?_getD,List.getElem?_append_right (Nat.le_refl _),Nat.sub_self];rfl
 have hll:(ks++[x]).length=ks.length+1:=by simp
 refine⟨by rw[hll,hl,List.length_append];rfl,fun n hn=>?_,?_⟩
 ·rw[hll] at hn ⊢
  by_cases q:n < ks.length
  ·rw[jL q];have:=h.b n q;omega
  ·rw[show n=ks.length by omega,hlast]
   rcases hx with rfl | ⟨pl,g0,h0,rfl,_⟩
   ·omega
   ·have:=h.b (iW l+pl) (by have:=(List.getElem?_eq_some_iff.mp h0).1;omega);omega
 ·intro ms hms p
  have new:∀pl g0,gs[pl]? =some g0→x=ks.getD (iW l+pl) 0→g.1=g0.1→g.2.1.map (ks.getD · 0)=g0.2.1.map (ks.getD · 0)→pv l (gs++[g]) ms p ks.length=pv l gs ms p (iW l+pl):=fun pl g0 h0 _ e1 e2=>by
   have hpl:=(List.getElem?_eq_some_iff.mp h0).1
   have hgat:(gs++[g])[gs.length]? =some g:=by rw[List.getElem?_append_right (Nat.le_refl _),Nat.sub_self];rfl
   rw[hl,Ek hms hgat (by rw[←hl];exact hg),Ek hms h0 (hgs pl g0 h0),e1]
   have e3:g.2.1.map (pv l (gs++[g]) ms p)=g.2.1.map (pv l gs ms p):=List.map_congr_left fun z hz=>Ao hms (by have:=hg.2.2 z hz;omega)
   rw[e3]
   congr 1
   exact BJ (N:=ks.length) (fun a b ha hb e=>h.v ms hms p a b ha hb e) hg.2.2 (fun z hz=>by have:=(hgs pl g0 h0).2.2 z hz;omega) e2
  have old:∀n,n < ks.length→pv l (gs++[g]) ms p n=pv l gs ms p n:=fun n hn=>Ao hms (by omega)
  have mix:∀n,n < ks.length→ks.getD n 0=x→pv l (gs++[g]) ms p n=pv l (gs++[g]) ms p ks.length:=fun n hn e=>by
   rcases hx with rfl | ⟨pl,g0,h0,hx,e1,e2⟩
   ·have:=h.b n hn;omega
   ·rw[new pl g0 h0 hx e1 e2,old n hn]
    exact h.v ms hms p n _ hn (by have:=(List.getElem?_eq_some_iff.mp h0).1;omega) (e.trans hx)
  intro n n' hn hn' e
  rw[hll] at hn hn'
  by_cases q:n < ks.length
  ·rw[jL q] at e
   by_cases q':n' < ks.length
   ·rw[jL q'] at e
    rw[old n q,old n' q']
    exact h.v ms hms p n n' q q' e
   ·have en':n'=ks.length:=by omega
    subst en'
    rw[hlast] at e
    exact mix n q e
  ·have en:n=ks.length:=by omega
   subst en
   by_cases q':n' < ks.length
   ·rw[jL q',hlast] at e
    exact(mix n' q' e.symm).symm
   ·rw[show n'=ks.length by omega]
end
end K15
end
section
set_option maxRecDepth 100000
set_option maxHeartbeats 4000000
namespace K15
open PySem PySem.Spec PyProof.Rows L2 L3 MT
theorem zP{mi ms:Int}{S:aU}{k:Nat}{cs:List Int}(p:oW k S)(hcs:cs.length < 1000)(hmi:1≤mi∧mi≤6){Q:V3→aU→Prop}
 (h:∀(l:List (Str × Nat)) (gs:List Gt) (os:List (Str × List Nat)) S1,(∀x∈l,1≤x.2∧x.2≤3)→1≤l.length→l.length≤6→gs.length=cs.length→(∀(i:Nat) (g:Gt),gs[i]? =some g→lB (iW l+i) g)→1≤os.length→os.length < 100→(∀x∈os,(1≤x.2.length∧x.2.length≤3)∧(∀w∈x.2,w < iW l+gs.length)∧∀a b,x.2=[a,b]→∀ms,ms.length=l.length→∀p,pv l gs ms p a=pv l gs ms p b)→Ev k S S1→Q (.d (bL l gs os)) S1) :
 W3 (jY [.loc k, .d (.lst (cs.map .int)), .d (.int mi), .d (.int ms)] S) Q:=by
 have hz:sizeLine=16777216:=sizeLine_eq
 have hk:=p.lt
 unfold jY
 refine rM (u6 rfl ?_)
 simp only[bS,lh,List.map_cons,List.map_nil,List.length_cons,List.length_nil,List.replicate,List.cons_append,List.nil_append,Nat.reduceAdd,Nat.reduceSub]
 unfold nH
 refine aX <| bJ (by simp only[List.length_cons,List.length_nil,List.length_set];omega) <| fk <| aO <| w_var (v:= .loc k) rfl <| aO <| dJ (d:= .int 8) rfl <| cQ <| zx (m:=8) p (by omega) fun ss S1 hss v1=>⟨_,rfl,?_⟩
 simp only[List.set_cons_succ,List.set_cons_zero]
 have l1:=v1.len
 refine aX <| bJ (by simp only[List.length_cons,List.length_nil,List.length_set];omega) <| jG (ds:=[]) rfl ⟨_,rfl,?_⟩
 simp only[List.set_cons_succ,List.set_cons_zero]
 refine aX <| bJ (by simp only[List.length_cons,List.length_nil,List.length_set];omega) <| jG (ds:=[]) rfl ⟨_,rfl,?_⟩
 simp only[List.set_cons_succ,List.set_cons_zero]
 rw[l1,show(S1++[SO.lst []]).length=S.length+1 by simp [l1]]
 have E0:IS k S.length (S.length+1) [] [] S (S1++[.lst []]++[.lst []]):=by
  refine⟨(v1.p.push []).push [],by simp [l1],fun j hj hk=>by rw[List.getElem?_append_left (by simp;omega),List.getElem?_append_left (by omega)];exact v1.oth j hk,?_,?_,by omega⟩
  ·rw[List.getElem?_append_left (by simp;omega),←l1];exact bz _ _
  ·have:=bz (S1++[SO.lst []]) (SO.lst [])
   rw[show(S1++[SO.lst []]).length=S.length+1 by simp [l1]] at this
   exact this
 refine aX <| iC <| nQ <| B4 <| dJ (d:= .int 1) rfl <| draw (k:=k) rfl E0.p rfl (by omega) (by omega) fun r S2 h1 h2 v2=>⟨_,_, .int ((1+r).toNat:Nat),rfl,rfl,by rw[Int.toNat_of_nonneg (by omega)];rfl,(1+r).toNat,rfl,by omega,?_⟩
 have E2:IS k S.length (S.length+1) [] [] S S2:=⟨v2.p,by rw[v2.len];exact E0.len,fun j hj hk=>(v2.oth j hk).trans (E0.oth j hj hk),by rw[v2.oth _ (by omega)];exact E0.ea,by rw[v2.oth _ (by omega)];exact E0.eb,by omega⟩
 refine(cD (fun i δ S3=>∃b a7 a8,δ=iE mi ms k S.length b (.lst (cs.map .int)) ss a7 a8∧∃(l:List (Str × Nat)) (ks:List Int),l.length=i∧(∀x∈l,1≤x.2∧x.2≤3)∧ks.length=iW l∧iW l≤3*i∧i≤iW l∧Dl l ks∧IS k S.length b l ks S S3)
  ⟨S.length+1,_,_,rfl,[],[],rfl,by simp,rfl,by simp [iW],by omega,Dl.nil,E2⟩ ?_).mono fun o S3 ⟨δ3,e3,b,a7,a8,hδ,l,ks,hl,hlw,hks,hw3,hw1,hKn,E3⟩=>⟨δ3,e3,?_⟩
 ·rintro i v δ S3 hv ⟨b,a7,a8,rfl,l,ks,hl,hlw,hks,hw3,hw1,hKn,E3⟩
  rw[List.getElem?_map] at hv
  cases qq:(bU 0 (1+r).toNat)[i]? with
  | none=>rw [qq] at hv;cases hv
  | some d0=>
    rw[qq] at hv
    obtain⟨hi,rfl⟩:=ke qq
    cases hv
    refine⟨iE mi ms k S.length b (.lst (cs.map .int)) ss (some (.d (nI i))) a8,rfl,?_⟩
    refine(DW hk rfl hss (by omega) (by omega) (by omega) E3).mono fun o S4 ⟨δ4,e4,b',a8',h4,s,w,hw1',hw3',E4⟩=>⟨δ4,e4,b',_,a8',h4,l++[(s,w)],ks++List.replicate w (i:Int),by simp [hl],?_,?_,?_,?_,by rw[←hl];exact hKn.add s w,E4⟩
    ·intro x hx
     rcases List.mem_append.mp hx with z | z
     ·exact hlw x z
     ·rw[List.mem_singleton] at z;subst z;exact⟨hw1',hw3'⟩
    ·rw[List.length_append,List.length_replicate,hks];simp [iW]
    ·have:iW (l++[(s,w)])=iW l+w:=by simp [iW]
     omega
    ·have:iW (l++[(s,w)])=iW l+w:=by simp [iW]
     omega
 have hrl:((bU 0 (1+r).toNat).map V3.d).length=(1+r).toNat:=by simp [bU]
 rw[hrl] at hl hw3 hw1
 subst hδ
 unfold iE
 refine aX <| bJ (by simp only[List.length_cons,List.length_nil,List.length_set];omega) <| tU (d:=nI (iW l)) ?_ rfl ⟨_,rfl,?_⟩
 ·refine(jw E3.eb rfl).trans ?_
  rw[hks];rfl
 simp only[List.set_cons_succ,List.set_cons_zero]
 refine aX <| bJ (by simp only[List.length_cons,List.length_nil,List.length_set];omega) <| jG (ds:=[]) rfl ⟨_,rfl,?_⟩
 simp only[List.set_cons_succ,List.set_cons_zero]
 have hE3:=E3.len
 have la:S.length < S3.length:=(List.getElem?_eq_some_iff.mp E3.ea).1
 have lb:b < S3.length:=(List.getElem?_eq_some_iff.mp E3.eb).1
 have hbS:=E3.hb
 have N0:NS k S.length b S3.length l ks ([]:List Gt) S (S3++[.lst []]):=⟨E3.p.push [],by simp;omega,fun j hj hk=>by rw[List.getElem?_append_left (by omega)];exact E3.oth j hj hk,by rw[List.getElem?_append_left la];exact E3.ea,by rw[List.getElem?_append_left lb];exact E3.eb,bz _ _⟩
 refine aX <| iC <| oX (ds:=cs.map .int) rfl ?_
 refine(cD (fun i δ S4=>(∃b11 b12 b13,δ=nE mi ms k S.length b S3.length (iW l) (.lst (cs.map .int)) ss a7 a8 b11 b12 b13)∧∃(ks:List Int) (gs:List Gt),gs.length=i∧ks.length=iW l+gs.length∧(∀(i:Nat) (g:Gt),gs[i]? =some g→lB (iW l+i) g)∧KI l gs ks∧NS k S.length b S3.length l ks gs S S4)
  ⟨⟨_,_,_,rfl⟩,ks,[],rfl,by simp [hks],by simp,hKn.ki (by omega),N0⟩ ?_).mono fun o S4 ⟨δ4,e4,⟨b11,b12,b13,hδ⟩,ks,gs,hgl,hkn,hgs,hKI,N4⟩=>⟨δ4,e4,?_⟩
 ·rintro i v δ S4 hv ⟨⟨b11,b12,b13,rfl⟩,ks,gs,hgl,hkn,hgs,hKI,N4⟩
  have hi:i < 1000:=by
   have:=(List.getElem?_eq_some_iff.mp hv).1
   rw[List.length_map,List.length_map] at this
   omega
  obtain⟨d0,hd0,rfl⟩:=List.mem_map.mp (List.mem_of_getElem? hv)
  obtain⟨c,_,rfl⟩:=List.mem_map.mp hd0
  refine⟨nE mi ms k S.length b S3.length (iW l) (.lst (cs.map .int)) ss a7 a8 (some (.d (.int c))) b12 b13,rfl,?_⟩
  refine(Az hk (by omega) (by omega) (by omega) (by omega) (by omega) (by omega) (by omega) hkn (by omega) hgs N4).mono fun o S5 ⟨δ5,e5,h5,g,x,hg,hgx,N5⟩=>⟨δ5,e5,h5,ks++[x],gs++[g],by simp [hgl],by simp [hkn];omega,?_,hKI.add hgs hg hgx,N5⟩
  intro j g' hj
  by_cases hjl:j < gs.length
  ·rw[List.getElem?_append_left hjl] at hj;exact hgs j g' hj
  ·rw[List.getElem?_append_right (by omega)] at hj
   have h0:j - gs.length=0:=by
    have:=(List.getElem?_eq_some_iff.mp hj).1
    simp at this;omega
   rw[h0] at hj
   cases hj
   rw[show iW l+j=ks.length by omega]
   exact hg
 rw[List.length_map,List.length_map] at hgl
 subst hδ
 unfold nE
 refine gC <| xA <| aO <| w_var (v:= .loc S.length) rfl <| aO <| w_var (v:= .loc S3.length) rfl <| aO <| fk <| aO <| w_var (v:= .loc k) rfl <| aO <| w_var (v:= .loc b) rfl <| aO <| dJ (d:= .lst (ss.map .str)) rfl <| aO <| dJ (d:= .int 6) rfl <| cQ <| yB N4.p (by omega) N4.eb (by omega) (by omega) hss fun os S5 hol1 hol hos v5=>cQ ⟨by simp;omega,_,rfl,?_⟩
 have ea5:S5[S.length]? =some (.lst (l.map MT.inD)):=by rw[v5.oth _ (by omega)];exact N4.ea
 have ec5:S5[S3.length]? =some (.lst (gs.map gK)):=by rw[v5.oth _ (by omega)];exact N4.ec
 have hl5:=v5.len
 have hN4:=N4.len
 refine⟨v5.p.1,?_,bL l gs os,?_,?_⟩
 ·show ft S.length (.tup [.loc S.length, .loc S3.length, .d (.lst (os.map v8))])=true
  simp [ft,mD];omega
 ·show res S5 (.tup [.loc S.length, .loc S3.length, .d (.lst (os.map v8))])=_
  simp [res,l8,ea5,ec5,bL]
 ·refine h l gs os _ hlw (by omega) (by omega) (by omega) hgs hol1 hol (fun x hx=>⟨(hos x hx).1,by have:=(hos x hx).2.1;rw [hkn] at this;exact this,fun a b hab ms hms p=>hKI.v ms hms p a b ((hos x hx).2.1 a (by rw[hab];simp)) ((hos x hx).2.1 b (by rw[hab];simp)) ((hos x hx).2.2 a b hab)⟩) ⟨⟨v5.p.1.take _,?_⟩,by rw[List.length_take];omega,fun j hj=>?_⟩
  ·obtain⟨_,x,c,e⟩:=v5.p
   exact⟨x,c,by rw[List.getElem?_take_of_lt hk];exact e⟩
  ·by_cases hjl:j < S.length
   ·rw[List.getElem?_take_of_lt hjl,v5.oth j hj,N4.oth j hjl hj]
   ·rw[List.getElem?_eq_none (by rw[List.length_take];omega),List.getElem?_eq_none (by omega)]
end K15
end
section
set_option maxRecDepth 100000
set_option maxHeartbeats 4000000
namespace K15
open PySem PySem.Spec PyProof.Rows L2 L3 MT
noncomputable abbrev f0:M:=fun _=>false
theorem Bf{ws:List M}{b:M}{n:Nat}:ib (ws++[b]) n=if n < ws.length then ib ws n else if n=ws.length then b else f0:=by
 by_cases q:n < ws.length
 ·rw[if_pos q,pH q]
 ·rw[if_neg q]
  by_cases r:n=ws.length
  ·rw[if_pos r,r,qe]
  ·rw[if_neg r]
   unfold ib
   rw[List.getD_eq_getElem?_getD,List.getElem?_eq_none (by simp;omega)];rfl
section
variable {ins:List (Str × Nat)} {gs:List Gt} {ms ms':List M} {t bad:List Int} {p q:Nat}
noncomputable def vc(p q:Nat)(ws ws':List M):Prop:=ws.length=ws'.length∧∀n,ib ws n p=ib ws' n q
theorem vc.app{ws ws':List M}{b b':M}(h:vc p q ws ws')(hb:b p=b' q):vc p q (ws++[b]) (ws'++[b']):=by
 refine⟨by rw[List.length_append,List.length_append,h.1];rfl,fun n=>?_⟩
 rw[Bf,Bf,h.1]
 by_cases r:n < ws'.length
 ·rw[if_pos r,if_pos r];exact h.2 n
 ·rw[if_neg r,if_neg r]
  by_cases r2:n=ws'.length
  ·rw[if_pos r2,if_pos r2];exact hb
  ·rw[if_neg r2,if_neg r2]
theorem vc.row{b b':M}(hb:b p=b' q):∀m {ws ws':List M},vc p q ws ws'→vc p q (fg bad b m ws) (fg bad b' m ws')
 | 0,ws,ws',h=>h
 | m+1,ws,ws',h=>by
   have ih:=vc.row hb m h
   unfold fg
   refine ih.app ?_
   rw[hb,ih.1]
theorem vc.JX(h1:ms.length=ins.length)(h2:ms'.length=ins.length)(h:∀j,j < ins.length→ms.getD j f0 p=ms'.getD j f0 q):∀i,i≤ins.length→vc p q (cg ins ms bad i) (cg ins ms' bad i)
 | 0,_=>⟨rfl,fun n=>rfl⟩
 | i+1,hi=>by
   have e1:ms[i]? =some ms[i]:=List.getElem?_eq_getElem (by omega)
   have e2:ms'[i]? =some ms'[i]:=List.getElem?_eq_getElem (by omega)
   have hh:=h i (by omega)
   rw[List.getD_eq_getElem?_getD,e1,List.getD_eq_getElem?_getD,e2] at hh
   unfold cg
   rw[List.getElem?_eq_getElem (by omega:i < ins.length),e1,e2]
   exact vc.row hh _ (vc.JX h1 h2 h i (by omega))
theorem vc.D7{w0 w0':List M}(h:vc p q w0 w0'):∀i,i≤gs.length→vc p q (jQ gs t w0 i) (jQ gs t w0' i)
 | 0,_=>h
 | i+1,hi=>by
   have ih:=vc.D7 h i (by omega)
   unfold jQ
   rw[List.getElem?_eq_getElem (by omega:i < gs.length)]
   refine ih.app ?_
   show(gF gs[i] (jQ gs t w0 i) p !=t.contains (i:Int))=(gF gs[i] (jQ gs t w0' i) q !=t.contains (i:Int))
   unfold gF
   have:(gs[i].2.1.map fun n=>ib (jQ gs t w0 i) n p)=gs[i].2.1.map fun n=>ib (jQ gs t w0' i) n q:=List.map_congr_left fun n _=>ih.2 n
   rw[this]
theorem HX(h1:ms.length=ins.length)(h2:ms'.length=ins.length)(h:∀j,j < ins.length→ms.getD j f0 p=ms'.getD j f0 q)(n:Nat):ib (pP ins gs ms t bad) n p=ib (pP ins gs ms' t bad) n q:=
 (vc.D7 (vc.JX h1 h2 h _ (Nat.le_refl _)) _ (Nat.le_refl _)).2 n
end
noncomputable def cM(b:Bool):M:=fun _=>b
theorem JC(f:M):mI 1 f=bI (f 0):=by
 unfold mI bI jB jB
 cases f 0 <;> rfl
section
variable {c:Nat} {ins:List (Str × Nat)} {gs:List Gt} {os:List (Str × List Nat)} {S:aU} {T:List Int}
theorem Fm{bits:List Bool}{p n:Nat}(hc:ins.length=c)(hp:(bM c)[p]? =some bits):ib (pP ins gs (bits.map cM) T []) n 0=ib (Wd c ins gs T []) n p:=by
 have hbl:=iB c bits (List.mem_of_getElem? hp)
 refine HX (by rw[List.length_map,hbl,hc]) (by rw[qA,hc]) (fun j hj=>?_) n
 rw[hc] at hj
 unfold qR
 rw[List.getD_eq_getElem?_getD,List.getElem?_map,List.getElem?_eq_getElem (by omega:j < bits.length),List.getD_eq_getElem?_getD,List.getElem?_map,List.getElem?_range hj]
 show bits[j]=Hi c j p
 unfold Hi
 rw[List.getD_eq_getElem?_getD (l:=bM c),hp]
 show _=bits.getD j false
 rw[List.getD_eq_getElem?_getD,List.getElem?_eq_getElem (by omega:j < bits.length)]
 rfl
noncomputable def tD(r:Bool × Bool):D:=if r.1 then .int 0 else if r.2 then .int 1 else .cq
theorem uk{kd:Nat}{xs:List Bool}(hk:kd≤4)(hx:xs.length=ar kd):eG [.str (kS kd), .lst (xs.map bI)]= .ok (bI (gv kd xs)):=by
 match kd,hk,xs,hx with
 | 0,_,[a],_=>cases a <;> rfl
 | 1,_,[a,b],_=>cases a <;> cases b <;> rfl
 | 2,_,[a,b],_=>cases a <;> cases b <;> rfl
 | 3,_,[a,b],_=>cases a <;> cases b <;> rfl
 | 4,_,[a,b,c],_=>cases a <;> cases b <;> cases c <;> rfl
theorem t8{xs:List Bool}(h:1≤xs.length∧xs.length≤3):iT [.lst (xs.map bI)]= .ok (tD (GF xs)):=by
 match xs,h with
 | [a],_=>cases a <;> rfl
 | [a,b],_=>cases a <;> cases b <;> rfl
 | [a,b,c],_=>cases a <;> cases b <;> cases c <;> rfl
theorem xY{ws:List M}{ns:List Nat}{δ:aw}{own:List Str}{kp:List Nat}{it:aw→R (List D)}(hn:∀n∈ns,n < ws.length)(hl:ns.length < 1000)(hit:it δ= .ok (ns.map nI))(hkp:qr own kp δ=[.un, .val (.lst (ws.map (mI 1)))]) :
 gn it (bh 0) qy (e2 bX (ae 1) (ae 0)) own kp δ= .ok ((ns.map fun n=>ib ws n 0).map bI):=by
 have hz:sizeLine=16777216:=sizeLine_eq
 refine f6 hit (by rw[List.length_map];omega) ?_
 rw[hkp,List.map_map]
 refine NT.eM nI _ fun n hn'=>⟨[.val (nI n), .val (.lst (ws.map (mI 1)))],rfl,rfl,?_⟩
 refine(az (a:= .lst (ws.map (mI 1))) (b:=nI n) rfl rfl (zH (hn n hn'))).trans ?_
 rw[JC];rfl
theorem CW(b c:Bool):(ei (bI b) (.int (if c then 1 else 0))).bind (fun x=>g9 x (.int 2))= .ok (bI (b !=c)):=by cases b <;> cases c <;> rfl
theorem tj(c:Bool):mE [.bl c]= .ok (.int (if c then 1 else 0)):=rfl
theorem x4{f g:FD}{δ:aw}{b c:Bool}(hf:f δ= .ok (bI b))(hg:g δ= .ok (.int (if c then 1 else 0))):e2 g9 (e2 ei f g) (eC (.int 2)) δ= .ok (bI (b !=c)):=by
 rw[←CW]
 unfold e2
 rw[hf,R.aR,hg,R.aR]
 cases b <;> cases c <;> rfl
noncomputable def j2(nt bitsD tD bD:D)(ws:List M)(a5 a6 a7 a8 a9 a10 a11:Sl):aw:=[.val nt, .val bitsD, .val tD, .val bD, .bld (ws.map (mI 1)),a5,a6,a7,a8,a9,a10,a11]
theorem Dc{bits:List Bool}{i:Nat}(h:i < bits.length):bX (.tup (bits.map bI)) (.int i)= .ok (bI bits[i]):=NT.CT (by rw[List.getElem?_map,List.getElem?_eq_getElem h];rfl)
theorem JB{bits:List Bool}{bad:List Int}{nt tD:D}{ws:List M}{i:Nat}{a6 a7 a8 a9 a10 a11:Sl}(hi:i < bits.length)(hl:ws.length < 20000) :
 gY (j2 nt (.tup (bits.map bI)) tD (.tup (bad.map .int)) ws (.val (.int i)) a6 a7 a8 a9 a10 a11)= .ok (.nx (j2 nt (.tup (bits.map bI)) tD (.tup (bad.map .int)) (ws++[fun p=>cM bits[i] p !=bad.contains (ws.length:Int)]) (.val (.int i)) a6 a7 a8 a9 a10 a11)):=by
 have hz:sizeLine=16777216:=sizeLine_eq
 unfold gY
 refine(wZ (i:=4) (d:=bI (bits[i] !=bad.contains (ws.length:Int))) (ds:=ws.map (mI 1)) ?_ rfl (by rw[List.length_map];omega)).trans ?_
 ·refine x4 (az (a:= .tup (bits.map bI)) (b:= .int i) rfl rfl (Dc hi)) ?_
  refine aL (ds:=[.bl (bad.contains (ws.length:Int))]) (aK (uE ?_ rfl) rfl) (tj _)
  exact az (a:= .int ws.length) (b:= .tup (bad.map .int)) (aL (ds:=[.lst (ws.map (mI 1))]) rfl (by rw[kx,List.length_map])) rfl (pA _ _)
 ·unfold j2
  rw[List.map_append,List.map_cons,JC]
  rfl
section
variable {bits:List Bool} {bad:List Int}
theorem BM(NO:jh ins gs os)(hb:bits.length=ins.length)(i:Nat)(hi:i≤ins.length):(cg ins (bits.map cM) bad i).length≤100*i:=by
 rw[jI (by rw[List.length_map,hb]) i hi]
 refine Nat.le_trans (sZ fun x hx=>NO.hw x (List.mem_of_mem_take hx)) ?_
 rw[List.length_take]
 exact Nat.mul_le_mul_left _ (by omega)
theorem Jt(NO:jh ins gs os)(hb:bits.length=ins.length){tD:D}{i:Nat}{a6 a7 a8 a9 a10 a11:Sl}(hi:i < ins.length) :
 ∃b6,gP (j2 (bL ins gs os) (.tup (bits.map bI)) tD (.tup (bad.map .int)) (cg ins (bits.map cM) bad i) (.val (.int i)) a6 a7 a8 a9 a10 a11)= .ok (.nx (j2 (bL ins gs os) (.tup (bits.map bI)) tD (.tup (bad.map .int)) (cg ins (bits.map cM) bad (i+1)) (.val (.int i)) b6 a7 a8 a9 a10 a11)):=by
 have hwi:=NO.hw ins[i] (List.getElem_mem _)
 have hN:=NO.hi
 have hb':i < bits.length:=by omega
 have h1:ins[i]? =some ins[i]:=List.getElem?_eq_getElem hi
 have h2:(bits.map cM)[i]? =some (cM bits[i]):=by rw[List.getElem?_map,List.getElem?_eq_getElem hb'];rfl
 unfold gP
 obtain⟨δ',e,b6,hδ⟩:=fN (t:=bh 6) (body:=gY) (ds:=bU 0 ins[i].2) (fun j δ=>∃b6,δ=j2 (bL ins gs os) (.tup (bits.map bI)) tD (.tup (bad.map .int)) (fg bad (cM bits[i]) j (cg ins (bits.map cM) bad i)) (.val (.int i)) b6 a7 a8 a9 a10 a11)
  (δ:=j2 (bL ins gs os) (.tup (bits.map bI)) tD (.tup (bad.map .int)) (cg ins (bits.map cM) bad i) (.val (.int i)) a6 a7 a8 a9 a10 a11) ⟨a6,rfl⟩ (fun j d δ hd ⟨b6,hδ⟩=>by
    subst hδ
    obtain⟨hj,rfl⟩:=ke hd
    have:=BM (bad:=bad) NO hb i (by omega)
    exact⟨_,JB (a6:= .val (.int j)) hb' (by rw[fT];omega),_,rfl⟩)
 refine⟨b6,(iq (ds:=bU 0 ins[i].2) (eA ?_ (by omega)) e).trans ?_⟩
 ·exact az (a:=inD ins[i]) (b:= .int 1) (az (a:= .lst (ins.map inD)) (b:= .int i) (az (a:=bL ins gs os) (b:= .int 0) rfl rfl rfl) rfl (NT.lj (by rw[List.getElem?_map,h1];rfl))) rfl rfl
 ·rw[hδ]
  have hl:(bU 0 ins[i].2).length=ins[i].2:=by simp [bU]
  rw[hl]
  have:cg ins (bits.map cM) bad (i+1)=fg bad (cM bits[i]) ins[i].2 (cg ins (bits.map cM) bad i):=by
   show(match ins[i]?,(bits.map cM)[i]? with | some x,some b=>fg bad b x.2 (cg ins (bits.map cM) bad i) | _,_=>cg ins (bits.map cM) bad i)=_
   rw[h1,h2]
  rw[this]
theorem JE{bD:D}{bitsD:D}{ws:List M}{i:Nat}{g:Gt}{a5 a6 a8 a9 a10 a11:Sl}(q:gs[i]? =some g)(hg:lB ws.length g)(hl:ws.length < 200000) :
 ∃b8 b9 b10 b11,gU (j2 (bL ins gs os) bitsD (.tup (T.map .int)) bD ws a5 a6 (.val (.int i)) a8 a9 a10 a11)= .ok (.nx (j2 (bL ins gs os) bitsD (.tup (T.map .int)) bD (ws++[fun p=>gF g ws p !=T.contains (i:Int)]) a5 a6 (.val (.int i)) b8 b9 b10 b11)):=by
 have hz:sizeLine=16777216:=sizeLine_eq
 have ha:=ue g.1
 unfold gU
 refine⟨.val (.str (kS g.1)), .val (.tup (g.2.1.map nI)), .val (.bl g.2.2), .val (bI (gF g ws 0)),?_⟩
 refine aV (δ1:=j2 (bL ins gs os) bitsD (.tup (T.map .int)) bD ws a5 a6 (.val (.int i)) (.val (.str (kS g.1))) (.val (.tup (g.2.1.map nI))) (.val (.bl g.2.2)) a11) ?_ ?_
 ·unfold o_
  rw[az (a:= .lst (gs.map gK)) (b:= .int i) (az (a:=bL ins gs os) (b:= .int 1) rfl rfl rfl) rfl (NT.lj (x:=gK g) (by rw[List.getElem?_map,q];rfl)),R.aR]
  rfl
 refine aV (dC (d:=bI (gF g ws 0)) (uE ?_ rfl) (by unfold j2;simp only[List.length_cons,List.length_nil];omega)) ?_
 ·refine aL (ds:=[.str (kS g.1), .lst ((g.2.1.map fun n=>ib ws n 0).map bI)]) (aK rfl (aK (e_ ?_) rfl)) (uk hg.1 (by rw[List.length_map];exact hg.2.1))
  exact xY (ws:=ws) (ns:=g.2.1) hg.2.2 (by rw[hg.2.1];omega) (wb rfl) rfl
 refine(wZ (i:=4) (d:=bI (gF g ws 0 !=T.contains (i:Int))) (ds:=ws.map (mI 1)) ?_ rfl (by rw[List.length_map];omega)).trans ?_
 ·exact x4 rfl (aL (ds:=[.bl (T.contains (i:Int))]) (aK (az (a:= .int i) (b:= .tup (T.map .int)) rfl rfl (pA _ _)) rfl) (tj _))
 ·unfold j2
  rw[List.map_append,List.map_cons,JC]
  rfl
theorem yM(NO:jh ins gs os)(hb:bits.length=ins.length):fW [bL ins gs os, .tup (bits.map bI), .tup (T.map .int), .tup (bad.map .int)]= .ok (.lst ((pP ins gs (bits.map cM) T bad).map (mI 1))):=by
 have hz:sizeLine=16777216:=sizeLine_eq
 have hwd:=sZ NO.hw
 have hN:=NO.hi
 have hG:=NO.hg
 have hbl:(bits.map cM).length=ins.length:=by rw[List.length_map,hb]
 unfold fW oA
 refine dI (aV (δ1:=j2 (bL ins gs os) (.tup (bits.map bI)) (.tup (T.map .int)) (.tup (bad.map .int)) [] .un .un .un .un .un .un .un) rfl ?_)
 obtain⟨δ1,e1,a5,a6,h1⟩:=fN (t:=bh 5) (body:=gP) (ds:=bU 0 ins.length) (fun i δ=>∃a5 a6,δ=j2 (bL ins gs os) (.tup (bits.map bI)) (.tup (T.map .int)) (.tup (bad.map .int)) (cg ins (bits.map cM) bad i) a5 a6 .un .un .un .un .un)
  (δ:=j2 (bL ins gs os) (.tup (bits.map bI)) (.tup (T.map .int)) (.tup (bad.map .int)) [] .un .un .un .un .un .un .un) ⟨.un, .un,rfl⟩ (fun i d δ hd ⟨a5,a6,hδ⟩=>by
    subst hδ
    obtain⟨hi,rfl⟩:=ke hd
    obtain⟨b6,e⟩:=Jt (bad:=bad) NO hb (tD:= .tup (T.map .int)) (a6:=a6) (a7:= .un) (a8:= .un) (a9:= .un) (a10:= .un) (a11:= .un) hi
    exact⟨_,e,_,_,rfl⟩)
 refine aV (iq (ds:=bU 0 ins.length) (eA (aL (ds:=[.lst (ins.map inD)]) (aK (az (a:=bL ins gs os) (b:= .int 0) rfl rfl rfl) rfl) (by rw[kx,List.length_map])) (by omega)) e1) ?_
 have hl0:(bU 0 ins.length).length=ins.length:=by simp [bU]
 rw[hl0] at h1
 subst h1
 obtain⟨δ2,e2',b7,b8,b9,b10,b11,h2⟩:=fN (t:=bh 7) (body:=gU) (ds:=bU 0 gs.length) (fun i δ=>∃b7 b8 b9 b10 b11,δ=j2 (bL ins gs os) (.tup (bits.map bI)) (.tup (T.map .int)) (.tup (bad.map .int)) (jQ gs T (cg ins (bits.map cM) bad ins.length) i) a5 a6 b7 b8 b9 b10 b11)
  (δ:=j2 (bL ins gs os) (.tup (bits.map bI)) (.tup (T.map .int)) (.tup (bad.map .int)) (cg ins (bits.map cM) bad ins.length) a5 a6 .un .un .un .un .un) ⟨_,_,_,_,_,rfl⟩ (fun i d δ hd ⟨b7,b8,b9,b10,b11,hδ⟩=>by
    subst hδ
    obtain⟨hi,rfl⟩:=ke hd
    have q:gs[i]? =some gs[i]:=List.getElem?_eq_getElem hi
    have hl:(jQ gs T (cg ins (bits.map cM) bad ins.length) i).length=iW ins+i:=by rw[ll _ (by omega),jI hbl _ (Nat.le_refl _),List.take_length]
    obtain⟨c8,c9,c10,c11,e⟩:=JE (ins:=ins) (os:=os) (T:=T) (bD:= .tup (bad.map .int)) (bitsD:= .tup (bits.map bI)) (ws:=jQ gs T (cg ins (bits.map cM) bad ins.length) i) (a5:=a5) (a6:=a6) (a8:=b8) (a9:=b9) (a10:=b10) (a11:=b11) q (by rw[hl];exact NO.g i _ q) (by rw[hl];omega)
    refine⟨_,e, .val (.int i),c8,c9,c10,c11,?_⟩
    show j2 _ _ _ _ _ _ _ _ _ _ _ _=j2 _ _ _ _ (match gs[i]? with | some g=>jQ gs T (cg ins (bits.map cM) bad ins.length) i++[fun p=>gF g (jQ gs T (cg ins (bits.map cM) bad ins.length) i) p !=T.contains (i:Int)] | none=>jQ gs T (cg ins (bits.map cM) bad ins.length) i) _ _ _ _ _ _ _
    rw[q])
 refine aV (iq (ds:=bU 0 gs.length) (eA (aL (ds:=[.lst (gs.map gK)]) (aK (az (a:=bL ins gs os) (b:= .int 1) rfl rfl rfl) rfl) (by rw[kx,List.length_map])) (by omega)) e2') ?_
 have hl2:(bU 0 gs.length).length=gs.length:=by simp [bU]
 rw[hl2] at h2
 subst h2
 rfl
end
noncomputable def RD(c:Nat)(ins:List (Str × Nat))(gs:List Gt)(os:List (Str × List Nat))(T:List Int)(p:Nat):List D:=os.map fun x=>tD (pt (Wd c ins gs T []) x p)
theorem mJ{bits:List Bool}{p:Nat}(NO:jh ins gs os)(hc:ins.length=c)(ho:∀x∈os,1≤x.2.length∧x.2.length≤3)(hp:(bM c)[p]? =some bits) :
 eE [bL ins gs os,b_ bits, .tup (T.map .int), .tup []]= .ok (.lst (RD c ins gs os T p)):=by
 have hz:sizeLine=16777216:=sizeLine_eq
 have hO:=NO.ho
 have hbl:=iB c bits (List.mem_of_getElem? hp)
 have hb:bits.length=ins.length:=by rw[hbl,hc]
 unfold eE oR
 refine dI (aV (dC (d:= .lst ((pP ins gs (bits.map cM) T []).map (mI 1))) (aL (ds:=[bL ins gs os, .tup (bits.map bI), .tup (T.map .int), .tup (([]:List Int).map .int)]) rfl (yM NO hb)) (by simp [cW,jc])) ?_)
 refine c5 (e_ (f6 (ds:=os.map v8) (tM (az (a:=bL ins gs os) (b:= .int 2) rfl rfl rfl)) (by rw[List.length_map];omega) ?_))
 unfold RD
 refine NT.eM v8 _ fun x hx=>⟨[.val (.str x.1), .val (.tup (x.2.map nI)), .val (.lst ((pP ins gs (bits.map cM) T []).map (mI 1)))],rfl,rfl,?_⟩
 obtain⟨o1,o2⟩:=NO.o x hx
 refine(aL (ds:=[.lst ((x.2.map fun n=>ib (pP ins gs (bits.map cM) T []) n 0).map bI)]) (aK (e_ (xY (fun n hn=>by rw[tZ (by rw[List.length_map,hb])];exact o2 n hn) o1 (wb rfl) rfl)) rfl) (t8 (by rw[List.length_map];exact ho x hx))).trans ?_
 congr 2
 unfold pt tell
 rw[List.map_map]
 congr 1
 exact List.map_congr_left fun n _=>Fm hc hp
end
end K15
end
section
set_option maxRecDepth 100000
set_option maxHeartbeats 4000000
namespace K15
open PySem PySem.Spec PyProof.Rows L2 L3 MT
theorem AU(xs:List Bool):(GF xs).1=true→(GF xs).2=false:=by
 match xs with
 | []=>intro h;rfl
 | [a]=>cases a <;> intro h <;> first | rfl | cases h
 | [a,b]=>cases a <;> cases b <;> intro h <;> first | rfl | cases h
 | [a,b,c]=>cases a <;> cases b <;> cases c <;> intro h <;> first | rfl | cases h
 | a ::b ::c ::d ::r=>intro h;rfl
theorem HD(a b:Bool × Bool)(ha:a.1=true→a.2=false)(hb:b.1=true→b.2=false):qN (tD a) (tD b)= .ok (.bl ((a.1 !=b.1) || (a.2 !=b.2))):=by
 obtain⟨a0,a1⟩:=a
 obtain⟨b0,b1⟩:=b
 cases a0 <;> cases a1 <;> cases b0 <;> cases b1 <;> first | rfl | (exact absurd (ha rfl) (by decide)) | (exact absurd (hb rfl) (by decide))
theorem GA(a:Bool × Bool):B9 (tD a) .cq= .ok (.bl (a.1 || a.2)):=by
 obtain⟨a0,a1⟩:=a
 cases a0 <;> cases a1 <;> rfl
theorem Dm{f g:aw→R Bool}{δ:aw}{a b:Bool}(h1:f δ= .ok a)(h2:g δ= .ok b):j_ f g δ= .ok (a && b):=by
 unfold j_
 rw[h1,R.aR]
 cases a with
 | true=>rw [if_pos rfl,h2];rfl
 | false=>rw [if_neg (by decide)];rfl
theorem DX{safe:Bool}{a b:Bool × Bool}(ha:a.1=true→a.2=false)(hb:b.2=!b.1):(((a.1 !=b.1) || (a.2 !=b.2)) && (!safe || (a.1 || a.2)))=brk safe b a:=by
 obtain⟨a0,a1⟩:=a
 obtain⟨b0,b1⟩:=b
 have hb:b1=!b0:=hb
 subst hb
 cases a0 <;> cases a1 <;> cases b0 <;> cases safe <;> first | rfl | (exact absurd (ha rfl) (by decide))
theorem FH{ds es:List D}(h:ds.length+es.length≤sizeLine):lQ (.lst ds) (.lst es)= .ok (.lst (ds++es)):=tK h
theorem yW(l:List (List Bool)):(l.flatMap fun b=>[b++[false],b++[true]]).length=2*l.length:=by
 rw[List.length_flatMap]
 have:l.map (fun b=>[b++[false],b++[true]].length)=l.map fun _=>2:=rfl
 rw[this,List.map_const',List.sum_replicate_nat]
 omega
theorem yP{c:Nat}(hc:c≤10):eZ [nI c]= .ok (.lst ((bM c).map b_)):=by
 have hz:sizeLine=16777216:=sizeLine_eq
 unfold eZ mS
 refine dI (aV (dC (d:= .lst ((bM 0).map b_)) rfl (by simp [cW,jU])) ?_)
 obtain⟨δ1,e1,a2,a3,a4,hδ1⟩:=fN (t:=bh 2) (body:=iY) (ds:=bU 0 c)
  (fun i δ=>∃a2 a3 a4,δ=[.val (nI c), .val (.lst ((bM i).map b_)),a2,a3,a4]) (δ:=[.val (nI c), .val (.lst ((bM 0).map b_)), .un, .un, .un]) ⟨.un, .un, .un,rfl⟩ (by
    rintro i d δ hd ⟨a2,a3,a4,rfl⟩
    have hi:i < c:=by
     have:=(List.getElem?_eq_some_iff.mp hd).1
     simpa [bU] using this
    have hpow:(bM i).length≤1024:=by
     rw[cT]
     exact Nat.pow_le_pow_right (by omega) (by omega:i≤10)
    generalize hL:D.lst ((bM i).map b_)=Li
    rw[show bh 2 d [.val (nI c), .val Li,a2,a3,a4]= .ok [.val (nI c), .val Li, .val d,a3,a4] from rfl,R.aR]
    unfold iY
    obtain⟨δ2,e2',b4,hδ2⟩:=fN (t:=bh 4) (body:=iX) (ds:=(bM i).map b_)
     (fun j δ=>∃b4,δ=[.val (nI c), .val Li, .val d, .val (.lst ((((bM i).take j).flatMap fun b=>[b++[false],b++[true]]).map b_)),b4]) (δ:=[.val (nI c), .val Li, .val d, .val (.lst []),a4]) ⟨a4,by simp⟩ (by
       rintro j x δ hx ⟨b4,rfl⟩
       obtain⟨b,hb,rfl⟩:=NT.xk hx
       have hjl:=(List.getElem?_eq_some_iff.mp hb).1
       have hbl:=iB i b (List.mem_of_getElem? hb)
       have hlen:=yW ((bM i).take j)
       rw[List.length_take] at hlen
       refine⟨[.val (nI c), .val Li, .val d, .val (.lst ((((bM i).take (j+1)).flatMap fun b=>[b++[false],b++[true]]).map b_)), .val (b_ b)],?_,⟨_,rfl⟩⟩
       have hst:(((bM i).take (j+1)).flatMap fun b=>[b++[false],b++[true]]).map b_=(((bM i).take j).flatMap fun b=>[b++[false],b++[true]]).map b_++[b_ (b++[false]),b_ (b++[true])]:=by
        rw[List.take_add_one,hb,List.flatMap_append,List.map_append]
        simp
       rw[hst]
       generalize hG:(((bM i).take j).flatMap fun b=>[b++[false],b++[true]]).map b_=G
       have hGl:G.length≤2048:=by rw[←hG,List.length_map];omega
       rw[show bh 4 (b_ b) [.val (nI c), .val Li, .val d, .val (.lst G),b4]= .ok [.val (nI c), .val Li, .val d, .val (.lst G), .val (b_ b)] from rfl,R.aR]
       unfold iX
       have add:∀(x:Bool),e2 lQ (ae 4) (eK (aq (eC (bI x)) aD)) [.val (nI c), .val Li, .val d, .val (.lst G), .val (b_ b)]= .ok (b_ (b++[x])):=fun x=>by
        refine az (a:=b_ b) (b:= .tup [bI x]) rfl (gg rfl (by simp;omega)) ?_
        show R.bZ (decide ((b.map bI).length+[bI x].length≤sizeLine)) _=_
        rw[bY _ (by rw[List.length_map];simp;omega)]
        unfold b_
        rw[List.map_append];rfl
       exact dC (az (a:= .lst G) (b:= .lst [b_ (b++[false]),b_ (b++[true])]) rfl (e_ (px (aK (add false) (aK (add true) rfl)) (by simp;omega))) (FH (by simp;omega))) (by simp))
    rw[List.length_map,List.take_length] at hδ2
    subst hδ2
    refine⟨_,aV (dC (d:= .lst []) rfl (by simp)) (aV (iq (ds:=(bM i).map b_) (tM (by rw[hL];rfl)) e2') (dC (d:= .lst ((bM (i+1)).map b_)) rfl (by simp))),⟨.val d, .val (.lst ((bM (i+1)).map b_)),b4,rfl⟩⟩)
 refine aV (iq (ds:=bU 0 c) (eA (n:=c) rfl (by omega)) e1) ?_
 have hlen:(bU 0 c).length=c:=by simp [bU]
 rw[hlen] at hδ1
 subst hδ1
 exact c5 rfl
section
variable {ins:List (Str × Nat)} {gs:List Gt} {os:List (Str × List Nat)} {m:Nat}
theorem ze{i:Nat}(h:i < gs.length){δ:aw}(h0:ae 0 δ= .ok (nI i))(h1:ae 1 δ= .ok (bL ins gs os)):jr (hV (e2 bX (e2 bX (e2 bX (ae 1) (eC (.int 1))) (ae 0)) (eC (.int 2)))) δ= .ok (match gs[i]? with | some g=>!g.2.2 | none=>false):=by
 have e:e2 bX (e2 bX (e2 bX (ae 1) (eC (.int 1))) (ae 0)) (eC (.int 2)) δ= .ok (.bl gs[i].2.2):=by
  refine az (a:=gK gs[i]) (b:= .int 2) (az (a:= .lst (gs.map gK)) (b:=nI i) (az (a:=bL ins gs os) (b:= .int 1) h1 rfl rfl) h0 (NT.lj ?_)) rfl rfl
  rw[List.getElem?_map,List.getElem?_eq_getElem h]
  rfl
 unfold jr hV
 rw[e,List.getElem?_eq_getElem h]
 rfl
end
theorem FN{a b:Bool × Bool}(ha:a.1=true→a.2=false)(hb:b.2=!b.1):brk false b a=(brk true b a || !(a.1 || a.2)):=by
 obtain⟨a0,a1⟩:=a
 obtain⟨b0,b1⟩:=b
 have hb:b1=!b0:=hb
 subst hb
 cases a0 <;> cases a1 <;> cases b0 <;> first | rfl | (exact absurd (ha rfl) (by decide))
theorem x8{α:Type}{f g:α→Bool}:∀xs:List α,(xs.any fun x=>f x || g x)=(xs.any f || xs.any g)
 | []=>rfl
 | x ::xs=>by
   rw[List.any_cons,List.any_cons,List.any_cons,x8 xs]
   cases f x <;> cases g x <;> cases xs.any f <;> cases xs.any g <;> rfl
theorem lS{α:Type}{f g:α→Bool}:∀{xs:List α},(∀x∈xs,f x=g x)→xs.any f=xs.any g
 | [],_=>rfl
 | x ::xs,h=>by rw[List.any_cons,List.any_cons,h x List.mem_cons_self,lS fun y hy=>h y (List.mem_cons_of_mem _ hy)]
noncomputable def Fj{α:Type}(g:α→Bool)(os:List α)(k:Nat):Bool:=match os[k]? with | some x=>g x | none=>false
theorem wL{α:Type}{g:α→Bool}{os:List α}{k:Nat}(h:k < os.length):Fj g os k=g os[k]:=by unfold Fj;rw [List.getElem?_eq_getElem h]
theorem Fu{α:Type}(g:α→Bool)(os:List α):((List.range os.length).filter (Fj g os)).isEmpty=!(os.any g):=by
 cases h:os.any g with
 | false=>
   have:(List.range os.length).filter (Fj g os)=[]:=by
    rw[List.filter_eq_nil_iff]
    intro k hk
    rw[List.mem_range] at hk
    rw[wL hk]
    exact List.any_eq_false.mp h _ (List.getElem_mem hk)
   rw[this];rfl
 | true=>
   obtain⟨x,hx,hg⟩:=List.any_eq_true.mp h
   obtain⟨k,hk,rfl⟩:=List.mem_iff_getElem.mp hx
   cases q:(List.range os.length).filter (Fj g os) with
   | cons _ _=>rfl
   | nil=>
     rw[List.filter_eq_nil_iff] at q
     have:=q k (List.mem_range.mpr hk)
     rw[wL hk] at this
     exact absurd hg this
theorem x6(s:List Nat):EY (.lst (s.map nI)) (.lst [])= .ok s.isEmpty:=by
 have f:ka 1 (.lst (s.map nI)):=ka.lst fun d hd=>by obtain⟨x,_,rfl⟩:=List.mem_map.mp hd;exact ka.int _
 have f2:ka 1 (.lst []):=ka.lst fun d hd=>by cases hd
 rw[Bz,f.pl,f.sh (by omega),f2.pl,f2.sh (by omega)]
 cases s with
 | nil=>rfl
 | cons g gs=>rfl
noncomputable def Jo(a:Bool × Bool):Option Int:=if a.1 then some 0 else if a.2 then some 1 else none
theorem BF{α:Type}(f:α→Bool × Bool):∀xs:List α,ois? (xs.map fun x=>tD (f x))=some (xs.map fun x=>Jo (f x))
 | []=>rfl
 | x ::xs=>by
   rw[List.map_cons,List.map_cons]
   have ih:=BF f xs
   generalize f x=a
   obtain⟨a0,a1⟩:=a
   cases a0 <;> cases a1 <;> (show Option.map _ (ois? _)=_;rw [ih];rfl)
theorem Dz{α:Type}(f:α→Bool × Bool)(xs:List α):(xs.map fun x=>Jo (f x)).any (·.isNone)=xs.any fun x=>!((f x).1 || (f x).2):=by
 rw[List.any_map]
 refine lS fun x _=>?_
 show(Jo (f x)).isNone=_
 generalize f x=a
 obtain⟨a0,a1⟩:=a
 cases a0 <;> cases a1 <;> rfl
section
variable {c:Nat} {ins:List (Str × Nat)} {gs:List Gt} {os:List (Str × List Nat)} {x:Nat}
theorem GS(hsd:∀x∈os,∀p,(pt (Wd c ins gs [] []) x p).2=!(pt (Wd c ins gs [] []) x p).1)(p:Nat):EC c ins gs os x p=(!(ub true c ins gs os (nZ [x]) p) && os.any fun y=>!((pt (Wd c ins gs (nZ [x]) []) y p).1 || (pt (Wd c ins gs (nZ [x]) []) y p).2)):=by
 have e:ub false c ins gs os (nZ [x]) p=(ub true c ins gs os (nZ [x]) p || os.any fun y=>!((pt (Wd c ins gs (nZ [x]) []) y p).1 || (pt (Wd c ins gs (nZ [x]) []) y p).2)):=by
  unfold ub
  rw[←x8]
  exact lS fun y hy=>FN (AU _) (hsd y hy p)
 unfold EC
 rw[e]
 cases ub true c ins gs os (nZ [x]) p <;> cases(os.any fun y=>!((pt (Wd c ins gs (nZ [x]) []) y p).1 || (pt (Wd c ins gs (nZ [x]) []) y p).2)) <;> rfl
noncomputable def Bo(f:M)(i:Nat):Nat:=((List.range i).filter f).length
theorem vm(f:M)(i:Nat):Bo f (i+1)=Bo f i+if f i then 1 else 0:=by
 unfold Bo
 rw[List.range_succ,List.filter_append,List.length_append]
 congr 1
 rw[List.filter_cons,List.filter_nil]
 cases f i <;> rfl
noncomputable def cE(nt:D)(x w n:Nat)(a4 a5 a6 a7:Sl):aw:=[.val nt, .val (nI x), .val (nI w), .val (nI n),a4,a5,a6,a7]
theorem y8(NO:jh ins gs os)(hc:ins.length=c)(hc1:c≤6)(ho:∀x∈os,1≤x.2.length∧x.2.length≤3)(hsd:∀x∈os,∀p,(pt (Wd c ins gs [] []) x p).2=!(pt (Wd c ins gs [] []) x p).1):gy [bL ins gs os,nI x]= .ok (kW c ins gs os x):=by
 have hz:sizeLine=16777216:=sizeLine_eq
 have hO:=NO.ho
 have hpow:2 ^ c≤64:=Nat.pow_le_pow_right (by omega) (by omega:c≤6)
 unfold gy nD
 refine dI (aV (dC (d:= .int 0) rfl (by simp [cW,gm])) (aV (dC (d:= .int 0) rfl (by simp [cW,gm])) ?_))
 obtain⟨δ1,e1,a4,a5,a6,a7,hδ1⟩:=fN (t:=bh 4) (body:=iF) (ds:=(bM c).map b_)
  (fun i δ=>∃a4 a5 a6 a7,δ=cE (bL ins gs os) x (Bo (ub true c ins gs os (nZ [x])) i) (Bo (EC c ins gs os x) i) a4 a5 a6 a7) (δ:=cE (bL ins gs os) x 0 0 .un .un .un .un) ⟨.un, .un, .un, .un,rfl⟩ (by
    rintro p d δ hd ⟨a4,a5,a6,a7,rfl⟩
    obtain⟨bits,hb,rfl⟩:=NT.xk hd
    have hpl:=(List.getElem?_eq_some_iff.mp hb).1
    rw[cT] at hpl
    have hw:Bo (ub true c ins gs os (nZ [x])) p≤p:=by unfold Bo;exact Nat.le_trans (List.length_filter_le _ _) (by rw[List.length_range];exact Nat.le_refl _)
    have hn:Bo (EC c ins gs os x) p≤p:=by unfold Bo;exact Nat.le_trans (List.length_filter_le _ _) (by rw[List.length_range];exact Nat.le_refl _)
    rw[vm,vm,GS hsd]
    generalize Bo (ub true c ins gs os (nZ [x])) p=w at hw ⊢
    generalize Bo (EC c ins gs os x) p=n at hn ⊢
    have r0:=mJ (T:=[]) NO hc ho hb
    have r1:=mJ (T:=nZ [x]) NO hc ho hb
    let g:Str × List Nat→Bool:=fun y=>brk true (pt (Wd c ins gs [] []) y p) (pt (Wd c ins gs (nZ [x]) []) y p)
    let other:List Nat:=(List.range os.length).filter (Fj g os)
    have hoth:other.isEmpty=!(ub true c ins gs os (nZ [x]) p):=Fu g os
    have hin:IX .cq (.lst (RD c ins gs os (nZ [x]) p))= .ok (os.any fun y=>!((pt (Wd c ins gs (nZ [x]) []) y p).1 || (pt (Wd c ins gs (nZ [x]) []) y p).2)):=by
     show(match ois? (RD c ins gs os (nZ [x]) p) with | some ss=>R.ok (ss.any (·.isNone)) | none=> .no)=_
     unfold RD
     rw[BF]
     show R.ok _=_
     rw[Dz]
    generalize hBT:ub true c ins gs os (nZ [x]) p=BT at hoth ⊢
    generalize (os.any fun y=>!((pt (Wd c ins gs (nZ [x]) []) y p).1 || (pt (Wd c ins gs (nZ [x]) []) y p).2))=NN at hin ⊢
    refine⟨cE (bL ins gs os) x (w+if BT then 1 else 0) (n+if(!BT && NN) then 1 else 0) (.val (b_ bits)) (.val (.lst (RD c ins gs os [] p))) (.val (.lst (RD c ins gs os (nZ [x]) p))) (.val (.lst (other.map nI))),?_,⟨_,_,_,_,rfl⟩⟩
    rw[show bh 4 (b_ bits) (cE (bL ins gs os) x w n a4 a5 a6 a7)= .ok (cE (bL ins gs os) x w n (.val (b_ bits)) a5 a6 a7) from rfl,R.aR]
    unfold iF
    have eD:e2 ja (ae 7) (eNew (dM aD)) (cE (bL ins gs os) x (w+if BT then 1 else 0) n (.val (b_ bits)) (.val (.lst (RD c ins gs os [] p))) (.val (.lst (RD c ins gs os (nZ [x]) p))) (.val (.lst (other.map nI))))= .ok (.bl (!BT)):=by
     refine az (a:= .lst (other.map nI)) (b:= .lst []) rfl rfl ?_
     unfold ja
     rw[x6,hoth];rfl
    have eN:e2 qN (ae 7) (eNew (dM aD)) (cE (bL ins gs os) x w n (.val (b_ bits)) (.val (.lst (RD c ins gs os [] p))) (.val (.lst (RD c ins gs os (nZ [x]) p))) (.val (.lst (other.map nI))))= .ok (.bl BT):=by
     refine az (a:= .lst (other.map nI)) (b:= .lst []) rfl rfl ?_
     unfold qN
     rw[x6,hoth]
     cases BT <;> rfl
    have eI:e2 Dx (eC .cq) (ae 6) (cE (bL ins gs os) x (w+if BT then 1 else 0) n (.val (b_ bits)) (.val (.lst (RD c ins gs os [] p))) (.val (.lst (RD c ins gs os (nZ [x]) p))) (.val (.lst (other.map nI))))= .ok (.bl NN):=by
     refine az (a:= .cq) (b:= .lst (RD c ins gs os (nZ [x]) p)) rfl rfl ?_
     unfold Dx
     rw[hin];rfl
    refine aV (dC (d:= .lst (RD c ins gs os [] p)) (aL (ds:=[bL ins gs os,b_ bits, .tup (([]:List Int).map .int), .tup []]) rfl r0) (by simp [cE])) ?_
    refine aV (dC (d:= .lst (RD c ins gs os (nZ [x]) p)) (aL (ds:=[bL ins gs os,b_ bits, .tup ((nZ [x]).map .int), .tup []]) (aK rfl (aK rfl (aK (gg (ds:=(nZ [x]).map .int) rfl (by unfold nZ;simp;omega)) rfl))) r1) (by simp [cE])) ?_
    refine aV (dC (d:= .lst (other.map nI)) (e_ (f6 (ds:=(List.range os.length).map nI) ?_ (by simp;omega) ?_)) (by simp [cE])) ?_
    ·rw[←z9]
     exact eA (n:=os.length) (aL (ds:=[.lst (RD c ins gs os [] p)]) rfl (by rw[kx];unfold RD;rw [List.length_map])) (by omega)
    ·refine NT.l9 (Fj g os) nI nI fun k hk=>?_
     rw[List.mem_range] at hk
     refine⟨[.val (nI k), .val (.lst (RD c ins gs os [] p)), .val (.lst (RD c ins gs os (nZ [x]) p))],rfl,?_,fun _=>rfl⟩
     rw[wL hk]
     show _=R.ok (brk true (pt (Wd c ins gs [] []) os[k] p) (pt (Wd c ins gs (nZ [x]) []) os[k] p))
     have hx1:(RD c ins gs os (nZ [x]) p)[k]? =some (tD (pt (Wd c ins gs (nZ [x]) []) os[k] p)):=by unfold RD;rw [List.getElem?_map,List.getElem?_eq_getElem hk];rfl
     have hx0:(RD c ins gs os [] p)[k]? =some (tD (pt (Wd c ins gs [] []) os[k] p)):=by unfold RD;rw [List.getElem?_map,List.getElem?_eq_getElem hk];rfl
     have hAx:(pt (Wd c ins gs (nZ [x]) []) os[k] p).1=true→(pt (Wd c ins gs (nZ [x]) []) os[k] p).2=false:=AU _
     have hBs:=hsd os[k] (List.getElem_mem hk) p
     generalize pt (Wd c ins gs (nZ [x]) []) os[k] p=A at hx1 hAx ⊢
     generalize pt (Wd c ins gs [] []) os[k] p=B at hx0 hBs ⊢
     have ea:e2 bX (ae 2) (ae 0) [.val (nI k), .val (.lst (RD c ins gs os [] p)), .val (.lst (RD c ins gs os (nZ [x]) p))]= .ok (tD A):=az (a:= .lst (RD c ins gs os (nZ [x]) p)) (b:=nI k) rfl rfl (NT.lj hx1)
     have eb:e2 bX (ae 1) (ae 0) [.val (nI k), .val (.lst (RD c ins gs os [] p)), .val (.lst (RD c ins gs os (nZ [x]) p))]= .ok (tD B):=az (a:= .lst (RD c ins gs os [] p)) (b:=nI k) rfl rfl (NT.lj hx0)
     rw[←DX hAx hBs,Bool.and_comm]
     exact Dm (ic (a:=tD A) (b:= .cq) ea rfl (GA A)) (ic (a:=tD A) (b:=tD B) ea eb (HD A B hAx fun z=>by rw[hBs,z];rfl))
    refine aV (dC (d:=nI (w+if BT then 1 else 0)) (az (a:=nI w) (b:= .int (if BT then 1 else 0)) rfl (aL (ds:=[.bl BT]) (aK eN rfl) (tj BT)) ?_) (by simp [cE])) ?_
    ·cases BT <;> rfl
    refine dC (d:=nI (n+if(!BT && NN) then 1 else 0)) (az (a:=nI n) (b:= .int (if(!BT && NN) then 1 else 0)) rfl (aL (ds:=[.bl (!BT && NN)]) (aK ?_ rfl) (tj _)) ?_) (by simp [cE])
    ·show kC _ _ (cE (bL ins gs os) x (w+if BT then 1 else 0) n (.val (b_ bits)) (.val (.lst (RD c ins gs os [] p))) (.val (.lst (RD c ins gs os (nZ [x]) p))) (.val (.lst (other.map nI))))=_
     unfold kC zd
     rw[eD,R.aR]
     cases BT with
     | true=>rfl
     | false=>show(R.ok true).bind _=_;rw [R.aR,if_pos rfl,eI];rfl
    ·cases(!BT && NN) <;> rfl)
 refine aV (iq (ds:=(bM c).map b_) (tM (aL (ds:=[nI c]) (aK (aL (ds:=[.lst (ins.map MT.inD)]) (aK (az (a:=bL ins gs os) (b:= .int 0) rfl rfl rfl) rfl) (by rw[kx,List.length_map,hc];rfl)) rfl) (yP (by omega)))) e1) ?_
 rw[List.length_map,cT] at hδ1
 subst hδ1
 exact c5 (gg rfl (by simp;omega))
end
end K15
end
section
set_option maxRecDepth 100000
set_option maxHeartbeats 4000000
namespace K15
open PySem PySem.Spec PyProof.Rows L2 L3 MT
noncomputable def Al(n:Nat)(d:D):Prop:=bH n [d,d]= .ok (.bl true)
theorem vS(n:Nat)(i:Int):Al (n+1) (.int i):=by
 have:bH (n+1) [.int i, .int i]= .ok (.bl (decide (i=i))):=rfl
 unfold Al
 rw[this,decide_eq_true rfl]
theorem wA(n:Nat)(x:Str):Al (n+1) (.str x):=by
 have:bH (n+1) [.str x, .str x]= .ok (.bl (decide (x=x))):=rfl
 unfold Al
 rw[this,decide_eq_true rfl]
theorem HY(n:Nat)(b:Bool):Al (n+1) (.bl b):=by
 have:bH (n+1) [.bl b, .bl b]= .ok (.bl (decide (b=b))):=rfl
 unfold Al
 rw[this,decide_eq_true rfl]
theorem yi{n:Nat}{d:D}{ds:List D}(hix:∀(i:Nat) (x:D),ds[i]? =some x→bX d (.int i)= .ok x)(h:∀x∈ds,Al n x):∃a,m4 (bh 2) (fB (bH n)) (bU 0 ds.length) [.val d, .val d, .un]= .ok (.nx [.val d, .val d,a]):=by
 obtain⟨δ',e,a,hδ⟩:=fN (t:=bh 2) (body:=fB (bH n)) (ds:=bU 0 ds.length) (fun i δ=>∃a,δ=[.val d, .val d,a]) (δ:=[.val d, .val d, .un]) ⟨.un,rfl⟩ (fun i x δ hx ⟨a,hδ⟩=>by
  subst hδ
  obtain⟨hi,rfl⟩:=ke hx
  have q:ds[i]? =some ds[i]:=List.getElem?_eq_getElem hi
  refine⟨[.val d, .val d, .val (.int i)],?_,_,rfl⟩
  show fB (bH n) [.val d, .val d, .val (.int i)]=_
  unfold fB
  refine dN ?_ rfl
  have e1:aA (bH n) (aq (e2 bX (ae 0) (ae 2)) (aq (e2 bX (ae 1) (ae 2)) aD)) [.val d, .val d, .val (.int i)]= .ok (.bl true):=
   aL (ds:=[ds[i],ds[i]]) (aK (az (a:=d) (b:= .int i) rfl rfl (hix i _ q)) (aK (az (a:=d) (b:= .int i) rfl rfl (hix i _ q)) rfl)) (h _ (List.getElem_mem hi))
  unfold jr hV
  rw[e1];rfl)
 exact⟨a,by rw[e,hδ]⟩
theorem n5{n:Nat}{ds:List D}(hl:ds.length < 100000)(h:∀x∈ds,Al n x):Al (n+1) (.tup ds):=by
 obtain⟨a,e⟩:=yi (d:= .tup ds) (fun i x hx=>nT (n4 hx)) h
 unfold Al
 show lZ jf (g8 (bH n)) [.tup ds, .tup ds]=_
 unfold g8
 refine dI (aV (dN rfl rfl) (aV (dN rfl rfl) (aV (dN rfl rfl) (aV (dN rfl rfl) (aV (p8 rfl (dN rfl rfl)) (aV (dN ?_ rfl) (aV (iq (eA (n:=ds.length) rfl (by omega)) e) (c5 rfl))))))))
 exact ic (a:= .int ds.length) (b:= .int ds.length) rfl rfl (ne_int _)
theorem sF{n:Nat}{ds:List D}(hl:ds.length < 100000)(h:∀x∈ds,Al n x):Al (n+1) (.lst ds):=by
 obtain⟨a,e⟩:=yi (d:= .lst ds) (fun i x hx=>jt (n4 hx)) h
 unfold Al
 show lZ jf (g8 (bH n)) [.lst ds, .lst ds]=_
 unfold g8
 refine dI (aV (dN rfl rfl) (aV (dN rfl rfl) (aV (dN rfl rfl) (aV (dN rfl rfl) (aV (dN rfl (dN rfl rfl)) (aV (dN ?_ rfl) (aV (iq (eA (n:=ds.length) rfl (by omega)) e) (c5 rfl))))))))
 exact ic (a:= .int ds.length) (b:= .int ds.length) rfl rfl (ne_int _)
section
variable {ins:List (Str × Nat)} {gs:List Gt} {os:List (Str × List Nat)}
theorem Ei(n:Nat){ns:List Nat}(h:ns.length < 100000):Al (n+2) (.tup (ns.map nI)):=n5 (by rw[List.length_map];exact h) fun x hx=>by obtain⟨m,_,rfl⟩:=List.mem_map.mp hx;exact vS _ _
theorem F3(NO:jh ins gs os):Al 5 (bL ins gs os):=by
 have hO:=NO.ho
 have hI:=NO.hi
 have hG:=NO.hg
 refine n5 (by simp) fun x hx=>?_
 simp only[List.mem_cons,List.not_mem_nil,or_false] at hx
 rcases hx with rfl | rfl | rfl
 ·refine sF (by rw[List.length_map];omega) fun x hx=>?_
  obtain⟨y,hy,rfl⟩:=List.mem_map.mp hx
  refine n5 (by simp) fun z hz=>?_
  simp only[List.mem_cons,List.not_mem_nil,or_false] at hz
  rcases hz with rfl | rfl
  ·exact wA _ _
  ·exact vS _ _
 ·refine sF (by rw[List.length_map];omega) fun x hx=>?_
  obtain⟨y,hy,rfl⟩:=List.mem_map.mp hx
  obtain⟨i,hi⟩:=List.getElem?_of_mem hy
  have g:=NO.g i y hi
  have:=ue y.1
  refine n5 (by simp) fun z hz=>?_
  simp only[List.mem_cons,List.not_mem_nil,or_false] at hz
  rcases hz with rfl | rfl | rfl
  ·exact wA _ _
  ·exact Ei _ (by rw[g.2.1];omega)
  ·exact HY _ _
 ·refine sF (by rw[List.length_map];omega) fun x hx=>?_
  obtain⟨y,hy,rfl⟩:=List.mem_map.mp hx
  have:=(NO.o y hy).1
  refine n5 (by simp) fun z hz=>?_
  simp only[List.mem_cons,List.not_mem_nil,or_false] at hz
  rcases hz with rfl | rfl
  ·exact wA _ _
  ·exact Ei _ (by omega)
theorem yx:ij [bL ins gs os]= .ok (bL ins gs os):=rfl
end
section
variable {c:Nat} {ins:List (Str × Nat)} {gs:List Gt} {os:List (Str × List Nat)}
theorem zw{x:Str × List Nat}{p:Nat}(hl:1≤x.2.length∧x.2.length≤3)(h2:∀a b,x.2=[a,b]→ib (Wd c ins gs [] []) a p=ib (Wd c ins gs [] []) b p):(pt (Wd c ins gs [] []) x p).2=!(pt (Wd c ins gs [] []) x p).1:=by
 unfold pt tell
 rw[List.map_map]
 obtain⟨s,ws⟩:=x
 match ws,hl,h2 with
 | [a],_,_=>show ib _ a p=!(!(ib _ a p));rw [Bool.not_not]
 | [a,b],_,h2=>
   show(ib (Wd c ins gs [] []) a p && ib (Wd c ins gs [] []) b p)=!(!(ib (Wd c ins gs [] []) a p || ib (Wd c ins gs [] []) b p))
   rw[h2 a b rfl]
   cases ib (Wd c ins gs [] []) b p <;> rfl
 | [a,b,d],_,_=>
   show _=!(!_)
   rw[Bool.not_not];rfl
end
theorem DU(ns:List Int)(k:Nat):∃c:Int,er [.lst (ns.map .int), .int k]= .ok (.int c):=by
 by_cases h:k < ns.length
 ·refine⟨ns[k],?_⟩
  unfold er jo
  refine dI ?_
  have e:ky (b2 zk (ae 1) (aA cC (aq (ae 0) aD))) (dc (e2 bX (ae 0) (ae 1))) fH (cW jq [.lst (ns.map .int), .int k])= .ok (.rt (.int ns[k])):=by
   refine p8 ?_ (c5 (az (a:= .lst (ns.map .int)) (b:= .int k) rfl rfl (jt (n4 (by rw[List.getElem?_map,List.getElem?_eq_getElem h];rfl)))))
   refine ic (a:= .int k) (b:= .int ns.length) rfl (aL (ds:=[.lst (ns.map .int)]) rfl (by rw[kx,List.length_map])) ?_
   show R.ok (D.bl (decide ((k:Int) < (ns.length:Int))))=_
   rw[decide_eq_true (by omega)]
  unfold cF
  rw[e];rfl
 ·refine⟨0,?_⟩
  unfold er jo
  refine dI (aV (dN ?_ rfl) rfl)
  refine ic (a:= .int k) (b:= .int ns.length) rfl (aL (ds:=[.lst (ns.map .int)]) rfl (by rw[kx,List.length_map])) ?_
  show R.ok (D.bl (decide ((k:Int) < (ns.length:Int))))=_
  rw[decide_eq_false (by omega)]
theorem CI(ns:List Int)(lo hi:Option Int):L2.cutD (ns.map D.int) lo hi=(L2.cutD ns lo hi).map D.int:=by
 unfold L2.cutD
 rw[List.length_map,List.map_take,List.map_drop]
theorem C6:(10000000000000000000000000000000000000000:Int).natAbs.log2 < 9000:=by decide+kernel
theorem BG(ns:List Int)(hns:ns.length≤63):xy [.lst (ns.map D.int)]= .ok (.bl true):=by
 have hz:sizeLine=16777216:=sizeLine_eq
 have key:W3 (n6 oh rA [.d (.lst (ns.map .int))] []) fun v S1=>v= .d (.bl true)∧S1=[]:=by
  refine my (fun o ho=>by cases ho) (u6 rfl ?_)
  simp only[bS,oh,List.map_cons,List.map_nil,List.length_cons,List.length_nil,List.replicate,List.cons_append,List.nil_append,Nat.reduceAdd,Nat.reduceSub]
  unfold rA
  obtain⟨c0,ec0⟩:=DU ns 0
  refine aX <| bJ (by simp only[List.length_cons,List.length_nil,List.length_set];omega) <| fk <| aO <| dJ (d:= .int c0) (aL (ds:=[.lst (ns.map .int), .int 0]) rfl ec0) <| cQ <| xV c0 Flat.nil fun S1 p1 l1 _=>⟨_,rfl,?_⟩
  simp only[List.set_cons_succ,List.set_cons_zero]
  simp only[List.length_nil] at p1 l1 ⊢
  refine aX <| bJ (by simp only[List.length_cons,List.length_nil,List.length_set];omega) <| dJ (d:= .lst ((L2.cutD ns (some 1) (some 11)).map .int)) ?_ ⟨_,rfl,?_⟩
  ·refine z0 (d:= .lst (ns.map .int)) (lo:=some 1) (hi:=some 11) rfl rfl rfl ?_
   show R.ok (D.lst (L2.cutD (ns.map D.int) (some 1) (some 11)))=_
   rw[CI]
  simp only[List.set_cons_succ,List.set_cons_zero]
  have hcl:(L2.cutD ns (some 1) (some 11)).length≤10:=by
   unfold L2.cutD
   rw[show(some (1:Int))=some ((1:Nat):Int) from rfl,show(some (11:Int))=some ((11:Nat):Int) from rfl,HT.xu,HT.xu,List.length_take]
   omega
  generalize L2.cutD ns (some 1) (some 11)=cs at hcl
  refine aX <| iC <| oX (ds:=bU 0 (2 - (cs.length:Int)).toNat) ?_ ?_
  ·have e:e2 jN (eC (.int 2)) (aA cC (aq (ae 2) aD)) (down [some (.d (.lst (ns.map .int))),some (.loc 0),some (.d (.lst (cs.map .int))),none,none,none,none,none])= .ok (.int (2 - (cs.length:Int))):=
    az (a:= .int 2) (b:= .int cs.length) rfl (aL (ds:=[.lst (cs.map .int)]) rfl (by rw[kx,List.length_map])) rfl
   unfold d8
   rw[e,R.aR]
   show R.bZ (decide (-(2 ^ 62)≤2 - (cs.length:Int)∧2 - (cs.length:Int) < 2 ^ 62)) _=_
   rw[bY _ ⟨by omega,by omega⟩]
  refine(cD (fun i δ S2=>oW 0 S2∧∃(ds:List Int) (a3:Option V3),ds.length=cs.length+i∧δ=[some (.d (.lst (ns.map .int))),some (.loc 0),some (.d (.lst (ds.map .int))),a3,none,none,none,none])
   ⟨p1,cs,none,rfl,rfl⟩ ?_).mono fun o S2 ⟨δ2,e2',p2,ds,a3,hds,hδ⟩=>⟨δ2,e2',?_⟩
  ·rintro i v δ S2 hv ⟨p2,ds,a3,hds,rfl⟩
   have hi:i < 4:=by
    have:=(List.getElem?_eq_some_iff.mp hv).1
    rw[List.length_map,bU,List.length_map,List.length_range] at this
    omega
   refine⟨_,rfl,?_⟩
   unfold xC
   refine bJ (by simp only[List.length_cons,List.length_nil,List.length_set];omega) <| B4 <| dJ (d:= .lst (ds.map .int)) rfl <| GU <| aO <| fk <| aO <| w_var (v:= .loc 0) rfl <| aO <| dJ (d:= .int 10000000000000000000000000000000000000000) ?_ <| cQ <| sM p2 (by omega) C6 fun r S3 h1 h2 v3=>cQ ⟨by simp;omega,_,_, .lst ((ds++[r]).map .int),rfl,rfl,?_,_,rfl,v3.p,ds++[r],some v,by simp [hds];omega,rfl⟩
   ·exact rfl
   ·rw[List.map_append]
    exact tK (by rw[List.length_map];simp;omega)
  have hdl:ds.length≤12∧2≤ds.length:=by
   rw[List.length_map,bU,List.length_map,List.length_range] at hds
   omega
  subst hδ
  refine aX <| bJ (by simp only[List.length_cons,List.length_nil,List.length_set];omega) <| fk <| aO <| w_var (v:= .loc 0) rfl <| aO <| dJ (d:= .lst (ds.map .int)) rfl <| aO <| dJ (d:= .int 6) rfl <| aO <| dJ (d:= .int 1) rfl <| cQ <| zP p2 (by omega) ⟨by omega,by omega⟩ fun l gs os S4 hlw hl1 hl6 hgl hgs hol1 hol hos v4=>⟨_,rfl,?_⟩
  simp only[List.set_cons_succ,List.set_cons_zero]
  have NO:jh l gs os:=⟨by omega,fun x hx=>by have:=hlw x hx;omega,by omega,hgs,by omega,fun x hx=>⟨by have:=(hos x hx).1;omega,(hos x hx).2.1⟩⟩
  have ho:∀x∈os,1≤x.2.length∧x.2.length≤3:=fun x hx=>(hos x hx).1
  have hsd:∀x∈os,∀p,(pt (Wd l.length l gs [] []) x p).2=!(pt (Wd l.length l gs [] []) x p).1:=fun x hx p=>zw (ho x hx) fun a b hab=>(hos x hx).2.2 a b hab (qR l.length) qA p
  have hF4:Flat S4:=v4.p.1
  have hal:Al 5 (.lst ((rF gs).map (kW l.length l gs os))):=sF (by rw[List.length_map];have:=tm (gs:=gs);omega) fun y hy=>by
   obtain⟨x,_,rfl⟩:=List.mem_map.mp hy
   refine n5 (by simp) fun z hz=>?_
   simp only[List.mem_cons,List.not_mem_nil,or_false] at hz
   rcases hz with rfl | rfl | rfl <;> exact vS _ _
  refine aX <| bJ (by simp only[List.length_cons,List.length_nil,List.length_set];omega) <| mO (fun j es S8=>S8=S4∧es=(((List.range gs.length).take j).filter fun i=>match gs[i]? with | some g=>!g.2.2 | none=>false).map (kW l.length l gs os)) (oX (ds:=(List.range gs.length).map nI) ?_ ⟨by simp;omega,⟨rfl,by simp⟩,?_,?_⟩)
  ·rw[←z9]
   exact eA (n:=gs.length) (aL (ds:=[.lst (gs.map gK)]) (aK (az (a:=bL l gs os) (b:= .int 1) rfl rfl rfl) rfl) (by rw[kx,List.length_map])) (by omega)
  ·rintro j v es S8 hv ⟨rfl,rfl⟩
   obtain⟨i,hi,rfl⟩:=NT.nW hv
   obtain⟨hi1,hi2⟩:=List.getElem?_eq_some_iff.mp hi
   rw[List.length_range] at hi1
   rw[List.getElem_range] at hi2
   subst hi2
   refine⟨[some (.d (nI j)),some (.d (bL l gs os))],rfl,zG (ze (ins:=l) (os:=os) hi1 rfl rfl) ?_⟩
   rw[List.take_add_one,hi,List.filter_append,List.map_append]
   show if(match gs[j]? with | some g=>!g.2.2 | none=>false)=true then _ else _
   cases hq:(match gs[j]? with | some g=>!g.2.2 | none=>false) with
   | true=>
     rw[if_pos rfl]
     refine dJ (d:=kW l.length l gs os j) (aL (ds:=[bL l gs os,nI j]) rfl (y8 NO rfl (by omega) ho hsd)) ⟨_,rfl,rfl,?_⟩
     congr 1
     simp only[Option.toList_some,List.filter_cons,List.filter_nil]
     rw[hq];rfl
   | false=>
     rw[if_neg (by decide)]
     refine⟨rfl,?_⟩
     simp only[Option.toList_some,List.filter_cons,List.filter_nil]
     rw[hq]
     simp
  ·rintro es S8 ⟨rfl,rfl⟩
   rw[List.length_map,List.length_map,List.length_range,List.take_of_length_le (by simp)]
   refine⟨_,rfl,?_⟩
   simp only[List.set_cons_succ,List.set_cons_zero]
   show W3 (bC _ _ [some (.d (.lst (ns.map .int))),some (.loc 0),some (.d (.lst (ds.map .int))),a3,some (.d (bL l gs os)),some (.d (.lst ((rF gs).map (kW l.length l gs os)))),none,none] S8) _
   generalize hE:D.lst ((rF gs).map (kW l.length l gs os))=E at hal
   refine aX <| bJ (by simp only[List.length_cons,List.length_nil,List.length_set];omega) <| dJ (d:=bL l gs os) (aL (ds:=[bL l gs os]) rfl yx) ⟨_,rfl,?_⟩
   simp only[List.set_cons_succ,List.set_cons_zero]
   refine aX <| bJ (by simp only[List.length_cons,List.length_nil,List.length_set];omega) <| fk <| aO <| dJ (d:=bL l gs os) rfl <| cQ <| sr (c:=l.length) NO rfl (by omega) ho (by omega) hF4.Kk ⟨_,rfl,?_⟩
   simp only[List.set_cons_succ,List.set_cons_zero]
   have hTl:(TS S8 l.length l gs os).length=S8.length+2:=by unfold TS;simp
   have hcl0:pq (TS S8 l.length l gs os):=CZ hF4.Kk (by
    show(decide (S8.length+1 < S8.length+2) && true)=true
    rw[decide_eq_true (by omega)];rfl) rfl
   have hlst:∀L:List D,(TS S8 l.length l gs os++[SO.lst L])[S8.length+2]? =some (.lst L):=fun L=>by rw[←hTl];exact bz _ _
   have hres:∀L:List D,res (TS S8 l.length l gs os++[SO.lst L]) (.loc (S8.length+2))=some (.lst L):=fun L=>by unfold res;rw [hlst]
   generalize TS S8 l.length l gs os=S9 at hTl hcl0 hlst hres
   refine aX (wx (Dj (b:=false) ?_ ?_))
   ·have ev:aA (bH 5) (aq (ae 7) (aq (ae 5) aD)) (bR (S9++[.lst ((rF gs).map (kW l.length l gs os))]) [some (.d (.lst (ns.map .int))),some (.loc 0),some (.d (.lst (ds.map .int))),a3,some (.d (bL l gs os)),some (.d E),some (.d (bL l gs os)),some (.loc (S8.length+2))])= .ok (.bl true):=by
     refine aL (ds:=[E,E]) (aK ?_ (aK rfl rfl)) hal
     simp only[bR,List.map_cons,List.map_nil,hres]
     rw[hE]
     rfl
    unfold jr hV
    rw[ev];rfl
   rw[if_neg (by decide)]
   refine tR ⟨_,rfl,?_⟩
   refine aX <| iS (k:=S8.length+2) rfl ⟨_,hlst _⟩ <| dJ (d:= .tup [.int 0, .int 0, .int 0]) rfl ⟨_,_,rfl,hlst _,by rw[List.length_map];have:=tm (gs:=gs);omega,_,rfl,?_⟩
   rw[←hTl,eO]
   refine gC <| w_and <| pF <| aO <| fk <| aO <| dJ (d:=bL l gs os) rfl <| cQ <| y7 (c:=l.length) NO rfl (by omega) ho (by omega) (pq.push hcl0 fun _=>rfl) <| aO <| dJ (d:=E) rfl <| cQ ⟨[E,E], .bl true,by rw[hE];rfl,hal,rfl,?_⟩
   exact dJ (d:= .bl true) (aL (ds:=[bL l gs os,bL l gs os]) rfl (F3 NO)) ⟨_,rfl,by unfold ft;rfl,⟨_,(List.nil_append _).symm⟩, .bl true,by unfold res;rfl,rfl,trivial⟩
 obtain⟨v,S1,e,rfl,rfl⟩:=key
 unfold xy Io
 simp only[List.map_cons,List.map_nil]
 rw[e]
 rfl
end K15
end
open PySem PySem.W PyProof.Rows
set_option maxRecDepth 100000 in
set_option maxHeartbeats 0 in
theorem PySem.Challenge.cw_bearfaults_k15_what_each_alone_does_holds : PySem.Challenge.rw_bearfaults_k15_what_each_alone_does.Holds := by
 w_on;o_law;k_head;(case hw=>w_witness2)
 k_fill
 refine L2.G7 (l:=PySem.Challenge.rw_bearfaults_k15_what_each_alone_does) (n:=63) (k:=9) (x:=Str.ofString "script") (g:=K15.xy) rfl (by decide) rfl ⟨rfl,by decide,by decide⟩ (fun w h Y=>PySem.W.kIn_of Y) ?F K15.BG
 case F=>
  intro w mg fa h KX G hmg
  have D_vote_of:L2.Def (L2.fY KX) mg (Str.ofString "vote_of") K15.eV:=by
   dsimp only[L2.fY]
   refine' L2.cy KX G ?a ?l ?c ?k
   (case a=>k_is);(case l=>k_is);(case c=>k_is);(case k=>k_is)
  have D_gate_mask:L2.Def (L2.fY KX) mg (Str.ofString "gate_mask") K15.dD:=by
   dsimp only[L2.fY]
   refine' L2.cy KX G ?a ?l ?c ?k
   (case a=>k_is);(case l=>k_is);(case c=>k_is);(case k=>k_is)
  have D_in_wire_masks:L2.Def (L2.fY KX) mg (Str.ofString "in_wire_masks") K15.cb:=by
   dsimp only[L2.fY]
   refine' L2.cy KX G ?a ?l ?c ?k
   (case a=>k_is);(case l=>k_is);(case c=>k_is);(case k=>k_is)
  have D_masks_at:L2.Def (L2.fY KX) mg (Str.ofString "masks_at") K15.dZ:=by
   dsimp only[L2.fY]
   refine' L2.cy KX G ?a ?l ?c ?k
   (case a=>k_is);(case l=>k_is);(case c=>k_is);(case k=>k_is)
  have D_wire_masks:L2.Def (L2.fY KX) mg (Str.ofString "wire_masks") K15.cZ:=by
   dsimp only[L2.fY]
   refine' L2.cy KX G ?a ?l ?c ?k
   (case a=>k_is);(case l=>k_is);(case c=>k_is);(case k=>k_is)
  have D_out_masks:L2.Def (L2.fY KX) mg (Str.ofString "out_masks") K15.dw:=by
   dsimp only[L2.fY]
   refine' L2.cy KX G ?a ?l ?c ?k
   (case a=>k_is);(case l=>k_is);(case c=>k_is);(case k=>k_is)
  have D_reading:L2.Def (L2.fY KX) mg (Str.ofString "reading") K15.eX:=by
   dsimp only[L2.fY]
   refine' L2.cy KX G ?a ?l ?c ?k
   (case a=>k_is);(case l=>k_is);(case c=>k_is);(case k=>k_is)
  have D_bit_at:L2.Def (L2.fY KX) mg (Str.ofString "bit_at") K15.gp:=by
   dsimp only[L2.fY]
   refine' L2.cy KX G ?a ?l ?c ?k
   (case a=>k_is);(case l=>k_is);(case c=>k_is);(case k=>k_is)
  have D_all_inputs:L2.Def (L2.fY KX) mg (Str.ofString "all_inputs") K15.c7:=by
   dsimp only[L2.fY]
   refine' L2.cy KX G ?a ?l ?c ?k
   (case a=>k_is);(case l=>k_is);(case c=>k_is);(case k=>k_is)
  have D_mask_of:L2.Def (L2.fY KX) mg (Str.ofString "mask_of") K15.eU:=by
   dsimp only[L2.fY]
   refine' L2.cy KX G ?a ?l ?c ?k
   (case a=>k_is);(case l=>k_is);(case c=>k_is);(case k=>k_is)
  have D_in_mask:L2.Def (L2.fY KX) mg (Str.ofString "in_mask") K15.eY:=by
   dsimp only[L2.fY]
   refine' L2.cy KX G ?a ?l ?c ?k
   (case a=>k_is);(case l=>k_is);(case c=>k_is);(case k=>k_is)
  have D_matters:L2.Def (L2.fY KX) mg (Str.ofString "matters") K15.eW:=by
   dsimp only[L2.fY]
   refine' L2.cy KX G ?a ?l ?c ?k
   (case a=>k_is);(case l=>k_is);(case c=>k_is);(case k=>k_is)
  have D_law_cell_at:L2.Def (L2.fY KX) mg (Str.ofString "_law_cell_at") K15.cJ:=by
   dsimp only[L2.fY]
   refine' L2.cy KX G ?a ?l ?c ?k
   (case a=>k_is);(case l=>k_is);(case c=>k_is);(case k=>k_is)
  have D_law_reel:L2.Def (L2.fY KX) mg (Str.ofString "_law_reel") K15.d7:=by
   dsimp only[L2.fY]
   refine' L2.cy KX G ?a ?l ?c ?k
   (case a=>k_is);(case l=>k_is);(case c=>k_is);(case k=>k_is)
  have D_law_take:L2.Def (L2.fY KX) mg (Str.ofString "_law_take") K15.ee:=by
   dsimp only[L2.fY]
   refine' L2.cy KX G ?a ?l ?c ?k
   (case a=>k_is);(case l=>k_is);(case c=>k_is);(case k=>k_is)
  have D_law_names:L2.Def (L2.fY KX) mg (Str.ofString "_law_names") K15.dr:=by
   dsimp only[L2.fY]
   refine' L2.cy KX G ?a ?l ?c ?k
   (case a=>k_is);(case l=>k_is);(case c=>k_is);(case k=>k_is)
  have D_law_gate:L2.Def (L2.fY KX) mg (Str.ofString "_law_gate") K15.d5:=by
   dsimp only[L2.fY]
   refine' L2.cy KX G ?a ?l ?c ?k
   (case a=>k_is);(case l=>k_is);(case c=>k_is);(case k=>k_is)
  have D_law_again:L2.Def (L2.fY KX) mg (Str.ofString "_law_again") K15.dt:=by
   dsimp only[L2.fY]
   refine' L2.cy KX G ?a ?l ?c ?k
   (case a=>k_is);(case l=>k_is);(case c=>k_is);(case k=>k_is)
  have D_law_outs:L2.Def (L2.fY KX) mg (Str.ofString "_law_outs") K15.ef:=by
   dsimp only[L2.fY]
   refine' L2.cy KX G ?a ?l ?c ?k
   (case a=>k_is);(case l=>k_is);(case c=>k_is);(case k=>k_is)
  have D_law_net:L2.Def (L2.fY KX) mg (Str.ofString "_law_net") K15.eT:=by
   dsimp only[L2.fY]
   refine' L2.cy KX G ?a ?l ?c ?k
   (case a=>k_is);(case l=>k_is);(case c=>k_is);(case k=>k_is)
  have D_law_gate_bit:L2.Def (L2.fY KX) mg (Str.ofString "_law_gate_bit") K15.cu:=by
   dsimp only[L2.fY]
   refine' L2.cy KX G ?a ?l ?c ?k
   (case a=>k_is);(case l=>k_is);(case c=>k_is);(case k=>k_is)
  have D_law_wires:L2.Def (L2.fY KX) mg (Str.ofString "_law_wires") K15.dk:=by
   dsimp only[L2.fY]
   refine' L2.cy KX G ?a ?l ?c ?k
   (case a=>k_is);(case l=>k_is);(case c=>k_is);(case k=>k_is)
  have D_law_read:L2.Def (L2.fY KX) mg (Str.ofString "_law_read") K15.d_:=by
   dsimp only[L2.fY]
   refine' L2.cy KX G ?a ?l ?c ?k
   (case a=>k_is);(case l=>k_is);(case c=>k_is);(case k=>k_is)
  have D_law_reads:L2.Def (L2.fY KX) mg (Str.ofString "_law_reads") K15.dy:=by
   dsimp only[L2.fY]
   refine' L2.cy KX G ?a ?l ?c ?k
   (case a=>k_is);(case l=>k_is);(case c=>k_is);(case k=>k_is)
  have D_law_inputs:L2.Def (L2.fY KX) mg (Str.ofString "_law_inputs") K15.cX:=by
   dsimp only[L2.fY]
   refine' L2.cy KX G ?a ?l ?c ?k
   (case a=>k_is);(case l=>k_is);(case c=>k_is);(case k=>k_is)
  have D_law_alike:L2.Def (L2.fY KX) mg (Str.ofString "_law_alike") K15.dv:=by
   dsimp only[L2.fY]
   refine' L2.cy KX G ?a ?l ?c ?k
   (case a=>k_is);(case l=>k_is);(case c=>k_is);(case k=>k_is)
  have D_law_copied:L2.Def (L2.fY KX) mg (Str.ofString "_law_copied") K15.c_:=by
   dsimp only[L2.fY]
   refine' L2.cy KX G ?a ?l ?c ?k
   (case a=>k_is);(case l=>k_is);(case c=>k_is);(case k=>k_is)
  have D_law_counts:L2.Def (L2.fY KX) mg (Str.ofString "_law_counts") K15.c6:=by
   dsimp only[L2.fY]
   refine' L2.cy KX G ?a ?l ?c ?k
   (case a=>k_is);(case l=>k_is);(case c=>k_is);(case k=>k_is)
  have D_law:L2.Def (L2.fY KX) mg (Str.ofString "law") K15.oF:=by
   dsimp only[L2.fY]
   refine' L2.cy KX G ?a ?l ?c ?k
   (case a=>k_is);(case l=>k_is);(case c=>k_is);(case k=>k_is)
  obtain⟨cl,CF⟩:∃cl,K15.Cf (L2.fY KX) mg cl:=by
   dsimp only[L2.fY]
   refine' K15.Ho KX G ?aC0 ?pg0 ?hd0 ?po0 ?sa0 ?mk0 ?kc0 ?n0_net ?n0_many_inputs ?n0_full ?n0_in_masks ?aC1 ?pg1 ?hd1 ?po1 ?sa1 ?mk1 ?kc1 ?n1_bench ?n1_plain ?n1_unsure ?a_Bench___init__ ?i_Bench___init__ ?l_Bench___init__ ?dQ ?k_Bench___init__ ?a_Bench_tells ?i_Bench_tells ?l_Bench_tells ?fD ?k_Bench_tells ?a_Bench_readings ?i_Bench_readings ?l_Bench_readings ?dR ?k_Bench_readings ?a_Trial___init__ ?i_Trial___init__ ?l_Trial___init__ ?dO ?k_Trial___init__ ?a_Trial_breaks_at ?i_Trial_breaks_at ?l_Trial_breaks_at ?dA ?k_Trial_breaks_at ?a_Bench_inputs_in ?i_Bench_inputs_in ?l_Bench_inputs_in ?dE ?k_Bench_inputs_in
   (case aC0=>k_is)
   (case pg0=>k_is)
   (case hd0=>k_is)
   (case po0=>k_is)
   (case sa0=>k_is)
   (case mk0=>k_is)
   (case kc0=>k_is)
   (case n0_net=>k_is)
   (case n0_many_inputs=>k_is)
   (case n0_full=>k_is)
   (case n0_in_masks=>k_is)
   (case aC1=>k_is)
   (case pg1=>k_is)
   (case hd1=>k_is)
   (case po1=>k_is)
   (case sa1=>k_is)
   (case mk1=>k_is)
   (case kc1=>k_is)
   (case n1_bench=>k_is)
   (case n1_plain=>k_is)
   (case n1_unsure=>k_is)
   (case a_Bench___init__=>k_is)
   (case i_Bench___init__=>k_is)
   (case l_Bench___init__=>k_is)
   (case dQ=>k_is)
   (case k_Bench___init__=>k_is)
   (case a_Bench_tells=>k_is)
   (case i_Bench_tells=>k_is)
   (case l_Bench_tells=>k_is)
   (case fD=>k_is)
   (case k_Bench_tells=>k_is)
   (case a_Bench_readings=>k_is)
   (case i_Bench_readings=>k_is)
   (case l_Bench_readings=>k_is)
   (case dR=>k_is)
   (case k_Bench_readings=>k_is)
   (case a_Trial___init__=>k_is)
   (case i_Trial___init__=>k_is)
   (case l_Trial___init__=>k_is)
   (case dO=>k_is)
   (case k_Trial___init__=>k_is)
   (case a_Trial_breaks_at=>k_is)
   (case i_Trial_breaks_at=>k_is)
   (case l_Trial_breaks_at=>k_is)
   (case dA=>k_is)
   (case k_Trial_breaks_at=>k_is)
   (case a_Bench_inputs_in=>k_is)
   (case i_Bench_inputs_in=>k_is)
   (case l_Bench_inputs_in=>k_is)
   (case dE=>k_is)
   (case k_Bench_inputs_in=>k_is)
  have D_Bench___init__:=CF.D_Bench___init__
  have D_Bench_tells:=CF.D_Bench_tells
  have D_Bench_readings:=CF.D_Bench_readings
  have D_Trial___init__:=CF.D_Trial___init__
  have D_Trial_breaks_at:=CF.D_Trial_breaks_at
  have D_Bench_inputs_in:=CF.D_Bench_inputs_in
  have T:K15.Tp (L2.fY KX) mg cl:=by
   dsimp only[L2.fY]
   refine' ⟨PySem.W.mg_none_of KX G ?z_enumerate,PySem.W.mg_none_of KX G ?z_range,PySem.W.mg_none_of KX G ?z_len,PySem.W.mg_none_of KX G ?z_tuple,PySem.W.mg_none_of KX G ?z_reversed,PySem.W.mg_none_of KX G ?z_zip,PySem.W.mg_none_of KX G ?z_abs,PySem.W.mg_none_of KX G ?z_min,PySem.W.mg_none_of KX G ?z_max,PySem.W.mg_none_of KX G ?z_sum,PySem.W.mg_none_of KX G ?z_int,PySem.W.mg_none_of KX G ?z_isinstance,PySem.W.mg_none_of KX G ?z_bool,PySem.W.mg_none_of KX G ?z_str,PySem.W.mg_none_of KX G ?z_list,CF.C_Bench,CF.N_Bench_net,CF.N_Bench_many_inputs,CF.N_Bench_full,CF.N_Bench_in_masks,CF.M_Bench,CF.C_Trial,CF.N_Trial_bench,CF.N_Trial_plain,CF.N_Trial_unsure,CF.M_Trial⟩
   (case z_enumerate=>k_is);(case z_range=>k_is);(case z_len=>k_is);(case z_tuple=>k_is);(case z_reversed=>k_is);(case z_zip=>k_is);(case z_abs=>k_is);(case z_min=>k_is);(case z_max=>k_is);(case z_sum=>k_is);(case z_int=>k_is);(case z_isinstance=>k_is);(case z_bool=>k_is);(case z_str=>k_is);(case z_list=>k_is)
  obtain⟨fl,fd,Fl,hl⟩:=D_law
  have e0:=hmg.symm.trans hl
  cases e0
  refine' ⟨fd,?b,fun base kb nb=>K15.Gv T D_vote_of D_gate_mask D_in_wire_masks D_masks_at D_wire_masks D_out_masks D_reading D_bit_at D_all_inputs D_mask_of D_in_mask D_Bench___init__ D_Bench_tells D_Bench_readings D_Trial___init__ D_Trial_breaks_at D_Bench_inputs_in D_matters D_law_cell_at D_law_reel D_law_take D_law_names D_law_gate D_law_again D_law_outs D_law_net D_law_gate_bit D_law_wires D_law_read D_law_reads D_law_inputs D_law_alike D_law_copied D_law_counts Fl⟩
  obtain⟨_,_,_,_,_,_,_,_,_,e,_,_⟩:=Fl.ex
  subst e
  exact fun s u=> .of_eq rfl
