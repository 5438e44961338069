import PyProof.Rows.All
import Wide.All
import OpenK.AllK
import Wide.FinOn
import Lean
import PyProof.EqAt
import PyProof.EqKinds
import PyProof.TupleCall
import PyProof.Rows.StrJoin2
import PyProof.TupleOfGen
import PyProof.ListRange
import PyProof.Draws
import PyProof.Rows.StrClose3
import KE.KSortedM
import PyProof.Rows.SortWalk
import PyProof.WalkInts
import PyProof.Rows.Range3
import PyProof.ZipIter
import PyProof.ConsumeWalk
import PyProof.Rows.SeqMore
import KE.KRevIter
import KE.KRevSl
import KE.KUnpack
import PySem.Challenge.RW_bearfaults_k21_breaking_sets
noncomputable section
set_option bootstrap.genMatcherCode false
def PySem.W.Fast.tw8672756119317781702:=0
def PySem.W.Fast.tw5719865866821160792:=0
def PySem.W.Fast.tw10673402739207436299:=0
def PySem.W.Fast.tw7851290820778420334:=0
def PySem.W.Fast.tw16375038423316860842:=0
def PySem.W.Fast.tw5016786985792265309:=0
def PySem.W.Fast.tw1048799476126868202:=0
def PySem.W.Fast.tw6785730063968284916:=0
def PySem.W.Fast.tw13655414224132514528:=0
def PySem.W.Fast.tw2589930450523621639:=0
def PySem.W.Fast.tw1820726100259743291:=0
def PySem.W.Fast.tw12235957610401758902:=0
def PySem.W.Fast.tw16678680880133409556:=0
def PySem.W.Fast.tw1743280575976175894:=0
def PySem.W.Fast.tw10229222837489498710:=0
def PySem.W.Fast.tw9659570191522780677:=0
def PySem.W.Fast.tw123556768710481217:=0
def PySem.W.Fast.tw13041020269235144426:=0
def PySem.W.Fast.tw13878881899365596326:=0
def PySem.W.Fast.tw13515396664663339082:=0
def PySem.W.Fast.tw15729757628896766330:=0
def PySem.W.Fast.tw12351984792319347846:=0
def PySem.W.Fast.tw4211986929301659916:=0
def PySem.W.Fast.tw6616926402677980380:=0
def PySem.W.Fast.tw12173229706210024145:=0
def PySem.W.Fast.tw12354137287824058592:=0
def PySem.W.Fast.tw3849279181001602428:=0
def PySem.W.Fast.tw12784520301828300538:=0
def PySem.W.Fast.tw10088409516422371881:=0
def PySem.W.Fast.tw11618560833585924332:=0
def PySem.W.Fast.tw6207581530591383564:=0
def PySem.W.Fast.tw2883540053292695530:=0
def PySem.W.Fast.tw9346063731148168750:=0
def PySem.W.Fast.tw14389496009695193674:=0
def PySem.W.Fast.tw7668728149280479084:=0
def PySem.W.Fast.tw1797803066561253417:=0
def PySem.W.Fast.tw5869497051575728974:=0
def PySem.W.Fast.tw16826514420674811474:=0
def PySem.W.Fast.tw11656580730081036152:=0
def PySem.W.Fast.tw10044420259761625755:=0
set_option Elab.async false
set_option linter.all false
set_option maxRecDepth 100000
set_option maxHeartbeats 4000000
section
set_option maxRecDepth 100000
namespace L2
open PySem PySem.Spec PyProof.Rows
noncomputable abbrev Key:=Sum Int Str
noncomputable def sR:Key→Value→Bool
 | .inl k,v=>Value.isInt k v
 | .inr x,v=>Value.isStrOf x v
noncomputable def JN(w:World):Key→Int
 | .inl k=>hashInt k
 | .inr x=>hashStr w x
theorem dy:∀{k:Key} {v:Value},sR k v=true→(∃i t,k=Sum.inl i∧v=Value.int i t)∨(∃x t,k=Sum.inr x∧v=Value.str x t)
 | .inl i,v,h=>by
   obtain⟨t,e⟩:=Value.isInt_shape (k:=i) (v:=v) h
   exact .inl ⟨i,t,rfl,e⟩
 | .inr x,v,h=>by
   obtain⟨t,e⟩:=Value.isStrOf_shape (x:=x) (v:=v) h
   exact .inr ⟨x,t,rfl,e⟩
theorem z9(i:Int)(t:Tok):sR (.inl i) (.int i t)=true:=by simp [sR,Value.isInt]
theorem Ad(x:Str)(t:Tok):sR (.inr x) (.str x t)=true:=by simp [sR,Value.isStrOf]
theorem G_(a b:Int):decide ((Sum.inl a:Key)=Sum.inl b)=(a==b):=by
 by_cases e:a=b
 ·subst e;simp
 ·have h:¬(Sum.inl a:Key)=Sum.inl b:=fun q=>e (Sum.inl.inj q)
  rw[decide_eq_false h]
  exact(beq_eq_false_iff_ne.mpr e).symm
theorem GS(a b:Str):decide ((Sum.inr a:Key)=Sum.inr b)=decide (a=b):=by
 by_cases e:a=b
 ·subst e;simp
 ·have h:¬(Sum.inr a:Key)=Sum.inr b:=fun q=>e (Sum.inr.inj q)
  rw[decide_eq_false h,decide_eq_false e]
theorem Ht(a:Int)(b:Str):decide ((Sum.inl a:Key)=Sum.inr b)=false:=decide_eq_false (fun q=>nomatch q)
theorem GJ(a:Str)(b:Int):decide ((Sum.inr a:Key)=Sum.inl b)=false:=decide_eq_false (fun q=>nomatch q)
noncomputable def dz(prog:Program)(w:World):PySem.KeyKind prog w Key where
 is:=sR
 hash:=JN w
 inj:=fun v a b ha hb=>by
  rcases dy ha with⟨i,t,rfl,rfl⟩ | ⟨x,t,rfl,rfl⟩
  ·rcases dy hb with⟨j,u,rfl,e⟩ | ⟨y,u,rfl,e⟩
   ·injection e with e1 _;rw [e1]
   ·exact nomatch e
  ·rcases dy hb with⟨j,u,rfl,e⟩ | ⟨y,u,rfl,e⟩
   ·exact nomatch e
   ·injection e with e1 _;rw [e1]
 byValue:=fun k v h=>by
  rcases dy h with⟨i,t,rfl,rfl⟩ | ⟨x,t,rfl,rfl⟩ <;> rfl
 pyHash:=fun hv h=>by
  rcases dy hv with⟨i,t,rfl,rfl⟩ | ⟨x,t,rfl,rfl⟩
  ·exact wpAny_pyHash_int h
  ·exact wpAny_pyHash_str h
 eqBool:=fun hu hv h=>by
  rcases dy hu with⟨i,t,rfl,rfl⟩ | ⟨x,t,rfl,rfl⟩
  ·rcases dy hv with⟨j,u,rfl,rfl⟩ | ⟨y,u,rfl,rfl⟩
   ·rw[G_] at h;exact wpAny_eqBool_int h
   ·rw[Ht] at h;exact SeqAt.EqAt.int_str i t y u _ _ _ _ h
  ·rcases dy hv with⟨j,u,rfl,rfl⟩ | ⟨y,u,rfl,rfl⟩
   ·rw[GJ] at h;exact SeqAt.EqAt.str_int x t j u _ _ _ _ h
   ·rw[GS] at h;exact wpAny_eqBool_str h
 «strs»:=fun k x t v h=>by
  rcases dy h with⟨i,u,rfl,e⟩ | ⟨y,u,rfl,e⟩
  ·exact nomatch e
  ·injection e with e1 _
   subst e1
   cases v <;> rfl
theorem vh(prog:Program)(w:World)(i:Int)(t:Tok):(dz prog w).is (.inl i) (.int i t)=true:=z9 i t
theorem wc(prog:Program)(w:World)(x:Str)(t:Tok):(dz prog w).is (.inr x) (.str x t)=true:=Ad x t
end L2
namespace L2
open PySem PySem.Spec PyProof.Rows
inductive V where
 | di | bl (b:Bool) | int (i:Int) | str (x:Str) | byt (b:Array UInt8) | flt (b:UInt64) | ref (a:Addr) | ty (n:String)
 deriving DecidableEq
noncomputable def RelV:V→Value→Prop
 | .di,u=>u=Value.none
 | .bl b,u=>u=Value.bool b
 | .int i,u=>∃t,u=Value.int i t
 | .str x,u=>∃t,u=Value.str x t
 | .byt b,u=>∃t,u=Value.bytes b t
 | .flt b,u=>∃t,u=Value.float b t
 | .ref a,u=>u=Value.ref a
 | .ty n,u=>u=Value.type n
noncomputable abbrev Vals:List V→List Value→Prop:=Paired RelV
theorem Vals.length{xs:List V}{us:List Value}(r:Vals xs us):xs.length=us.length:=Paired.length r
theorem Vals.get:∀{xs:List V} {us:List Value} {i:Nat} {x:V},Vals xs us→xs[i]? =some x→∃u,us[i]? =some u∧RelV x u
 | _,_,_,_, .nil,e=>by simp at e
 | _,_,0,_, .cons r _,e=>by simp at e;subst e;exact⟨_,rfl,r⟩
 | _,_,i+1,x, .cons _ t,e=>by
   obtain⟨u,h1,h2⟩:=Vals.get (i:=i) (x:=x) t (by simpa using e)
   exact⟨u,by simpa using h1,h2⟩
theorem Vals.set{x:V}{u:Value}(r:RelV x u):∀{xs:List V} {us:List Value} (i:Nat),Vals xs us→Vals (xs.set i x) (us.set i u)
 | _,_,_, .nil=> .nil
 | _,_,0, .cons _ t=> .cons r t
 | _,_,i+1, .cons q t=> .cons q (Vals.set r i t)
theorem Vals.append:∀{xs ys:List V} {us ws:List Value},Vals xs us→Vals ys ws→Vals (xs++ys) (us++ws)
 | _,_,_,_, .nil,s=>s
 | _,_,_,_, .cons r t,s=> .cons r (Vals.append t s)
theorem Vals.take:∀{xs:List V} {us:List Value} (n:Nat),Vals xs us→Vals (xs.take n) (us.take n)
 | _,_,0,_=> .nil
 | _,_,_+1, .nil=> .nil
 | _,_,n+1, .cons r t=> .cons r (Vals.take n t)
theorem Vals.drop:∀{xs:List V} {us:List Value} (n:Nat),Vals xs us→Vals (xs.drop n) (us.drop n)
 | _,_,0,r=>r
 | _,_,_+1, .nil=> .nil
 | _,_,n+1, .cons _ t=>Vals.drop n t
noncomputable def nJ:Option V→Option Value→Prop
 | some v,some u=>RelV v u
 | none,none=>True
 | _,_=>False
noncomputable def KV{κ:Type}:List (κ × V)→List (κ × Value)→Prop:=Paired fun(p:κ × V) (q:κ × Value)=>p.1=q.1∧RelV p.2 q.2
noncomputable def kV:Key→V
 | .inl i=> .int i
 | .inr x=> .str x
inductive HO where
 | lst (xs:List V)
 | tup (xs:List V)
 | dK (kvs:List (Key × V)) | dT (kvs:List (List Key × V))
 | set (S:Int→Bool) (n:Nat)
 | ins (C dx:Addr) (fs:List (Str × V))
 | own (x:Addr)
 | xd (fs:List (Str × V))
 | met (f x:Addr)
 | rng (lo hi:Int)
 | iH (o:Obj) (u:HO)
 | tbl (ps:Array Value)
 | ext (φ:Heap→Prop)
noncomputable abbrev Hp:=Addr→Option HO
noncomputable def upd(H:Hp)(a:Addr)(o:HO):Hp:=fun b=>if b=a then some o else H b
theorem aT{H:Hp}{a:Addr}{o:HO}:upd H a o a=some o:=by unfold upd;rw [if_pos rfl]
theorem bq{H:Hp}{a b:Addr}{o:HO}(h:b≠a):upd H a o b=H b:=by unfold upd;rw [if_neg h]
theorem EB{H:Hp}{a:Addr}{o u:HO}:upd (upd H a o) a u=upd H a u:=by
 funext b;unfold upd;split <;> rfl
theorem cn{H:Hp}{a b:Addr}{o:HO}(h:H a=some o)(h':H b=none):a≠b:=by
 intro e;subst e;rw [h] at h';cases h'
section
variable (P:Program) (w:World)
noncomputable def dS(H:Hp)(h:Heap)(a:Addr):HO→Prop
 | .lst xs=>xs.length≤sizeLine∧∃(its:List Value) (n:Nat),Vals xs its∧h.get? a=some {cls:= .type "list",data:= .seq its.toArray n}
 | .tup xs=>xs.length≤sizeLine∧∃its:List Value,Vals xs its∧IsTup h a its.toArray
 | .dK kvs=>kvs.length≤sizeLine∧(a==sysModules)=false∧∃vs,KV kvs vs∧h.DictOf (dz P w) a vs
 | .dT kvs=>kvs.length≤sizeLine∧(a==sysModules)=false∧∃xs:List (List Key × Addr × Value),
    Paired (fun(p:List Key × V) (q:List Key × Addr × Value)=>p.1=q.1∧H q.2.1=some (.tup (p.1.map kV))∧RelV p.2 q.2.2) kvs xs∧
    ∃o es ep,h.get? a=some o∧o.ExactDict∧o.data= .dict es ep∧es.toList=xs.map (entryOfKey (tupleKind (dz P w)))∧(xs.map (·.1)).Nodup
 | .set S n=>h.SetOf (intKind P w) a S n
 | .ins C dx fs=>H dx=some (.own a)∧fs.length≤1000∧dx≠a∧h.get? a=some (PySem.W.instObj C dx)∧
    ∃mA,h.Ns1 dx mA∧(∀f,nJ (fs.lookup f) (mA f))∧PySem.Within mA (fs.map (·.1))
 | .own _=>∃o,h.get? a=some o
 | .xd fs=>∃mA,h.Ns1 a mA∧∀f,nJ (fs.lookup f) (mA f)
 | .rng lo hi=>∃t u v,h.get? a=some {cls:= .type "range",data:= .fields #[.int lo t, .int hi u, .int 1 v]}
 | .iH o u=>h.get? a=some o∧dS H h a u
 | .tbl ps=>h.get? a=some {cls:= .none,data:= .fields ps}
 | .met f x=>h.get? a=some (PySem.W.methodObj (.ref f) (.ref x))
 | .ext φ=>φ h∧(∃o,h.get? a=some o)∧∀h1 h2:Heap,φ h1→(∀o,h1.get? a=some o→h2.get? a=some o)→φ h2
noncomputable def mJ(H:Hp)(h:Heap):Prop:=∀a o,H a=some o→dS P w H h a o
end
section
variable {P:Program} {w:World} {H H':Hp} {h h':Heap} {a:Addr} {o:HO}
theorem dS.lt(x:dS P w H h a o):a < h.objs.size:=by
 cases o with
 | lst xs=>obtain⟨_,_,_,_,e⟩:=x;exact Heap.lt_size e
 | tup xs=>obtain⟨_,_,_,p⟩:=x;exact p.lt
 | dK kvs=>obtain⟨_,_,_,_,o,_,_,e,_⟩:=x;exact Heap.lt_size e
 | dT kvs=>obtain⟨_,_,_,_,o,_,_,e,_⟩:=x;exact Heap.lt_size e
 | set S n=>obtain⟨o,_,_,_,e,_⟩:=x;exact Heap.lt_size e
 | ins C dx fs=>obtain⟨_,_,_,e,_⟩:=x;exact Heap.lt_size e
 | own y=>obtain⟨_,e⟩:=x;exact Heap.lt_size e
 | xd fs=>obtain⟨_,⟨_,_,_,e,_⟩,_⟩:=x;exact Heap.lt_size e
 | rng lo hi=>obtain⟨_,_,_,e⟩:=x;exact Heap.lt_size e
 | iH ob u=>obtain⟨e,_⟩:=x;exact Heap.lt_size e
 | tbl ps=>exact Heap.lt_size (show h.get? a=some _ from x)
 | met f y=>exact Heap.lt_size (show h.get? a=some _ from x)
 | ext φ=>obtain⟨_,⟨_,e⟩,_⟩:=x;exact Heap.lt_size e
theorem Paired.IL{α β:Type}{F G:α→β→Prop}:∀{l₁:List α} {l₂:List β},Paired F l₁ l₂→(∀a b,F a b→G a b)→Paired G l₁ l₂
 | _,_, .nil,_=> .nil
 | _,_, .cons r t,f=> .cons (f _ _ r) (Paired.IL t f)
theorem dS.uB(x:dS P w H h a o)(k:∀b u,(b=a∨H b=some (.own a))→h.get? b=some u→h'.get? b=some u)
 (ho:∀b,H b=some (.own a)→H' b=some (.own a)) (ht:∀b xs,H b=some (.tup xs)→H' b=some (.tup xs)):dS P w H' h' a o:=by
 induction o with
 | lst xs=>obtain⟨z,its,n,r,e⟩:=x;exact⟨z,its,n,r,k _ _ (.inl rfl) e⟩
 | tup xs=>obtain⟨z,its,r,ob,e,c⟩:=x;exact⟨z,its,r,ob,k _ _ (.inl rfl) e,c⟩
 | dK kvs=>obtain⟨z,y,vs,r,ob,es,ep,e,c⟩:=x;exact⟨z,y,vs,r,ob,es,ep,k _ _ (.inl rfl) e,c⟩
 | dT kvs=>
   obtain⟨z,y,xs,r,ob,es,ep,e,c⟩:=x
   exact⟨z,y,xs,Paired.IL r fun p q z=>⟨z.1,ht _ _ z.2.1,z.2.2⟩,ob,es,ep,k _ _ (.inl rfl) e,c⟩
 | set S n=>obtain⟨ob,es,ep,t,e,c⟩:=x;exact⟨ob,es,ep,t,k _ _ (.inl rfl) e,c⟩
 | ins C dx fs=>
   obtain⟨d,z,ne,e,mA,⟨od,es,ep,e2,c⟩,r⟩:=x
   exact⟨ho _ d,z,ne,k _ _ (.inl rfl) e,mA,⟨od,es,ep,k _ _ (.inr d) e2,c⟩,r⟩
 | own y=>obtain⟨ob,e⟩:=x;exact⟨ob,k _ _ (.inl rfl) e⟩
 | xd fs=>obtain⟨mA,⟨od,es,ep,e,c⟩,r⟩:=x;exact⟨mA,⟨od,es,ep,k _ _ (.inl rfl) e,c⟩,r⟩
 | rng lo hi=>obtain⟨t,u,v,e⟩:=x;exact⟨t,u,v,k _ _ (.inl rfl) e⟩
 | iH ob u ih=>obtain⟨e,q⟩:=x;exact⟨k _ _ (.inl rfl) e,ih q⟩
 | tbl ps=>
   have e:h.get? a=some {cls:= .none,data:= .fields ps}:=x
   show h'.get? a=some {cls:= .none,data:= .fields ps}
   exact k a _ (.inl rfl) e
 | met f y=>
   have e:h.get? a=some (PySem.W.methodObj (.ref f) (.ref y)):=x
   show h'.get? a=some (PySem.W.methodObj (.ref f) (.ref y))
   exact k a _ (.inl rfl) e
 | ext φ=>obtain⟨p,⟨o,e⟩,st⟩:=x;exact⟨st _ _ p fun o q=>k _ _ (.inl rfl) q,⟨o,k _ _ (.inl rfl) e⟩,st⟩
theorem mJ.lt(x:mJ P w H h)(e:H a=some o):a < h.objs.size:=(x a o e).lt
theorem mJ.fresh(x:mJ P w H h)(e:h.objs.size≤a):H a=none:=by
 cases q:H a with
 | none=>rfl
 | some u=>exact absurd (Nat.lt_of_lt_of_le (x.lt q) e) (Nat.lt_irrefl _)
theorem mJ.kept(x:mJ P w H h)(k:∀b u,h.get? b=some u→h'.get? b=some u):mJ P w H h':=fun a o e=>
 (x a o e).uB (fun b u _ q=>k b u q) (fun _ q=>q) fun _ _ q=>q
theorem mJ.laid(x:mJ P w H h)(k:∀b u,h.get? b=some u→h'.get? b=some u)(hp:h.objs.size≤a)(new:dS P w (upd H a o) h' a o):mJ P w (upd H a o) h':=fun b u e=>by
 have hn:=x.fresh hp
 by_cases hb:b=a
 ·subst hb;rw [aT] at e;cases e;exact new
 ·rw[bq hb] at e
  exact(x b u e).uB (fun c v _ q=>k c v q) (fun c q=>by rw[bq (cn q hn)];exact q) fun c xs q=>by rw[bq (cn q hn)];exact q
end
noncomputable def Rd(H:Hp)(a:Addr)(u:HO):Prop:=H a=some u∨∃o,H a=some (.iH o u)
theorem Rd.of{H:Hp}{a:Addr}{u:HO}(h:H a=some u):Rd H a u:= .inl h
theorem Rd.ok{P:Program}{w:World}{H:Hp}{h:Heap}{a:Addr}{u:HO}(r:Rd H a u)(x:mJ P w H h):dS P w H h a u:=by
 rcases r with r | ⟨o,r⟩
 ·exact x a u r
 ·obtain⟨_,q⟩:=x a _ r
  exact q
noncomputable def Jf:Option HO→Prop
 | some (.lst _)=>True
 | some (.dK _)=>True
 | some (.dT _)=>True
 | some (.set _ _)=>True
 | some (.ins _ _ _)=>True
 | some (.ext _)=>True
 | _=>False
section
variable {P:Program} {w:World} {H:Hp} {h h':Heap} {x e:Addr} {o':HO}
theorem mJ.write(ok:mJ P w H h)(mu:Jf (H x))(he:e=x∨H e=some (.own x))(k:∀b u,b≠e→h.get? b=some u→h'.get? b=some u)(heo:∃u,h'.get? e=some u)
 (new:dS P w (upd H x o') h' x o'):mJ P w (upd H x o') h':=fun b u q=>by
 have nown:∀c y,H c=some (.own y)→c≠x:=fun c y r z=>by subst z;rw [r] at mu;exact mu
 have ntup:∀c xs,H c=some (.tup xs)→c≠x:=fun c xs r z=>by subst z;rw [r] at mu;exact mu
 by_cases hb:b=x
 ·subst hb;rw [aT] at q;cases q;exact new
 ·rw[bq hb] at q
  by_cases hbe:b=e
  ·have q':H b=some (.own x):=by
    rcases he with z | z
    ·exact absurd (hbe.trans z) hb
    ·rw[hbe];exact z
   rw[q] at q';cases q'
   obtain⟨v,hv⟩:=heo
   exact⟨v,by rw[hbe];exact hv⟩
  ·refine(ok b u q).uB (fun c v hc r=>k c v ?_ r) (fun c r=>by rw[bq (nown c b r)];exact r) fun c xs r=>by rw[bq (ntup c xs r)];exact r
   rcases hc with rfl | hc
   ·exact hbe
   ·rintro rfl
    rcases he with z | z
    ·exact nown c b hc z
    ·rw[hc] at z;cases z;exact hb rfl
end
structure Un (fs ex:List Addr) (H H':Hp) (h h':Heap):Prop where
 keep:∀b o,h.get? b=some o→H b=none→b ∉ fs→b ∉ ex→h'.get? b=some o
 slot:∀b o,h.get? b=some o→H b=none→b∈fs→b ∉ ex→∃sl,h'.get? b=some {o with slots:=sl}
 free:∀b o,h.get? b=some o→H b=none→b ∉ ex→H' b=none
 there:∀b o,h.get? b=some o→b ∉ ex→∃o',h'.get? b=some o'
 tups:∀b xs,H b=some (.tup xs)→H' b=some (.tup xs)
 frzs:∀b o u,H b=some (.iH o u)→H' b=some (.iH o u)
 tbls:∀b ps,H b=some (.tbl ps)→∃more,H' b=some (.tbl (ps++more))
section
variable {fs fs' ex ex':List Addr} {H H1 H2:Hp} {h h1 h2 h':Heap} {a x e:Addr} {o:HO}
theorem Un.any(u:Un fs ex H H1 h h1){b:Addr}{ob:Obj}(q:h.get? b=some ob)(n:H b=none)(hx:b ∉ ex):∃sl,h1.get? b=some {ob with slots:=sl}:=by
 by_cases hb:b∈fs
 ·exact u.slot b ob q n hb hx
 ·exact⟨ob.slots,u.keep b ob q n hb hx⟩
theorem Un.kept(k:∀b u,h.get? b=some u→h'.get? b=some u):Un fs ex H H h h':=
 ⟨fun b ob q _ _ _=>k b ob q,fun b ob q _ _ _=>⟨ob.slots,k b ob q⟩,fun _ _ _ n _=>n,fun b ob q _=>⟨ob,k b ob q⟩,fun _ _ q=>q,fun _ _ _ q=>q,fun _ ps q=>⟨#[],by rw[q];simp⟩⟩
theorem Un.refl:Un fs ex H H h h:=Un.kept fun _ _ q=>q
theorem Un.laid(k:∀b u,h.get? b=some u→h'.get? b=some u)(hp:h.objs.size≤a)(hn:H a=none):Un fs ex H (upd H a o) h h' where
 keep:=fun b u q _ _ _=>k b u q
 slot:=fun b u q _ _ _=>⟨u.slots,k b u q⟩
 free:=fun b u q n _=>by rw[bq (Nat.ne_of_lt (Nat.lt_of_lt_of_le (Heap.lt_size q) hp))];exact n
 there:=fun b u q _=>⟨u,k b u q⟩
 tups:=fun b xs q=>by rw[bq (cn q hn)];exact q
 frzs:=fun b u xs q=>by rw[bq (cn q hn)];exact q
 tbls:=fun b ps q=>⟨#[],by rw[bq (cn q hn),q];simp⟩
theorem Un.write(mu:Jf (H x))(he:e=x∨H e=some (.own x))(k:∀b u,b≠e→h.get? b=some u→h'.get? b=some u)(heo:∃u,h'.get? e=some u):Un fs ex H (upd H x o) h h':=by
 have hx:∀b,H b=none→b≠x:=fun b n z=>by subst z;rw [n] at mu;exact mu
 have hb:∀b,H b=none→b≠e:=fun b n z=>by
  subst z
  rcases he with r | r
  ·exact hx b n r
  ·rw[n] at r;cases r
 have hm:∀b u,H b=some u→¬Jf (some u)→b≠x:=fun b u q nm z=>by subst z;rw [q] at mu;exact nm mu
 refine⟨fun b u q n _ _=>k b u (hb b n) q,fun b u q n _ _=>⟨u.slots,k b u (hb b n) q⟩,fun b u q n _=>by rw[bq (hx b n)];exact n,fun b u q _=>?_,
  fun b xs q=>by rw[bq (hm b _ q fun z=>z)];exact q,fun b u xs q=>by rw[bq (hm b _ q fun z=>z)];exact q,fun b ps q=>⟨#[],by rw[bq (hm b _ q fun z=>z),q];simp⟩⟩
 by_cases hbe:b=e
 ·subst hbe;exact heo
 ·exact⟨u,k b u hbe q⟩
end
noncomputable def Jr(h:Heap)(H:Hp):List Addr:=(List.range h.objs.size).filter fun a=>(H a).isSome
noncomputable def uH(h:Heap)(H:Hp):Heap:=PySem.W.hideAll h (Jr h H)
theorem z_(h:Heap)(H:Hp):(uH h H).objs.size=h.objs.size:=PySem.W.hideAll_size _ _
theorem Bb{h:Heap}{H:Hp}{b:Addr}{o:Obj}(e:h.get? b=some o)(n:H b=none):(uH h H).get? b=some o:=
 PySem.W.hideAll_get _ e fun hm=>by
  have q:(H b).isSome=true:=(List.mem_filter.mp hm).2
  rw[n] at q;simp at q
theorem DM{h:Heap}{H:Hp}{b:Addr}{o:Obj}(e:(uH h H).get? b=some o):h.get? b=some o∧H b=none:=by
 have e':h.get? b=some o:=PySem.W.of_hideAll (Jr h H) e
 refine⟨e',?_⟩
 cases q:H b with
 | none=>rfl
 | some x=>
   have hm:b∈Jr h H:=List.mem_filter.mpr ⟨List.mem_range.mpr (Heap.lt_size e'),by simp [q]⟩
   have z:(uH h H).get? b=none:=PySem.W.hideAll_none (Jr h H) hm
   rw[z] at e;cases e
noncomputable def DI(g h:Heap)(L:Addr):List (Addr × Obj):=(List.range h.objs.size).filterMap fun a=>if a=L∨(g.get? a).isSome=true then none else(h.get? a).map fun o=>(a,o)
noncomputable def rest(g h:Heap)(L d:Addr):List (Addr × Obj):=(DI g h L).filter fun p=>decide (p.1≠d)
end L2
namespace L2
open PySem PySem.Spec PyProof.Rows
structure Mod (K:PySem.W.Frag) (mg:Str→Option Value) (base:Heap):Prop where
 kin:K.In base
 glob:base.Ns mainGlobals mg
 blt:∃mb,base.Ns builtinsNs mb∧∀x:Str,x≠"__name__"→mb x=bootBuiltins x
 nolimit:base.NoLimit
structure Cx where
 prog:Program
 w:World
 K:PySem.W.Frag
 mg:Str→Option Value
 base:Heap
 A:Around
 N:List Str
 s₀:Shared
 H₀:Hp
 env:Env
 outer:List Env
 stack:List Env
 ex:List Addr
 fn:Str→Bool
 calm:Bool
 pn:List (Addr × Obj)
 xe:Value→Shared→Prop
noncomputable def Au(l:List Env):List Addr:=l.filterMap (·.frame)
noncomputable abbrev Cx.fs(X:Cx):List Addr:=Au X.outer
noncomputable def BP(sc:Scope)(x:Str):Prop:=sc.names.lookup x=some .local∨sc.names.lookup x=some .cell∨sc.names.lookup x=some .free
noncomputable def Loc(sc:Scope)(x:Str):Prop:=sc.names.lookup x=some .local∨sc.names.lookup x=some .cell
noncomputable def Look(env:Env)(h:Heap)(m:Str→Option Value)(x:Str)(u:Value):Prop:=
 (env.kindOf x=some .local∧m x=some u)∨((env.kindOf x=some .cell∨env.kindOf x=some .free)∧∃c,env.cells.lookup x=some c∧h.IsCell c (some u))
structure Cx.Ok (X:Cx):Prop where
 mod:Mod X.K X.mg X.base
 kind:X.env.scope.kind= .function
 glob:X.env.globals=mainGlobals
 blt:X.env.builtins=builtinsNs
 above:X.s₀.heap.objs.size≤X.env.locals
 inj:∀x y c,X.env.cells.lookup x=some c→X.env.cells.lookup y=some c→x=y
 has:∀x,(X.env.kindOf x=some .cell∨X.env.kindOf x=some .free)→∃c,X.env.cells.lookup x=some c
 cab:∀x c,X.fn x=true→X.env.cells.lookup x=some c→X.s₀.heap.objs.size≤c
 hd:X.calm=true→X.A.handled=none
 frames:X.A.frames=some X.stack
 stk:X.stack=X.outer∨(X.stack=X.env ::X.outer∧X.env.frame=some X.env.locals)
 exf:∀b∈X.ex,b≠X.env.locals∧∀x c,X.env.cells.lookup x=some c→c≠b
 bs:∀b o,X.base.get? b=some o→X.s₀.heap.get? b=some o∧X.H₀ b=none
 bsz:X.base.objs.size≤X.s₀.heap.objs.size
 noex:∀b o,X.base.get? b=some o→b ∉ X.ex
 exfs:∀b∈X.ex,b ∉ X.fs
 p7:X.s₀.heap.FunFrames X.base X.outer
 frf:∀b∈X.fs,X.H₀ b=none
structure Inv (X:Cx) (pins:List (Addr × Obj)) (σ:List (Option V)) (H:Hp) (s:Shared):Prop where
 ok:X.Ok
 os:s.os=X.s₀.os
 bare:AllBare s.gens
 base:Un X.fs X.ex X.H₀ H X.s₀.heap s.heap
 loc:∃m,s.heap.Ns X.env.locals m∧∀(i:Nat) (x:Str) (v:V),X.N[i]? =some x→σ[i]? =some (some v)→BP X.env.scope x→∃u,RelV v u∧Look X.env s.heap m x u
 cell:∀x c,X.env.cells.lookup x=some c→∃v,s.heap.IsCell c v
 free:H X.env.locals=none
 freeC:∀x c,X.env.cells.lookup x=some c→H c=none
 pin:∀p∈X.pn++pins,s.heap.get? p.1=some p.2∧H p.1=none∧p.1≠X.env.locals∧p.1 ∉ X.fs∧∀v,p.2.data≠ .cell v
 hok:mJ X.prog X.w H s.heap
 len:σ.length=X.N.length
section
variable {X:Cx} {pins:List (Addr × Obj)} {σ:List (Option V)} {H H':Hp} {s:Shared} {h':Heap}
theorem Cx.Ok.J9(ok:X.Ok){b:Addr}{o:Obj}(e:X.base.get? b=some o):b ∉ X.fs:=fun hb=>by
 have:=(ok.p7.mem hb).1
 rw[e] at this;cases this
theorem Inv.bs(I:Inv X pins σ H s):∀b o,X.base.get? b=some o→s.heap.get? b=some o∧H b=none:=fun b o e=>
 ⟨I.base.keep b o (I.ok.bs b o e).1 (I.ok.bs b o e).2 (I.ok.J9 e) (I.ok.noex b o e),I.base.free b o (I.ok.bs b o e).1 (I.ok.bs b o e).2 (I.ok.noex b o e)⟩
theorem Inv.bk(I:Inv X pins σ H s):∀b o,X.base.get? b=some o→s.heap.get? b=some o:=fun b o e=>(I.bs b o e).1
theorem Inv.mod(I:Inv X pins σ H s):Mod X.K X.mg X.base:=I.ok.mod
theorem Inv.oM(I:Inv X pins σ H s):X.K.In s.heap:=I.ok.mod.kin.keeps I.bk
theorem Inv.lt(I:Inv X pins σ H s):X.env.locals < s.heap.objs.size:=let⟨_,hn,_⟩:=I.loc;hn.lt
theorem Inv.sz(I:Inv X pins σ H s):X.s₀.heap.objs.size≤s.heap.objs.size:=Nat.le_trans I.ok.above (Nat.le_of_lt I.lt)
theorem Inv.JP(I:Inv X pins σ H s){a:Addr}(h:s.heap.objs.size≤a):a ∉ X.fs:=fun hb=>by
 obtain⟨_,o,ho,_⟩:=I.ok.p7.mem hb
 exact absurd (Nat.lt_of_lt_of_le (Heap.lt_size ho) (Nat.le_trans I.sz h)) (Nat.lt_irrefl _)
theorem Inv.Gy(I:Inv X pins σ H s):∀x c,X.env.cells.lookup x=some c→c≠X.env.locals:=fun x c e z=>by
 obtain⟨v,o,ho,hd⟩:=I.cell x c e
 obtain⟨m,⟨o',es,ep,ho',hd',_⟩,_⟩:=I.loc
 rw[z,ho'] at ho;cases ho;rw [hd'] at hd;cases hd
theorem Inv.p7(I:Inv X pins σ H s):s.heap.FunFrames X.base X.outer:=by
 have all:∀(l:List Env),(∀b∈Au l,b∈X.fs)→X.s₀.heap.FunFrames X.base l→s.heap.FunFrames X.base l:=by
  intro l
  induction l with
  | nil=>intro _ _;trivial
  | cons env r ih=>
    intro hs hl
    obtain⟨hk,⟨L,o,hf,hn,ho,hd⟩,hr⟩:=hl
    have hL:L∈X.fs:=hs L (by unfold Au;rw [List.filterMap_cons,hf];exact List.mem_cons_self)
    obtain⟨sl,e⟩:=I.base.slot L o ho (I.ok.frf L hL) hL fun z=>I.ok.exfs L z hL
    exact⟨hk,⟨L,_,hf,hn,e,hd⟩,ih (fun b hb=>hs b (by unfold Au;rw [List.filterMap_cons,hf];exact List.mem_cons_of_mem _ hb)) hr⟩
 exact all X.outer (fun _ hb=>hb) I.ok.p7
theorem Inv.stack(I:Inv X pins σ H s):s.heap.FunFrames X.base X.stack:=by
 rcases I.ok.stk with e | ⟨e,hf⟩
 ·rw[e];exact I.p7
 ·rw[e]
  obtain⟨m,hn,_⟩:=I.loc
  refine .cons (by rw[I.ok.kind];decide) hf hn ?_ I.p7
  exact Heap.get?_none_of_le (Nat.le_trans I.ok.bsz I.ok.above)
theorem Inv.x8(I:Inv X pins σ H s):∀b∈Au X.stack,b∈X.env.locals ::X.fs:=fun b hb=>by
 rcases I.ok.stk with e | ⟨e,hf⟩
 ·rw[e] at hb;exact List.mem_cons_of_mem _ hb
 ·rw[e] at hb
  unfold Au at hb
  rw[List.filterMap_cons,hf] at hb
  exact hb
theorem Inv.y_(I:Inv X pins σ H s):∀b∈Au X.stack,H b=none:=fun b hb=>by
 rcases List.mem_cons.mp (I.x8 b hb) with e | hb
 ·rw[e];exact I.free
 ·obtain⟨_,o,ho,_⟩:=I.ok.p7.mem hb
  exact I.base.free b o ho (I.ok.frf b hb) fun z=>I.ok.exfs b z hb
theorem Inv.step{g':Array GenState}{t':Nat}{d':Drawn}{ch:List Addr}(I:Inv X pins σ H s)
 (hch:∀b∈ch,(b∈X.ex∨X.s₀.heap.objs.size≤b)∧b≠X.env.locals∧(∀x c,X.env.cells.lookup x=some c→c≠b)∧∀p∈X.pn++pins,p.1≠b)
 (keep:∀b o,b≠X.env.locals→b ∉ X.fs→b ∉ ch→s.heap.get? b=some o→H b=none→h'.get? b=some o)
 (slot:∀b o,b≠X.env.locals→b∈X.fs→b ∉ ch→s.heap.get? b=some o→H b=none→∃sl,h'.get? b=some {o with slots:=sl}) (free:∀b o,b ∉ ch→s.heap.get? b=some o→H b=none→H' b=none)
 (there:∀b o,b ∉ ch→s.heap.get? b=some o→∃o',h'.get? b=some o')
 (tups:∀b xs,H b=some (.tup xs)→H' b=some (.tup xs)) (frzs:∀b o u,H b=some (.iH o u)→H' b=some (.iH o u)) (tbls:∀b ps,H b=some (.tbl ps)→∃more,H' b=some (.tbl (ps++more)))
 (ns:∀m,s.heap.Ns X.env.locals m→h'.Ns X.env.locals m) (hok:mJ X.prog X.w H' h') (hg:AllBare g') :
 Inv X pins σ H' {s with heap:=h',gens:=g',drawn:=d',toks:=t'}:=by
 have neL:∀b o,X.s₀.heap.get? b=some o→b≠X.env.locals:=fun b o e=>Nat.ne_of_lt (Nat.lt_of_lt_of_le (Heap.lt_size e) I.ok.above)
 have neC:∀b o,X.s₀.heap.get? b=some o→b ∉ X.ex→b ∉ ch:=fun b o e hx hb=>by
  rcases(hch b hb).1 with z | z
  ·exact hx z
  ·exact absurd (Nat.lt_of_lt_of_le (Heap.lt_size e) z) (Nat.lt_irrefl _)
 have cellK:∀x c,X.env.cells.lookup x=some c→∀v,s.heap.IsCell c v→h'.IsCell c v:=fun x c e v ⟨o,ho,hd⟩=>by
  have nch:c ∉ ch:=fun z=>(hch c z).2.2.1 x c e rfl
  by_cases hc:c∈X.fs
  ·obtain⟨sl,q⟩:=slot c o (I.Gy x c e) hc nch ho (I.freeC x c e)
   exact⟨_,q,hd⟩
  ·exact⟨o,keep c o (I.Gy x c e) hc nch ho (I.freeC x c e),hd⟩
 refine⟨I.ok,I.os,hg,⟨fun b o e n hb hx=>?_,fun b o e n hb hx=>?_,fun b o e n hx=>?_,fun b o e hx=>?_,fun b xs e=>tups b xs (I.base.tups b xs e),fun b o xs e=>frzs b o xs (I.base.frzs b o xs e),fun b ps e=>?_⟩,?_,fun x c e=>?_,?_,fun x c e=>?_,fun p hp=>?_,hok,I.len⟩
 ·exact keep b o (neL b o e) hb (neC b o e hx) (I.base.keep b o e n hb hx) (I.base.free b o e n hx)
 ·obtain⟨sl,e1⟩:=I.base.slot b o e n hb hx
  obtain⟨sl',e2⟩:=slot b _ (neL b o e) hb (neC b o e hx) e1 (I.base.free b o e n hx)
  exact⟨sl',e2⟩
 ·obtain⟨o',e1⟩:=I.base.there b o e hx
  exact free b o' (neC b o e hx) e1 (I.base.free b o e n hx)
 ·obtain⟨o',e1⟩:=I.base.there b o e hx
  exact there b o' (neC b o e hx) e1
 ·obtain⟨m1,e1⟩:=I.base.tbls b ps e
  obtain⟨m2,e2⟩:=tbls b _ e1
  exact⟨m1++m2,by rw[e2,Array.append_assoc]⟩
 ·obtain⟨m,hn,hl⟩:=I.loc
  refine⟨m,ns m hn,fun i x v e1 e2 e3=>?_⟩
  obtain⟨u,r,l⟩:=hl i x v e1 e2 e3
  refine⟨u,r,?_⟩
  rcases l with l | ⟨k,c,e,z⟩
  ·exact .inl l
  ·exact .inr ⟨k,c,e,cellK x c e _ z⟩
 ·obtain⟨v,z⟩:=I.cell x c e
  exact⟨v,cellK x c e v z⟩
 ·obtain⟨m,⟨o,_,_,ho,_⟩,_⟩:=I.loc
  exact free _ o (fun z=>(hch _ z).2.1 rfl) ho I.free
 ·obtain⟨v,o,ho,hd⟩:=I.cell x c e
  exact free c o (fun z=>(hch c z).2.2.1 x c e rfl) ho (I.freeC x c e)
 ·obtain⟨e,n,ne,nf,d⟩:=I.pin p hp
  have nch:p.1 ∉ ch:=fun z=>(hch p.1 z).2.2.2 p hp rfl
  exact⟨keep p.1 p.2 ne nf nch e n,free p.1 p.2 nch e n,ne,nf,d⟩
theorem Inv.un{t':Nat}(I:Inv X pins σ H s)(u:Un X.fs [] H H' s.heap h')(hok:mJ X.prog X.w H' h'):Inv X pins σ H' {s with heap:=h',toks:=t'}:=by
 obtain⟨m,⟨o,es,ep,ho,r⟩,_⟩:=id I.loc
 obtain⟨sl,hL⟩:=u.any ho I.free (by simp)
 exact I.step (g':=s.gens) (d':=s.drawn) (ch:=[]) (fun _ z=>nomatch z) (fun b o _ hb _ e n=>u.keep b o e n hb (by simp)) (fun b o _ hb _ e n=>u.slot b o e n hb (by simp)) (fun b o _ e n=>u.free b o e n (by simp)) (fun b o _ e=>u.there b o e (by simp)) u.tups u.frzs u.tbls (fun m' hm=>by
  obtain⟨o',es',ep',ho',r'⟩:=hm
  rw[ho] at ho';cases ho'
  exact⟨_,es',ep',hL,r'⟩) hok I.bare
theorem Inv.call{g':Array GenState}{t':Nat}{d':Drawn}{ch:List Addr}(I:Inv X pins σ H s)(u:Un (Au X.stack) ch H H' s.heap h')(hok:mJ X.prog X.w H' h')(hg:AllBare g')
 (hch:∀b∈ch,(b∈X.ex∨X.s₀.heap.objs.size≤b)∧b≠X.env.locals∧(∀x c,X.env.cells.lookup x=some c→c≠b)∧∀p∈X.pn++pins,p.1≠b) :
 Inv X pins σ H' {s with heap:=h',gens:=g',drawn:=d',toks:=t'}:=by
 obtain⟨m,⟨o,es,ep,ho,r⟩,_⟩:=id I.loc
 obtain⟨sl,hL⟩:=u.any ho I.free fun z=>(hch _ z).2.1 rfl
 exact I.step (ch:=ch) hch (fun b o hL hb hc e n=>u.keep b o e n (fun z=>(List.mem_cons.mp (I.x8 b z)).elim hL hb) hc) (fun b o _ _ hc e n=>u.any e n hc) (fun b o hc e n=>u.free b o e n hc) (fun b o hc e=>u.there b o e hc) u.tups u.frzs u.tbls (fun m' hm=>by
  obtain⟨o',es',ep',ho',r'⟩:=hm
  rw[ho] at ho';cases ho'
  exact⟨_,es',ep',hL,r'⟩) hok hg
theorem Inv.turned{t':Nat}{it:Addr}(I:Inv X pins σ H s)(k:∀b o,b≠it→s.heap.get? b=some o→h'.get? b=some o)(hn:H it=none)(hL:it≠X.env.locals)
 (h1:it∈X.ex∨X.s₀.heap.objs.size≤it) (h2:∀x c,X.env.cells.lookup x=some c→c≠it) (h3:∀p∈X.pn++pins,p.1≠it):Inv X pins σ H {s with heap:=h',toks:=t'}:=by
 have nit:∀b u,H b=some u→b≠it:=fun b u e z=>by rw[z,hn] at e;cases e
 refine I.step (g':=s.gens) (d':=s.drawn) (ch:=[it]) (fun b hb=>?_) (fun b o _ _ hc e _=>k b o (fun z=>hc (by simp [z])) e) (fun b o _ _ hc e _=>⟨o.slots,k b o (fun z=>hc (by simp [z])) e⟩) (fun _ _ _ _ n=>n)
  (fun b o hc e=>⟨o,k b o (fun z=>hc (by simp [z])) e⟩) (fun _ _ e=>e) (fun _ _ _ e=>e) (fun b ps e=>⟨#[],by rw[e];simp⟩) (fun m hm=>?_) (fun b u e=>?_) I.bare
 ·have e:b=it:=by simpa using hb
  subst e
  exact⟨h1,hL,h2,h3⟩
 ·obtain⟨o,es,ep,ho,r⟩:=hm
  exact⟨o,es,ep,k _ o (Ne.symm hL) ho,r⟩
 ·refine(I.hok b u e).uB (fun c v hc q=>k c v ?_ q) (fun _ q=>q) fun _ _ q=>q
  rcases hc with z | z
  ·rw[z];exact nit b u e
  ·exact nit c _ z
theorem Inv.tok(I:Inv X pins σ H s)(t:Nat):Inv X pins σ H {s with toks:=t}:=I.un (h':=s.heap) (t':=t) Un.refl I.hok
theorem Inv.kept{t':Nat}(I:Inv X pins σ H s)(k:∀b u,s.heap.get? b=some u→h'.get? b=some u):Inv X pins σ H {s with heap:=h',toks:=t'}:=I.un (Un.kept k) (I.hok.kept k)
theorem Inv.laid{a:Addr}{o:HO}{t':Nat}(I:Inv X pins σ H s)(k:∀b u,s.heap.get? b=some u→h'.get? b=some u)(hp:s.heap.objs.size≤a)(new:dS X.prog X.w (upd H a o) h' a o) :
 Inv X pins σ (upd H a o) {s with heap:=h',toks:=t'}:=I.un (Un.laid k hp (I.hok.fresh hp)) (I.hok.laid k hp new)
theorem Inv.write{x e:Addr}{o:HO}{t':Nat}(I:Inv X pins σ H s)(mu:Jf (H x))(he:e=x∨H e=some (.own x))(k:∀b u,b≠e→s.heap.get? b=some u→h'.get? b=some u)(heo:∃u,h'.get? e=some u)
 (new:dS X.prog X.w (upd H x o) h' x o):Inv X pins σ (upd H x o) {s with heap:=h',toks:=t'}:=I.un (Un.write mu he k heo) (I.hok.write mu he k heo new)
theorem Inv.yX{pins':List (Addr × Obj)}(I:Inv X pins σ H s)(h:∀p∈pins',s.heap.get? p.1=some p.2∧H p.1=none∧p.1≠X.env.locals∧p.1 ∉ X.fs∧∀v,p.2.data≠ .cell v):Inv X pins' σ H s:=
 ⟨I.ok,I.os,I.bare,I.base,I.loc,I.cell,I.free,I.freeC,fun p hp=>(List.mem_append.mp hp).elim (fun z=>I.pin p (List.mem_append_left _ z)) (h p),I.hok,I.len⟩
theorem vX{N:List Str}(hN:N.Nodup){i j:Nat}{x:Str}(a:N[i]? =some x)(b:N[j]? =some x):i=j:=by
 obtain⟨h1,e1⟩:=List.getElem?_eq_some_iff.mp a
 obtain⟨h2,e2⟩:=List.getElem?_eq_some_iff.mp b
 exact(List.getElem_inj hN).mp (e1.trans e2.symm)
theorem tp{M:Model}{A:Around}{E:Value→Shared→Prop}{i:Nat}{x:Str}{v:V}{u:Value}{Q:Unit→Shared→Prop}(I:Inv X pins σ H s)(hN:X.N.Nodup)(hi:X.N[i]? =some x)(hx:Loc X.env.scope x)(r:RelV v u)
 (h:∀s',Inv X pins (σ.set i (some v)) H s'→(∃a,Heap.SameBut a s.heap s'.heap∧(a=X.env.locals∨X.env.cells.lookup x=some a))→Q () s') (hf:X.fn x=true∨X.env.scope.names.lookup x=some .local:=by first | exact .inl rfl | exact .inr rfl | assumption):wpAny M A (storeName X.env x u) Q E s:=by
 obtain⟨m,hn,hl⟩:=id I.loc
 have hcls:(X.env.scope.kind== .class || (X.env.scope.kind== .module && X.env.locals !=X.env.globals))=false:=by rw[I.ok.kind];rfl
 have hiσ:i < σ.length:=by rw[I.len];exact(List.getElem?_eq_some_iff.mp hi).1
 have Gy:=I.Gy
 have tracked:∀{a:Addr} {h':Heap},(∃o,s.heap.get? a=some o∧H a=none)→Heap.SameBut a s.heap h'→mJ X.prog X.w H h':=fun {a h'} ha hs b ob e=>by
  obtain⟨_,_,hfree⟩:=ha
  refine(I.hok b ob e).uB (fun c w' hc q=>(hs.2 c ?_).trans q) (fun _ q=>q) fun _ _ q=>q
  rintro rfl
  rcases hc with rfl | hc
  ·rw[hfree] at e;cases e
  ·rw[hfree] at hc;cases hc
 rcases hx with hk | hk
 ·refine wpAny_storeName_local hk hn (fun h' hn' hs=>?_) hcls
  obtain⟨oL,_,_,hoL,_⟩:=id hn
  refine h _ ⟨I.ok,I.os,I.bare,⟨fun b o e n hb hx=>?_,fun b o e n hb hx=>?_,I.base.free,fun b o e hx=>?_,I.base.tups,I.base.frzs,I.base.tbls⟩,⟨_,hn',fun j y v' e1 e2 e3=>?_⟩,fun y c e=>?_,I.free,I.freeC,fun p hp=>?_,tracked ⟨oL,hoL,I.free⟩ hs,by simpa using I.len⟩ ⟨_,hs, .inl rfl⟩
  ·exact(hs.2 b (Nat.ne_of_lt (Nat.lt_of_lt_of_le (Heap.lt_size e) I.ok.above))).trans (I.base.keep b o e n hb hx)
  ·obtain⟨sl,e1⟩:=I.base.slot b o e n hb hx
   exact⟨sl,(hs.2 b (Nat.ne_of_lt (Nat.lt_of_lt_of_le (Heap.lt_size e) I.ok.above))).trans e1⟩
  ·obtain⟨o',e1⟩:=I.base.there b o e hx
   exact⟨o',(hs.2 b (Nat.ne_of_lt (Nat.lt_of_lt_of_le (Heap.lt_size e) I.ok.above))).trans e1⟩
  ·by_cases hj:j=i
   ·subst hj
    rw[hi] at e1;cases e1
    rw[List.getElem?_set_self hiσ] at e2
    cases e2
    exact⟨u,r, .inl ⟨hk,by simp⟩⟩
   ·rw[List.getElem?_set_ne (Ne.symm hj)] at e2
    obtain⟨u',r',q⟩:=hl j y v' e1 e2 e3
    refine⟨u',r',?_⟩
    rcases q with⟨k,e⟩ | ⟨k,c,e,z⟩
    ·refine .inl ⟨k,?_⟩
     have:y≠x:=fun e=>hj (vX hN e1 (e▸hi))
     simp [this,e]
    ·exact .inr ⟨k,c,e,z.sameBut hs (Gy y c e)⟩
  ·obtain⟨w',z⟩:=I.cell y c e
   exact⟨w',z.sameBut hs (Gy y c e)⟩
  ·obtain⟨e,n,ne,nf,d⟩:=I.pin p hp
   exact⟨(hs.2 p.1 ne).trans e,n,ne,nf,d⟩
 ·have hfn:X.fn x=true:=by
   rcases hf with z | z
   ·exact z
   ·rw[z] at hk;cases hk
  obtain⟨c,hc⟩:=I.ok.has x (.inl hk)
  obtain⟨w',z⟩:=I.cell x c hc
  refine wpAny_storeName_cell I.ok.kind hk hc z (fun h' hc' hs=>?_)
  obtain⟨oc,hoc,hocd⟩:=id z
  refine h {s with heap:=h'} ⟨I.ok,I.os,I.bare,⟨fun b o e n hb hx=>?_,fun b o e n hb hx=>?_,I.base.free,fun b o e hx=>?_,I.base.tups,I.base.frzs,I.base.tbls⟩,⟨m,hn.sameBut hs (Ne.symm (Gy x c hc)),fun j y v' e1 e2 e3=>?_⟩,fun y c' e=>?_,I.free,I.freeC,fun p hp=>?_,tracked ⟨oc,hoc,I.freeC x c hc⟩ hs,by simpa using I.len⟩ ⟨c,hs, .inr hc⟩
  ·exact(hs.2 b (Nat.ne_of_lt (Nat.lt_of_lt_of_le (Heap.lt_size e) (I.ok.cab x c hfn hc)))).trans (I.base.keep b o e n hb hx)
  ·obtain⟨sl,e1⟩:=I.base.slot b o e n hb hx
   exact⟨sl,(hs.2 b (Nat.ne_of_lt (Nat.lt_of_lt_of_le (Heap.lt_size e) (I.ok.cab x c hfn hc)))).trans e1⟩
  ·obtain⟨o',e1⟩:=I.base.there b o e hx
   exact⟨o',(hs.2 b (Nat.ne_of_lt (Nat.lt_of_lt_of_le (Heap.lt_size e) (I.ok.cab x c hfn hc)))).trans e1⟩
  ·by_cases hj:j=i
   ·subst hj
    rw[hi] at e1;cases e1
    rw[List.getElem?_set_self hiσ] at e2
    cases e2
    exact⟨u,r, .inr ⟨.inl hk,c,hc,hc'⟩⟩
   ·rw[List.getElem?_set_ne (Ne.symm hj)] at e2
    obtain⟨u',r',q⟩:=hl j y v' e1 e2 e3
    refine⟨u',r',?_⟩
    rcases q with q | ⟨k,c',e,z'⟩
    ·exact .inl q
    ·refine .inr ⟨k,c',e,z'.sameBut hs ?_⟩
     rintro rfl
     exact hj (vX hN e1 (I.ok.inj _ _ _ e hc▸hi))
  ·by_cases hcc:c'=c
   ·subst hcc;exact⟨_,hc'⟩
   ·obtain⟨w2,z2⟩:=I.cell y c' e
    exact⟨w2,z2.sameBut hs hcc⟩
  ·obtain⟨e,n,ne,nf,d⟩:=I.pin p hp
   refine⟨(hs.2 p.1 ?_).trans e,n,ne,nf,d⟩
   intro q
   rw[q,hoc] at e
   have q':oc=p.2:=Option.some.inj e
   exact d w' (by rw[←q'];exact hocd)
theorem va{M:Model}{A:Around}{E:Value→Shared→Prop}{i:Nat}{x:Str}{v:V}{u:Value}{Q:Unit→Shared→Prop}(I:Inv X pins σ H s)(hN:X.N.Nodup)(hi:X.N[i]? =some x)(hx:Loc X.env.scope x)(r:RelV v u)
 (h:∀s',Inv X pins (σ.set i (some v)) H s'→Q () s') (hf:X.fn x=true∨X.env.scope.names.lookup x=some .local:=by first | exact .inl rfl | exact .inr rfl | assumption):wpAny M A (storeName X.env x u) Q E s:=
 tp I hN hi hx r (fun s' I' _=>h s' I') hf
theorem Inv.Ip{s':Shared}{ch:List Addr}(I:Inv X pins σ H s)(ho:s'.os=s.os)(u:Un (Au X.stack) ch H H' s.heap s'.heap)(hok:mJ X.prog X.w H' s'.heap)(hg:AllBare s'.gens)
 (hch:∀b∈ch,(b∈X.ex∨X.s₀.heap.objs.size≤b)∧b≠X.env.locals∧(∀x c,X.env.cells.lookup x=some c→c≠b)∧∀p∈X.pn++pins,p.1≠b):Inv X pins σ H' s':=by
 obtain⟨h',g',d',t',o'⟩:=s'
 have e:o'=s.os:=ho
 subst e
 exact I.call (g':=g') (t':=t') (d':=d') u hok hg hch
end
noncomputable abbrev XK:=Value→Option Addr→Hp→Prop
noncomputable abbrev St:=List (Option V)
noncomputable abbrev VK:=V→Hp→Prop
noncomputable abbrev TE:=St→Hp→VK→Prop
noncomputable abbrev TT:=St→Hp→(Bool→Hp→Prop)→Prop
noncomputable abbrev TA:=St→Hp→(List V→Hp→Prop)→Prop
structure Ends where
 nx:St→Hp→Prop
 rt:VK
 bk:St→Hp→Prop:=fun _ _=>False
 ct:St→Hp→Prop:=fun _ _=>False
noncomputable abbrev TS:=Ends→St→Hp→Prop
noncomputable def EP(X:Cx)(pins:List (Addr × Obj))(σ:St)(Q:VK)(u:Value)(s':Shared):Prop:=∃v H',Inv X pins σ H' s'∧RelV v u∧Q v H'
noncomputable def TP(X:Cx)(pins:List (Addr × Obj))(σ:St)(Q:Bool→Hp→Prop)(b:Bool)(s':Shared):Prop:=∃H',Inv X pins σ H' s'∧Q b H'
noncomputable def AP(X:Cx)(pins:List (Addr × Obj))(σ:St)(Q:List V→Hp→Prop)(us:List Value)(s':Shared):Prop:=∃vs H',Inv X pins σ H' s'∧Vals vs us∧Q vs H'
noncomputable def SP(X:Cx)(pins:List (Addr × Obj))(D:Ends)(f:Flow)(s':Shared):Prop:=
 match f with
 | .next=>∃σ' H',Inv X pins σ' H' s'∧D.nx σ' H'
 | .brk=>∃σ' H',Inv X pins σ' H' s'∧D.bk σ' H'
 | .cont=>∃σ' H',Inv X pins σ' H' s'∧D.ct σ' H'
 | .ret u=>∃v σ' H',Inv X pins σ' H' s'∧RelV v u∧D.rt v H'
noncomputable def PE(X:Cx)(e:Expr)(t:TE):Prop:=
 ∀(pins:List (Addr × Obj)) (s:Shared) (σ:St) (H:Hp) (Q:VK),Inv X pins σ H s→t σ H Q→wpAny (model X.prog X.w) X.A (eval e X.env) (EP X pins σ Q) X.xe s
noncomputable def PT(X:Cx)(e:Expr)(t:TT):Prop:=
 ∀(pins:List (Addr × Obj)) (s:Shared) (σ:St) (H:Hp) (Q:Bool→Hp→Prop),Inv X pins σ H s→t σ H Q→wpAny (model X.prog X.w) X.A (isTrue e X.env (eval e X.env)) (TP X pins σ Q) X.xe s
noncomputable def PW(X:Cx)(e:Expr)(t:TT):Prop:=
 ∀(whole:Sem Value) (pins:List (Addr × Obj)) (s:Shared) (σ:St) (H:Hp) (Q:Bool→Hp→Prop),Inv X pins σ H s→t σ H Q→wpAny (model X.prog X.w) X.A (isTrue e X.env whole) (TP X pins σ Q) X.xe s
theorem PW.pt{X:Cx}{e:Expr}{t:TT}(h:PW X e t):PT X e t:=h _
noncomputable def PA(X:Cx)(es:List Expr)(t:TA):Prop:=
 ∀(pos:Pos) (pins:List (Addr × Obj)) (s:Shared) (σ:St) (H:Hp) (Q:List V→Hp→Prop),Inv X pins σ H s→t σ H Q→wpAny (model X.prog X.w) X.A (spliced (backTo pos (starEach es X.env))) (AP X pins σ Q) X.xe s
noncomputable def PS(X:Cx)(st:Stmt)(t:TS):Prop:=
 ∀(pins:List (Addr × Obj)) (s:Shared) (σ:St) (H:Hp) (D:Ends),Inv X pins σ H s→t D σ H→wpAny (model X.prog X.w) X.A (exec st X.env) (SP X pins D) X.xe s
noncomputable def u7(X:Cx)(st:List Stmt)(t:TS):Prop:=
 ∀(pins:List (Addr × Obj)) (s:Shared) (σ:St) (H:Hp) (D:Ends),Inv X pins σ H s→t D σ H→wpAny (model X.prog X.w) X.A (execs st X.env) (SP X pins D) X.xe s
theorem eg{α:Type}{t:Sem α}{Q Q':α→Shared→Prop}{M:Model}{A:Around}{E:Value→Shared→Prop}{s:Shared}(h:wpAny M A t Q E s)(hQ:∀a s,Q a s→Q' a s):wpAny M A t Q' E s:=wpAny_mono h hQ fun _ _ x=>x
end L2
namespace L2
open PySem PySem.Spec PyProof.Rows
section
variable {X:Cx}
noncomputable def J0(i:Nat):TE:=fun σ H Q=>∃v,σ[i]? =some (some v)∧Q v H
noncomputable def tC(v:V):TE:=fun _ H Q=>Q v H
theorem o7{i:Nat}{x:Str}{pos:Pos}(hN:X.N[i]? =some x)(hv:BP X.env.scope x)(hd:(x==("__debug__":Str))=false:=by decide)(hcd:(x==("__classdict__":Str))=false:=by decide):PE X (.Name x pos) (J0 i):=by
 intro pins s σ H Q I h
 obtain⟨v,e,h⟩:=h
 obtain⟨m,hn,hl⟩:=I.loc
 obtain⟨u,r,l⟩:=hl i x v hN e hv
 have fin:EP X pins σ Q u s:=⟨v,H,I,r,h⟩
 rcases l with⟨hk,hm⟩ | ⟨hk,c,hc,hcell⟩
 ·exact wpAny_Name (wpAny_loadName_local I.ok.kind hk hn hm fin) hd
 ·rcases hk with hk | hk
  ·exact wpAny_Name (wpAny_loadName_cell I.ok.kind hk hc hcell fin) hd
  ·exact wpAny_Name (wpAny_loadName_free I.ok.kind hk hc hcell fin hcd) hd
theorem qO{i j pos}:PE X (.Constant (.int i) j pos) (tC (.int i)):=fun _ _ _ H _ I h=>wpAny_Constant_int ⟨.int i,H,I.tok _,⟨_,rfl⟩,h⟩
theorem IW{b j pos}:PE X (.Constant (.bool b) j pos) (tC (.bl b)):=fun _ _ _ H _ I h=>Constant_bool ⟨.bl b,H,I,rfl,h⟩
theorem qS{x j pos}:PE X (.Constant (.str x) j pos) (tC (.str x)):=fun _ _ _ H _ I h=>Calls.Constant_str ⟨.str x,H,I.tok _,⟨_,rfl⟩,h⟩
noncomputable def Gl(X:Cx)(x:Str):Prop:=X.env.kindOf x=some .globalImplicit
theorem yH{E:Value→Shared→Prop}{pins:List (Addr × Obj)}{s:Shared}{σ:St}{H:Hp}{x:Str}{u:Value}{pos:Pos}{Q:Value→Shared→Prop}(I:Inv X pins σ H s)(hg:Gl X x)(hm:X.mg x=some u)(h:Q u s)
 (hd:(x==("__debug__":Str))=false:=by decide):wpAny (model X.prog X.w) X.A (eval (.Name x pos) X.env) Q E s:=
 Calls.Name_function_global I.ok.kind hg (Calls.loadGlobal_global (by rw[I.ok.glob];exact I.mod.glob.keeps I.bk) hm h) hd
theorem ko{E:Value→Shared→Prop}{pins:List (Addr × Obj)}{s:Shared}{σ:St}{H:Hp}{x:Str}{u:Value}{pos:Pos}{Q:Value→Shared→Prop}(I:Inv X pins σ H s)(hg:Gl X x)(hm:X.mg x=none)(hv:bootBuiltins x=some u)(h:Q u s)
 (hn:x≠"__name__":=by decide) (hd:(x==("__debug__":Str))=false:=by decide):wpAny (model X.prog X.w) X.A (eval (.Name x pos) X.env) Q E s:=by
 obtain⟨mb,h1,h2⟩:=I.mod.blt
 exact Calls.Name_function_global I.ok.kind hg (Calls.loadGlobal_builtin (by rw[I.ok.glob];exact I.mod.glob.keeps I.bk) hm (by rw[I.ok.blt];exact h1.keeps I.bk) ((h2 x hn).trans hv) h) hd
theorem Eg{x:Str}{v:V}{u:Value}{pos:Pos}(hg:Gl X x)(hm:X.mg x=none)(hv:bootBuiltins x=some u)(r:RelV v u)(hn:x≠"__name__":=by decide)(hd:(x==("__debug__":Str))=false:=by decide):PE X (.Name x pos) (tC v):=
 fun _ _ _ H _ I h=>ko I hg hm hv ⟨v,H,I,r,h⟩ hn hd
noncomputable def Js(ta tb:TE)(k:Int→Int→Hp→Prop):St→Hp→Prop:=fun σ H=>ta σ H fun x H1=>tb σ H1 fun y H2=>∃i j,x= .int i∧y= .int j∧k i j H2
noncomputable def LP(ta tb:TE):TE:=fun σ H Q=>Js ta tb (fun i j H2=>Q (.int (i+j)) H2) σ H
noncomputable def Lw(ta tb:TE):TE:=fun σ H Q=>Js ta tb (fun i j H2=>Q (.int (i - j)) H2) σ H
noncomputable def Lu(ta tb:TE):TE:=fun σ H Q=>Js ta tb (fun i j H2=>(-(2 ^ 64) < i∧i < 2 ^ 64)∧Q (.int (i*j)) H2) σ H
variable {a b:Expr} {ta tb:TE} {pos:Pos}
noncomputable def PC(X:Cx)(op:CmpOp)(a b:Expr)(t:TE):Prop:=
 ∀(pins:List (Addr × Obj)) (s:Shared) (σ:St) (H:Hp) (Q:VK),Inv X pins σ H s→t σ H Q→
  wpAny (model X.prog X.w) X.A (eval a X.env) (fun v s₁=>wpAny (model X.prog X.w) X.A (eval b X.env) (fun u s₂=>wpAny (model X.prog X.w) X.A (compareOp op v u) (EP X pins σ Q) X.xe s₂) X.xe s₁) X.xe s
noncomputable def zP(p:Int→Int→Bool)(ta tb:TE):TE:=fun σ H Q=>Js ta tb (fun i j H2=>Q (.bl (p i j)) H2) σ H
noncomputable abbrev Mv:TE→TE→TE:=zP fun i j=>decide (i < j)
noncomputable abbrev Mq:TE→TE→TE:=zP fun i j=>decide (i≤j)
noncomputable abbrev Me:TE→TE→TE:=zP fun i j=>decide (j < i)
noncomputable abbrev Mx:TE→TE→TE:=zP fun i j=>decide (j≤i)
noncomputable abbrev Li:TE→TE→TE:=zP fun i j=>decide (i=j)
noncomputable abbrev LJ:TE→TE→TE:=zP fun i j=>!decide (i=j)
noncomputable def L0(ta:TE):TE:=fun σ H Q=>ta σ H fun x H1=>Q (.bl (decide (x= .di))) H1
noncomputable def Lb(ta:TE):TE:=fun σ H Q=>ta σ H fun x H1=>Q (.bl (!decide (x= .di))) H1
noncomputable def tB(t:TE):TT:=fun σ H Q=>t σ H fun x H1=>∃c,x= .bl c∧Q c H1
variable {tA tB':TT} {rest:List Expr}
noncomputable def J8(t u:TT):TT:=fun σ H Q=>t σ H fun c H1=>if c=true then u σ H1 Q else Q false H1
noncomputable def LG(t u:TT):TT:=fun σ H Q=>t σ H fun c H1=>if c=true then Q true H1 else u σ H1 Q
noncomputable def JL(t:TT):TT:=fun σ H Q=>t σ H fun c H1=>Q (!c) H1
theorem CZ(ha:PT X a tA):PW X (.BoolOp .And [a] pos) tA:=by
 intro wh pins s σ H Q I h
 refine isTrue_and (eg (ha pins s σ H Q I h) fun c s1 e=>?_)
 cases c with
 | true=>exact isTrue_and_nil e
 | false=>exact e
theorem Hw(ha:PT X a tA):PW X (.BoolOp .Or [a] pos) tA:=by
 intro wh pins s σ H Q I h
 refine isTrue_or (eg (ha pins s σ H Q I h) fun c s1 e=>?_)
 cases c with
 | false=>exact isTrue_or_nil e
 | true=>exact e
theorem F8(ha:PT X a tA)(hb:PW X (.BoolOp .And (b ::rest) pos) tB'):PW X (.BoolOp .And (a ::b ::rest) pos) (J8 tA tB'):=by
 intro wh pins s σ H Q I h
 refine isTrue_and (eg (ha pins s σ H _ I h) fun c s1 ⟨H1,I1,q1⟩=>?_)
 cases c with
 | true=>exact hb wh pins s1 σ H1 Q I1 q1
 | false=>exact⟨H1,I1,q1⟩
theorem HJ(ha:PT X a tA)(hb:PW X (.BoolOp .Or (b ::rest) pos) tB'):PW X (.BoolOp .Or (a ::b ::rest) pos) (LG tA tB'):=by
 intro wh pins s σ H Q I h
 refine isTrue_or (eg (ha pins s σ H _ I h) fun c s1 ⟨H1,I1,q1⟩=>?_)
 cases c with
 | true=>exact⟨H1,I1,q1⟩
 | false=>exact hb wh pins s1 σ H1 Q I1 q1
theorem B7(ha:PT X a tA):PT X (.UnaryOp .Not a pos) (JL tA):=by
 intro pins s σ H Q I h
 exact isTrue_not (ha pins s σ H (fun c H1=>Q (!c) H1) I h)
noncomputable def HU(ta tb:TE):TE:=fun σ H Q=>ta σ H fun x H1=>∃c,x= .bl c∧if c=true then tb σ H1 Q else Q (.bl false) H1
noncomputable def Lh(ta tb:TE):TE:=fun σ H Q=>ta σ H fun x H1=>∃c,x= .bl c∧if c=true then Q (.bl true) H1 else tb σ H1 Q
noncomputable def La(ta:TE):TE:=fun σ H Q=>ta σ H fun x H1=>∃c,x= .bl c∧Q (.bl (!c)) H1
theorem FL{op}{t:TE}(h:PE X a t):PE X (.BoolOp op [a] pos) t:=fun pins s σ H Q I hw=>BoolOp_one (h pins s σ H Q I hw)
theorem Hm(ha:PE X a ta)(hb:PE X (.BoolOp .And (b ::rest) pos) tb):PE X (.BoolOp .And (a ::b ::rest) pos) (HU ta tb):=by
 intro pins s σ H Q I h
 refine BoolOp_and (eg (ha pins s σ H _ I h) fun v s1 ⟨x,H1,I1,r1,q1⟩=>?_)
 obtain⟨c,rfl,q1⟩:=q1
 cases r1
 refine wpAny_truthy_bool ?_
 cases c with
 | true=>exact hb pins s1 σ H1 Q I1 q1
 | false=>exact⟨.bl false,H1,I1,rfl,q1⟩
noncomputable def Lz(t:TT)(ta tb:TE):TE:=fun σ H Q=>t σ H fun c H1=>if c=true then ta σ H1 Q else tb σ H1 Q
theorem BX{c:Expr}(hc:PT X c tA)(ha:PE X a ta)(hb:PE X b tb):PE X (.IfExp c a b pos) (Lz tA ta tb):=by
 intro pins s σ H Q I h
 refine wpAny_IfExp (eg (hc pins s σ H _ I h) fun d s1 ⟨H1,I1,q1⟩=>?_)
 cases d with
 | true=>exact ha pins s1 σ H1 Q I1 q1
 | false=>exact hb pins s1 σ H1 Q I1 q1
end
end L2
namespace L2
open PySem PySem.Spec PyProof.Rows
noncomputable def mH(K:PySem.W.Frag)(H:Hp)(a:Addr)(xs:List V):Prop:=
 Rd H a (.lst xs)∨
  ∃(o:Obj) (its:Array Value) (n:Nat),K.lookup a=some o∧o.cls= .type "list"∧o.dict=none∧o.data= .seq its n∧its.size≤sizeLine∧Vals xs its.toList
noncomputable def pE(K:PySem.W.Frag)(H:Hp)(a:Addr)(xs:List V):Prop:=
 Rd H a (.tup xs)∨
  ∃(o:Obj) (its:Array Value) (n:Nat),K.lookup a=some o∧o.cls= .type "tuple"∧o.data= .seq its n∧its.size≤sizeLine∧Vals xs its.toList
noncomputable def JJ:Value→Option V
 | .none=>some .di
 | .bool b=>some (.bl b)
 | .int i _=>some (.int i)
 | .str x _=>some (.str x)
 | .bytes b _=>some (.byt b)
 | .float b _=>some (.flt b)
 | .ref a=>some (.ref a)
 | .type n=>some (.ty n)
 | _=>none
theorem RelV.abs{x:V}{u:Value}(r:RelV x u):JJ u=some x:=by
 cases x with
 | di=>cases r;rfl
 | bl _=>cases r;rfl
 | int _=>obtain⟨t,rfl⟩:=r;rfl
 | str _=>obtain⟨t,rfl⟩:=r;rfl
 | byt _=>obtain⟨t,rfl⟩:=r;rfl
 | flt _=>obtain⟨t,rfl⟩:=r;rfl
 | ref _=>cases r;rfl
 | ty _=>cases r;rfl
theorem RelV.inj{x y:V}{u:Value}(r:RelV x u)(q:RelV y u):x=y:=Option.some.inj (r.abs.symm.trans q.abs)
theorem Vals.inj:∀{xs ys:List V} {us:List Value},Vals xs us→Vals ys us→xs=ys
 | _,_,_, .nil, .nil=>rfl
 | _,_,_, .cons r t, .cons r' t'=>by rw[r.inj r',Vals.inj t t']
section
variable {X:Cx} {pins:List (Addr × Obj)} {σ:St} {H:Hp} {s:Shared} {a:Addr} {xs ys:List V}
theorem mH.of{K:PySem.W.Frag}(h:H a=some (.lst xs)):mH K H a xs:= .inl (.inl h)
theorem Inv.list(I:Inv X pins σ H s)(h:mH X.K H a xs):∃its:List Value,Vals xs its∧PlainL s.heap a its.toArray∧xs.length≤sizeLine:=by
 rcases h with h | ⟨o,its,n,hk,hc,hd,hs,hz,r⟩
 ·obtain⟨z,its,n,r,e⟩:=h.ok I.hok
  exact⟨its,r,⟨_,n,e,rfl,rfl,rfl⟩,z⟩
 ·refine⟨its.toList,r,⟨o,n,I.oM a o hk,hc,hd,by simpa using hs⟩,?_⟩
  have e:=r.length
  simp only[Array.length_toList] at e
  omega
theorem Inv.tuple(I:Inv X pins σ H s)(h:pE X.K H a xs):∃its:List Value,Vals xs its∧IsTup s.heap a its.toArray∧xs.length≤sizeLine:=by
 rcases h with h | ⟨o,its,n,hk,hc,hs,hz,r⟩
 ·obtain⟨z,its,r,p⟩:=h.ok I.hok
  exact⟨its,r,p,z⟩
 ·refine⟨its.toList,r,⟨o,I.oM a o hk,hc,n,by simpa using hs⟩,?_⟩
  have e:=r.length
  simp only[Array.length_toList] at e
  omega
theorem Inv.oC(I:Inv X pins σ H s)(h:mH X.K H a xs)(h':mH X.K H a ys):xs=ys:=by
 obtain⟨its,r,⟨o,n,e,_,_,d⟩,_⟩:=I.list h
 obtain⟨its',r',⟨o',n',e',_,_,d'⟩,_⟩:=I.list h'
 rw[e] at e';cases e'
 rw[d] at d'
 injection d' with d1 _
 have:its=its':=by simpa using congrArg Array.toList d1
 subst this
 exact r.inj r'
theorem Inv.oQ(I:Inv X pins σ H s)(h:pE X.K H a xs)(h':pE X.K H a ys):xs=ys:=by
 obtain⟨its,r,⟨o,e,_,n,d⟩,_⟩:=I.tuple h
 obtain⟨its',r',⟨o',e',_,n',d'⟩,_⟩:=I.tuple h'
 rw[e] at e';cases e'
 rw[d] at d'
 injection d' with d1 _
 have:its=its':=by simpa using congrArg Array.toList d1
 subst this
 exact r.inj r'
end
noncomputable abbrev Cx.sF(X:Cx)(E:Value→Shared→Prop):Cx:={X with xe:=E}
noncomputable abbrev Cx.En(X:Cx):Cx:=X.sF fun _ _=>False
theorem Cx.Ok.sF{X:Cx}(ok:X.Ok)(E:Value→Shared→Prop):(X.sF E).Ok:=
 ⟨ok.mod,ok.kind,ok.glob,ok.blt,ok.above,ok.inj,ok.has,ok.cab,ok.hd,ok.frames,ok.stk,ok.exf,ok.bs,ok.bsz,ok.noex,ok.exfs,ok.p7,ok.frf⟩
theorem Cx.Ok.lL{X:Cx}{E:Value→Shared→Prop}(ok:(X.sF E).Ok):X.Ok:=
 ⟨ok.mod,ok.kind,ok.glob,ok.blt,ok.above,ok.inj,ok.has,ok.cab,ok.hd,ok.frames,ok.stk,ok.exf,ok.bs,ok.bsz,ok.noex,ok.exfs,ok.p7,ok.frf⟩
section
variable {X:Cx} {pins:List (Addr × Obj)} {σ:St} {H:Hp} {s:Shared} {E:Value→Shared→Prop}
theorem Inv.sF(I:Inv X pins σ H s)(E:Value→Shared→Prop):Inv (X.sF E) pins σ H s:=⟨I.ok.sF E,I.os,I.bare,I.base,I.loc,I.cell,I.free,I.freeC,I.pin,I.hok,I.len⟩
theorem Inv.lL(I:Inv (X.sF E) pins σ H s):Inv X pins σ H s:=⟨I.ok.lL,I.os,I.bare,I.base,I.loc,I.cell,I.free,I.freeC,I.pin,I.hok,I.len⟩
theorem SP.lL{D:Ends}{f:Flow}{s':Shared}(h:SP (X.sF E) pins D f s'):SP X pins D f s':=by
 cases f with
 | next=>obtain⟨σ',H',I,q⟩:=h;exact⟨σ',H',I.lL,q⟩
 | brk=>obtain⟨σ',H',I,q⟩:=h;exact⟨σ',H',I.lL,q⟩
 | cont=>obtain⟨σ',H',I,q⟩:=h;exact⟨σ',H',I.lL,q⟩
 | ret u=>obtain⟨v,σ',H',I,r,q⟩:=h;exact⟨v,σ',H',I.lL,r,q⟩
theorem u7.En{st:List Stmt}{t:TS}(h:u7 X.En st t):u7 X st t:=fun pins s σ H D I hw=>
 wpAny_mono (h pins s σ H D (I.sF _) hw) (fun _ _ q=>q.lL) fun _ _ z=>False.elim z
end
section
variable {X:Cx} {st:Stmt} {rest:List Stmt} {t u:TS} {e:Expr} {te:TE} {pos:Pos}
noncomputable def Ih:TS:=fun D σ H=>D.nx σ H
noncomputable def Ic(t u:TS):TS:=fun D σ H=>t {D with nx:=u D} σ H
theorem ua:u7 X [] Ih:=fun _ _ σ H _ I h=>wpAny_execs_nil ⟨σ,H,I,h⟩
theorem rD(h1:PS X st t)(h2:u7 X rest u):u7 X (st ::rest) (Ic t u):=by
 intro pins s σ H D I h
 refine wpAny_execs_cons (eg (h1 pins s σ H {D with nx:=u D} I h) fun f s1 q=>?_)
 cases f with
 | next=>
   obtain⟨σ',H',I',q⟩:=q
   exact h2 pins s1 σ' H' D I' q
 | ret v=>exact q
 | brk=>exact q
 | cont=>exact q
theorem uu(h1:PS X st t):u7 X [st] t:=by
 intro pins s σ H D I h
 refine wpAny_execs_cons (eg (h1 pins s σ H D I h) fun f s1 q=>?_)
 cases f with
 | next=>exact wpAny_execs_nil q
 | ret v=>exact q
 | brk=>exact q
 | cont=>exact q
noncomputable def JO:TS:=fun D σ H=>D.bk σ H
noncomputable def Ii:TS:=fun D σ H=>D.ct σ H
theorem ve:PS X (.Continue pos) Ii:=fun _ _ σ H _ I h=>wpAny_Continue ⟨σ,H,I,h⟩
theorem Inv.quiet{pins:List (Addr × Obj)}{σ:St}{H:Hp}{s:Shared}(I:Inv X pins σ H s):interactive X.env=false:=by simp [interactive,I.ok.kind]
noncomputable def Ja(te:TE):TS:=fun D σ H=>te σ H fun _ H1=>D.nx σ H1
theorem qh(he:PE X e te)(hs:swapsWith e none pos.line X.env=pure false:=by rfl):PS X (.Expr e pos) (Ja te):=by
 intro pins s σ H D I h
 exact wpAny_Expr_any (eg (he pins s σ H _ I h) fun v s1 ⟨x,H1,I1,r1,q1⟩=>⟨σ,H1,I1,q1⟩) I.quiet hs
noncomputable def JE(te:TE):TS:=fun D σ H=>te σ H D.rt
theorem Cd(he:PE X e te):PS X (.Return (some e) pos) (JE te):=by
 intro pins s σ H D I h
 exact wpAny_Return_some (eg (he pins s σ H _ I h) fun v s1 ⟨x,H1,I1,r1,q1⟩=>⟨x,σ,H1,I1,r1,q1⟩)
noncomputable def K0:TS:=fun D _ H=>D.rt .di H
noncomputable def Ko(c:TT)(t u:TS):TS:=fun D σ H=>c σ H fun b H1=>if b=true then t D σ H1 else u D σ H1
theorem AN{c:Expr}{a b:List Stmt}{tc:TT}(hc:PT X c tc)(ha:u7 X a t)(hb:u7 X b u):PS X (.If c a b pos) (Ko tc t u):=by
 intro pins s σ H D I h
 refine wpAny_If (eg (hc pins s σ H _ I h) fun d s1 ⟨H1,I1,q1⟩=>?_)
 cases d with
 | true=>exact ha pins s1 σ H1 D I1 q1
 | false=>exact hb pins s1 σ H1 D I1 q1
noncomputable def Kj:TS:=fun _ _ _=>False
end
noncomputable abbrev TG:=V→St→Hp→(St→Hp→Prop)→Prop
noncomputable abbrev BC:=List V→St→Hp→(St→Hp→Prop)→Prop
noncomputable def PG(X:Cx)(target:Expr)(t:TG):Prop:=
 ∀(pins:List (Addr × Obj)) (s:Shared) (σ:St) (H:Hp) (v:V) (u:Value) (Q:St→Hp→Prop),Inv X pins σ H s→RelV v u→t v σ H Q→
  wpAny (model X.prog X.w) X.A (assign target X.env u) (fun _ s'=>∃σ' H',Inv X pins σ' H' s'∧Q σ' H') X.xe s
noncomputable def Dh(X:Cx)(ts:List Expr)(t:BC):Prop:=
 ∀(pins:List (Addr × Obj)) (s:Shared) (σ:St) (H:Hp) (vs:List V) (us:List Value) (Q:St→Hp→Prop),Inv X pins σ H s→Vals vs us→t vs σ H Q→
  wpAny (model X.prog X.w) X.A (assignInOrder ((assignEach ts X.env).map (·.2)) us) (fun _ s'=>∃σ' H',Inv X pins σ' H' s'∧Q σ' H') X.xe s
noncomputable abbrev Dy:=V→V→V→Hp→(Hp→Prop)→Prop
noncomputable def IV(X:Cx)(t:Dy):Prop:=
 ∀(pins:List (Addr × Obj)) (s:Shared) (σ:St) (H:Hp) (o i v:V) (ov iv u:Value) (Q:Hp→Prop),Inv X pins σ H s→RelV o ov→RelV i iv→RelV v u→t o i v H Q→
  wpAny (model X.prog X.w) X.A (setItem ov iv u) (fun _ s'=>∃H',Inv X pins σ H' s'∧Q H') X.xe s
noncomputable abbrev Jl:=V→V→Hp→VK→Prop
noncomputable def Ms(X:Cx)(op:Operator)(t:Jl):Prop:=
 ∀(pins:List (Addr × Obj)) (s:Shared) (σ:St) (H:Hp) (x y:V) (v u:Value) (Q:VK),Inv X pins σ H s→RelV x v→RelV y u→t x y H Q→
  wpAny (model X.prog X.w) X.A (inplaceOp op v u) (EP X pins σ Q) X.xe s
section
variable {X:Cx} {pos:Pos}
noncomputable def rT(i:Nat):TG:=fun v σ H Q=>Q (σ.set i (some v)) H
theorem zd{i:Nat}{x:Str}(hN:X.N.Nodup)(hi:X.N[i]? =some x)(hx:Loc X.env.scope x)(hf:X.fn x=true∨X.env.scope.names.lookup x=some .local:=by first | exact .inl rfl | exact .inr rfl | assumption):PG X (.Name x pos) (rT i):=by
 intro pins s σ H v u Q I r h
 exact wpAny_assign_Name (va I hN hi hx r (fun s' I'=>⟨_,H,I',h⟩) hf)
noncomputable def Jx:BC:=fun vs σ H Q=>vs=[]∧Q σ H
noncomputable def HQ(t:TG)(u:BC):BC:=fun vs σ H Q=>∃v r,vs=v ::r∧t v σ H fun σ' H'=>u r σ' H' Q
theorem yy:Dh X [] Jx:=by
 intro pins s σ H vs us Q I r h
 obtain⟨e,h⟩:=h
 subst e
 cases r
 exact assignInOrder_nil ⟨σ,H,I,h⟩
theorem wq{e:Expr}{es:List Expr}{t:TG}{u:BC}(h1:PG X e t)(h2:Dh X es u)
 (hs:(assignEach (e ::es) X.env).map (·.2)=assign e X.env ::(assignEach es X.env).map (·.2):=by rfl):Dh X (e ::es) (HQ t u):=by
 intro pins s σ H vs us Q I r h
 obtain⟨v,vr,e1,h⟩:=h
 subst e1
 cases r with
 | cons r rr=>
   rw[hs]
   refine assignInOrder_cons (eg (h1 pins s σ H _ _ _ I r h) fun _ s1 ⟨σ1,H1,I1,q1⟩=>?_)
   exact h2 pins s1 σ1 H1 _ _ Q I1 rr q1
noncomputable def JH(K:PySem.W.Frag)(n:Nat)(t:BC):TG:=fun v σ H Q=>∃a xs,v= .ref a∧pE K H a xs∧xs.length=n∧t xs σ H Q
theorem BO{es:List Expr}{k:Nat}{t:BC}{n:Nat}(hc:X.calm=true)(h:Dh X es t)
 (hn:(assignEach es X.env).length=n:=by rfl) (hst:(assignEach es X.env).findIdx? (·.1)=none:=by rfl):PG X (.Tuple es k pos) (JH X.K n t):=by
 intro pins s σ H v u Q I r hw
 obtain⟨a,xs,e1,hq,hl,hw⟩:=hw
 subst e1
 cases r
 obtain⟨its,rv,ht,hz⟩:=I.tuple hq
 refine assign_Tuple_tuple (I.ok.hd hc) ht (by simp [hn,←hl,rv.length]) hst fun h' hx=>?_
 have I1:Inv X pins σ H {s with heap:=h'}:=I.kept (t':=s.toks) fun b o e=>hx b o (Nat.ne_of_lt (Heap.lt_size e)) e
 exact h pins _ σ H xs _ Q I1 (by simpa using rv) hw
noncomputable def Ik(to ti:TE)(t:Dy):TG:=fun v σ H Q=>to σ H fun o H1=>ti σ H1 fun i H2=>t o i v H2 fun H3=>Q σ H3
theorem Cr{o i:Expr}{to ti:TE}{t:Dy}(ho:PE X o to)(hi:PE X i ti)(hs:IV X t)
 (ha:∀v,assign (.Subscript o i pos) X.env v=(do
   let ov ←holding [v] (eval o X.env)
   let iv ←holding [v,ov] (eval i X.env)
   standAt pos
   holding [v,ov,iv] (setItem ov iv v)
   release [v,ov,iv] []):=by intro _;rfl):PG X (.Subscript o i pos) (Ik to ti t):=by
 intro pins s σ H v u Q I r h
 rw[ha]
 refine wpAny_bind (wpAny_holding (eg (ho pins s σ H _ I h) fun ov s1 ⟨x,H1,I1,r1,q1⟩=>?_))
 refine wpAny_bind (wpAny_holding (eg (hi pins s1 σ H1 _ I1 q1) fun iv s2 ⟨y,H2,I2,r2,q2⟩=>?_))
 refine wpAny_bind (wpAny_standAt (wpAny_bind (wpAny_holding (eg (hs pins s2 σ H2 x y v ov iv u _ I2 r1 r2 r q2) fun _ s3 ⟨H3,I3,q3⟩=>?_))))
 exact wpAny_release ⟨σ,H3,I3,q3⟩
noncomputable def z8(te:TE)(g:TG):TS:=fun D σ H=>te σ H fun x H1=>g x σ H1 D.nx
theorem yg{tg e:Expr}{te:TE}{g:TG}(he:PE X e te)(hg:PG X tg g)(hs:swapsWithSole [tg] e pos.line X.env=pure false:=by rfl)(hw:swappedStores [tg] e X.env=pure none:=by rfl)
 (h1:(assignEach [tg] X.env).map (·.2)=[assign tg X.env]:=by rfl):PS X (.Assign [tg] e pos) (z8 te g):=by
 intro pins s σ H D I h
 refine wpAny_Assign_stores (eg (he pins s σ H _ I h) fun v s1 ⟨x,H1,I1,r1,q1⟩=>?_) hs hw
 rw[h1]
 exact eg (hg pins s1 σ H1 x v _ I1 r1 q1) fun _ s2 q=>q
theorem xJ{i:Nat}{x:Str}{e:Expr}{te:TE}{pos':Pos}(hN:X.N.Nodup)(hi:X.N[i]? =some x)(hx:Loc X.env.scope x)(he:PE X e te)(hs:swapsWith e (some (.Name x pos')) pos.line X.env=pure false:=by rfl)(hf:X.fn x=true∨X.env.scope.names.lookup x=some .local:=by first | exact .inl rfl | exact .inr rfl | assumption) :
 PS X (.Assign [.Name x pos'] e pos) (z8 te (rT i)):=by
 intro pins s σ H D I h
 refine wpAny_Assign_Name (eg (he pins s σ H _ I h) fun v s1 ⟨y,H1,I1,r1,q1⟩=>?_) hs
 exact va I1 hN hi hx r1 (fun s2 I2=>⟨_,H1,I2,q1⟩) hf
noncomputable def LI(i j:Nat)(ta:TA):TS:=fun D σ H=>ta σ H fun vs H1=>∃v w,vs=[v,w]∧D.nx ((σ.set i (some v)).set j (some w)) H1
noncomputable def LA(i:Nat)(te:TE)(ti:Jl):TS:=fun D σ H=>∃x,σ[i]? =some (some x)∧te σ H fun y H1=>ti x y H1 fun z H2=>D.nx (σ.set i (some z)) H2
noncomputable def K4(to ti te:TE)(tget:V→V→Hp→VK→Prop)(tip:Jl)(tset:Dy):TS:=fun D σ H=>to σ H fun o H1=>ti σ H1 fun i H2=>tget o i H2 fun x H3=>te σ H3 fun y H4=>tip x y H4 fun z H5=>tset o i z H5 fun H6=>D.nx σ H6
noncomputable def Mc(X:Cx)(t:V→V→Hp→VK→Prop):Prop:=
 ∀(pins:List (Addr × Obj)) (s:Shared) (σ:St) (H:Hp) (o i:V) (ov iv:Value) (Q:VK),Inv X pins σ H s→RelV o ov→RelV i iv→t o i H Q→
  wpAny (model X.prog X.w) X.A (getItem ov iv) (EP X pins σ Q) X.xe s
noncomputable def Mo(f:Int→Int→Int):Jl:=fun x y H Q=>∃i j,x= .int i∧y= .int j∧Q (.int (f i j)) H
end
section
variable {X:Cx} {pos:Pos}
noncomputable def J6(c:TT)(tb:TS):TS:=fun D σ H=>∃W:Nat→St→Hp→Prop,(∃m,W m σ H)∧∀m σ H,W m σ H→
 c σ H fun b H1=>if b=true then ∃N:St→Hp→Prop,(∀σ' H',N σ' H'→∃m',m' < m∧W m' σ' H')∧tb {D with nx:=N,ct:=N,bk:=D.nx} σ H1 else D.nx σ H1
end
structure It where
 go:Nat→Hp→Prop
 yld:Nat→Hp→V→Hp→Prop
 stop:Nat→Hp→Prop
noncomputable def pT(X:Cx)(pins:List (Addr × Obj))(H:Hp)(b:Addr):Prop:=
 H b=none∧b≠X.env.locals∧b ∉ X.fs∧(b∈X.ex∨X.s₀.heap.objs.size≤b)∧(∀x c,X.env.cells.lookup x=some c→c≠b)∧∀p∈X.pn++pins,p.1≠b
theorem Inv.qI{X:Cx}{pins:List (Addr × Obj)}{σ:St}{H H':Hp}{s:Shared}{b:Addr}(I:Inv X pins σ H s)(hb:s.heap.objs.size≤b)(hn:H' b=none):pT X pins H' b:=by
 refine⟨hn,Nat.ne_of_gt (Nat.lt_of_lt_of_le I.lt hb),I.JP hb, .inr (Nat.le_trans I.sz hb),fun x c e z=>?_,fun p hp z=>?_⟩
 ·obtain⟨v,q⟩:=I.cell x c e
  exact absurd (Nat.lt_of_lt_of_le q.lt (by rw[z];exact hb)) (Nat.lt_irrefl _)
 ·exact absurd (Nat.lt_of_lt_of_le (Heap.lt_size (I.pin p hp).1) (by rw[z];exact hb)) (Nat.lt_irrefl _)
structure Turn (P:Program) (w:World) (K:PySem.W.Frag) (tg:Expr) (J:It) (fp:List Addr) (it:Addr) (tn:Nat→Heap→Prop):Prop where
 mem:it∈fp
 obj:∀i h,tn i h→∀b∈fp,∃o,h.get? b=some o∧∀v,o.data≠ .cell v
 keep:∀i h h',tn i h→(∀b∈fp,∀o,h.get? b=some o→h'.get? b=some o)→tn i h'
 item:∀(X:Cx),X.prog=P→X.w=w→X.K=K→X.calm=true→∀(i:Nat) (pins:List (Addr × Obj)) (s:Shared) (σ:St) (H:Hp) (E:Value→Shared→Prop),Inv X pins σ H s→(∀b∈fp,pT X pins H b)→tn i s.heap→J.go i H→
  wpAny (model P w) X.A (pyNext (.ref it)) (fun r s1=>∃u,r=some u∧
   wpAny (model P w) X.A (letOwnedTupleGo tg (.ref it) u) (fun _ s2=>∃x H',Inv X pins σ H' s2∧RelV x u∧J.yld i H x H'∧tn (i+1) s2.heap∧∀b∈fp,H' b=none) E s1) E s
 done:∀(X:Cx),X.prog=P→X.w=w→X.K=K→X.calm=true→∀(i:Nat) (pins:List (Addr × Obj)) (s:Shared) (σ:St) (H:Hp) (E:Value→Shared→Prop),Inv X pins σ H s→(∀b∈fp,pT X pins H b)→tn i s.heap→J.stop i H→
  wpAny (model P w) X.A (pyNext (.ref it)) (fun r s1=>r=none∧Inv X pins σ H s1) E s
 self:∀(A:Around) (i:Nat) (s:Shared) (Q:Value→Shared→Prop) (E:Value→Shared→Prop),tn i s.heap→Q (.ref it) s→wpAny (model P w) A (pyIter (.ref it)) Q E s
noncomputable abbrev TI:=St→Hp→(It→Hp→Prop)→Prop
noncomputable def KL(X:Cx)(pins:List (Addr × Obj))(σ:St)(tg:Expr)(R:It→Hp→Prop)(itv:Value)(s2:Shared):Prop:=
 ∃(it:Addr) (fp:List Addr) (tn:Nat→Heap→Prop) (J:It) (H':Hp),itv= .ref it∧Inv X pins σ H' s2∧Turn X.prog X.w X.K tg J fp it tn∧tn 0 s2.heap∧(∀b∈fp,pT X pins H' b)∧R J H'
noncomputable def PI(X:Cx)(tg iter:Expr)(wi:TI):Prop:=
 ∀(pins:List (Addr × Obj)) (s:Shared) (σ:St) (H:Hp) (R:It→Hp→Prop),Inv X pins σ H s→wi σ H R→
  wpAny (model X.prog X.w) X.A (eval iter X.env) (fun v s1=>wpAny (model X.prog X.w) X.A (pyIter v) (KL X pins σ tg R) X.xe s1) X.xe s
theorem yR{M:Model}{A:Around}{E:Value→Shared→Prop}{s:Shared}{tg:Expr}{it:Addr}{u:Value}{o:Obj}{n:String}{vs:Array Value}{Q:Unit→Shared→Prop}(ho:s.heap.get? it=some o)(hc:o.cls= .type n)(hd:o.data= .fields vs)
 (hn:["enumerate","zip","dict_itemiterator","dict_reverseitemiterator","odict_iterator","itertools.zip_longest","itertools.pairwise"].contains n=false) (hQ:Q () s):wpAny M A (letOwnedTupleGo tg (.ref it) u) Q E s:=by
 unfold letOwnedTupleGo
 cases tg <;> first
  | exact wpAny_pure hQ
  | (cases u <;> first
      | exact wpAny_pure hQ
      | (refine wpAny_bind (wpAny_load ho ?_)
         rw[hc,hd]
         show wpAny M A (if(["enumerate","zip","dict_itemiterator","dict_reverseitemiterator","odict_iterator","itertools.zip_longest","itertools.pairwise"].contains n && vs[0]? ==some (rawInt _))=true then _ else _) Q E s
         rw[if_neg (by intro h;rw [hn,Bool.false_and] at h;cases h)]
         exact wpAny_pure hQ))
noncomputable def KQ(K:PySem.W.Frag)(a:Addr):It:=
 ⟨fun i H=>∃xs x,mH K H a xs∧xs[i]? =some x,fun i H x H'=>H'=H∧∀xs,mH K H a xs→xs[i]? =some x,fun i H=>∃xs,mH K H a xs∧xs.length≤i⟩
noncomputable def K1(K:PySem.W.Frag)(a:Addr):It:=
 ⟨fun i H=>∃xs x,pE K H a xs∧xs[i]? =some x,fun i H x H'=>H'=H∧∀xs,pE K H a xs→xs[i]? =some x,fun i H=>∃xs,pE K H a xs∧xs.length≤i⟩
noncomputable def Iz(lo:Int)(n:Nat):It:=⟨fun i _=>i < n,fun i H x H'=>H'=H∧x= .int (lo+i),fun i _=>n≤i⟩
theorem sN{P:Program}{w:World}{K:PySem.W.Frag}{tg:Expr}(a it:Addr):Turn P w K tg (KQ K a) [it] it (fun i h=>h.IsListIter it a i) where
 mem:=by simp
 obj:=fun i h st b hb=>by
  have e:b=it:=by simpa using hb
  subst e
  obtain⟨o,e,c,d⟩:=st
  exact⟨o,e,fun v z=>by rw[d] at z;cases z⟩
 keep:=fun i h h' st k=>st.at fun o e=>k it (by simp) o e
 item:=by
  intro X hP hw hK hc i pins s σ H E I hf st hg
  subst hP hw hK
  obtain⟨xs,x,hq,hx⟩:=hg
  obtain⟨its,rv,p,hz⟩:=I.list hq
  obtain⟨u,hu,ru⟩:=rv.get hx
  obtain⟨f0,f1,f2,f3,f4,f5⟩:=hf it (by simp)
  refine wpAny_pyNext_list_item st p.isList (x:=u) (by simpa using hu) fun h' st' sb=>?_
  have I1:Inv X pins σ H {s with heap:=h'}:=I.turned (t':=s.toks) (fun b o hb e=>(sb.2 b hb).trans e) f0 f1 f3 f4 f5
  obtain⟨o,e,c,d⟩:=id st'
  exact⟨u,rfl,yR (s:={s with heap:=h'}) e c d (by decide) ⟨x,H,I1,ru,⟨rfl,fun ys hy=>by rw[I.oC hy hq];exact hx⟩,st',fun b hb=>(hf b hb).1⟩⟩
 done:=by
  intro X hP hw hK hc i pins s σ H E I hf st hg
  subst hP hw hK
  obtain⟨xs,hq,hx⟩:=hg
  obtain⟨its,rv,p,hz⟩:=I.list hq
  obtain⟨f0,f1,f2,f3,f4,f5⟩:=hf it (by simp)
  have hl:=rv.length
  exact wpAny_pyNext_list_end (I.ok.hd hc) st p.isList (by simp;omega) fun h' eb=>⟨rfl,I.turned (t':=s.toks) (fun b o hb e=>eb b o hb e) f0 f1 f3 f4 f5⟩
 self:=fun _ _ _ _ _ st h=>wpAny_pyIter_listiter st h
theorem xZ{P:Program}{w:World}{K:PySem.W.Frag}{tg:Expr}(a it:Addr):Turn P w K tg (K1 K a) [it] it (fun i h=>h.IsTupleIter it a i) where
 mem:=by simp
 obj:=fun i h st b hb=>by
  have e:b=it:=by simpa using hb
  subst e
  obtain⟨o,e,c,d⟩:=st
  exact⟨o,e,fun v z=>by rw[d] at z;cases z⟩
 keep:=fun i h h' st k=>st.at fun o e=>k it (by simp) o e
 item:=by
  intro X hP hw hK hc i pins s σ H E I hf st hg
  subst hP hw hK
  obtain⟨xs,x,hq,hx⟩:=hg
  obtain⟨its,rv,p,hz⟩:=I.tuple hq
  obtain⟨u,hu,ru⟩:=rv.get hx
  obtain⟨f0,f1,f2,f3,f4,f5⟩:=hf it (by simp)
  refine wpAny_pyNext_tuple_item st (show s.heap.IsTuple a its.toArray from p) (x:=u) (by simpa using hu) fun h' st' sb=>?_
  have I1:Inv X pins σ H {s with heap:=h'}:=I.turned (t':=s.toks) (fun b o hb e=>(sb.2 b hb).trans e) f0 f1 f3 f4 f5
  obtain⟨o,e,c,d⟩:=id st'
  exact⟨u,rfl,yR (s:={s with heap:=h'}) e c d (by decide) ⟨x,H,I1,ru,⟨rfl,fun ys hy=>by rw[I.oQ hy hq];exact hx⟩,st',fun b hb=>(hf b hb).1⟩⟩
 done:=by
  intro X hP hw hK hc i pins s σ H E I hf st hg
  subst hP hw hK
  obtain⟨xs,hq,hx⟩:=hg
  obtain⟨its,rv,p,hz⟩:=I.tuple hq
  obtain⟨f0,f1,f2,f3,f4,f5⟩:=hf it (by simp)
  have hl:=rv.length
  exact wpAny_pyNext_tuple_end (I.ok.hd hc) st (show s.heap.IsTuple a its.toArray from p) (by simp;omega) fun h' eb=>⟨rfl,I.turned (t':=s.toks) (fun b o hb e=>eb b o hb e) f0 f1 f3 f4 f5⟩
 self:=fun _ _ _ _ _ st h=>wpAny_pyIter_tupleiter st h
theorem yf{P:Program}{w:World}{K:PySem.W.Frag}{tg:Expr}(it:Addr)(lo:Int)(n:Nat):Turn P w K tg (Iz lo n) [it] it (fun i h=>IsRangeIter h it (lo+(i:Nat)*1) ((n:Int) - (i:Nat)) 1) where
 mem:=by simp
 obj:=fun i h st b hb=>by
  have e:b=it:=by simpa using hb
  subst e
  exact⟨_,st,fun v z=>by
   have z':Data.fields _=Data.cell v:=z
   cases z'⟩
 keep:=fun i h h' st k=>k it (by simp) _ st
 item:=by
  intro X hP hw hK hc i pins s σ H E I hf st hg
  subst hP hw hK
  obtain⟨f0,f1,f2,f3,f4,f5⟩:=hf it (by simp)
  have W:=Walks.range (prog:=X.prog) (w:=X.w) (I.ok.hd hc) it lo 1 n
  refine W.item i s _ _ hg st fun v h' tk hv st' kk=>?_
  obtain⟨t,rfl⟩:=hv
  have I1:Inv X pins σ H {s with heap:=h',toks:=tk}:=I.turned (fun b o hb e=>kk b o (by simpa using hb) e) f0 f1 f3 f4 f5
  refine⟨_,rfl,yR (s:={s with heap:=h',toks:=tk}) (n:="range_iterator") st' rfl rfl (by decide) ⟨.int (lo+i),H,I1,⟨t,?_⟩,⟨rfl,rfl⟩,st',fun b hb=>(hf b hb).1⟩⟩
  rw[Int.mul_one]
 done:=by
  intro X hP hw hK hc i pins s σ H E I hf st hg
  subst hP hw hK
  obtain⟨f0,f1,f2,f3,f4,f5⟩:=hf it (by simp)
  exact wpAny_pyNext_range_end (I.ok.hd hc) st (by have:n≤i:=hg;omega) fun h' eb=>⟨rfl,I.turned (t':=s.toks) (fun b o hb e=>eb b o hb e) f0 f1 f3 f4 f5⟩
 self:=fun _ _ _ _ _ st h=>wpAny_pyIter_rangeiter st h
end L2
namespace L2
open PySem PySem.Spec PyProof.Rows
section
variable {X:Cx} {tg:Expr}
noncomputable def Ld(K:PySem.W.Frag)(tl:TE):TI:=fun σ H R=>tl σ H fun x H1=>∃a,x= .ref a∧(∃xs,mH K H1 a xs)∧R (KQ K a) H1
noncomputable def JY(K:PySem.W.Frag)(tl:TE):TI:=fun σ H R=>tl σ H fun x H1=>∃a,x= .ref a∧(∃xs,pE K H1 a xs)∧R (K1 K a) H1
theorem A6{pins:List (Addr × Obj)}{σ:St}{H:Hp}{s:Shared}{R:It→Hp→Prop}{E:Value→Shared→Prop}{lo hi:Int}{t u v:Tok}{tk:Nat}(I:Inv X pins σ H s)(h1: -(2 ^ 62)≤lo)(h2:lo < 2 ^ 62)(h3: -(2 ^ 62)≤hi)(h4:hi < 2 ^ 62)
 (q:R (Iz lo (hi - lo).toNat) H):wpAny (model X.prog X.w) X.A (pyIter (.ref s.heap.objs.size)) (KL X pins σ tg R) E {s with heap:=s.heap.push {cls:= .type "range",data:= .fields #[.int lo t, .int hi u, .int 1 v]},toks:=tk}:=by
 refine wpAny_pyIter_range (IsRange.new ..) (small_one h1 h2 h3 h4) ?_
 have I1:Inv X pins σ H {s with heap:=s.heap.push {cls:= .type "range",data:= .fields #[.int lo t, .int hi u, .int 1 v]},toks:=tk}:=I.kept fun b o e=>Heap.get?_push_of_some _ e
 refine⟨(s.heap.push {cls:= .type "range",data:= .fields #[.int lo t, .int hi u, .int 1 v]}).objs.size,[(s.heap.push {cls:= .type "range",data:= .fields #[.int lo t, .int hi u, .int 1 v]}).objs.size],_,_,H,rfl,
  I1.kept (t':=tk) fun b o e=>Heap.get?_push_of_some _ e,yf _ lo (hi - lo).toNat,?_,fun b hb=>?_,q⟩
 ·have e1:lo+((0:Nat):Int)*1=lo:=by simp
  have e2:(((hi - lo).toNat:Nat):Int) - ((0:Nat):Int)=Builtin.Range.rangeSize lo hi 1:=by rw[rangeSize_one];split <;> omega
  show IsRangeIter _ _ (lo+((0:Nat):Int)*1) ((((hi - lo).toNat:Nat):Int) - ((0:Nat):Int)) 1
  rw[e1,e2]
  exact Heap.get?_push_size _ rfl
 ·have e:b=(s.heap.push {cls:= .type "range",data:= .fields #[.int lo t, .int hi u, .int 1 v]}).objs.size:=by simpa using hb
  subst e
  exact I1.qI (Nat.le_refl _) (I1.hok.fresh (Nat.le_refl _))
noncomputable def pK(ta:TA):TI:=fun σ H R=>ta σ H fun vs H1=>∃j:Int,vs=[.int j]∧ -(2 ^ 62)≤j∧j < 2 ^ 62∧R (Iz 0 j.toNat) H1
noncomputable def KY(ta:TA):TI:=fun σ H R=>ta σ H fun vs H1=>∃i j:Int,vs=[.int i, .int j]∧(-(2 ^ 62)≤i∧i < 2 ^ 62∧ -(2 ^ 62)≤j∧j < 2 ^ 62)∧R (Iz i (j - i).toNat) H1
theorem s_{a:Expr}{ta:TA}{p pos:Pos}(hg:Gl X "range")(hm:X.mg "range"=none)(ha:PA X [a] ta)(hs:starEach [a] X.env=[(false,eval a X.env)]:=by rfl):PI X tg (.Call (.Name "range" p) [a] [] pos) (pK ta):=by
 intro pins s σ H R I h
 refine Call_ (ko I hg hm boot_range (PyProof.Rows.callWith_type1 (eg (ha pos pins s σ H _ I h) fun us s1 ⟨vs,H1,I1,r1,q1⟩=>?_) hs rfl))
 obtain⟨j,e,q1,q2,q⟩:=q1
 subst e
 cases r1 with
 | cons r rr=>
   cases rr
   obtain⟨t,rfl⟩:=r
   exact call_range_1 (A6 I1 (by omega) (by omega) q1 q2 (by simpa using q))
noncomputable def Ka(wi:TI)(g:TG)(tb:TS):TS:=fun D σ H=>wi σ H fun J H1=>∃W:Nat→Nat→St→Hp→Prop,(∃m,W 0 m σ H1)∧∀i m σ H,W i m σ H→
 (J.stop i H∧D.nx σ H)∨(J.go i H∧∃N:St→Hp→Prop,(∀σ' H',N σ' H'→∃m',m' < m∧W (i+1) m' σ' H')∧∀x H',J.yld i H x H'→g x σ H' fun σ2 H2=>tb {D with nx:=N,ct:=N,bk:=D.nx} σ2 H2)
noncomputable def nA(fp:List Addr)(h:Heap):List (Addr × Obj):=fp.filterMap fun b=>(h.get? b).map fun o=>(b,o)
theorem kA{fp:List Addr}{h:Heap}{b:Addr}{o:Obj}(hb:b∈fp)(e:h.get? b=some o):(b,o)∈nA fp h:=List.mem_filterMap.mpr ⟨b,hb,by rw[e];rfl⟩
theorem zU{fp:List Addr}{h:Heap}{p:Addr × Obj}(hp:p∈nA fp h):p.1∈fp∧h.get? p.1=some p.2:=by
 obtain⟨b,hb,e⟩:=List.mem_filterMap.mp hp
 cases q:h.get? b with
 | none=>rw [q] at e;cases e
 | some o=>
   rw[q] at e
   have e':(b,o)=p:=Option.some.inj e
   subst e'
   exact⟨hb,q⟩
theorem Inv.pinned{pins:List (Addr × Obj)}{σ:St}{H:Hp}{s:Shared}{fp:List Addr}(I:Inv X pins σ H s)(hf:∀b∈fp,pT X pins H b)(ho:∀b∈fp,∃o,s.heap.get? b=some o∧∀v,o.data≠ .cell v):Inv X (pins++nA fp s.heap) σ H s:=
 I.yX fun p hp=>(List.mem_append.mp hp).elim (fun z=>I.pin p (List.mem_append_right _ z)) fun z=>by
  obtain⟨hb,e⟩:=zU z
  obtain⟨f0,f1,f2,_⟩:=hf p.1 hb
  obtain⟨o,e',d⟩:=ho p.1 hb
  rw[e] at e';cases e'
  exact⟨e,f0,f1,f2,d⟩
theorem Inv.nV{pins pl:List (Addr × Obj)}{σ:St}{H:Hp}{s:Shared}(I:Inv X (pins++pl) σ H s):Inv X pins σ H s:=I.yX fun p hp=>I.pin p (List.mem_append_right _ (List.mem_append_left _ hp))
theorem yn{iter:Expr}{body:List Stmt}{wi:TI}{g:TG}{tb:TS}{pos:Pos}(hp:PassesOwn (model X.prog X.w) X.A X.env X.xe)(hc:X.calm=true)(hi:PI X tg iter wi)(hg:PG X tg g)(hb:u7 X body tb)
 (hs:∀x,foldedSetIterable iter X.env x=pure x:=by intro _;rfl):PS X (.For tg iter body [] pos) (Ka wi g tb):=by
 intro pins s σ H D I h
 refine wpAny_For (eg (hi pins s σ H _ I h) fun v s1 h1=>eg h1 fun itv s2 h2=>?_) hs
 obtain⟨it,fp,tn,J,H2,e,I2,T,st2,f2,W,⟨m0,w0⟩,turn⟩:=h2
 subst e
 have stat:∀{H':Hp},(∀b∈fp,H' b=none)→∀b∈fp,pT X pins H' b:=fun hn b hb=>⟨hn b hb,(f2 b hb).2⟩
 refine codeAny_forLoop_any (fun n s'=>∃i σ' H',Inv X pins σ' H' s'∧tn i s'.heap∧(∀b∈fp,H' b=none)∧W i n σ' H') ?_ m0 ⟨0,σ,H2,I2,st2,fun b hb=>(f2 b hb).1,w0⟩
 rintro n s3 ⟨i,σ3,H3,I3,st3,fr3,w3⟩
 rcases turn i n σ3 H3 w3 with⟨stop,qn⟩ | ⟨go,N,hN,step⟩
 ·refine wpAny_passesOwn hp (eg (T.done X rfl rfl rfl hc i pins s3 σ3 H3 X.xe I3 (stat fr3) st3 stop) fun r s4 ⟨hr,I4⟩=>?_)
  subst hr
  exact wpAny_execs_nil ⟨σ3,H3,I4,qn⟩
 ·refine wpAny_passesOwn hp (eg (T.item X rfl rfl rfl hc i pins s3 σ3 H3 X.xe I3 (stat fr3) st3 go) fun r s4 ⟨u,hr,h4⟩=>?_)
  subst hr
  refine wpAny_passesOwn hp (eg h4 fun _ s5 ⟨x,H5,I5,r5,y5,st5,fr5⟩=>?_)
  have I5':=I5.pinned (stat fr5) (T.obj _ _ st5)
  refine wpAny_passesOwn hp (eg (hg _ s5 σ3 H5 x u _ I5' r5 (step x H5 y5)) fun _ s6 ⟨σ6,H6,I6,q6⟩=>?_)
  refine wpAny_passesOwn hp (eg (hb _ s6 σ6 H6 _ I6 q6) fun f s7 q7=>?_)
  have again:∀{σ7:St} {H7:Hp},Inv X (pins++nA fp s5.heap) σ7 H7 s7→N σ7 H7→∃m,m < n∧∃i σ' H',Inv X pins σ' H' s7∧tn i s7.heap∧(∀b∈fp,H' b=none)∧W i m σ' H':=fun {σ7 H7} I7 n7=>by
   obtain⟨m',hm,w7⟩:=hN σ7 H7 n7
   refine⟨m',hm,i+1,σ7,H7,I7.nV,T.keep _ _ _ st5 fun b hb o e=>(I7.pin (b,o) (List.mem_append_right _ (List.mem_append_right _ (kA hb e)))).1,fun b hb=>?_,w7⟩
   obtain⟨o,e,d⟩:=T.obj _ _ st5 b hb
   exact(I7.pin (b,o) (List.mem_append_right _ (List.mem_append_right _ (kA hb e)))).2.1
  cases f with
  | next=>obtain⟨σ7,H7,I7,n7⟩:=q7;exact again I7 n7
  | cont=>obtain⟨σ7,H7,I7,n7⟩:=q7;exact again I7 n7
  | brk=>obtain⟨σ7,H7,I7,q7⟩:=q7;exact⟨σ7,H7,I7.nV,q7⟩
  | ret v=>obtain⟨x7,σ7,H7,I7,r7,q7⟩:=q7;exact⟨x7,σ7,H7,I7.nV,r7,q7⟩
end
end L2
namespace L2
open PySem PySem.Spec PyProof.Rows
noncomputable abbrev R2:=V→V→Hp→VK→Prop
noncomputable def lp(X:Cx)(f:Value→Value→Sem Value)(r:R2):Prop:=
 ∀(pins:List (Addr × Obj)) (s:Shared) (σ:St) (H:Hp) (x y:V) (v u:Value) (Q:VK),Inv X pins σ H s→RelV x v→RelV y u→r x y H Q→
  wpAny (model X.prog X.w) X.A (f v u) (EP X pins σ Q) X.xe s
noncomputable def Jn(X:Cx)(f:Value→Sem Value)(r:V→Hp→VK→Prop):Prop:=
 ∀(pins:List (Addr × Obj)) (s:Shared) (σ:St) (H:Hp) (x:V) (v:Value) (Q:VK),Inv X pins σ H s→RelV x v→r x H Q→
  wpAny (model X.prog X.w) X.A (f v) (EP X pins σ Q) X.xe s
noncomputable def nX(X:Cx)(f:Value)(r:List V→Hp→VK→Prop):Prop:=
 ∀(pins:List (Addr × Obj)) (s:Shared) (σ:St) (H:Hp) (xs:List V) (us:List Value) (Q:VK),Inv X pins σ H s→Vals xs us→r xs H Q→
  wpAny (model X.prog X.w) X.A (call f us) (EP X pins σ Q) X.xe s
noncomputable def Kk(X:Cx)(r:V→Hp→(Bool→Hp→Prop)→Prop):Prop:=
 ∀(pins:List (Addr × Obj)) (s:Shared) (σ:St) (H:Hp) (x:V) (v:Value) (Q:Bool→Hp→Prop),Inv X pins σ H s→RelV x v→r x H Q→
  wpAny (model X.prog X.w) X.A (truthy v) (TP X pins σ Q) X.xe s
noncomputable def HG(r:R2)(ta tb:TE):TE:=fun σ H Q=>ta σ H fun x H1=>tb σ H1 fun y H2=>r x y H2 Q
noncomputable def LF(r:V→Hp→VK→Prop)(ta:TE):TE:=fun σ H Q=>ta σ H fun x H1=>r x H1 Q
noncomputable def rI(C:Int→Int→Prop)(g:Int→Int→V):R2:=fun x y H Q=>∃i j,x= .int i∧y= .int j∧C i j∧Q (g i j) H
noncomputable def CN(g:Int→Int→V):R2:=fun x y H Q=>∃i j,x= .int i∧y= .int j∧Q (g i j) H
noncomputable def rU(g:Int→V):V→Hp→VK→Prop:=fun x H Q=>∃i,x= .int i∧Q (g i) H
section
variable {X:Cx} {a b c:Expr} {ta tb tc:TE} {pos:Pos}
theorem GX(ha:PE X a ta)(hb:PE X b tb){pins:List (Addr × Obj)}{s:Shared}{σ:St}{H:Hp}{R:V→V→Hp→Prop}(I:Inv X pins σ H s)
 (h:ta σ H fun x H1=>tb σ H1 fun y H2=>R x y H2) {Q:Value→Shared→Prop} {f:Value→Value→Sem Value}
 (hf:∀v u s2 x y H2,Inv X pins σ H2 s2→RelV x v→RelV y u→R x y H2→wpAny (model X.prog X.w) X.A (f v u) Q X.xe s2) :
 wpAny (model X.prog X.w) X.A (eval a X.env) (fun v s₁=>wpAny (model X.prog X.w) X.A (eval b X.env) (fun u s₂=>wpAny (model X.prog X.w) X.A (f v u) Q X.xe s₂) X.xe s₁) X.xe s:=by
 refine eg (ha pins s σ H _ I h) fun v s1 ⟨x,H1,I1,r1,q1⟩=>?_
 refine eg (hb pins s1 σ H1 _ I1 q1) fun u s2 ⟨y,H2,I2,r2,q2⟩=>?_
 exact hf v u s2 x y H2 I2 r1 r2 q2
theorem yF{op:Operator}{r:R2}(ho:lp X (binaryOp op) r)(ha:PE X a ta)(hb:PE X b tb):PE X (.BinOp a op b pos) (HG r ta tb):=by
 intro pins s σ H Q I h
 exact wpAny_BinOp (GX ha hb I h fun v u s2 x y H2 I2 rx ry q=>ho pins s2 σ H2 x y v u Q I2 rx ry q)
theorem EX{op:UnaryOp}{r:V→Hp→VK→Prop}(ho:Jn X (unaryOp op) r)(ha:PE X a ta):PE X (.UnaryOp op a pos) (LF r ta):=by
 intro pins s σ H Q I h
 exact UnaryOp_ (eg (ha pins s σ H _ I h) fun v s1 ⟨x,H1,I1,r1,q1⟩=>ho pins s1 σ H1 x v Q I1 r1 q1)
theorem HC{f:Value→Value→Sem Value}{C:Int→Int→Prop}{g:Int→Int→Int}
 (rule:∀(i j:Int) (t u:Tok) (s:Shared) (Q:Value→Shared→Prop) (E:Value→Shared→Prop),C i j→Q (.int (g i j) s.toks) {s with toks:=s.toks+1}→wpAny (model X.prog X.w) X.A (f (.int i t) (.int j u)) Q E s) :
 lp X f (rI C fun i j=> .int (g i j)):=by
 intro pins s σ H x y v u Q I rx ry h
 obtain⟨i,j,rfl,rfl,hc,q⟩:=h
 obtain⟨t,rfl⟩:=rx
 obtain⟨t',rfl⟩:=ry
 exact rule i j t t' s _ _ hc ⟨.int (g i j),H,I.tok _,⟨_,rfl⟩,q⟩
theorem Bd{f:Value→Value→Sem Value}{g:Int→Int→Int}
 (rule:∀(i j:Int) (t u:Tok) (s:Shared) (Q:Value→Shared→Prop) (E:Value→Shared→Prop),Q (.int (g i j) s.toks) {s with toks:=s.toks+1}→wpAny (model X.prog X.w) X.A (f (.int i t) (.int j u)) Q E s) :
 lp X f (CN fun i j=> .int (g i j)):=by
 intro pins s σ H x y v u Q I rx ry h
 obtain⟨i,j,rfl,rfl,q⟩:=h
 obtain⟨t,rfl⟩:=rx
 obtain⟨t',rfl⟩:=ry
 exact rule i j t t' s _ _ ⟨.int (g i j),H,I.tok _,⟨_,rfl⟩,q⟩
theorem IJ{f:Value→Value→Sem Value}{g:Int→Int→Bool}
 (rule:∀(i j:Int) (t u:Tok) (s:Shared) (Q:Value→Shared→Prop) (E:Value→Shared→Prop),Q (.bool (g i j)) s→wpAny (model X.prog X.w) X.A (f (.int i t) (.int j u)) Q E s) :
 lp X f (CN fun i j=> .bl (g i j)):=by
 intro pins s σ H x y v u Q I rx ry h
 obtain⟨i,j,rfl,rfl,q⟩:=h
 obtain⟨t,rfl⟩:=rx
 obtain⟨t',rfl⟩:=ry
 exact rule i j t t' s _ _ ⟨.bl (g i j),H,I,rfl,q⟩
noncomputable def Kg(i j:Int):Prop:=0 < j∧j < 1073741824
noncomputable def KN(i j:Int):Prop:=j≠0∧j.natAbs < 1073741824
noncomputable def II(i j:Int):Prop:=0≤j∧j≤1000000∧i.natAbs < 2 ^ 64
noncomputable def Gv(i j:Int):Prop:=(-(2 ^ 64) < i∧i < 2 ^ 64)∨(-(2 ^ 64) < j∧j < 2 ^ 64)
theorem Gv.ok{i j:Int}(h:Gv i j):IntMulOk i j:=by
 rcases h with⟨h1,h2⟩ | ⟨h1,h2⟩
 ·exact .of_left (intBits_le_64 h1 h2)
 ·exact .of_right (intBits_le_64 h1 h2)
theorem xF(k:Nat):(0:Int)≤2 ^ k:=by
 rw[two_pow_cast]
 exact Int.natCast_nonneg _
theorem G3:lp X (binaryOp .Add) (CN fun i j=> .int (i+j)):=Bd fun _ _ _ _ _ _ _ q=>add_int q
theorem FP:lp X (binaryOp .Sub) (CN fun i j=> .int (i - j)):=Bd fun _ _ _ _ _ _ _ q=>sub_int q
theorem Ho:lp X (binaryOp .Mult) (rI Gv fun i j=> .int (i*j)):=HC fun _ _ _ _ _ _ _ hc q=>mul_int q hc.ok
theorem CY:lp X (binaryOp .FloorDiv) (rI Kg fun i j=> .int (i / j)):=HC fun i j _ _ _ _ _ hc q=>by
 have h1:(0:Int) < j:=hc.1
 have h2:j < 1073741824:=hc.2
 exact floordiv_int (by omega) (by rw[Int.fdiv_eq_ediv_of_nonneg i (by omega)];exact q) (.inl (PyProof.noPylong_small (by omega)))
theorem FQ:lp X (binaryOp .Mod) (rI (fun _ j=>0 < j) fun i j=> .int (i % j)):=HC fun i j _ _ _ _ _ hc q=>by
 have h1:(0:Int) < j:=hc
 exact mod_int' (by omega) (by rw[Int.fmod_eq_emod_of_nonneg i (by omega)];exact q)
theorem Ft:lp X (binaryOp .Pow) (rI II fun i j=> .int (i ^ j.toNat)):=HC fun _ _ _ _ _ _ _ hc q=>pow_int_small hc.1 hc.2.1 hc.2.2 q
theorem FE:lp X (binaryOp .LShift) (rI II fun i j=> .int (i*2 ^ j.toNat)):=HC fun _ _ _ _ _ _ _ hc q=>lshift_int_small hc.1 hc.2.1 hc.2.2 q
theorem F3:lp X (binaryOp .RShift) (rI (fun _ j=>0≤j) fun i j=> .int (i / 2 ^ j.toNat)):=HC fun i j _ _ _ _ _ hc q=>
 rshift_int hc (by rw[Int.fdiv_eq_ediv_of_nonneg i (xF _)];exact q)
theorem GV:lp X (binaryOp .BitAnd) (CN fun i j=> .int (Builtin.bitAnd i j)):=Bd fun _ _ _ _ _ _ _ q=>and_int q
theorem IU:lp X (binaryOp .BitOr) (CN fun i j=> .int (Builtin.bitOr i j)):=Bd fun _ _ _ _ _ _ _ q=>or_int q
theorem Gk:lp X (binaryOp .BitXor) (CN fun i j=> .int (Builtin.bitXor i j)):=Bd fun _ _ _ _ _ _ _ q=>xor_int q
theorem K3{f:Value→Sem Value}{g:Int→Int}
 (rule:∀(i:Int) (t:Tok) (s:Shared) (Q:Value→Shared→Prop) (E:Value→Shared→Prop),Q (.int (g i) s.toks) {s with toks:=s.toks+1}→wpAny (model X.prog X.w) X.A (f (.int i t)) Q E s) :
 Jn X f (rU fun i=> .int (g i)):=by
 intro pins s σ H x v Q I rx h
 obtain⟨i,rfl,q⟩:=h
 obtain⟨t,rfl⟩:=rx
 exact rule i t s _ _ ⟨.int (g i),H,I.tok _,⟨_,rfl⟩,q⟩
theorem GL:Jn X (unaryOp .USub) (rU fun i=> .int (-i)):=K3 fun _ _ _ _ _ q=>neg_int q
theorem GU:Jn X (unaryOp .Invert) (rU fun i=> .int (Builtin.bitNot i)):=K3 fun _ _ _ _ _ q=>invert_int q
end
noncomputable def I0:V→V→Bool
 | .di, .di=>true | .di, .int _=>true | .int _, .di=>true | .di, .bl _=>true | .bl _, .di=>true | .di, .str _=>true | .str _, .di=>true
 | .int _, .int _=>true | .bl _, .bl _=>true | .str _, .str _=>true | .byt _, .byt _=>true
 | .int _, .str _=>true | .str _, .int _=>true | .bl _, .str _=>true | .str _, .bl _=>true
 | _,_=>false
noncomputable def LW:R2:=fun x y H Q=>I0 x y=true∧Q (.bl (decide (x=y))) H
noncomputable def Lx:R2:=fun x y H Q=>I0 x y=true∧Q (.bl (!decide (x=y))) H
theorem zl{i j:Int}:decide (V.int i=V.int j)=(i==j):=by
 rw[Bool.eq_iff_iff]
 simp
theorem B8{i j:Bool}:decide (V.bl i=V.bl j)=(i==j):=by
 rw[Bool.eq_iff_iff]
 simp
theorem zf{i j:Str}:decide (V.str i=V.str j)=(i==j):=by
 rw[Bool.eq_iff_iff]
 simp
theorem y7{i j:Array UInt8}:decide (V.byt i=V.byt j)=(i.toList==j.toList):=by
 rw[Bool.eq_iff_iff]
 cases i
 cases j
 simp
section
variable {X:Cx} {a b c:Expr} {ta tb tc:TE} {pos:Pos}
theorem cf{pins:List (Addr × Obj)}{σ:St}{H:Hp}{s:Shared}{Q:VK}{k k':Bool}(I:Inv X pins σ H s)(q:Q (.bl k) H)(e:k=k'):EP X pins σ Q (.bool k') s:=by
 subst e
 exact⟨.bl k,H,I,rfl,q⟩
theorem AA:lp X (compareOp .Eq) LW:=by
 intro pins s σ H x y v u Q I rx ry h
 obtain⟨hs,q⟩:=h
 cases x with
 | di=>
   cases rx
   cases y with
   | di=>cases ry;exact PySem.EqNone.eq_none_none (cf I q (by simp))
   | bl j=>cases ry;exact PySem.EqNone.eq_none_bool (cf I q (by simp))
   | int j=>obtain⟨t',rfl⟩:=ry;exact PySem.EqNone.eq_none_int (cf I q (by simp))
   | str j=>obtain⟨t',rfl⟩:=ry;exact PySem.EqNone.eq_none_str (cf I q (by simp))
   | _=>exact absurd (show false=true from hs) Bool.false_ne_true
 | bl i=>
   cases rx
   cases y with
   | di=>cases ry;exact PySem.EqNone.eq_bool_none (cf I q (by simp))
   | bl j=>cases ry;exact eq_bool (cf I q B8)
   | str j=>obtain⟨t',rfl⟩:=ry;exact PySem.EqMixed.eq_bool_str (cf I q (by simp))
   | _=>exact absurd (show false=true from hs) Bool.false_ne_true
 | int i=>
   obtain⟨t,rfl⟩:=rx
   cases y with
   | di=>cases ry;exact PySem.EqNone.eq_int_none (cf I q (by simp))
   | int j=>obtain⟨t',rfl⟩:=ry;exact eq_int (cf I q zl)
   | str j=>obtain⟨t',rfl⟩:=ry;exact PySem.EqMixed.eq_int_str (cf I q (by simp))
   | _=>exact absurd (show false=true from hs) Bool.false_ne_true
 | str i=>
   obtain⟨t,rfl⟩:=rx
   cases y with
   | di=>cases ry;exact PySem.EqNone.eq_str_none (cf I q (by simp))
   | bl j=>cases ry;exact PySem.EqMixed.eq_str_bool (cf I q (by simp))
   | int j=>obtain⟨t',rfl⟩:=ry;exact PySem.EqMixed.eq_str_int (cf I q (by simp))
   | str j=>obtain⟨t',rfl⟩:=ry;exact eq_str (cf I q zf)
   | _=>exact absurd (show false=true from hs) Bool.false_ne_true
 | byt i=>
   obtain⟨t,rfl⟩:=rx
   cases y with
   | byt j=>obtain⟨t',rfl⟩:=ry;exact PySem.W.eq_bytes (cf I q y7)
   | _=>exact absurd (show false=true from hs) Bool.false_ne_true
 | _=>cases y <;> exact absurd (show false=true from hs) Bool.false_ne_true
theorem A4:lp X (compareOp .NotEq) Lx:=by
 intro pins s σ H x y v u Q I rx ry h
 obtain⟨hs,q⟩:=h
 cases x with
 | di=>
   cases rx
   cases y with
   | di=>cases ry;exact PySem.EqNone.ne_none_none (cf I q (by simp))
   | bl j=>cases ry;exact PySem.EqNone.ne_none_bool (cf I q (by simp))
   | int j=>obtain⟨t',rfl⟩:=ry;exact PySem.EqNone.ne_none_int (cf I q (by simp))
   | str j=>obtain⟨t',rfl⟩:=ry;exact PySem.EqNone.ne_none_str (cf I q (by simp))
   | _=>exact absurd (show false=true from hs) Bool.false_ne_true
 | bl i=>
   cases rx
   cases y with
   | di=>cases ry;exact PySem.EqNone.ne_bool_none (cf I q (by simp))
   | bl j=>cases ry;exact ne_bool (cf I q (congrArg not B8))
   | str j=>obtain⟨t',rfl⟩:=ry;exact PySem.EqMixed.ne_bool_str (cf I q (by simp))
   | _=>exact absurd (show false=true from hs) Bool.false_ne_true
 | int i=>
   obtain⟨t,rfl⟩:=rx
   cases y with
   | di=>cases ry;exact PySem.EqNone.ne_int_none (cf I q (by simp))
   | int j=>obtain⟨t',rfl⟩:=ry;exact ne_int (cf I q (congrArg not zl))
   | str j=>obtain⟨t',rfl⟩:=ry;exact PySem.EqMixed.ne_int_str (cf I q (by simp))
   | _=>exact absurd (show false=true from hs) Bool.false_ne_true
 | str i=>
   obtain⟨t,rfl⟩:=rx
   cases y with
   | di=>cases ry;exact PySem.EqNone.ne_str_none (cf I q (by simp))
   | bl j=>cases ry;exact PySem.EqMixed.ne_str_bool (cf I q (by simp))
   | int j=>obtain⟨t',rfl⟩:=ry;exact PySem.EqMixed.ne_str_int (cf I q (by simp))
   | str j=>obtain⟨t',rfl⟩:=ry;exact ne_str (cf I q (congrArg not zf))
   | _=>exact absurd (show false=true from hs) Bool.false_ne_true
 | byt i=>
   obtain⟨t,rfl⟩:=rx
   cases y with
   | byt j=>obtain⟨t',rfl⟩:=ry;exact PySem.W.ne_bytes (cf I q (congrArg not y7))
   | _=>exact absurd (show false=true from hs) Bool.false_ne_true
 | _=>cases y <;> exact absurd (show false=true from hs) Bool.false_ne_true
theorem HV:lp X (compareOp .Gt) (CN fun i j=> .bl (decide (j < i))):=IJ fun _ _ _ _ _ _ _ q=>gt_int q
theorem Ir:lp X (compareOp .GtE) (CN fun i j=> .bl (decide (j≤i))):=IJ fun _ _ _ _ _ _ _ q=>ge_int q
theorem Ah:lp X (compareOp .In) (fun x y H Q=>∃i j,x= .str i∧y= .str j∧Q (.bl (!(Builtin.Str.occurrences j i 0 j.length 1).isEmpty)) H):=by
 intro pins s σ H x y v u Q I rx ry h
 obtain⟨i,j,rfl,rfl,q⟩:=h
 obtain⟨t,rfl⟩:=rx
 obtain⟨t',rfl⟩:=ry
 exact in_str (cf I q rfl)
theorem uN:lp X (compareOp .NotIn) (fun x y H Q=>∃i j,x= .str i∧y= .str j∧Q (.bl (!(!(Builtin.Str.occurrences j i 0 j.length 1).isEmpty))) H):=by
 intro pins s σ H x y v u Q I rx ry h
 obtain⟨i,j,rfl,rfl,q⟩:=h
 obtain⟨t,rfl⟩:=rx
 obtain⟨t',rfl⟩:=ry
 exact notIn_str (cf I q rfl)
noncomputable def isObj:HO→Bool
 | .lst _=>true
 | .ins _ _ _=>true
 | _=>false
theorem bW(b:Expr){op:CmpOp}(h:op≠ .In:=by decide)(h2:op≠ .NotIn:=by decide):behindInMarks op b=false:=by
 have e1:(op==CmpOp.In)=false:=by cases op <;> first | rfl | exact absurd rfl h
 have e2:(op==CmpOp.NotIn)=false:=by cases op <;> first | rfl | exact absurd rfl h2
 cases b <;> simp [behindInMarks,e1,e2]
theorem yY{op:CmpOp}{r:R2}(ho:lp X (compareOp op) r)(ha:PE X a ta)(hb:PE X b tb)(hm:behindInMarks op b=false):PE X (.Compare a [op] [b] pos) (HG r ta tb):=by
 intro pins s σ H Q I h
 exact wpAny_Compare1 (GX ha hb I h fun v u s2 x y H2 I2 rx ry q=>ho pins s2 σ H2 x y v u Q I2 rx ry q) hm
noncomputable def IQ(t:TE):TT:=fun σ H Q=>t σ H fun x H'=>∃k,x= .bl k∧Q k H'
theorem zt{op:CmpOp}{r:R2}(ho:lp X (compareOp op) r)(ha:PE X a ta)(hb:PE X b tb)(hm:behindInMarks op b=false):PT X (.Compare a [op] [b] pos) (IQ (HG r ta tb)):=by
 intro pins s σ H Q I h
 refine wpAny_isTrue_Compare1 (eg (ha pins s σ H _ I h) fun v s1 ⟨x,H1,I1,r1,q1⟩=>eg (hb pins s1 σ H1 _ I1 q1) fun u s2 ⟨y,H2,I2,r2,q2⟩=>
  eg (ho pins s2 σ H2 x y v u _ I2 r1 r2 q2) fun c s3 ⟨z,H3,I3,r3,k,e,q3⟩=>?_) hm
 subst e
 cases r3
 exact wpAny_truthy_bool ⟨H3,I3,q3⟩
noncomputable def JQ(r r':R2)(ta tb tc:TE):TE:=fun σ H Q=>ta σ H fun x H1=>tb σ H1 fun y H2=>r x y H2 fun z H3=>∃k,z= .bl k∧
 (if k=true then tc σ H3 fun w' H4=>r' y w' H4 Q else Q (.bl false) H3)
noncomputable def Dw(K:PySem.W.Frag)(x:V)(H:Hp)(k:Bool):Prop:=
 match x with
 | .di=>k=false
 | .bl b=>k=b
 | .int i=>k=(i !=0)
 | .str y=>y.length≤sizeLine∧k=((y.length:Int) !=0)
 | .byt y=>y.size≤sizeLine∧k=((y.size:Int) !=0)
 | .ref p=>(∃xs,mH K H p xs∧k=!xs.isEmpty)∨(∃xs,pE K H p xs∧k=!xs.isEmpty)∨∃kvs,H p=some (.dK kvs)∧k=!kvs.isEmpty
 | _=>False
theorem xk{κ:Type}{kvs:List (κ × V)}{vs:List (κ × Value)}(r:KV kvs vs):(!vs.isEmpty)=!kvs.isEmpty:=by
 cases r <;> rfl
theorem rQ{xs:List V}{its:List Value}(r:Vals xs its):(!its.toArray.isEmpty)=!xs.isEmpty:=by
 cases r <;> simp
theorem pj:(sizeLine:Nat) < 2 ^ 63:=by rw[sizeLine_eq];decide
theorem Gm:Kk X (fun x H Q=>∃k,Dw X.K x H k∧Q k H):=by
 intro pins s σ H x v Q I rx h
 obtain⟨k,e,q⟩:=h
 have hl:=pj
 have hs:sizeLine=16777216:=sizeLine_eq
 cases x with
 | di=>
   cases rx
   have e':k=false:=e
   subst e'
   exact truthy_none ⟨H,I,q⟩
 | bl b=>
   cases rx
   have e':k=b:=e
   subst e'
   exact wpAny_truthy_bool ⟨H,I,q⟩
 | int i=>
   obtain⟨t,rfl⟩:=rx
   have e':k=(i !=0):=e
   subst e'
   exact PySem.P.truthy_int ⟨H,I,q⟩
 | str y=>
   obtain⟨t,rfl⟩:=rx
   obtain⟨hy,e'⟩:y.length≤sizeLine∧k=((y.length:Int) !=0):=e
   subst e'
   exact PySem.P.truthy_str (by omega) ⟨H,I.tok _,q⟩
 | byt y=>
   obtain⟨t,rfl⟩:=rx
   obtain⟨hy,e'⟩:y.size≤sizeLine∧k=((y.size:Int) !=0):=e
   subst e'
   exact PySem.W.truthy_bytes (by omega) ⟨H,I.tok _,q⟩
 | ref p=>
   cases rx
   have e':(∃xs,mH X.K H p xs∧k=!xs.isEmpty)∨(∃xs,pE X.K H p xs∧k=!xs.isEmpty)∨∃kvs,H p=some (.dK kvs)∧k=!kvs.isEmpty:=e
   rcases e' with⟨xs,hx,e'⟩ | ⟨xs,hx,e'⟩ | ⟨kvs,hx,e'⟩
   ·subst e'
    obtain⟨its,r,pl,hz⟩:=I.list hx
    have hlen:=r.length
    exact wpAny_truthy_list pl.isList (by simp only[List.size_toArray];omega) ⟨H,I.tok _,by rw[rQ r];exact q⟩
   ·subst e'
    obtain⟨its,r,pl,hz⟩:=I.tuple hx
    have hlen:=r.length
    exact truthy_tuple pl (by simp only[List.size_toArray];omega) ⟨H,I.tok _,by rw[rQ r];exact q⟩
   ·subst e'
    obtain⟨hz,hS,vs,r,m⟩:kvs.length≤sizeLine∧(p==sysModules)=false∧∃vs,KV kvs vs∧s.heap.DictOf (dz X.prog X.w) p vs:=I.hok p _ hx
    have hlen:kvs.length=vs.length:=Paired.length r
    exact wpAny_truthy_dict hS m (by omega) ⟨H,I.tok _,by rw[xk r];exact q⟩
 | _=>exact(show False from e).elim
theorem vd(ha:PE X a ta)(he:∀whole,isTrue a X.env whole=(do let v ←whole;standAt a.pos;holding [v] (truthy v))) :
 PT X a (fun σ H Q=>ta σ H fun x H'=>∃k,Dw X.K x H' k∧Q k H'):=by
 intro pins s σ H Q I h
 exact isTrue_plain (eg (ha pins s σ H _ I h) fun v s1 ⟨x,H1,I1,r1,q1⟩=>Gm pins s1 σ H1 x v Q I1 r1 q1) (he _)
theorem xA:lp X (binaryOp .Add) (fun x y H Q=>∃i j,x= .str i∧y= .str j∧i.length+j.length≤sizeLine∧Q (.str (i++j)) H):=by
 intro pins s σ H x y v u Q I rx ry h
 obtain⟨i,j,rfl,rfl,hz,q⟩:=h
 obtain⟨t,rfl⟩:=rx
 obtain⟨t',rfl⟩:=ry
 exact add_str (fun t' tk=>⟨.str (i++j),H,I.tok _,⟨_,rfl⟩,q⟩) hz
noncomputable def Ij(b:Expr):Prop:=∀o i,subscripted b false o i=operate [o,i] (getItem o i)
theorem vals1{x:V}{us:List Value}(r:Vals [x] us):∃u,us=[u]∧RelV x u:=by
 cases r with
 | cons r1 r2=>cases r2;exact⟨_,rfl,r1⟩
theorem vals2{x y:V}{us:List Value}(r:Vals [x,y] us):∃u w',us=[u,w']∧RelV x u∧RelV y w':=by
 cases r with
 | cons r1 r2=>
   cases r2 with
   | cons r3 r4=>cases r4;exact⟨_,_,rfl,r1,r3⟩
theorem Aj(hc:X.calm=true):nX X (.builtin "min") (fun xs H Q=>∃i j,xs=[.int i, .int j]∧Q (.int (if j < i then j else i)) H):=by
 intro pins s σ H xs us Q I r h
 obtain⟨i,j,rfl,q⟩:=h
 obtain⟨u,w',rfl,⟨t,rfl⟩,⟨t',rfl⟩⟩:=vals2 r
 refine min_two_ints (I.ok.hd hc) fun h' tk k=>⟨_,H,I.kept k,?_,q⟩
 by_cases hj:j < i
 ·rw[if_pos hj,if_pos hj];exact⟨_,rfl⟩
 ·rw[if_neg hj,if_neg hj];exact⟨_,rfl⟩
noncomputable def Kc(K:PySem.W.Frag)(x:V)(H:Hp)(n:Nat):Prop:=
 match x with
 | .str y=>y.length≤sizeLine∧n=y.length
 | .byt y=>y.size≤sizeLine∧n=y.size
 | .ref p=>(∃xs,mH K H p xs∧n=xs.length)∨∃xs,pE K H p xs∧n=xs.length
 | _=>False
theorem B_:nX X (.builtin "len") (fun xs H Q=>∃x n,xs=[x]∧Kc X.K x H n∧Q (.int n) H):=by
 intro pins s σ H xs us Q I r h
 obtain⟨x,n,rfl,e,q⟩:=h
 obtain⟨u,rfl,rx⟩:=vals1 r
 have hl:=pj
 have hs:sizeLine=16777216:=sizeLine_eq
 cases x with
 | str y=>
   obtain⟨t,rfl⟩:=rx
   obtain⟨hy,e'⟩:y.length≤sizeLine∧n=y.length:=e
   subst e'
   exact len_str (by omega) ⟨.int _,H,I.tok _,⟨_,rfl⟩,q⟩
 | byt y=>
   obtain⟨t,rfl⟩:=rx
   obtain⟨hy,e'⟩:y.size≤sizeLine∧n=y.size:=e
   subst e'
   exact PySem.W.len_bytes (by omega) ⟨.int _,H,I.tok _,⟨_,rfl⟩,q⟩
 | ref p=>
   cases rx
   have e':(∃xs,mH X.K H p xs∧n=xs.length)∨∃xs,pE X.K H p xs∧n=xs.length:=e
   rcases e' with⟨xs,hx,e'⟩ | ⟨xs,hx,e'⟩
   ·subst e'
    obtain⟨its,r',pl,hz⟩:=I.list hx
    have hlen:=r'.length
    exact Calls.call_len_list pl.isList (by simp only[List.size_toArray];omega) ⟨.int xs.length,H,I.tok _,⟨_,by simp only[List.size_toArray];rw [hlen]⟩,q⟩
   ·subst e'
    obtain⟨its,r',pl,hz⟩:=I.tuple hx
    have hlen:=r'.length
    exact len_tuple pl (by simp only[List.size_toArray];omega) ⟨.int xs.length,H,I.tok _,⟨_,by simp only[List.size_toArray];rw [hlen]⟩,q⟩
 | _=>exact(show False from e).elim
end
end L2
namespace L2
open PySem PySem.Spec PyProof.Rows
structure yd (h:Heap) (x dx C:Addr) (mA:Str→Option Value):Prop where
 obj:h.get? x=some (PySem.W.instObj C dx)
 ns:h.Ns1 dx mA
 ne:dx≠x
theorem zN{h:Heap}{dx:Addr}{mA:Str→Option Value}(n:h.Ns1 dx mA):∃od,h.get? dx=some od∧∀name,PySem.W.lookIn name od=some (mA name):=by
 obtain⟨o,es,ep,ho,hd,hk,_,hm⟩:=n
 refine⟨o,ho,fun name=>?_⟩
 have e:=hm name
 unfold nsFind findBy at e
 rw[←Array.find?_toList] at e
 unfold PySem.W.lookIn
 rw[hd]
 dsimp only
 split
 ·rename_i y q
  rw[q] at e
  exact congrArg some e
 ·rename_i q
  rw[q] at e
  have a:es.toList.any (·.refKey)=false:=by
   rw[List.any_eq_false]
   intro y hy
   obtain⟨z,t,hkey⟩:=hk y (Array.mem_toList_iff.mp hy)
   simp [DictEntry.refKey,hkey]
  have a':¬es.toList.any (·.refKey)=true:=by rw[a];exact Bool.false_ne_true
  rw[if_neg a']
  exact congrArg some e
theorem yd.look{h:Heap}{x dx C:Addr}{mA:Str→Option Value}(I:yd h x dx C mA):∃od,PySem.W.InstAt h x (PySem.W.instObj C dx) C (some od)∧∀name,PySem.W.lookIn name od=some (mA name):=
 let⟨od,ho,hl⟩:=zN I.ns
 ⟨od,⟨I.obj,rfl,rfl,ho⟩,hl⟩
section
variable {prog:Program} {w:World} {A:Around} {E:Value→Shared→Prop} {s:Shared} {K:PySem.W.Frag} {x dx C f:Addr} {mA:Str→Option Value} {name:Str} {v:Value}
theorem get_map{expr:Bool}{Q:Value→Shared→Prop}(X:K.In s.heap)(I:yd s.heap x dx C mA)(hg:PySem.W.plainGet K C name=true)(hh:PySem.W.hasDictIn K C=true)
 (ha:PySem.W.findIn K (.ref C) name=some none) (hv:mA name=some v) (hv':PySem.W.handedIn v=true) (h:Q v {s with toks:=s.toks+1}) :
 wpAny (model prog w) A (getAttr (.ref x) name expr) Q E s:=by
 obtain⟨od,J,hl⟩:=I.look
 exact PySem.W.get_value X J (PySem.W.plainGet_of hg).1 (PySem.W.findObj_own hh ha rfl (by rw[hl,hv])) hv' h
theorem BI{pl:Sem Bool}{Q:Value × List Value→Shared→Prop}(X:K.In s.heap)(I:yd s.heap x dx C mA)(hg:PySem.W.plainGet K C name=true)
 (hf:PySem.W.findIn K (.ref C) name=some (some (.ref f))) (ht:PySem.W.isFn K (.ref f)=true) (hv:mA name=none) (h:Q (.ref f,[.ref x]) s) :
 wpAny (model prog w) A (getMethod (.ref x) name pl) Q E s:=by
 obtain⟨od,J,hl⟩:=I.look
 exact PySem.W.method_fn X J (PySem.W.plainGet_of hg).1 (PySem.W.plainGet_of hg).2 hf (beq_iff_eq.mp ht) (by show(PySem.W.lookIn name od).map (·.isSome)=some false;rw [hl,hv];rfl) h
theorem Du{ns:List Str}{Q:Unit→Shared→Prop}(X:K.In s.heap)(I:yd s.heap x dx C mA)
 (hs:PySem.W.findIn K (.ref C) "__setattr__"=some (some (.builtin "object.__setattr__"))) (hp:PySem.W.plainOver K C=true) (ht:PySem.W.takerIn K C name=some none) (hh:PySem.W.hasDictIn K C=true)
 (hw:PySem.Within mA ns) (hsz:ns.length≤sizeLine)
 (h:∀h',yd h' x dx C (fun y=>if y=name then some v else mA y)→Heap.SameBut dx s.heap h'→Q () {s with heap:=h',toks:=s.toks+2}) :
 wpAny (model prog w) A (setAttr (.ref x) name v) Q E s:=by
 obtain⟨od,J,hl⟩:=I.look
 refine PySem.W.set_plain X J hs (PySem.W.osa_open (s:={s with toks:=s.toks+1}) (r:=none) X J hp ht fun b=>?_)
 obtain⟨cd,hc,hd'⟩:=PySem.W.any_some hh
 have hx:s.heap.get? x=some ⟨.ref C,some dx, .plain,#[]⟩:=I.obj
 refine wpAny_bind (wpAny_pure (wpAny_bind (wpAny_bind (wpAny_loadPart hx (wpAny_bind (PySem.W.Looks.here (s:={s with toks:=s.toks+1}) (PySem.W.looks_clsIn X hc) ?_))))))
 rw[hd']
 refine wpAny_pure (a:=some dx) (wpAny_bind (wpAny_pure (wpAny_bind ?_)))
 refine wpAny_nsSet1 (s:={s with toks:=s.toks+1}) I.ns fun h' hn2 hs2=>?_
 obtain⟨oD,esD,epD,hoD,hdD,hcD⟩:=hn2.count (PySem.Within.cons name v hw)
 refine wpAny_bind (wpAny_lookBehind hoD (by rw[hdD];exact pastItsLine_dict (Nat.le_trans hcD (by rw[List.length_cons];omega))) ?_)
 exact wpAny_pure (h _ ⟨(hs2.2 _ (Ne.symm I.ne)).trans I.obj,hn2,I.ne⟩ hs2)
theorem Bv{R:Result→Shared→Prop}{vs:List Value}{kw:List (Str × Value)}(X:K.In s.heap)(hm:PySem.W.makesIn K C=true)
 (hi:PySem.W.findIn K (.ref C) "__init__"=some (some (.ref f))) (hf:PySem.W.typeIn K (.ref f)=some (.type "function"))
 (h:codeAny (model prog w) (A.under (.builtin "type.__call__" ⟨.ref C ::vs,kw⟩)) (.call (.ref f) ⟨.ref (s.heap.objs.size+1) ::vs,kw⟩) (PySem.W.InitBack (s.heap.objs.size+1) R)
   {s with heap:=(s.heap.push PySem.W.emptyDict).push (PySem.W.instObj C s.heap.objs.size)}) :
 codeAny (model prog w) A (.call (.ref C) ⟨vs,kw⟩) R s:=by
 obtain⟨hh,g,d,t,os⟩:=s
 exact PySem.W.make_core (PySem.W.makes_of X hm) (PySem.W.looks_findIn X hi) (fun self=>PySem.W.bind_fn X self hf) (.inl rfl) h
end
noncomputable def jQ(f:Str)(v:V):List (Str × V)→List (Str × V)
 | []=>[(f,v)]
 | (g,x) ::r=>if g=f then(g,v) ::r else(g,x) ::jQ f v r
theorem pI(f g:Str)(v:V):∀fs:List (Str × V),(jQ f v fs).lookup g=if g=f then some v else fs.lookup g
 | []=>by
   show List.lookup g [(f,v)]=_
   by_cases h:g=f
   ·have hb:(g==f)=true:=beq_iff_eq.mpr h
    simp only[List.lookup,hb,if_pos h]
   ·have hb:(g==f)=false:=beq_eq_false_iff_ne.mpr h
    simp only[List.lookup,hb,if_neg h]
 | (k,x) ::r=>by
   have ih:=pI f g v r
   rw[show jQ f v ((k,x) ::r)=(if k=f then(k,v) ::r else(k,x) ::jQ f v r) from rfl]
   by_cases hk:k=f
   ·rw[if_pos hk]
    by_cases h:g=k
    ·have hb:(g==k)=true:=beq_iff_eq.mpr h
     simp only[List.lookup,hb,if_pos (h.trans hk)]
    ·have hb:(g==k)=false:=beq_eq_false_iff_ne.mpr h
     simp only[List.lookup,hb,if_neg (fun e:g=f=>h (e.trans hk.symm))]
   ·rw[if_neg hk]
    by_cases h:g=k
    ·have hb:(g==k)=true:=beq_iff_eq.mpr h
     simp only[List.lookup,hb,if_neg (fun e:g=f=>hk (h.symm.trans e))]
    ·have hb:(g==k)=false:=beq_eq_false_iff_ne.mpr h
     simp only[List.lookup,hb]
     exact ih
theorem pd(f:Str)(v:V):∀fs:List (Str × V),f∈(jQ f v fs).map (·.1)∧∀g,g∈fs.map (·.1)→g∈(jQ f v fs).map (·.1)
 | []=>⟨by simp [jQ],fun g h=>by simp at h⟩
 | (k,x) ::r=>by
   obtain⟨i1,i2⟩:=pd f v r
   rw[show jQ f v ((k,x) ::r)=(if k=f then(k,v) ::r else(k,x) ::jQ f v r) from rfl]
   by_cases hk:k=f
   ·rw[if_pos hk]
    subst hk
    exact⟨by simp,fun g h=>by simpa using h⟩
   ·rw[if_neg hk]
    refine⟨?_,fun g h=>?_⟩
    ·rw[List.map_cons]
     exact List.mem_cons_of_mem _ i1
    ·rw[List.map_cons] at h ⊢
     rcases List.mem_cons.mp h with e | e
     ·exact List.mem_cons.mpr (.inl e)
     ·exact List.mem_cons_of_mem _ (i2 g e)
theorem pM(f:Str)(v:V):∀fs:List (Str × V),(jQ f v fs).length≤fs.length+1
 | []=>by simp [jQ]
 | (k,x) ::r=>by
   have ih:=pM f v r
   rw[show jQ f v ((k,x) ::r)=(if k=f then(k,v) ::r else(k,x) ::jQ f v r) from rfl]
   by_cases hk:k=f
   ·rw[if_pos hk,List.length_cons,List.length_cons];omega
   ·rw[if_neg hk,List.length_cons,List.length_cons];omega
theorem nJ.some_of{v:V}{o:Option Value}(r:nJ (some v) o):∃u,o=some u∧RelV v u:=by
 cases o with
 | none=>exact(show False from r).elim
 | some u=>exact⟨u,rfl,r⟩
theorem nJ.none_of{o:Option Value}(r:nJ none o):o=none:=by
 cases o with
 | none=>rfl
 | some u=>exact(show False from r).elim
theorem zX{v:V}{u:Value}(r:RelV v u):PySem.W.handedIn u=true:=by
 cases v with
 | di=>cases(show u=Value.none from r);rfl
 | bl b=>cases(show u=Value.bool b from r);rfl
 | int i=>obtain⟨t,e⟩:=(show ∃t,u=Value.int i t from r);cases e;rfl
 | str x=>obtain⟨t,e⟩:=(show ∃t,u=Value.str x t from r);cases e;rfl
 | byt b=>obtain⟨t,e⟩:=(show ∃t,u=Value.bytes b t from r);cases e;rfl
 | flt b=>obtain⟨t,e⟩:=(show ∃t,u=Value.float b t from r);cases e;rfl
 | ref a=>cases(show u=Value.ref a from r);rfl
 | ty n=>cases(show u=Value.type n from r);rfl
section
variable {P:Program} {w:World} {H H':Hp} {h h':Heap} {a C dx:Addr} {fs fs':List (Str × V)}
theorem qt(hok:mJ P w H h)(e:H a=some (.ins C dx fs)):∃mA,yd h a dx C mA∧(∀f,nJ (fs.lookup f) (mA f))∧PySem.Within mA (fs.map (·.1))∧fs.length≤1000∧H dx=some (.own a):=by
 obtain⟨d,z,ne,ob,mA,n,r,q⟩:=(show dS P w H h a (.ins C dx fs) from hok a _ e)
 exact⟨mA,⟨ob,n,ne⟩,r,q,z,d⟩
end
structure u6 (K:PySem.W.Frag) (C:Addr):Prop where
 pg:PySem.W.plainGet K C Str.empty=true
 hd:PySem.W.hasDictIn K C=true
 po:PySem.W.plainOver K C=true
 sa:PySem.W.findIn K (.ref C) "__setattr__"=some (some (.builtin "object.__setattr__"))
theorem u6.get{K:PySem.W.Frag}{C:Addr}(c:u6 K C)(f:Str):PySem.W.plainGet K C f=true:=c.pg
noncomputable def dg(K:PySem.W.Frag)(C:Addr)(f:Str):Prop:=PySem.W.findIn K (.ref C) f=some none
theorem dg.Jb{K:PySem.W.Frag}{C:Addr}{f:Str}(n:dg K C f):PySem.W.takerIn K C f=some none:=by
 unfold PySem.W.takerIn
 rw[show PySem.W.findIn K (.ref C) f=some none from n]
 rfl
structure LL (K:PySem.W.Frag) (C:Addr) (f:Str) (v:V) (u:Value):Prop where
 at_:PySem.W.findIn K (.ref C) f=some (some u)
 rel:RelV v u
 get:PySem.W.specialIn K u "__get__"=some none
 cp:PySem.W.copiedNames.contains f=false
structure Meth (K:PySem.W.Frag) (C:Addr) (m:Str) (f:Addr):Prop where
 at_:PySem.W.findIn K (.ref C) m=some (some (.ref f))
 fn:PySem.W.isFn K (.ref f)=true
 kp:PySem.W.keepIn K (.ref f)=true
section
variable {X:Cx} {pins:List (Addr × Obj)} {σ:St} {H:Hp} {s:Shared} {a C dx:Addr} {fs:List (Str × V)} {f:Str} {v:V} {A:Around} {E:Value→Shared→Prop}
theorem xc{b:Bool}{Q:Value→Shared→Prop}(I:Inv X pins σ H s)(e:H a=some (.ins C dx fs))(c:u6 X.K C)(n:dg X.K C f)(l:fs.lookup f=some v)
 (h:∀u s',Inv X pins σ H s'→RelV v u→Q u s'):wpAny (model X.prog X.w) A (getAttr (.ref a) f b) Q E s:=by
 obtain⟨mA,O,r,_,_,_⟩:=qt I.hok e
 obtain⟨u,hu,ru⟩:=nJ.some_of (v:=v) (o:=mA f) (by rw[←l];exact r f)
 exact get_map I.oM O (c.get f) c.hd n hu (zX ru) (h u _ (I.tok _) ru)
theorem yq{m:Str}{g:Addr}{pl:Sem Bool}{Q:Value × List Value→Shared→Prop}(I:Inv X pins σ H s)(e:H a=some (.ins C dx fs))(c:u6 X.K C)(k:Meth X.K C m g)(l:fs.lookup m=none)
 (h:Q (.ref g,[.ref a]) s):wpAny (model X.prog X.w) A (getMethod (.ref a) m pl) Q E s:=by
 obtain⟨mA,O,r,_,_,_⟩:=qt I.hok e
 have hn:mA m=none:=nJ.none_of (by rw[←l];exact r m)
 exact BI I.oM O (c.get m) k.at_ k.fn hn h
theorem yu{y:V}{u:Value}{Q:Unit→Shared→Prop}(I:Inv X pins σ H s)(e:H a=some (.ins C dx fs))(c:u6 X.K C)(n:dg X.K C f)(hl:fs.length < 1000)(ry:RelV y u)
 (h:∀s',Inv X pins σ (upd H a (.ins C dx (jQ f y fs))) s'→Q () s'):wpAny (model X.prog X.w) A (setAttr (.ref a) f u) Q E s:=by
 obtain⟨mA,O,r,wi,_,ho⟩:=qt I.hok e
 have hz:(fs.map (·.1)).length≤sizeLine:=by rw[List.length_map,sizeLine_eq];omega
 refine Du I.oM O c.sa c.po n.Jb c.hd wi hz fun h' O' sb=>h _ ?_
 have hd:∃o,h'.get? dx=some o:=let⟨o,_,_,e',_⟩:=O'.ns;⟨o,e'⟩
 refine I.write (x:=a) (e:=dx) (by rw[e];exact True.intro) (.inr ho) (fun b q hb z=>(sb.2 b hb).trans z) hd ?_
 refine⟨by rw[bq O.ne];exact ho,?_,O.ne,O'.obj,_,O'.ns,fun g=>?_,fun g hg=>?_⟩
 ·have:=pM f y fs;omega
 ·show nJ ((jQ f y fs).lookup g) (if g=f then some u else mA g)
  rw[pI]
  by_cases q:g=f
  ·rw[if_pos q,if_pos q];exact ry
  ·rw[if_neg q,if_neg q];exact r g
 ·by_cases q:g=f
  ·rw[q];exact(pd f y fs).1
  ·refine(pd f y fs).2 g (wi g fun z=>hg ?_)
   show(if g=f then some u else mA g)=none
   rw[if_neg q];exact z
theorem Inv.made(I:Inv X pins σ H s):Inv X pins σ (upd (upd H s.heap.objs.size (.own (s.heap.objs.size+1))) (s.heap.objs.size+1) (.ins C s.heap.objs.size []))
 {s with heap:=(s.heap.push PySem.W.emptyDict).push (PySem.W.instObj C s.heap.objs.size)}:=by
 have e1:(s.heap.push PySem.W.emptyDict).get? s.heap.objs.size=some PySem.W.emptyDict:=Heap.get?_push_size s.heap rfl
 have e2:((s.heap.push PySem.W.emptyDict).push (PySem.W.instObj C s.heap.objs.size)).get? (s.heap.objs.size+1)=some (PySem.W.instObj C s.heap.objs.size):=by
  have:=Heap.get?_push_size (s.heap.push PySem.W.emptyDict) (o:=PySem.W.instObj C s.heap.objs.size) rfl
  rwa [Heap.size_push] at this
 have e3:(s.heap.push PySem.W.emptyDict).Ns s.heap.objs.size (fun _=>none):=⟨PySem.W.emptyDict,#[],_,e1,rfl,(fun e he=>absurd he (by simp)),fun _=>rfl⟩
 have I1:=I.laid (a:=s.heap.objs.size) (o:= .own (s.heap.objs.size+1)) (h':=s.heap.push PySem.W.emptyDict) (t':=s.toks) (fun b u q=>Heap.get?_push_of_some _ q) (Nat.le_refl _) ⟨_,e1⟩
 refine I1.laid (a:=s.heap.objs.size+1) (o:= .ins C s.heap.objs.size []) (t':=s.toks) (fun b u q=>Heap.get?_push_of_some _ q) (Nat.le_of_eq (Heap.size_push _ _)) ?_
 have ne:s.heap.objs.size≠s.heap.objs.size+1:=Nat.ne_of_lt (Nat.lt_succ_self _)
 refine⟨by rw[bq ne,aT],Nat.zero_le _,ne,e2,fun _=>none,(Heap.Ns1.of_empty e3).at fun o q=>Heap.get?_push_of_some _ q,fun _=>True.intro,fun y hy=>absurd rfl hy⟩
theorem Dg{prog:Program}{w:World}{env:Env}{e:Expr}{f:Str}{pos:Pos}{s:Shared}{Q:Value→Shared→Prop}(hb:attributeBase e f env (eval e env)=eval e env)
 (h:wpAny (model prog w) A (eval e env) (fun o s₁=>wpAny (model prog w) A (getAttr o f true) Q E s₁) E s):wpAny (model prog w) A (eval (.Attribute e f pos) env) Q E s:=
 Attribute_any_ h (by rw[arm_eval_Attribute,hb])
end
noncomputable def Kf(K:PySem.W.Frag)(ta:TE)(f:Str):TE:=fun σ H Q=>ta σ H fun x H1=>∃a C dx fs v,x= .ref a∧H1 a=some (.ins C dx fs)∧u6 K C∧dg K C f∧fs.lookup f=some v∧Q v H1
noncomputable def LM(K:PySem.W.Frag)(ta:TE)(f:Str):TE:=fun σ H Q=>ta σ H fun x H1=>∃a C dx fs v u,x= .ref a∧H1 a=some (.ins C dx fs)∧u6 K C∧LL K C f v u∧fs.lookup f=none∧Q v H1
noncomputable def Kh(K:PySem.W.Frag)(ta tv:TE)(f:Str):TS:=fun D σ H=>tv σ H fun y H1=>ta σ H1 fun x H2=>∃a C dx fs,x= .ref a∧H2 a=some (.ins C dx fs)∧u6 K C∧dg K C f∧fs.length < 1000∧
 D.nx σ (upd H2 a (.ins C dx (jQ f y fs)))
noncomputable def LO(X:Cx)(op:Operator)(rd:V→V→Hp→VK→Prop):Prop:=
 ∀(pins:List (Addr × Obj)) (s:Shared) (σ:St) (H:Hp) (x y:V) (u v:Value) (Q:VK),Inv X pins σ H s→RelV x u→RelV y v→rd x y H Q→wpAny (model X.prog X.w) X.A (inplaceOp op u v) (EP X pins σ Q) X.xe s
noncomputable def Jq(K:PySem.W.Frag)(ta tv:TE)(rd:V→V→Hp→VK→Prop)(f:Str):TS:=fun D σ H=>ta σ H fun x H1=>∃a C dx fs v,x= .ref a∧H1 a=some (.ins C dx fs)∧u6 K C∧dg K C f∧fs.lookup f=some v∧
 tv σ H1 fun y H2=>rd v y H2 fun z H3=>∃dx' fs',H3 a=some (.ins C dx' fs')∧fs'.length < 1000∧D.nx σ (upd H3 a (.ins C dx' (jQ f z fs')))
section
variable {X:Cx} {o e value:Expr} {f:Str} {pos pos' tpos:Pos} {ta tv:TE}
theorem Hz(he:PE X e ta)(hb:attributeBase e f X.env (eval e X.env)=eval e X.env):PE X (.Attribute e f pos) (Kf X.K ta f):=by
 intro pins s σ H Q I h
 refine Dg hb (eg (he pins s σ H _ I h) fun u s1 ⟨x,H1,I1,rx,a,C,dx,fs,v,ex,ea,c,n,l,q⟩=>?_)
 subst ex
 obtain rfl:u=Value.ref a:=rx
 exact xc I1 ea c n l fun u' s2 I2 ru=>⟨v,H1,I2,ru,q⟩
theorem GK(ha:PE X o ta)(hv:PE X value tv)(hs:swapsWith value (some (.Attribute o f pos')) pos.line X.env=pure false):PS X (.Assign [.Attribute o f pos'] value pos) (Kh X.K ta tv f):=by
 intro pins s σ H D I h
 refine plainObj_wpAny_Assign_Attribute (eg (hv pins s σ H _ I h) fun u s1 ⟨y,H1,I1,ry,q⟩=>eg (ha pins s1 σ H1 _ I1 q) fun ov s2 ⟨x,H2,I2,rx,a,C,dx,fs,ex,ea,c,n,l,q2⟩=>?_) hs
 subst ex
 obtain rfl:ov=Value.ref a:=rx
 exact yu I2 ea c n l ry fun s3 I3=>⟨σ,_,I3,q2⟩
noncomputable def LU:V→V→Hp→VK→Prop:=fun x y H Q=>∃i j,x= .int i∧y= .int j∧Q (.int (i+j)) H
noncomputable def L4:V→V→Hp→VK→Prop:=fun x y H Q=>∃i j,x= .int i∧y= .int j∧Q (.int (i - j)) H
end
section
variable {X:Cx} {pins:List (Addr × Obj)} {σ:St} {H:Hp} {s:Shared} {A:Around} {E:Value→Shared→Prop} {Q:Value→Shared→Prop} {c:Value} {b:Bool}
inductive qb (K:PySem.W.Frag) (H:Hp):V→Value→Prop where
 | di:qb K H .di (.type "NoneType")
 | bl (x:Bool):qb K H (.bl x) (.type "bool")
 | int (i:Int):qb K H (.int i) (.type "int")
 | str (x:Str):qb K H (.str x) (.type "str")
 | flt (x:UInt64):qb K H (.flt x) (.type "float")
 | lst {a:Addr} {xs:List V} (e:H a=some (.lst xs)):qb K H (.ref a) (.type "list")
 | iH {a:Addr} {o:Obj} {xs:List V} (e:H a=some (.iH o (.lst xs))):qb K H (.ref a) (.type "list")
 | tup {a:Addr} {xs:List V} (e:H a=some (.tup xs)):qb K H (.ref a) (.type "tuple")
 | dK {a:Addr} {kvs:List (Key × V)} (e:H a=some (.dK kvs)):qb K H (.ref a) (.type "dict")
 | dT {a:Addr} {kvs:List (List Key × V)} (e:H a=some (.dT kvs)):qb K H (.ref a) (.type "dict")
 | ins {a C dx:Addr} {fs:List (Str × V)} (e:H a=some (.ins C dx fs)) (cl:u6 K C) (ha:PySem.W.findIn K (.ref C) "__class__"=some (some (.builtin "object.__class__")))
    (hn:PySem.W.specialIn K (.builtin "object.__class__") "__get__"=some (some (.builtin "getset_descriptor.__get__"))) (htk:PySem.W.takesIn K (.builtin "object.__class__")=some true)
    (hm:PySem.W.mroIn K C (.type "object")=some true):qb K H (.ref a) (.ref C)
theorem mw{x:V}{u t:Value}(I:Inv X pins σ H s)(rx:RelV x u)(ty:qb X.K H x t)(e:PySem.W.kitOne X.K t c=some b)(h:∀tk,Q (.bool b) {s with toks:=tk}) :
 wpAny (model X.prog X.w) A (call (.builtin "isinstance") [u,c]) Q E s:=by
 cases ty with
 | di=>cases(show u=Value.none from rx);exact PySem.W.kia_one PySem.W.kitx_none I.oM True.intro e (fun z=>nomatch z) h
 | bl y=>cases(show u=Value.bool y from rx);exact PySem.W.kia_one PySem.W.kitx_bool I.oM True.intro e (fun z=>nomatch z) h
 | int i=>obtain⟨t,q⟩:=(show ∃t,u=Value.int i t from rx);cases q;exact PySem.W.kia_one PySem.W.kitx_int I.oM True.intro e (fun z=>nomatch z) h
 | str y=>obtain⟨t,q⟩:=(show ∃t,u=Value.str y t from rx);cases q;exact PySem.W.kia_one PySem.W.kitx_str I.oM True.intro e (fun z=>nomatch z) h
 | flt y=>obtain⟨t,q⟩:=(show ∃t,u=Value.float y t from rx);cases q;exact PySem.W.kia_one PySem.W.kitx_float I.oM True.intro e (fun z=>nomatch z) h
 | @lst a xs ea=>
   cases(show u=Value.ref a from rx)
   obtain⟨_,_,n,_,h1⟩:=(show dS X.prog X.w H s.heap a (.lst xs) from I.hok a _ ea)
   exact PySem.W.kia_one PySem.W.kitx_list I.oM ⟨_,h1,rfl⟩ e (fun z=>nomatch z) h
 | @iH a ob xs ea=>
   cases(show u=Value.ref a from rx)
   obtain⟨_,_,_,n,_,h1⟩:=(show dS X.prog X.w H s.heap a (.iH ob (.lst xs)) from I.hok a _ ea)
   exact PySem.W.kia_one PySem.W.kitx_list I.oM ⟨_,h1,rfl⟩ e (fun z=>nomatch z) h
 | @tup a xs ea=>
   cases(show u=Value.ref a from rx)
   obtain⟨_,_,_,p⟩:=(show dS X.prog X.w H s.heap a (.tup xs) from I.hok a _ ea)
   obtain⟨o,h1,h2,_⟩:=p
   exact PySem.W.kia_one PySem.W.kitx_tuple I.oM ⟨o,h1,h2⟩ e (fun z=>nomatch z) h
 | @dK a kvs ea=>
   cases(show u=Value.ref a from rx)
   obtain⟨_,_,vs,_,p⟩:=(show dS X.prog X.w H s.heap a (.dK kvs) from I.hok a _ ea)
   obtain⟨o,es,ep,h1,h2,_⟩:=p
   exact PySem.W.kia_one PySem.W.kitx_dict I.oM ⟨o,h1,h2.1⟩ e (fun z=>nomatch z) h
 | @dT a kvs ea=>
   cases(show u=Value.ref a from rx)
   obtain⟨_,_,xs,_,o,es,ep,h1,h2,_⟩:=(show dS X.prog X.w H s.heap a (.dT kvs) from I.hok a _ ea)
   exact PySem.W.kia_one PySem.W.kitx_dict I.oM ⟨o,h1,h2.1⟩ e (fun z=>nomatch z) h
 | @ins a C dx fs ea cl ha hn htk hm=>
   cases(show u=Value.ref a from rx)
   obtain⟨mA,O,_⟩:=qt I.hok ea
   obtain⟨od,J,_⟩:=O.look
   exact PySem.W.kia_one (PySem.W.kitx_own (cl.get _) cl.hd ha hn htk hm) I.oM J e (fun z=>nomatch z) h
end
end L2
namespace L2
open PySem PySem.Spec PyProof.Rows
structure eS (k:Nat) (A:Around):Prop where
 hd:A.handled=none
 dp:A.depth+3*k+5 < recursionLimit
 un:A.units+16*k+200 < cLine
theorem eS.mono{j k:Nat}{A:Around}(r:eS k A)(h:j≤k):eS j A:=⟨r.hd,by have:=r.dp;omega,by have:=r.un;omega⟩
theorem eS.deeper{k:Nat}{A:Around}(r:eS (k+1) A)(env:Env):eS k (A.deeper env):=
 ⟨r.hd,by have:=r.dp;show A.depth+1+3*k+5 < _;omega,by have:=r.un;show A.units+3+16*k+200 < _;omega⟩
theorem yr{A:Around}{C:Addr}{us:List Value}{kw:List (Str × Value)}:(A.under (.builtin "type.__call__" ⟨.ref C ::us,kw⟩)).depth=A.depth+1:=by
 first | rfl | simp [Around.under,Code.weight,Code.isCreation,Code.isGuard,Code.isCaller,Code.frames,Code.isFrame,guardIds]
theorem ym{A:Around}{C:Addr}{us:List Value}{kw:List (Str × Value)}:(A.under (.builtin "type.__call__" ⟨.ref C ::us,kw⟩)).units=A.units+1:=by
 first | rfl | simp [Around.under,Code.cUnits,Code.frames,Code.isFrame]
theorem eS.make{k:Nat}{A:Around}(r:eS (k+1) A)(C:Addr)(us:List Value)(kw:List (Str × Value)):eS k (A.under (.builtin "type.__call__" ⟨.ref C ::us,kw⟩)):=
 ⟨r.hd,by have:=r.dp;rw [yr];omega,by have:=r.un;rw [ym];omega⟩
theorem eS.depth{k:Nat}{A:Around}(r:eS k A):A.depth < recursionLimit:=by have:=r.dp;omega
theorem eS.units{k:Nat}{A:Around}(r:eS k A):A.units+64 < cLine:=by have:=r.un;omega
noncomputable def Kl:TA:=fun _ H Q=>Q [] H
noncomputable def IT(ta:TE)(tr:TA):TA:=fun σ H Q=>ta σ H fun x H1=>tr σ H1 fun xs H2=>Q (x ::xs) H2
section
variable {X:Cx} {e:Expr} {es:List Expr} {te:TE} {t:TA} {pos:Pos}
theorem gu:PA X [] Kl:=fun _ _ _ _ H Q I h=>Calls.spliced_nil ⟨[],H,I, .nil,h⟩
theorem dJ(ha:PE X e te)(hr:PA X es t)(hs:starEach (e ::es) X.env=(false,eval e X.env) ::starEach es X.env:=by rfl):PA X (e ::es) (IT te t):=by
 intro pos pins s σ H Q I h
 rw[hs]
 show wpAny _ _ (spliced ((false,eval e X.env) ::backTo pos (starEach es X.env))) _ _ s
 refine Calls.spliced_cons (eg (ha pins s σ H _ I h) fun u s1 ⟨x,H1,I1,r1,q1⟩=>?_)
 exact eg (hr pos pins s1 σ H1 _ I1 q1) fun us s2 ⟨xs,H2,I2,r2,q2⟩=>⟨x ::xs,H2,I2, .cons r1 r2,q2⟩
noncomputable def Jz(t:TA):TE:=fun σ H Q=>t σ H fun xs H1=>xs.length≤sizeLine∧∀p,H1 p=none→Q (.ref p) (upd H1 p (.tup xs))
noncomputable def Ki(t:TA):TE:=fun σ H Q=>t σ H fun xs H1=>xs.length≤sizeLine∧∀p,H1 p=none→Q (.ref p) (upd H1 p (.lst xs))
theorem Bg{x1}(h:PA X es t):PE X (.Tuple es x1 pos) (Jz t):=by
 intro pins s σ H Q I hq
 refine wpAny_Tuple_spliced (eg (h pos pins s σ H _ I hq) fun us s1 ⟨xs,H1,I1,r,z,q⟩=>⟨by rw[←r.length];exact z,?_⟩)
 have hf:H1 s1.heap.objs.size=none:=I1.hok.fresh (Nat.le_refl _)
 refine⟨.ref s1.heap.objs.size,upd H1 s1.heap.objs.size (.tup xs),I1.laid (t':=s1.toks) (fun b u e=>Heap.get?_push_of_some _ e) (Nat.le_refl _) ?_,rfl,q _ hf⟩
 exact⟨z,us,r,⟨_,Heap.get?_push_size _ rfl,rfl,_,rfl⟩⟩
theorem Bl(h:PA X es t):PE X (.List es pos) (Ki t):=by
 intro pins s σ H Q I hq
 refine wpAny_List_spliced (eg (h pos pins s σ H _ I hq) fun us s1 ⟨xs,H1,I1,r,z,q⟩=>⟨by rw[←r.length];exact z,?_⟩)
 have hf:H1 s1.heap.objs.size=none:=I1.hok.fresh (Nat.le_refl _)
 refine⟨.ref s1.heap.objs.size,upd H1 s1.heap.objs.size (.lst xs),I1.laid (t':=s1.toks) (fun b u e=>Heap.get?_push_of_some _ e) (Nat.le_refl _) ?_,rfl,q _ hf⟩
 exact⟨z,us,0,r,Heap.get?_push_size _ rfl⟩
end
noncomputable abbrev Sp:=List V→Hp→VK→XK→Prop
noncomputable abbrev B5:=List Env→Hp→Shared→XK→Value→Shared→Prop
structure xO (P:Program) (w:World) (K:PySem.W.Frag) (mg:Str→Option Value) (base:Heap) (A:Around) (outer:List Env) (s:Shared) (H:Hp):Prop where
 frames:A.frames=some outer
 mod:Mod K mg base
 bs:∀b o,base.get? b=some o→s.heap.get? b=some o∧H b=none
 bsz:base.objs.size≤s.heap.objs.size
 p7:s.heap.FunFrames base outer
 frf:∀b∈Au outer,H b=none
 hok:mJ P w H s.heap
 bare:AllBare s.gens
noncomputable def CE(outer:List Env)(P:Program)(w:World)(H:Hp)(s:Shared)(Q:VK)(u:Value)(s':Shared):Prop:=
 ∃v H',s'.os=s.os∧AllBare s'.gens∧Un (Au outer) [] H H' s.heap s'.heap∧mJ P w H' s'.heap∧RelV v u∧Q v H'
noncomputable def CR(CX:B5)(outer:List Env)(P:Program)(w:World)(H:Hp)(s:Shared)(Q:VK)(E:XK)(r:Result)(s':Shared):Prop:=
 match r with
 | .ok (.ret u)=>CE outer P w H s Q u s'
 | .ok _=>False
 | .error e=>CX outer H s E e s'
structure iY (P:Program) (w:World) (K:PySem.W.Frag) (mg:Str→Option Value) (base:Heap) (CX:B5) (k:Nat) (f:Addr) (fd:FuncData) (ps:List Str) (sp:Sp):Prop where
 len:∀vs H Q E,sp vs H Q E→vs.length=ps.length
 run:∀(A:Around) (outer:List Env) (s:Shared) (H:Hp) (args:Args) (us:List Value) (vs:List V) (Q:VK) (E:XK),eS k A→xO P w K mg base A outer s H→BindsTo s fd args (ps.zip us)→Vals vs us→sp vs H Q E→
  codeAny (model P w) A (.call (.ref f) args) (CR CX outer P w H s Q E) s
theorem iY.imp{P:Program}{w:World}{K:PySem.W.Frag}{mg:Str→Option Value}{base:Heap}{CX:B5}{k:Nat}{f:Addr}{fd:FuncData}{ps:List Str}{sp sp':Sp}(F:iY P w K mg base CX k f fd ps sp)
 (h:∀vs H Q E,sp' vs H Q E→sp vs H Q E):iY P w K mg base CX k f fd ps sp':=
 ⟨fun vs H Q E q=>F.len vs H Q E (h _ _ _ _ q),fun A outer s H args us vs Q E hr he hb hv hs=>F.run A outer s H args us vs Q E hr he hb hv (h _ _ _ _ hs)⟩
theorem xO.make{P:Program}{w:World}{K:PySem.W.Frag}{mg:Str→Option Value}{base:Heap}{A:Around}{outer:List Env}{s:Shared}{H:Hp}(e:xO P w K mg base A outer s H)(C:Addr)(us:List Value)(kw:List (Str × Value)) :
 xO P w K mg base (A.under (.builtin "type.__call__" ⟨.ref C ::us,kw⟩)) outer s H:=⟨by first | exact e.frames | (simpa [Around.under,Code.envs,Code.isFrame,pushEnvs] using e.frames),e.mod,e.bs,e.bsz,e.p7,e.frf,e.hok,e.bare⟩
section
variable {X:Cx} {pins:List (Addr × Obj)} {σ:St} {H:Hp} {s s':Shared}
theorem Inv.Iw(I:Inv X pins σ H s):xO X.prog X.w X.K X.mg X.base X.A X.stack s H:=
 ⟨I.ok.frames,I.ok.mod,I.bs,Nat.le_trans I.ok.bsz I.sz,I.stack,I.y_,I.hok,I.bare⟩
theorem Inv.after{Q:VK}{u:Value}(I:Inv X pins σ H s)(h:CE X.stack X.prog X.w H s Q u s'):EP X pins σ Q u s':=by
 obtain⟨v,H',os,bare,un,hok,r,q⟩:=h
 obtain⟨hh,g,d,t,os'⟩:=s'
 obtain rfl:os'=s.os:=os
 exact⟨v,H',I.call (h':=hh) (g':=g) (d':=d) (t':=t) (ch:=[]) un hok bare (fun b z=>absurd z (by simp)),r,q⟩
end
noncomputable def Jc(sp:Sp)(dvs:List V)(E:XK)(t:TA):TE:=fun σ H Q=>t σ H fun vs H1=>sp (vs++dvs) H1 Q E
noncomputable def HN(C:Addr)(m:Str)(sp:Sp)(dvs:List V)(E:XK)(ta:TE)(t:TA):TE:=fun σ H Q=>ta σ H fun x H1=>∃a dx fs,x= .ref a∧H1 a=some (.ins C dx fs)∧fs.lookup m=none∧
 t σ H1 fun vs H2=>sp (x ::(vs++dvs)) H2 Q E
noncomputable def IC(C:Addr)(sp:Sp)(dvs:List V)(E:XK)(t:TA):TE:=fun σ H Q=>t σ H fun vs H1=>∀x dx,H1 x=none→H1 dx=none→dx≠x→
 sp (.ref x ::(vs++dvs)) (upd (upd H1 dx (.own x)) x (.ins C dx [])) (fun v H2=>v= .di∧Q (.ref x) H2) E
noncomputable def Binds(K:PySem.W.Frag)(fd:FuncData)(ps:List Str)(ds:List Value):Prop:=
 ∀(s:Shared) (us:List Value),K.In s.heap→(us++ds).length=ps.length→BindsTo s fd ⟨us,[]⟩ (ps.zip (us++ds))
theorem Binds.all{K:PySem.W.Frag}{fd:FuncData}{ps:List Str}(h:∀us:List Value,us.length=ps.length→bindArgs fd ⟨us,[]⟩=pure (ps.zip us)):Binds K fd ps []:=fun s us _ hl=>by
 rw[List.append_nil] at hl ⊢
 exact .of_eq (h us hl)
noncomputable def Passes(CX:B5)(X:Cx)(E:XK):Prop:=∀(pins:List (Addr × Obj)) (σ:St) (H:Hp) (s:Shared) (e:Value) (s':Shared),Inv X pins σ H s→CX X.stack H s E e s'→X.xe e s'
section
variable {X:Cx} {CX:B5} {k:Nat} {f C:Addr} {fd:FuncData} {ps:List Str} {sp:Sp} {dvs:List V} {ds:List Value} {E:XK} {x m:Str} {p pos apos:Pos} {e o:Expr} {es:List Expr} {ta:TE} {t:TA}
theorem BZ{pins:List (Addr × Obj)}{σ:St}{H:Hp}{s:Shared}{Q:VK}{us:List Value}{vs:List V}(F:iY X.prog X.w X.K X.mg X.base CX k f fd ps sp)(hr:eS k X.A)(hb:Binds X.K fd ps ds)(hd:Vals dvs ds)(hx:Passes CX X E)
 (I:Inv X pins σ H s) (r:Vals vs us) (h:sp (vs++dvs) H Q E):wpAny (model X.prog X.w) X.A (call (.ref f) us) (EP X pins σ Q) X.xe s:=by
 have r2:Vals (vs++dvs) (us++ds):=r.append hd
 have hl:(us++ds).length=ps.length:=by rw[←r2.length];exact F.len _ _ _ _ h
 refine wpAny_call (codeAny_mono (F.run X.A X.stack s H ⟨us,[]⟩ (us++ds) (vs++dvs) Q E hr I.Iw (hb s us I.oM hl) r2 h) fun r s' hq=>?_)
 cases r with
 | error e=>exact hx pins σ H s e s' I hq
 | ok fl=>
   cases fl with
   | ret u=>exact I.after hq
   | next=>exact False.elim hq
   | brk=>exact False.elim hq
   | cont=>exact False.elim hq
theorem uU(F:iY X.prog X.w X.K X.mg X.base CX k f fd ps sp)(hr:eS k X.A)(hg:Gl X x)(hm:X.mg x=some (.ref f))(hk:PySem.W.keepIn X.K (.ref f)=true)(hb:Binds X.K fd ps ds)(hd:Vals dvs ds)(hx:Passes CX X E)
 (ha:PA X (e ::es) t) (hdb:(x==("__debug__":Str))=false:=by decide) (he:starEach (e ::es) X.env=(false,eval e X.env) ::starEach es X.env:=by rfl) (hpl:(backTo pos (starEach es X.env)).any (·.1)=false:=by rfl) :
 PE X (.Call (.Name x p) (e ::es) [] pos) (Jc sp dvs E t):=by
 intro pins s σ H Q I h
 refine wpAny_Call_Name_kw (yH I hg hm ?_ hdb)
 refine PySem.W.callWith_K (h₀:=X.base) I.ok.mod.kin hk (eg (ha pos pins s σ H _ I h) fun us s1 ⟨vs,H1,I1,r,q⟩=>⟨I1.oM,?_⟩) he hpl
 exact BZ F hr hb hd hx I1 r q
theorem EC{pl:Sem Bool}(he:PE X o ta)(c:u6 X.K C)(hm:Meth X.K C m f)(F:iY X.prog X.w X.K X.mg X.base CX k f fd ps sp)(hr:eS k X.A)(hb:Binds X.K fd ps ds)(hd:Vals dvs ds)(hx:Passes CX X E)(ha:PA X (e ::es) t)
 (hst:starEach (e ::es) X.env=(false,eval e X.env) ::starEach es X.env:=by rfl) (hpl:(backTo pos (starEach es X.env)).any (·.1)=false:=by rfl)
 (ht:eval (.Call (.Attribute o m apos) (e ::es) [] pos) X.env=(do
   let ov ←eval o X.env
   standAt apos.atName
   let(f,first) ←holding [ov] (getMethod ov m pl)
   callWith pos f first (backTo pos (starEach (e ::es) X.env)) (backToKw pos (keywordEach [] X.env))):=by rfl) :
 PE X (.Call (.Attribute o m apos) (e ::es) [] pos) (HN C m sp dvs E ta t):=by
 intro pins s σ H Q I h
 refine PySem.W.methodCall_KW (pl:=pl) (eg (he pins s σ H _ I h) fun u s1 ⟨x,H1,I1,rx,a,dx,fs,ex,ea,l,q⟩=>?_) ht
 subst ex
 obtain rfl:u=Value.ref a:=rx
 refine yq I1 ea c hm l ?_
 refine PySem.W.callWith_K (first:=[.ref a]) (h₀:=X.base) I.ok.mod.kin hm.kp (eg (ha pos pins s1 σ H1 _ I1 q) fun us s2 ⟨vs,H2,I2,r,q2⟩=>⟨I2.oM,?_⟩) hst hpl
 exact BZ (us:= .ref a ::us) (vs:= .ref a ::vs) F hr hb hd hx I2 (.cons rfl r) q2
structure Mk (K:PySem.W.Frag) (C f:Addr):Prop where
 makes:PySem.W.makesIn K C=true
 init:PySem.W.findIn K (.ref C) "__init__"=some (some (.ref f))
 fn:PySem.W.isFn K (.ref f)=true
 kp:PySem.W.keepIn K (.ref C)=true
theorem BU{pins:List (Addr × Obj)}{σ:St}{H:Hp}{s:Shared}{Q:VK}{us:List Value}{vs:List V}(M:Mk X.K C f)(F:iY X.prog X.w X.K X.mg X.base CX k f fd ps sp)(hr:eS (k+1) X.A)(hb:Binds X.K fd ps ds)(hd:Vals dvs ds)
 (hx:Passes CX X E) (I:Inv X pins σ H s) (r:Vals vs us)
 (h:∀x dx,H x=none→H dx=none→dx≠x→sp (.ref x ::(vs++dvs)) (upd (upd H dx (.own x)) x (.ins C dx [])) (fun v H2=>v= .di∧Q (.ref x) H2) E) :
 wpAny (model X.prog X.w) X.A (call (.ref C) us) (EP X pins σ Q) X.xe s:=by
 have hq:=h (s.heap.objs.size+1) s.heap.objs.size (I.hok.fresh (Nat.le_succ _)) (I.hok.fresh (Nat.le_refl _)) (Nat.ne_of_lt (Nat.lt_succ_self _))
 have I2:=Inv.made (C:=C) I
 have r2:Vals (V.ref (s.heap.objs.size+1) ::(vs++dvs)) (Value.ref (s.heap.objs.size+1) ::(us++ds)):= .cons rfl (r.append hd)
 have hl:(Value.ref (s.heap.objs.size+1) ::us++ds).length=ps.length:=by
  have e:=r2.length
  rw[F.len _ _ _ _ hq] at e
  exact e.symm
 refine wpAny_call (Bv (f:=f) I.oM M.makes M.init (beq_iff_eq.mp M.fn) (codeAny_mono (F.run _ X.stack _ _ ⟨Value.ref (s.heap.objs.size+1) ::us,[]⟩ (Value.ref (s.heap.objs.size+1) ::(us++ds)) _ _ E (hr.make C us [])
  (I2.Iw.make C us []) (hb _ (Value.ref (s.heap.objs.size+1) ::us) I2.oM hl) r2 hq) fun r s' hq'=>?_))
 cases r with
 | error e=>exact hx pins σ _ _ e s' I2 hq'
 | ok fl=>
   cases fl with
   | ret u=>
     obtain⟨v,H',I3,rv,ev,q3⟩:=I2.after hq'
     subst ev
     exact⟨rv,⟨V.ref (s.heap.objs.size+1),H',I3,rfl,q3⟩⟩
   | next=>exact False.elim hq'
   | brk=>exact False.elim hq'
   | cont=>exact False.elim hq'
theorem DY(M:Mk X.K C f)(F:iY X.prog X.w X.K X.mg X.base CX k f fd ps sp)(hr:eS (k+1) X.A)(hg:Gl X x)(hm:X.mg x=some (.ref C))(hb:Binds X.K fd ps ds)(hd:Vals dvs ds)(hx:Passes CX X E)
 (ha:PA X (e ::es) t) (hdb:(x==("__debug__":Str))=false:=by decide) (he:starEach (e ::es) X.env=(false,eval e X.env) ::starEach es X.env:=by rfl) (hpl:(backTo pos (starEach es X.env)).any (·.1)=false:=by rfl) :
 PE X (.Call (.Name x p) (e ::es) [] pos) (IC C sp dvs E t):=by
 intro pins s σ H Q I h
 refine wpAny_Call_Name_kw (yH I hg hm ?_ hdb)
 refine PySem.W.callWith_K (h₀:=X.base) I.ok.mod.kin M.kp (eg (ha pos pins s σ H _ I h) fun us s1 ⟨vs,H1,I1,r,q⟩=>⟨I1.oM,?_⟩) he hpl
 exact BU M F hr hb hd hx I1 r q
end
noncomputable def PK(X:Cx)(kws:List Keyword)(t:TA):Prop:=
 ∀(pos:Pos) (pins:List (Addr × Obj)) (s:Shared) (σ:St) (H:Hp) (Q:List V→Hp→Prop),Inv X pins σ H s→t σ H Q→wpAny (model X.prog X.w) X.A (evalAll ((backToKw pos (keywordEach kws X.env)).map (·.2))) (AP X pins σ Q) X.xe s
section
variable {X:Cx} {CX:B5} {k:Nat} {f C:Addr} {fd:FuncData} {ps ks:List Str} {sp:Sp} {E:XK} {x m:Str} {p pos apos kpos:Pos} {e o:Expr} {es:List Expr} {kws:List Keyword} {te ta:TE} {t tk:TA} {nm:Option Str}
structure JF (K:PySem.W.Frag) (fd:FuncData) (ps ks:List Str) (g:List Value→List Value→List Value) (gV:List V→List V→List V):Prop where
 to:∀(s:Shared) (us ws:List Value),K.In s.heap→(g us ws).length=ps.length→BindsTo s fd ⟨us,ks.zip ws⟩ (ps.zip (g us ws))
 rel:∀{vs:List V} {us:List Value} {zs:List V} {ws:List Value},Vals vs us→Vals zs ws→Vals (gV vs zs) (g us ws)
noncomputable def JB(sp:Sp)(gV:List V→List V→List V)(E:XK)(t tk:TA):TE:=fun σ H Q=>t σ H fun vs H1=>tk σ H1 fun zs H2=>sp (gV vs zs) H2 Q E
variable {g:List Value→List Value→List Value} {gV:List V→List V→List V}
end
structure ba (N P:List Str) (sc:Scope):Prop where
 kind:sc.kind= .function
 co:sc.isCoroutine=false
 gen:sc.isGenerator=false
 nd:N.Nodup
 pre:N.take P.length=P
 par:∀x∈P,sc.names.lookup x=some .local∨sc.names.lookup x=some .cell
 nofree:∀y∈sc.names,y.2≠ .free
theorem tj{kindOf:Str→Option NameKind}{x:Str}:∀{binds:List (Str × Value)} {m:Str→Option Value},(∀v,(x,v) ∉ binds)→bindL kindOf binds m x=m x
 | [],_,_=>rfl
 | (n,v) ::r,m,h=>by
   unfold bindL
   rw[tj fun w hw=>h w (List.mem_cons_of_mem _ hw)]
   split
   ·have:x≠n:=by rintro rfl;exact h v List.mem_cons_self
    simp [this]
   ·rfl
theorem tS{kindOf:Str→Option NameKind}{x:Str}:∀{binds:List (Str × Value)} {m:Str→Option Value},(∀v,(x,v) ∉ binds)→bindC kindOf binds m x=m x
 | [],_,_=>rfl
 | (n,v) ::r,m,h=>by
   unfold bindC
   rw[tS fun w hw=>h w (List.mem_cons_of_mem _ hw)]
   split
   ·rfl
   ·have:x≠n:=by rintro rfl;exact h v List.mem_cons_self
    simp [this]
theorem tH{kindOf:Str→Option NameKind}{x:Str}{v:Value}:∀{P:List Str} {vs:List Value} {i:Nat} {m:Str→Option Value},P.Nodup→P[i]? =some x→vs[i]? =some v→kindOf x=some .local→
 bindL kindOf (P.zip vs) m x=some v
 | [],_,_,_,_,h,_,_=>by simp at h
 | _ ::_,[],_,_,_,_,h,_=>by simp at h
 | p ::P,w ::vs,0,m,nd,h1,h2,hk=>by
   simp at h1 h2;subst h1;subst h2
   show bindL kindOf ((p,w) ::P.zip vs) m p=_
   unfold bindL
   rw[tj fun v hv=>(List.nodup_cons.mp nd).1 (List.of_mem_zip hv).1,if_pos hk]
   simp
 | p ::P,w ::vs,i+1,m,nd,h1,h2,hk=>by
   show bindL kindOf ((p,w) ::P.zip vs) m x=_
   unfold bindL
   exact tH (i:=i) (List.nodup_cons.mp nd).2 (by simpa using h1) (by simpa using h2) hk
theorem tV{kindOf:Str→Option NameKind}{x:Str}{v:Value}:∀{P:List Str} {vs:List Value} {i:Nat} {m:Str→Option Value},P.Nodup→P[i]? =some x→vs[i]? =some v→kindOf x≠some .local→
 bindC kindOf (P.zip vs) m x=some v
 | [],_,_,_,_,h,_,_=>by simp at h
 | _ ::_,[],_,_,_,_,h,_=>by simp at h
 | p ::P,w ::vs,0,m,nd,h1,h2,hk=>by
   simp at h1 h2;subst h1;subst h2
   show bindC kindOf ((p,w) ::P.zip vs) m p=_
   unfold bindC
   rw[tS fun v hv=>(List.nodup_cons.mp nd).1 (List.of_mem_zip hv).1,if_neg hk]
   simp
 | p ::P,w ::vs,i+1,m,nd,h1,h2,hk=>by
   show bindC kindOf ((p,w) ::P.zip vs) m x=_
   unfold bindC
   exact tV (i:=i) (List.nodup_cons.mp nd).2 (by simpa using h1) (by simpa using h2) hk
noncomputable def start(N:List Str)(vs:List V):St:=vs.map some++List.replicate (N.length - vs.length) none
noncomputable def qz(CX:B5)(P:Program)(w:World)(K:PySem.W.Frag)(mg:Str→Option Value)(base:Heap)(N:List Str)(qual:Str)(scope:Scope)(f:Addr)(cd:Value)(A:Around)(outer:List Env)(s:Shared)(H:Hp)(E:XK):Cx where
 prog:=P
 w:=w
 K:=K
 mg:=mg
 base:=base
 A:=A.deeper (envOfC qual scope s.heap.objs.size f cd)
 N:=N
 s₀:=s
 H₀:=H
 env:=envOfC qual scope s.heap.objs.size f cd
 outer:=outer
 stack:=envOfC qual scope s.heap.objs.size f cd ::outer
 ex:=[]
 calm:=true
 fn:=fun _=>true
 pn:=[]
 xe:=fun e s'=>wpAny (model P w) (A.deeper (envOfC qual scope s.heap.objs.size f cd)) (leaving (envOfC qual scope s.heap.objs.size f cd) e) (fun _ s''=>CX outer H s E e s'') (fun e' s''=>CX outer H s E e' s'') s'
theorem wF{sc:Scope}{n:Nat}{x:Str}(h:sc.names.lookup x=some .cell):∃c,(cellsFrom n sc.names []).lookup x=some c:=by
 have q:=PySem.W.cellsFrom_some sc.names n [] (.inl h)
 exact Option.isSome_iff_exists.mp q
theorem zZ{CX:B5}{P:Program}{w:World}{K:PySem.W.Frag}{mg:Str→Option Value}{base:Heap}{N ps:List Str}{qual:Str}{scope:Scope}{f:Addr}{cd:Value}{A:Around}{outer:List Env}{s s1:Shared}{H:Hp}{E:XK}{us:List Value}{vs:List V}
 (S:ba N ps scope) (hd:A.handled=none) (e0:xO P w K mg base A outer s H) (hl:vs.length=ps.length) (r:Vals vs us)
 (x:InCallC s s.heap.objs.size (bindL (envOfC qual scope s.heap.objs.size f cd).kindOf (ps.zip us) fun _=>none) (cellsFrom (s.heap.objs.size+1) scope.names []) (bindC (envOfC qual scope s.heap.objs.size f cd).kindOf (ps.zip us) fun _=>none) s1) :
 Inv (qz CX P w K mg base N qual scope f cd A outer s H E) [] (start N vs) H s1:=by
 have hpl:ps.length≤N.length:=by have:=congrArg List.length S.pre;rw [List.length_take] at this;omega
 obtain⟨h1,tk,rfl,hk⟩:=x.done
 have noA:∀b:Addr,b ∉ (qz CX P w K mg base N qual scope f cd A outer s H E).ex:=fun b z=>absurd (show b∈([]:List Addr) from z) (by simp)
 refine⟨⟨e0.mod,S.kind,rfl,rfl,Nat.le_refl _,fun y z c h1 h2=>?_,fun y hy=>?_,fun y c _ h=>?_,fun _=>hd,Around.frames_deeper e0.frames, .inr ⟨rfl,rfl⟩,fun b z=>absurd z (noA b),e0.bs,e0.bsz,fun b _ _=>noA b,fun b z=>absurd z (noA b),e0.p7,e0.frf⟩,
  rfl,e0.bare,Un.kept hk,⟨_,x.toInCall.ns,fun i y v h1 h2 h3=>?_⟩,fun y c h=>⟨_,x.cell y c h⟩,e0.hok.fresh (Nat.le_refl _),fun y c h=>?_,fun p hp=>absurd (show p∈([]:List (Addr × Obj)) from hp) (by simp),e0.hok.kept hk,?_⟩
 ·exact name_of_addr x.apart (PySem.mem_of_lookup h1) (PySem.mem_of_lookup h2)
 ·have hy:scope.names.lookup y=some .cell∨scope.names.lookup y=some .free:=hy
  rcases hy with hy | hy
  ·exact wF hy
  ·exact absurd rfl (S.nofree _ (PySem.mem_of_lookup hy))
 ·exact Nat.le_of_lt (x.above y c (PySem.mem_of_lookup h))
 ·have hi:i < vs.length:=by
   unfold start at h2
   by_cases hi:i < vs.length
   ·exact hi
   ·rw[List.getElem?_append_right (by simpa using hi)] at h2
    rw[List.getElem?_replicate] at h2
    split at h2 <;> cases h2
  have ha:vs[i]? =some v:=by
   unfold start at h2
   rw[List.getElem?_append_left (by simpa using hi),List.getElem?_map] at h2
   cases e:vs[i]? with
   | none=>rw [e] at h2;cases h2
   | some a=>rw [e] at h2;cases h2;rfl
  obtain⟨u,hu,rv⟩:=r.get ha
  have hp:ps[i]? =some y:=by
   rw[←S.pre,List.getElem?_take_of_lt (by omega)];exact h1
  have ndP:ps.Nodup:=by rw[←S.pre];exact S.nd.sublist (List.take_sublist _ _)
  refine⟨u,rv,?_⟩
  rcases S.par y (List.mem_of_getElem? hp) with k | k
  ·exact .inl ⟨k,tH ndP hp hu k⟩
  ·obtain⟨c,e⟩:=wF (n:=s.heap.objs.size+1) k
   refine .inr ⟨.inl k,c,e,?_⟩
   have q:=x.cell y c e
   rw[tV ndP hp hu (by show scope.names.lookup y≠_;rw [k];decide)] at q
   exact q
 ·exact e0.hok.fresh (Nat.le_of_lt (x.above y c (PySem.mem_of_lookup h)))
 ·unfold start
  show _=N.length
  rw[List.length_append,List.length_map,List.length_replicate]
  omega
theorem I_{CX:B5}{P:Program}{w:World}{K:PySem.W.Frag}{mg:Str→Option Value}{base:Heap}{k:Nat}{f:Addr}{name qual:Str}{params:Arguments}{body:List Stmt}{scope:Scope}{dV kV doc pm cdv ct oc:Value}{an od:Option Addr}
 {osl:Array (Option Value)} {N ps:List Str} {sp:Sp} (lk:K.lookup f=some ⟨oc,od, .func (PySem.W.fnOf name qual params body scope dV kV doc pm an cdv ct),osl⟩) (hcd:PySem.W.codeIn K cdv qual=true) (S:ba N ps scope)
 (len:∀vs H Q E,sp vs H Q E→vs.length=ps.length)
 (hbody:∀(A:Around) (outer:List Env) (s:Shared) (H:Hp) (vs:List V) (Q:VK) (E:XK),eS k (A.deeper (envOfC qual scope s.heap.objs.size f cdv))→sp vs H Q E→
   ∃t,u7 (qz CX P w K mg base N qual scope f cdv A outer s H E) body t∧t {nx:=fun _ H'=>Q .di H',rt:=Q} (start N vs) H) :
 iY P w K mg base CX (k+1) f (PySem.W.fnOf name qual params body scope dV kV doc pm an cdv ct) ps sp:=by
 refine⟨len,fun A outer s H args us vs Q E hr e0 hb r hsp=>?_⟩
 have hl:=len _ _ _ _ hsp
 have KX:K.In s.heap:=e0.mod.kin.keeps fun b o e=>(e0.bs b o e).1
 have lim:s.heap.NoLimit:=e0.mod.nolimit.keeps fun b o e=>(e0.bs b o e).1
 have hkind:∀y∈ps.zip us,scope.names.lookup y.1=some .local∨(scope.names.lookup y.1=some .cell∧((cellsFrom (s.heap.objs.size+1) scope.names []).lookup y.1).isSome=true):=fun⟨n,v⟩ hy=>by
  rcases S.par n (List.of_mem_zip hy).1 with q | q
  ·exact .inl q
  ·exact .inr ⟨q,PySem.W.cellsFrom_some _ _ _ (.inl q)⟩
 refine codeAny_call_function hr.depth (KX _ _ lk) rfl S.co S.gen rfl (PySem.W.codeRec_of KX hcd) (hb _ _ _ _ ?_)
 refine wpAny_newFunctionEnv_cells S.kind hkind fun env he s1 x=>?_
 subst he
 refine⟨lim.keeps x.toInCall.keep,codeAny_func ?_⟩
 obtain⟨t,ht,hq⟩:=hbody A outer s H vs Q E (hr.deeper _) hsp
 have I:Inv (qz CX P w K mg base N qual scope f cdv A outer s H E) [] (start N vs) H s1:=zZ S hr.hd e0 hl r x
 refine wpAny_mono (ht [] s1 (start N vs) H _ I hq) (fun fl s' hs=>?_) fun e s' hs=>hs
 have fin:∀{σ':St} {H':Hp} {v:V} {u:Value},Inv (qz CX P w K mg base N qual scope f cdv A outer s H E) [] σ' H' s'→RelV v u→Q v H'→CE outer P w H s Q u s':=
  fun {σ' H' v u} J rv q=>⟨v,H',J.os,J.bare,J.base,J.hok,rv,q⟩
 cases fl with
 | ret u=>
   obtain⟨v,σ',H',J,rv,q⟩:=hs
   exact fin J rv q
 | next=>
   obtain⟨σ',H',J,q⟩:=hs
   exact fin (v:=V.di) (u:=Value.none) J rfl q
 | brk=>
   obtain⟨_,_,_,q⟩:=hs
   exact False.elim q
 | cont=>
   obtain⟨_,_,_,q⟩:=hs
   exact False.elim q
end L2
namespace L2
open PySem PySem.Spec PyProof.Rows
section
variable {X:Cx} {x:Str} {p pos:Pos} {e:Expr} {es:List Expr} {t:TA} {id T:String} {r:List V→Hp→VK→Prop}
noncomputable def KD(r:List V→Hp→VK→Prop)(t:TA):TE:=fun σ H Q=>t σ H fun vs H1=>r vs H1 Q
theorem wx(hc:nX X (.builtin id) r)(hg:Gl X x)(hm:X.mg x=none)(hv:bootBuiltins x=some (.builtin id))(ha:PA X (e ::es) t)(hn:x≠"__name__":=by decide)(hdb:(x==("__debug__":Str))=false:=by decide)
 (he:starEach (e ::es) X.env=(false,eval e X.env) ::starEach es X.env:=by rfl) (hpl:(backTo pos (starEach es X.env)).any (·.1)=false:=by rfl):PE X (.Call (.Name x p) (e ::es) [] pos) (KD r t):=by
 intro pins s σ H Q I h
 refine wpAny_Call_Name_kw (ko I hg hm hv ?_ hn hdb)
 exact PyProof.Rows.callWith_builtin1 (eg (ha pos pins s σ H _ I h) fun us s1 ⟨vs,H1,I1,r1,q1⟩=>hc pins s1 σ H1 vs us Q I1 r1 q1) he hpl
theorem pe(hc:nX X (.type T) r)(hg:Gl X x)(hm:X.mg x=none)(hv:bootBuiltins x=some (.type T))(ha:PA X (e ::es) t)(hn:x≠"__name__":=by decide)(hdb:(x==("__debug__":Str))=false:=by decide)
 (he:starEach (e ::es) X.env=(false,eval e X.env) ::starEach es X.env:=by rfl) (hpl:(backTo pos (starEach es X.env)).any (·.1)=false:=by rfl):PE X (.Call (.Name x p) (e ::es) [] pos) (KD r t):=by
 intro pins s σ H Q I h
 refine wpAny_Call_Name_kw (ko I hg hm hv ?_ hn hdb)
 exact PyProof.Rows.callWith_type1 (eg (ha pos pins s σ H _ I h) fun us s1 ⟨vs,H1,I1,r1,q1⟩=>hc pins s1 σ H1 vs us Q I1 r1 q1) he hpl
end
end L2
namespace L2
open PySem PySem.Spec PyProof.Rows
section
variable {κ:Type} [DecidableEq κ]
noncomputable def l8(kvs:List (κ × V))(k:κ):Option V:=(kvs.find? fun kv=>decide (kv.1=k)).map (·.2)
noncomputable def putK(kvs:List (κ × V))(k:κ)(v:V):List (κ × V):=
 if(kvs.any fun kv=>decide (kv.1=k))=true then kvs.map (fun kv=>if kv.1=k then(kv.1,v) else kv) else kvs++[(k,v)]
noncomputable def AG(kvs:List (κ × V))(k:κ):List (κ × V):=kvs.filter fun kv=>decide (kv.1≠k)
theorem vp{p:κ × V}{r:List (κ × V)}{k:κ}(e:p.1=k):l8 (p ::r) k=some p.2:=by simp [l8,List.find?_cons,e]
theorem wU{p:κ × V}{r:List (κ × V)}{k:κ}(e:¬p.1=k):l8 (p ::r) k=l8 r k:=by simp [l8,List.find?_cons,e]
theorem vg(kvs:List (κ × V))(k:κ)(v:V):(putK kvs k v).length≤kvs.length+1:=by
 unfold putK
 split
 ·rw[List.length_map];omega
 ·rw[List.length_append,List.length_cons,List.length_nil];omega
theorem nJ.getD{o:Option V}{u:Option Value}{d:V}{d':Value}(r:nJ o u)(rd:RelV d d'):RelV (o.getD d) (u.getD d'):=by
 cases o with
 | none=>cases u with
   | none=>exact rd
   | some _=>exact(show False from r).elim
 | some _=>cases u with
   | none=>exact(show False from r).elim
   | some _=>exact r
theorem KV.val{kvs:List (κ × V)}{vs:List (κ × Value)}(r:KV kvs vs)(k:κ):nJ (l8 kvs k) (valueAt vs k):=by
 unfold KV at r
 induction r with
 | nil=>exact True.intro
 | @cons p q ps qs h t ih=>
   obtain⟨h1,h2⟩:=h
   by_cases e:p.1=k
   ·have e':q.1=k:=h1.symm.trans e
    have b:valueAt (q ::qs) k=some q.2:=by simp [valueAt,List.find?_cons,e']
    rw[vp e,b];exact h2
   ·have e':¬q.1=k:=fun z=>e (h1.trans z)
    have b:valueAt (q ::qs) k=valueAt qs k:=by simp [valueAt,List.find?_cons,e']
    rw[wU e,b];exact ih
theorem KV.any{kvs:List (κ × V)}{vs:List (κ × Value)}(r:KV kvs vs)(k:κ):(kvs.any fun kv=>decide (kv.1=k))=vs.any fun kv=>decide (kv.1=k):=by
 unfold KV at r
 induction r with
 | nil=>rfl
 | cons h t ih=>rw [List.any_cons,List.any_cons,ih,h.1]
theorem KV.Kd{kvs:List (κ × V)}{vs:List (κ × Value)}(r:KV kvs vs)(k:κ){y:V}{u:Value}(ry:RelV y u) :
 KV (kvs.map fun kv=>if kv.1=k then(kv.1,y) else kv) (vs.map fun kv=>if kv.1=k then(kv.1,u) else kv):=by
 unfold KV at r ⊢
 induction r with
 | nil=>exact .nil
 | @cons p q ps qs h t ih=>
   rw[List.map_cons,List.map_cons]
   refine .cons ?_ ih
   obtain⟨h1,h2⟩:=h
   by_cases e:p.1=k
   ·rw[if_pos e,if_pos (h1.symm.trans e)];exact⟨h1,ry⟩
   ·rw[if_neg e,if_neg (fun z=>e (h1.trans z))];exact⟨h1,h2⟩
theorem KV.put{kvs:List (κ × V)}{vs:List (κ × Value)}(r:KV kvs vs)(k:κ){y:V}{u:Value}(ry:RelV y u):KV (putK kvs k y) (stored vs k u):=by
 unfold putK stored
 rw[r.any k]
 by_cases e:(vs.any fun kv=>decide (kv.1=k))=true
 ·rw[if_pos e,if_pos e];exact r.Kd k ry
 ·rw[if_neg e,if_neg e];exact Paired.snoc r ⟨rfl,ry⟩
end
theorem BF{P:Program}{w:World}{k:Key}{u:Value}(r:RelV (kV k) u):(dz P w).is k u=true:=by
 cases k with
 | inl i=>obtain⟨t,e⟩:=(show ∃t,u=Value.int i t from r);subst e;exact vh P w i t
 | inr x=>obtain⟨t,e⟩:=(show ∃t,u=Value.str x t from r);subst e;exact wc P w x t
theorem t6{P:Program}{w:World}:∀{ks:List Key} {us:List Value},Vals (ks.map kV) us→ItemsAre (dz P w) ks us
 | [],_,r=>by rw[List.map_nil] at r;cases r;exact .nil
 | k ::ks,_,r=>by
   rw[List.map_cons] at r
   cases r with
   | cons h t=>exact .cons (BF h) (t6 t)
noncomputable abbrev KT(H:Hp):List (List Key × V)→List (List Key × Addr × Value)→Prop:=Paired fun p q=>p.1=q.1∧H q.2.1=some (.tup (p.1.map kV))∧RelV p.2 q.2.2
theorem KT.val{H:Hp}{kvs:List (List Key × V)}{xs:List (List Key × Addr × Value)}(r:KT H kvs xs)(k:List Key):nJ (l8 kvs k) ((atKey xs k).map (·.2)):=by
 induction r with
 | nil=>exact True.intro
 | @cons p q ps qs h t ih=>
   obtain⟨h1,_,h2⟩:=h
   by_cases e:p.1=k
   ·have e':q.1=k:=h1.symm.trans e
    have b:atKey (q ::qs) k=some q.2:=by simp [atKey,List.find?_cons,e']
    rw[vp e,b];exact h2
   ·have e':¬q.1=k:=fun z=>e (h1.trans z)
    have b:atKey (q ::qs) k=atKey qs k:=by simp [atKey,List.find?_cons,e']
    rw[wU e,b];exact ih
section
variable {P:Program} {w:World} {H:Hp} {h:Heap} {a:Addr}
theorem Fq{u:HO}(ok:mJ P w H h)(e:Rd H a u):dS P w H h a u:=e.ok ok
theorem Bu{kvs:List (Key × V)}(ok:mJ P w H h)(e:Rd H a (.dK kvs)):kvs.length≤sizeLine∧(a==sysModules)=false∧∃vs,KV kvs vs∧h.DictOf (dz P w) a vs:=
 show dS P w H h a (.dK kvs) from Fq ok e
theorem IF{kvs:List (Key × V)}(ok:mJ P w H h)(e:H a=some (.dK kvs)):kvs.length≤sizeLine∧(a==sysModules)=false∧∃vs,KV kvs vs∧h.DictOf (dz P w) a vs:=Bu ok (.inl e)
theorem AM{ks:List Key}(ok:mJ P w H h)(e:H a=some (.tup (ks.map kV))):(tupleKind (dz P w)).is h ks a:=by
 obtain⟨_,its,r,o,h1,h2,n,h3⟩:=(show dS P w H h a (.tup (ks.map kV)) from ok a _ e)
 exact⟨o,its.toArray,n,h1,h2,h3,by simpa using t6 r⟩
theorem Fm{kvs:List (List Key × V)}(ok:mJ P w H h)(e:Rd H a (.dT kvs)):kvs.length≤sizeLine∧(a==sysModules)=false∧
 ∃xs,KT H kvs xs∧h.DictOfH (tupleKind (dz P w)) a xs:=by
 obtain⟨z,y,xs,r,o,es,ep,h1,h2,h3,h4,h5⟩:=(show dS P w H h a (.dT kvs) from Fq ok e)
 refine⟨z,y,xs,r,o,es,ep,h1,h2,h3,h4,fun x hx=>?_,h5⟩
 have all:∀{l:List (List Key × V)} {m:List (List Key × Addr × Value)},KT H l m→∀x∈m,(tupleKind (dz P w)).is h x.1 x.2.1:=by
  intro l m q
  induction q with
  | nil=>intro x hx;exact nomatch hx
  | @cons p q ps qs hq t ih=>
    intro x hx
    rcases List.mem_cons.mp hx with e | hx
    ·subst e
     exact AM ok (by rw[←hq.1];exact hq.2.1)
    ·exact ih x hx
 exact all r x hx
end
noncomputable def sj(H:Hp)(a:Addr)(y:V)(r:Option V):Prop:=
 (∃kvs k,Rd H a (.dK kvs)∧y=kV k∧r=l8 kvs k)∨∃kvs k b,Rd H a (.dT kvs)∧y= .ref b∧H b=some (.tup (k.map kV))∧r=l8 kvs k
noncomputable def IY(H:Hp)(a:Addr)(y v:V)(H':Hp):Prop:=
 (∃kvs k,H a=some (.dK kvs)∧y=kV k∧kvs.length < sizeLine∧H'=upd H a (.dK (putK kvs k v)))∨
 ∃kvs k b,H a=some (.dT kvs)∧y= .ref b∧H b=some (.tup (k.map kV))∧kvs.length < sizeLine∧H'=upd H a (.dT (putK kvs k v))
theorem sj.k{H:Hp}{a:Addr}{kvs:List (Key × V)}{k:Key}(e:H a=some (.dK kvs)):sj H a (kV k) (l8 kvs k):= .inl ⟨kvs,k, .inl e,rfl,rfl⟩
section
variable {X:Cx} {pins:List (Addr × Obj)} {σ:St} {H:Hp} {s:Shared} {a:Addr} {y v:V} {u r:Value} {o:Option V} {A:Around} {E:Value→Shared→Prop}
theorem Inv.big(I:Inv X pins σ H s):sysModules < s.heap.objs.size:=by
 have h:mainGlobals < s.heap.objs.size:=(I.mod.glob.keeps I.bk).lt
 exact Nat.lt_trans (by decide) h
theorem DA{h':Heap}{t':Nat}{ob:HO}(I:Inv X pins σ H s)(mu:Jf (H a))(hs:Heap.SameBut a s.heap h')(he:∃q,h'.get? a=some q)(new:dS X.prog X.w (upd H a ob) h' a ob) :
 Inv X pins σ (upd H a ob) {s with heap:=h',toks:=t'}:=
 I.write (x:=a) (e:=a) mu (.inl rfl) (fun b q hb z=>(hs.2 b hb).trans z) he new
theorem Gn{P:Program}{w:World}{H':Hp}{h':Heap}{kvs:List (Key × V)}{vs:List (Key × Value)}(z:kvs.length≤sizeLine)(hd:(a==sysModules)=false)(rel:KV kvs vs)(dd:h'.DictOf (dz P w) a vs) :
 dS P w H' h' a (.dK kvs):=⟨z,hd,vs,rel,dd⟩
end
section
variable {X:Cx} {pins:List (Addr × Obj)} {σ:St} {H:Hp} {s:Shared} {a:Addr} {kvs:List (Key × V)} {k:Key} {u:Value} {A:Around} {E:Value→Shared→Prop}
end
noncomputable def Ls(i:Expr):Prop:=∀ov iv,subscripted i false ov iv=operate [ov,iv] (getItem ov iv)
noncomputable def KP(td ty:TE):TE:=fun σ H Q=>td σ H fun x H1=>ty σ H1 fun y H2=>∃a v,x= .ref a∧sj H2 a y (some v)∧Q v H2
noncomputable def LC(ty td:TE):TE:=fun σ H Q=>ty σ H fun y H1=>td σ H1 fun x H2=>∃a o,x= .ref a∧sj H2 a y o∧Q (.bl o.isSome) H2
noncomputable def Jo(ty td:TE):TE:=fun σ H Q=>ty σ H fun y H1=>td σ H1 fun x H2=>∃a o,x= .ref a∧sj H2 a y o∧Q (.bl (!o.isSome)) H2
noncomputable def KR(td ty tv:TE):TS:=fun D σ H=>tv σ H fun v H1=>td σ H1 fun x H2=>ty σ H2 fun y H3=>∃a H4,x= .ref a∧IY H3 a y v H4∧D.nx σ H4
noncomputable def K6(td ty tv:TE)(rd:V→V→Hp→VK→Prop):TS:=fun D σ H=>td σ H fun x H1=>ty σ H1 fun y H2=>∃a v,x= .ref a∧sj H2 a y (some v)∧
 tv σ H2 fun y2 H3=>rd v y2 H3 fun z H4=>∃H5,IY H4 a y z H5∧D.nx σ H5
noncomputable def KG(td ty:TE):TS:=fun D σ H=>td σ H fun x H1=>ty σ H1 fun y H2=>∃a kvs k,x= .ref a∧H2 a=some (.dK kvs)∧y=kV k∧(l8 kvs k).isSome=true∧D.nx σ (upd H2 a (.dK (AG kvs k)))
section
variable {X:Cx} {o i e value:Expr} {pos pos' tpos:Pos} {td ty tv:TE}
end
theorem Cv{P:Program}{w:World}{H:Hp}(h:Heap)(hb:sysModules < h.objs.size):dS P w H (h.push {cls:= .type "dict",data:= .dict #[]}) h.objs.size (.dK []):=
 ⟨Nat.zero_le _,beq_eq_false_iff_ne.mpr (Ne.symm (Nat.ne_of_lt hb)),[], .nil,Heap.DictOf.new h⟩
noncomputable def Kr:TE:=fun _ H Q=>∀p,H p=none→Q (.ref p) (upd H p (.dK []))
noncomputable def J4:TE:=fun _ H Q=>∀p,H p=none→Q (.ref p) (upd H p (.dT []))
section
variable {X:Cx} {pos:Pos}
end
noncomputable def rC:List (TE × TE)→St→Hp→(List (V × V)→Hp→Prop)→Prop
 | [],_,H,Q=>Q [] H
 | (tk,tv) ::r,σ,H,Q=>tk σ H fun x H1=>tv σ H1 fun y H2=>rC r σ H2 fun ps H3=>Q ((x,y) ::ps) H3
noncomputable abbrev VV:List (V × V)→List (Value × Value)→Prop:=Paired fun p q=>RelV p.1 q.1∧RelV p.2 q.2
noncomputable def HF(X:Cx)(pos:Pos)(keys:List (Option Expr))(values:List Expr)(trs:List (TE × TE)):Prop:=
 ∀(pins:List (Addr × Obj)) (s:Shared) (σ:St) (H:Hp) (Q:List (V × V)→Hp→Prop),Inv X pins σ H s→rC trs σ H Q→
  wpAny (model X.prog X.w) X.A (evalPairs (pairTrees keys values X.env pos)) (fun vs s'=>∃ps H',Inv X pins σ H' s'∧VV ps vs∧Q ps H') X.xe s
theorem yJ{X:Cx}{pos:Pos}:HF X pos [] [] []:=fun pins s σ H Q I h=>pairTrees_nil_walk ⟨[],H,I, .nil,h⟩
theorem nP{X:Cx}{pos:Pos}{k v:Expr}{ks:List (Option Expr)}{vs:List Expr}{tk tv:TE}{trs:List (TE × TE)}(hk:PE X k tk)(hv:PE X v tv)(hr:HF X pos ks vs trs) :
 HF X pos (some k ::ks) (v ::vs) ((tk,tv) ::trs):=fun pins s σ H Q I h=>
 pairTrees_cons_walk (eg (hk pins s σ H _ I h) fun u s1 ⟨x,H1,I1,rx,q1⟩=>eg (hv pins s1 σ H1 _ I1 q1) fun w2 s2 ⟨y,H2,I2,ry,q2⟩=>
  eg (hr pins s2 σ H2 _ I2 q2) fun ws s3 ⟨ps,H3,I3,rel,q3⟩=>⟨(x,y) ::ps,H3,I3, .cons ⟨rx,ry⟩ rel,q3⟩)
noncomputable def jU(kvs more:List (Key × V)):List (Key × V):=more.foldl (fun acc kv=>putK acc kv.1 kv.2) kvs
theorem KV.merge:∀{more:List (Key × V)} {rs:List (Key × Value)} {kvs:List (Key × V)} {vs:List (Key × Value)},KV more rs→KV kvs vs→KV (jU kvs more) (merged vs rs):=by
 intro more rs kvs vs r
 unfold KV at r
 induction r generalizing kvs vs with
 | nil=>intro q;exact q
 | @cons p q ps qs h t ih=>
   intro r0
   have e:KV (putK kvs p.1 p.2) (stored vs q.1 q.2):=by
    have:=r0.put p.1 h.2
    rw[←h.1];exact this
   exact ih e
theorem mM:∀(more kvs:List (Key × V)),(jU kvs more).length≤kvs.length+more.length
 | [],kvs=>by show kvs.length≤kvs.length+0;omega
 | p ::r,kvs=>by
   have h1:=mM r (putK kvs p.1 p.2)
   have h2:=vg kvs p.1 p.2
   show(jU (putK kvs p.1 p.2) r).length≤_
   rw[List.length_cons];omega
theorem rA{P:Program}{w:World}:∀{kvs:List (Key × V)} {ws:List (Value × Value)},VV (kvs.map fun kv=>(kV kv.1,kv.2)) ws→∃rs,Carries (dz P w) ws rs∧KV kvs rs
 | [],_,r=>by rw[List.map_nil] at r;cases r;exact⟨[],True.intro, .nil⟩
 | p ::kvs,_,r=>by
   rw[List.map_cons] at r
   cases r with
   | @cons a b as bs h t=>
     obtain⟨rs,c,q⟩:=rA (P:=P) (w:=w) t
     obtain⟨b1,b2⟩:=b
     exact⟨(p.1,b2) ::rs,⟨BF h.1,rfl,c⟩, .cons ⟨rfl,h.2⟩ q⟩
noncomputable def AR(trs:List (TE × TE)):TE:=fun σ H Q=>∀p,H p=none→rC trs σ (upd H p (.dK [])) fun ps H2=>H2 p=some (.dK [])∧∃kvs:List (Key × V),ps=kvs.map (fun kv=>(kV kv.1,kv.2))∧kvs.length≤15∧Q (.ref p) (upd H2 p (.dK (jU [] kvs)))
theorem Dk{X:Cx}{pos:Pos}{keys:List (Option Expr)}{values:List Expr}{trs:List (TE × TE)}(h:HF X pos keys values trs)(hall:keys.all (·.isSome)=true)(hl:keys.length=values.length)(h0:keys≠[])
 (h15:keys.length≤15):PE X (.Dict keys values pos) (AR trs):=by
 intro pins s σ H Q I q
 have hn:=I.hok.fresh (Nat.le_refl s.heap.objs.size)
 have I1:=I.laid (a:=s.heap.objs.size) (o:= .dK []) (h':=s.heap.push {cls:= .type "dict",data:= .dict #[]}) (t':=s.toks) (fun _ _ q=>Heap.get?_push_of_some _ q) (Nat.le_refl _) (Cv s.heap I.big)
 refine wpAny_Dict_walk (knd:=dz X.prog X.w) hall hl h0 h15 (eg (h pins _ σ _ _ I1 (q _ hn)) fun ws s2 ⟨ps,H2,I2,rel,e,kvs,ep,lk,q2⟩=>?_)
 subst ep
 obtain⟨rs,c,rk⟩:=rA (P:=X.prog) (w:=X.w) rel
 obtain⟨z,hd,vs0,r0,dd⟩:=IF I2.hok e
 cases r0
 refine⟨rs,c,dd,fun h' dd' hs=>⟨.ref s.heap.objs.size,_,?_,rfl,q2⟩⟩
 have hz:(jU [] kvs).length≤sizeLine:=by
  have h1:=mM kvs []
  rw[List.length_nil] at h1
  rw[sizeLine_eq];omega
 have he:∃q,h'.get? s.heap.objs.size=some q:=let⟨q,_,_,hq,_⟩:=dd';⟨q,hq⟩
 exact DA I2 (by rw[e];exact True.intro) hs he (Gn hz hd (rk.merge .nil) dd')
structure M1 (X:Cx) (o:Expr) (m:Str) (apos:Pos) (e:Expr) (cpos:Pos):Prop where
 base:attributeBase o m X.env (eval o X.env)=eval o X.env
 few:((backTo cpos (starEach [e] X.env)).all (fun x=>!x.1) && (backToKw cpos (keywordEach [] X.env)).all (fun x=>x.1.isSome)
  && decide (([e]:List Expr).length+([]:List Keyword).length+(if([]:List Keyword).isEmpty then 0 else 1) < 30))=true
 line:(apos.endLine==cpos.line)=true
 trees:backTo cpos (starEach [e] X.env)=[(false,eval e X.env)]
structure M2 (X:Cx) (o:Expr) (m:Str) (apos:Pos) (e f:Expr) (cpos:Pos):Prop where
 base:attributeBase o m X.env (eval o X.env)=eval o X.env
 few:((backTo cpos (starEach [e,f] X.env)).all (fun x=>!x.1) && (backToKw cpos (keywordEach [] X.env)).all (fun x=>x.1.isSome)
  && decide (([e,f]:List Expr).length+([]:List Keyword).length+(if([]:List Keyword).isEmpty then 0 else 1) < 30))=true
 line:(apos.endLine==cpos.line)=true
 trees:backTo cpos (starEach [e,f] X.env)=[(false,eval e X.env),(false,eval f X.env)]
noncomputable def Ig(H:Hp)(a:Addr):Prop:=(∃kvs,Rd H a (.dK kvs))∨∃kvs,Rd H a (.dT kvs)
theorem F6{X:Cx}{pins:List (Addr × Obj)}{σ:St}{H:Hp}{s:Shared}{a:Addr}(I:Inv X pins σ H s)(d:Ig H a) :
 s.TypeIs (.ref a) "dict"∧(∀b,Value.ref a= .ref b→∃ob,s.heap.get? b=some ob∧ob.dict=none)∧(a==sysModules)=false:=by
 rcases d with⟨kvs,e⟩ | ⟨kvs,e⟩
 ·obtain⟨_,hd,vs,_,dd⟩:=Bu I.hok e
  refine⟨dd.typeIs,fun b q=>?_,hd⟩
  cases q
  obtain⟨ob,_,_,h1,h2,_⟩:=dd
  exact⟨ob,h1,h2.2.1⟩
 ·obtain⟨_,hd,xs,_,dd⟩:=Fm I.hok e
  refine⟨dd.typeIs,fun b q=>?_,hd⟩
  cases q
  obtain⟨ob,_,_,h1,h2,_⟩:=dd
  exact⟨ob,h1,h2.2.1⟩
section
variable {X:Cx} {pins:List (Addr × Obj)} {σ:St} {H:Hp} {s:Shared} {a:Addr} {y d:V} {u r:Value} {o:Option V} {A:Around} {E:Value→Shared→Prop}
theorem F5{Q:Value→Shared→Prop}(hu:A.units+1 < cLine)(I:Inv X pins σ H s)(g:sj H a y o)(ry:RelV y u)(rd:RelV d r)(h:∀w' s',Inv X pins σ H s'→RelV (o.getD d) w'→Q w' s') :
 wpAny (model X.prog X.w) A (call (.builtin "dict.get") [.ref a,u,r]) Q E s:=by
 rcases g with⟨kvs,k,e,ey,l⟩ | ⟨kvs,k,b,e,ey,eb,l⟩
 ·subst ey
  obtain⟨z,hd,vs,rel,dd⟩:=Bu I.hok e
  refine call_meetsIn PySem.F.slot_dict_get dd.typeIs PySem.F.entry_dict_get (PySem.F.args_dict_get_3 _ _ _) (meets_dict_get_default (dz X.prog X.w) a (BF ry) hd r) ⟨_,dd.mapOf,h _ _ (I.tok _) ?_⟩
  rw[l]
  exact(rel.val k).getD rd
 ·subst ey
  cases(show u=Value.ref b from ry)
  obtain⟨z,hd,xs,rel,dd⟩:=Fm I.hok e
  refine call_meetsIn PySem.F.slot_dict_get dd.typeIs PySem.F.entry_dict_get (PySem.F.args_dict_get_3 _ _ _) (meetsH_dict_get_default (tupleKind (dz X.prog X.w)) a b hd r) ⟨tupleKind_room_in1 hu,k,xs,AM I.hok eb,dd,h _ _ (I.tok _) ?_⟩
  rw[l]
  exact(rel.val k).getD rd
end
noncomputable def JU(td ty:TE):TE:=fun σ H Q=>td σ H fun x H1=>∃a,x= .ref a∧Ig H1 a∧ty σ H1 fun y H2=>∃o,sj H2 a y o∧Q (o.getD .di) H2
noncomputable def FW(td ty tx:TE):TE:=fun σ H Q=>td σ H fun x H1=>∃a,x= .ref a∧Ig H1 a∧ty σ H1 fun y H2=>tx σ H2 fun z H3=>∃o,sj H3 a y o∧Q (o.getD z) H3
noncomputable def Kt(td ty:TE):TE:=fun σ H Q=>td σ H fun x H1=>∃a,x= .ref a∧Ig H1 a∧ty σ H1 fun y H2=>∃kvs k v,H2 a=some (.dK kvs)∧y=kV k∧l8 kvs k=some v∧Q v (upd H2 a (.dK (AG kvs k)))
noncomputable def JV(td ty tx:TE):TE:=fun σ H Q=>td σ H fun x H1=>∃a,x= .ref a∧Ig H1 a∧ty σ H1 fun y H2=>tx σ H2 fun z H3=>∃kvs k,H3 a=some (.dK kvs)∧y=kV k∧
 (∀v,l8 kvs k=some v→Q v (upd H3 a (.dK (AG kvs k))))∧(l8 kvs k=none→Q z H3)
section
variable {X:Cx} {o e f:Expr} {apos cpos:Pos} {td ty tx:TE}
theorem BV(hu:X.A.units+1 < cLine)(ho:PE X o td)(he:PE X e ty)(hf:PE X f tx)(m:M2 X o "get" apos e f cpos):PE X (.Call (.Attribute o "get" apos) [e,f] [] cpos) (FW td ty tx):=by
 intro pins s σ H Q I h
 refine wpAny_Call_method m.base m.few m.line PySem.F.plainAttrs_dict PySem.F.slot_dict_get PySem.F.type_dict_get (eg (ho pins s σ H _ I h) fun u s1 ⟨x,H1,I1,rx,a,ex,d,q1⟩=>?_)
 subst ex
 obtain rfl:u=Value.ref a:=rx
 obtain⟨t1,t2,_⟩:=F6 I1 d
 refine⟨t1,t2,?_⟩
 rw[m.trees]
 refine Calls.callWith_builtin rfl (Calls.evalArgs_plain (Calls.spliced_cons (eg (he pins s1 σ H1 _ I1 q1) fun iv s2 ⟨y,H2,I2,ry,q2⟩=>
  Calls.spliced_cons (eg (hf pins s2 σ H2 _ I2 q2) fun fv s3 ⟨z,H3,I3,rz,ov,g,q3⟩=>Calls.spliced_nil ?_))))
 exact F5 hu I3 g ry rz fun w' s4 I4 rw'=>⟨_,H3,I4,rw',q3⟩
end
section
variable {X:Cx} {pins:List (Addr × Obj)} {σ:St} {H:Hp} {s:Shared} {a:Addr} {kvs:List (Key × V)} {A:Around} {E:Value→Shared→Prop}
end
section
variable {X:Cx} {pins:List (Addr × Obj)} {σ:St} {H:Hp} {s:Shared} {a:Addr} {y:V} {u:Value} {A:Around} {E:Value→Shared→Prop}
end
end L2
namespace HT
open PySem PyProof.Rows
noncomputable def lexLt:List Int→List Int→Bool
 | [],[]=>false
 | [],_ ::_=>true
 | _ ::_,[]=>false
 | x ::xs,y ::ys=>if x=y then lexLt xs ys else decide (x < y)
section
open PySem.SeqAt
open PySem.AutoSeq1 (wpAny_loadPart')
open PySem.MeetsSeq PySem.MeetsSeq2 PySem.MeetsSeq3
end
section
variable {prog:Program} {w:World} {A:Around} {E:Value→Shared→Prop} {s:Shared}
theorem Dx{t b:Addr}{vs ws:List Value}{Q:Value→Shared→Prop}(ht:IsTup s.heap t vs.toArray)(hb:IsTup s.heap b ws.toArray)(hv:vs≠[])
 (h1:ws=[]→Q (.ref t) s) (h2:ws≠[]→Q (.ref s.heap.objs.size) {s with heap:=s.heap.push {cls:= .type "tuple",data:= .seq (vs++ws).toArray}})
 (hsz:vs.length+ws.length≤sizeLine):wpAny (model prog w) A (binaryOp .Add (.ref t) (.ref b)) Q E s:=by
 obtain⟨⟨cls,dd,data,sl⟩,ho,hc,n,hd⟩:=id ht
 obtain⟨⟨cls2,dd2,data2,sl2⟩,ho2,hc2,n2,hd2⟩:=id hb
 simp only at hc hd hc2 hd2
 subst hc hd hc2 hd2
 have e:vs.toArray++ws.toArray=(vs++ws).toArray:=by simp
 by_cases hw:ws=[]
 ·exact concat_meets ⟨_,ho,rfl⟩ ⟨_,ho2,rfl⟩ noFill_tuple_add seq_tuple_add PySem.F.slot_tuple_add PySem.F.entry_tuple_add (PySem.F.args_tuple_add_2 _ _)
   (tuple_addW1 t b vs.toArray ws.toArray n n2 dd dd2 sl sl2 (by simpa using hv) (by simp [hw])) ⟨ho,ho2,h1 hw⟩
 ·refine concat_meets ⟨_,ho,rfl⟩ ⟨_,ho2,rfl⟩ noFill_tuple_add seq_tuple_add PySem.F.slot_tuple_add PySem.F.entry_tuple_add (PySem.F.args_tuple_add_2 _ _)
   (tuple_addW2 t b vs.toArray ws.toArray n n2 dd dd2 sl sl2 (by simpa using hv) (by simpa using hw) (by rw[List.size_toArray,List.size_toArray];exact hsz)) ⟨ho,ho2,?_⟩
  rw[e]
  exact h2 hw
noncomputable def gM(n d:Nat):Option Int→Nat
 | none=>d
 | some v=>if v < 0 then(v+(n:Int)).toNat else min v.toNat n
theorem vw(n d:Nat):gM n d none=d:=rfl
theorem y3(n d k:Nat):gM n d (some (k:Int))=min k n:=by
 show(if(k:Int) < 0 then((k:Int)+(n:Int)).toNat else min (k:Int).toNat n)=min k n
 rw[if_neg (by omega),Int.toNat_natCast]
theorem He(n d:Nat)(hd:d≤n)(o:Option Int):gM n d o≤n:=by
 cases o with
 | none=>exact hd
 | some v=>
   show(if v < 0 then(v+(n:Int)).toNat else min v.toNat n)≤n
   by_cases hv:v < 0
   ·rw[if_pos hv];omega
   ·rw[if_neg hv];exact Nat.min_le_right _ _
theorem yN(v:Int)(n d:Nat):(if v < 0 then max (v+(n:Int)) 0 else min v (n:Int))=((gM n d (some v):Nat):Int):=by
 show(if v < 0 then max (v+(n:Int)) 0 else min v (n:Int))=(((if v < 0 then(v+(n:Int)).toNat else min v.toNat n):Nat):Int)
 by_cases hv:v < 0
 ·simp only[if_pos hv];omega
 ·simp only[if_neg hv];omega
theorem xq(lo hi:Option Int)(n:Nat):Builtin.Slice.sliceAdjust lo hi 1 (n:Int)=(((gM n 0 lo:Nat):Int),((gM n n hi:Nat):Int)):=by
 have h1:¬((1:Int) < 0):=by omega
 unfold Builtin.Slice.sliceAdjust
 simp only[h1,if_false]
 refine Prod.ext ?_ ?_
 ·cases lo with
  | none=>rfl
  | some v=>exact yN v n 0
 ·cases hi with
  | none=>rfl
  | some v=>exact yN v n n
theorem ya(i j:Nat):Builtin.Slice.slicePlaces (i:Int) (j:Int) 1=j - i:=by
 unfold Builtin.Slice.slicePlaces
 have h1:(1:Int) > 0:=by omega
 simp only[h1,if_true,Int.ediv_one]
 split <;> omega
theorem qF{v:Value}{o:Option Int}{Q:Option Int→Shared→Prop}(p:IsPart v o)(h:Q o s):wpAny (model prog w) A (Builtin.Slice.slicePartIndex v) Q E s:=by
 cases p with
 | none=>exact slicePart_none h
 | int i t=>exact slicePart_int h
theorem pf{sl:Addr}{vl vu:Value}{lo hi:Option Int}{n:Nat}{Q:Int × Int × Nat→Shared→Prop}(hs:s.heap.IsSliceOf sl vl vu .none)(pl:IsPart vl lo)(pu:IsPart vu hi)
 (h:Q (((gM n 0 lo:Nat):Int),1,gM n n hi - gM n 0 lo) s):wpAny (model prog w) A (Builtin.Slice.sliceApplied (.ref sl) (pure (n:Int))) Q E s:=by
 obtain⟨os,hos,hcs,hds⟩:=id hs
 unfold Builtin.Slice.sliceApplied Builtin.Slice.sliceFields
 refine wpAny_bind (wpAny_bind (wpAny_field hos hds (x:=vl) rfl (wpAny_bind (wpAny_field hos hds (x:=vu) rfl (wpAny_bind (wpAny_field hos hds (x:= .none) rfl (wpAny_pure ?_)))))))
 refine wpAny_bind (slicePart_none ?_)
 show wpAny _ _ (if((1:Int)==0)=true then _ else _) _ _ s
 rw[if_neg (by decide)]
 refine wpAny_bind (qF pl (wpAny_bind (qF pu (wpAny_bind (wpAny_pure ?_)))))
 show wpAny _ _ (match Builtin.Slice.sliceAdjust lo hi 1 (n:Int) with | (lo,hi)=>pure (lo,(1:Int),Builtin.Slice.slicePlaces lo hi 1)) _ _ s
 rw[xq lo hi n]
 show wpAny _ _ (pure (((gM n 0 lo:Nat):Int),(1:Int),Builtin.Slice.slicePlaces ((gM n 0 lo:Nat):Int) ((gM n n hi:Nat):Int) 1)) _ _ s
 rw[ya]
 exact wpAny_pure h
theorem BS(xs:Array Value)(i k:Nat):((List.range k).filterMap fun(m:Nat)=>xs[((i:Int)+(m:Int)*1).toNat]?).toArray=((xs.toList.drop i).take k).toArray:=by
 have e:(fun(m:Nat)=>xs[((i:Int)+(m:Int)*1).toNat]?)=fun m=>xs[i+m]?:=by
  funext m
  have:((i:Int)+(m:Int)*1).toNat=i+m:=by omega
  rw[this]
 rw[e]
 have:=pick_run xs i k
 rw[List.filterMap_map] at this
 have e2:((fun x=>xs[x]?) ∘ fun x=>i+x)=fun m=>xs[i+m]?:=rfl
 rw[e2] at this
 rw[this]
theorem nU{t sl:Addr}{items:Array Value}{vl vu:Value}{lo hi:Option Int}{Q:Value→Shared→Prop}(ht:IsTup s.heap t items)(hs:s.heap.IsSliceOf sl vl vu .none)(pl:IsPart vl lo)(pu:IsPart vu hi)
 (hw:¬(gM items.size 0 lo=0∧gM items.size items.size hi=items.size))
 (h:Q (.ref s.heap.objs.size) {s with heap:=s.heap.push {cls:= .type "tuple",data:= .seq ((items.toList.drop (gM items.size 0 lo)).take (gM items.size items.size hi - gM items.size 0 lo)).toArray}})
 (hsz:items.size≤sizeLine):wpAny (model prog w) A (getItem (.ref t) (.ref sl)) Q E s:=by
 have htake:sizeOk (.seq ((items.toList.drop (gM items.size 0 lo)).take (gM items.size items.size hi - gM items.size 0 lo)).toArray):=by
  show((items.toList.drop (gM items.size 0 lo)).take (gM items.size items.size hi - gM items.size 0 lo)).toArray.size≤sizeLine
  rw[List.size_toArray,List.length_take,List.length_drop,Array.length_toList]
  omega
 have hj:gM items.size items.size hi≤items.size:=He _ _ (Nat.le_refl _) hi
 obtain⟨os,hos,hcs,hds⟩:=id hs
 have hTs:s.TypeIs (.ref sl) "slice":=⟨os,hos,hcs⟩
 unfold getItem
 try with_reducible refine wpAny_holding ?_
 first | refine wpAny_bind (wpAny_pure ?_) | skip
 refine wpAny_bind (wpAny_sequenceKey ht.typeIs (by decide) ?_)
 refine wpAny_bind (wpAny_callSpecial?_slot (name:=Str.ofString "__getitem__") ht.typeIs PyProof.Rows.slot_tuple_getitem
  (wpAny_call_entry PyProof.Rows.slot_tuple_getitem ht.typeIs entry_tuple_getitem ?_ (args_tuple_getitem _ _)))
 show wpAny _ _ (Builtin.Tuple.tupleItemsOf (.ref t) >>=_) _ _ s
 refine wpAny_bind (tupleItemsOf_ ht ?_)
 refine wpAny_bind (wpAny_typeOf hTs ?_)
 rw[if_pos (by decide)]
 refine wpAny_bind (pf hs pl pu ?_)
 have hno:¬((((gM items.size 0 lo:Nat):Int)==0 && (1:Int)==1 && (gM items.size items.size hi - gM items.size 0 lo)==items.size)=true):=by
  intro q
  rw[Bool.and_eq_true,Bool.and_eq_true] at q
  have q1:((gM items.size 0 lo:Nat):Int)=0:=eq_of_beq q.1.1
  have q2:gM items.size items.size hi - gM items.size 0 lo=items.size:=eq_of_beq q.2
  exact hw ⟨by omega,by omega⟩
 show wpAny _ _ (if(((gM items.size 0 lo:Nat):Int)==0 && (1:Int)==1 && (gM items.size items.size hi - gM items.size 0 lo)==items.size)=true then _ else _) _ _ s
 rw[if_neg hno,BS]
 first
  | exact wpAny_bind (m:=Builtin.Tuple.tupleExact _) (wpAny_newObj_type (wpAny_pure ⟨_,rfl,wpAny_pure h⟩) htake)
  | exact wpAny_bind (m:=Builtin.Tuple.tupleExact _) (wpAny_newObj_type (wpAny_bind (wpAny_pure (wpAny_pure ⟨_,rfl,wpAny_pure h⟩))) htake)
  | exact wpAny_bind (wpAny_bind (m:=Builtin.Tuple.tupleExact _) (wpAny_newObj_type (wpAny_pure (wpAny_pure ⟨_,rfl,wpAny_pure h⟩)) htake))
  | exact wpAny_bind (wpAny_bind (m:=Builtin.Tuple.tupleExact _) (wpAny_newObj_type (wpAny_pure ⟨_,rfl,wpAny_pure h⟩) htake))
end
end HT
namespace L2
open PySem PySem.Spec PyProof.Rows
noncomputable abbrev TO:=St→Hp→(Option Int→Hp→Prop)→Prop
noncomputable def PO(X:Cx)(e:Option Expr)(t:TO):Prop:=
 ∀(pins:List (Addr × Obj)) (s:Shared) (σ:St) (H:Hp) (Q:Option Int→Hp→Prop),Inv X pins σ H s→t σ H Q→
  wpAny (model X.prog X.w) X.A (evalPart e X.env) (fun u s'=>∃o H',Inv X pins σ H' s'∧IsPart u o∧Q o H') X.xe s
noncomputable def Ds:TO:=fun _ H Q=>Q none H
noncomputable def H0(t:TE):TO:=fun σ H Q=>t σ H fun x H1=>∃i,x= .int i∧Q (some i) H1
section
variable {X:Cx} {e:Expr} {te:TE} {lo hi:Option Expr} {tl th:TO} {pos p2:Pos}
theorem DL:PO X none Ds:=by
 intro pins s σ H Q I h
 rw[evalPart_none]
 exact wpAny_pure ⟨none,H,I, .none,h⟩
theorem C9(h:PE X e te):PO X (some e) (H0 te):=by
 intro pins s σ H Q I hw
 rw[evalPart_some]
 refine eg (h pins s σ H _ I hw) fun u s1 ⟨x,H1,I1,r1,q1⟩=>?_
 obtain⟨i,rfl,q⟩:=q1
 obtain⟨t,rfl⟩:=r1
 exact⟨some i,H1,I1, .int i t,q⟩
noncomputable def E4(X:Cx)(r:V→Option Int→Option Int→Hp→VK→Prop):Prop:=
 ∀(pins:List (Addr × Obj)) (s:Shared) (σ:St) (H:Hp) (x:V) (v vl vu:Value) (lo hi:Option Int) (sl:Addr) (Q:VK),Inv X pins σ H s→RelV x v→s.heap.IsSliceOf sl vl vu .none→IsPart vl lo→IsPart vu hi→r x lo hi H Q→
  ∃T id,typeLookup (.type T) "__getitem__"=pure (some (.builtin id))∧s.TypeIs v T∧wpAny (model X.prog X.w) X.A (getItem v (.ref sl)) (EP X pins σ Q) X.xe s
theorem E4.or{r r':V→Option Int→Option Int→Hp→VK→Prop}(h:E4 X r)(h':E4 X r'):E4 X (fun x lo hi H Q=>r x lo hi H Q∨r' x lo hi H Q):=by
 intro pins s σ H x v vl vu lo hi sl Q I rx hs pl pu q
 rcases q with q | q
 ·exact h pins s σ H x v vl vu lo hi sl Q I rx hs pl pu q
 ·exact h' pins s σ H x v vl vu lo hi sl Q I rx hs pl pu q
noncomputable def Lk(r:V→Option Int→Option Int→Hp→VK→Prop)(te:TE)(tl th:TO):TE:=fun σ H Q=>te σ H fun x H1=>tl σ H1 fun l H2=>th σ H2 fun u H3=>r x l u H3 Q
theorem wu{r:V→Option Int→Option Int→Hp→VK→Prop}(hr:E4 X r)(he:PE X e te)(hl:PO X lo tl)(hu:PO X hi th):PE X (.Subscript e (.Slice lo hi none p2) pos) (Lk r te tl th):=by
 intro pins s σ H Q I h
 refine Subscript_ (eg (he pins s σ H _ I h) fun v s1 ⟨x,H1,I1,r1,q1⟩=>?_)
 refine wpAny_Slice (eg (hl pins s1 σ H1 _ I1 q1) fun vl s2 ⟨l,H2,I2,pl,q2⟩=>eg (hu pins s2 σ H2 _ I2 q2) fun vu s3 ⟨u,H3,I3,pu,q3⟩=>?_)
 rw[evalPart_none]
 refine wpAny_pure ?_
 have I4:Inv X pins σ H3 {s3 with heap:=s3.heap.push {cls:= .type "slice",data:= .fields #[vl,vu, .none]}}:=I3.kept (t':=s3.toks) fun b ob q=>Heap.get?_push_of_some _ q
 obtain⟨T,id,hT,ht,hg⟩:=hr pins {s3 with heap:=s3.heap.push {cls:= .type "slice",data:= .fields #[vl,vu, .none]}} σ H3 x v vl vu l u s3.heap.objs.size Q I4 r1 (Heap.IsSliceOf.new ..) pl pu q3
 show wpAny (model X.prog X.w) X.A (subscriptTail e (.Slice lo hi none p2) v (.ref s3.heap.objs.size)) (EP X pins σ Q) X.xe {s3 with heap:=s3.heap.push {cls:= .type "slice",data:= .fields #[vl,vu, .none]}}
 exact tail_any (ops:=[.ref s3.heap.objs.size,v]) ht hT hg (by with_unfolding_all rfl)
noncomputable def wM(xs:List V)(lo hi:Option Int):List V:=(xs.drop (HT.gM xs.length 0 lo)).take (HT.gM xs.length xs.length hi - HT.gM xs.length 0 lo)
theorem pJ(xs:List V)(lo hi:Option Int):(wM xs lo hi).length≤xs.length:=by
 unfold wM
 rw[List.length_take,List.length_drop]
 omega
noncomputable def Ku(K:PySem.W.Frag):V→Option Int→Option Int→Hp→VK→Prop:=fun x lo hi H Q=>∃a xs,x= .ref a∧pE K H a xs∧
 ¬(HT.gM xs.length 0 lo=0∧HT.gM xs.length xs.length hi=xs.length)∧∀p,H p=none→Q (.ref p) (upd H p (.tup (wM xs lo hi)))
theorem G7:E4 X (Ku X.K):=by
 intro pins s σ H x v vl vu lo hi sl Q I rx hs pl pu h
 obtain⟨a,xs,rfl,hx,hw,q⟩:=h
 cases rx
 obtain⟨its,r,ht,hz⟩:=I.tuple hx
 have hlen:its.toArray.size=xs.length:=by rw[List.size_toArray];exact r.length.symm
 refine⟨"tuple",_,PyProof.Rows.slot_tuple_getitem.lookup,ht.typeIs,?_⟩
 refine HT.nU ht hs pl pu (by rw[hlen];exact hw) ?_ (by rw[hlen];exact hz)
 rw[hlen]
 refine⟨.ref s.heap.objs.size,_,I.laid (t':=s.toks) (o:= .tup (wM xs lo hi)) (fun b ob q=>Heap.get?_push_of_some _ q) (Nat.le_refl _) ?_,rfl,q _ (I.hok.fresh (Nat.le_refl _))⟩
 exact⟨Nat.le_trans (pJ xs lo hi) hz,_,(r.drop (HT.gM xs.length 0 lo)).take (HT.gM xs.length xs.length hi - HT.gM xs.length 0 lo),IsTup.new _ _⟩
noncomputable def Ln(K:PySem.W.Frag):R2:=fun x y H Q=>∃a b ns ms,x= .ref a∧y= .ref b∧pE K H a (ns.map V.int)∧pE K H b (ms.map V.int)∧Q (.bl (HT.lexLt ns ms)) H
noncomputable def K2(K:PySem.W.Frag):R2:=fun x y H Q=>∃a b xs ys,x= .ref a∧y= .ref b∧pE K H a xs∧pE K H b ys∧xs≠[]∧xs.length+ys.length≤sizeLine∧
 (ys=[]→Q (.ref a) H)∧(ys≠[]→∀p,H p=none→Q (.ref p) (upd H p (.tup (xs++ys))))
end
end L2
namespace L2
open PySem PySem.Spec PyProof.Rows
noncomputable def sv(n:Nat)(i:Int):Option Nat:=if 0≤i then(if i < n then some i.toNat else none) else if -(n:Int)≤i then some (i+n).toNat else none
noncomputable def pG{α:Type}(xs:List α)(i:Int):Option α:=(sv xs.length i).bind fun j=>xs[j]?
theorem zr{n:Nat}{i:Int}{j:Nat}(h:sv n i=some j):seqIndex? i n=some j∧j < n∧ -(n:Int)≤i∧i < n:=by
 unfold sv at h
 by_cases h0:0≤i
 ·rw[if_pos h0] at h
  by_cases h1:i < n
  ·rw[if_pos h1] at h
   have e:i.toNat=j:=Option.some.inj h
   exact⟨by rw[seqIndex_of h0 h1,e],by omega,by omega,h1⟩
  ·rw[if_neg h1] at h;cases h
 ·rw[if_neg h0] at h
  by_cases h1: -(n:Int)≤i
  ·rw[if_pos h1] at h
   have e:(i+n).toNat=j:=Option.some.inj h
   exact⟨by rw[seqIndex_neg (by omega) h1,e],by omega,h1,by omega⟩
  ·rw[if_neg h1] at h;cases h
theorem ue{α:Type}{xs:List α}{i:Int}{v:α}(h:pG xs i=some v):∃j,seqIndex? i xs.length=some j∧xs[j]? =some v∧j < xs.length∧ -(xs.length:Int)≤i∧i < xs.length:=by
 unfold pG at h
 cases e:sv xs.length i with
 | none=>rw [e] at h;cases h
 | some j=>
   rw[e] at h
   obtain⟨h1,h2,h3,h4⟩:=zr e
   exact⟨j,h1,h,h2,h3,h4⟩
noncomputable def qk(b:Expr):Prop:=∀o i,subscripted b false o i=operate [o,i] (getItem o i)
noncomputable def DC(X:Cx)(r:R2):Prop:=
 ∀(value slice:Expr) (pins:List (Addr × Obj)) (s:Shared) (σ:St) (H:Hp) (x y:V) (v u:Value) (Q:VK),Inv X pins σ H s→RelV x v→RelV y u→r x y H Q→
  subscripted slice false v u=operate [v,u] (getItem v u)→wpAny (model X.prog X.w) X.A (subscriptTail value slice v u) (EP X pins σ Q) X.xe s
noncomputable def LK(X:Cx)(id:String)(r:V→List V→Hp→VK→Prop):Prop:=
 ∀(pins:List (Addr × Obj)) (s:Shared) (σ:St) (H:Hp) (x:V) (xs:List V) (v:Value) (us:List Value) (Q:VK),Inv X pins σ H s→RelV x v→Vals xs us→r x xs H Q→
  wpAny (model X.prog X.w) X.A (call (.builtin id) (v ::us)) (EP X pins σ Q) X.xe s
section
variable {X:Cx} {a b:Expr} {ta tb:TE} {pos:Pos}
theorem DC.or{r r':R2}(h:DC X r)(h':DC X r'):DC X (fun x y H Q=>r x y H Q∨r' x y H Q):=by
 intro value slice pins s σ H x y v u Q I rx ry q hs
 rcases q with q | q
 ·exact h value slice pins s σ H x y v u Q I rx ry q hs
 ·exact h' value slice pins s σ H x y v u Q I rx ry q hs
theorem EZ{r:R2}(hr:DC X r)(ha:PE X a ta)(hb:PE X b tb)(hs:qk b):PE X (.Subscript a b pos) (HG r ta tb):=by
 intro pins s σ H Q I h
 exact Subscript_ (GX ha hb I h fun v u s2 x y H2 I2 rx ry q=>hr a b pins s2 σ H2 x y v u Q I2 rx ry q (hs _ _))
noncomputable def HZ(K:PySem.W.Frag):R2:=fun x y H Q=>∃p xs i v,x= .ref p∧y= .int i∧mH K H p xs∧pG xs i=some v∧Q v H
noncomputable def Je(K:PySem.W.Frag):R2:=fun x y H Q=>∃p xs i v,x= .ref p∧y= .int i∧pE K H p xs∧pG xs i=some v∧Q v H
noncomputable def HS:R2:=fun x y H Q=>∃z i c,x= .str z∧y= .int i∧z.length≤sizeLine∧pG z.cps.toList i=some c∧Q (.str ⟨#[c]⟩) H
theorem DQ:DC X (HZ X.K):=by
 intro value slice pins s σ H x y v u Q I rx ry h hs
 obtain⟨p,xs,i,z,rfl,rfl,hq,he,q⟩:=h
 cases rx
 obtain⟨t,rfl⟩:=ry
 obtain⟨its,r,pl,hz⟩:=I.list hq
 obtain⟨j,h1,h2,h3,h4,h5⟩:=ue he
 obtain⟨w,ew,rw'⟩:=r.get h2
 have hl:=r.length
 have hn:=pj
 have fin:EP X pins σ Q w s:=⟨z,H,I,rw',q⟩
 by_cases h0:0≤i
 ·have hj:i.toNat=j:=by
   rw[seqIndex_of h0 h5] at h1
   exact Option.some.inj h1
  exact item_listR pl.isList h0 (by omega) (by rw[hj];simpa using ew) fin hs
 ·have hj:(i+(its.toArray.size:Int)).toNat=j:=by
   rw[seqIndex_neg (by omega) h4] at h1
   rw[List.size_toArray,←hl]
   exact Option.some.inj h1
  exact subscriptTail_builtinR (x:=w) pl.isList.typeIs slot_list_getitem.lookup
   (wpAny_getItem_list_neg (Q:=fun r s'=>r=w∧EP X pins σ Q r s') pl.isList (by omega) (by rw[List.size_toArray] <;> omega) (by omega) (by rw[hj];simpa using ew) ⟨rfl,fin⟩) hs
theorem Gf:DC X (Je X.K):=by
 intro value slice pins s σ H x y v u Q I rx ry h hs
 obtain⟨p,xs,i,z,rfl,rfl,hq,he,q⟩:=h
 cases rx
 obtain⟨t,rfl⟩:=ry
 obtain⟨its,r,pl,hz⟩:=I.tuple hq
 obtain⟨j,h1,h2,h3,h4,h5⟩:=ue he
 obtain⟨w,ew,rw'⟩:=r.get h2
 have hl:=r.length
 have hn:=pj
 have fin:EP X pins σ Q w s:=⟨z,H,I,rw',q⟩
 exact subscriptTail_builtinR (x:=w) pl.typeIs slot_tuple_getitem.lookup
  (getItem_tuple (j:=j) (Q:=fun r s'=>r=w∧EP X pins σ Q r s') pl (by omega) (by omega) (by rw[List.size_toArray,←hl];exact h1) (by simpa using ew) ⟨rfl,fin⟩) hs
theorem Gb:DC X HS:=by
 intro value slice pins s σ H x y v u Q I rx ry h hs
 obtain⟨z,i,c,rfl,rfl,hz,he,q⟩:=h
 obtain⟨t,rfl⟩:=rx
 obtain⟨t',rfl⟩:=ry
 obtain⟨j,h1,h2,h3,h4,h5⟩:=ue he
 have hl:z.cps.toList.length=z.length:=by simp [Str.length]
 rw[hl] at h1 h4 h5
 have hn:=pj
 exact tail_any (typeIs_str s z t) slot_str_getitem.lookup (getItem_str (c:=c) (by
  have e1:decide (i < -(2 ^ 63:Int))=false:=decide_eq_false (by omega)
  have e2:decide (i≥2 ^ 63)=false:=decide_eq_false (by omega)
  rw[e1,e2,Bool.or_false]) (by rw[h1];simpa using h2) ⟨.str ⟨#[c]⟩,H,I.tok _,⟨_,rfl⟩,q⟩) hs
noncomputable def Ke(K:PySem.W.Frag):R2:=fun x y H Q=>HZ K x y H Q∨Je K x y H Q∨HS x y H Q
theorem CC:DC X (Ke X.K):=DQ.or (Gf.or Gb)
theorem xf(its:List Value)(n j:Nat)(u:Value):Obj.mapSeq (·.setIfInBounds j u) {cls:= .type "list",data:= .seq its.toArray n}={cls:= .type "list",data:= .seq (its.set j u).toArray n}:=by
 simp [Obj.mapSeq]
theorem Inv.lst{pins:List (Addr × Obj)}{σ:St}{H:Hp}{s:Shared}{p:Addr}{xs:List V}(I:Inv X pins σ H s)(h:H p=some (.lst xs)) :
 ∃(its:List Value) (n:Nat),Vals xs its∧s.heap.get? p=some {cls:= .type "list",data:= .seq its.toArray n}∧xs.length≤sizeLine:=by
 obtain⟨z,its,n,r,e⟩:=I.hok p _ h
 exact⟨its,n,r,e,z⟩
theorem Inv.GO{pins:List (Addr × Obj)}{σ:St}{H:Hp}{s:Shared}{p:Addr}{xs ys:List V}{its its':List Value}{n n':Nat}{f:Obj→Obj}(I:Inv X pins σ H s)(h:H p=some (.lst xs))
 (ho:s.heap.get? p=some {cls:= .type "list",data:= .seq its.toArray n}) (hf:f {cls:= .type "list",data:= .seq its.toArray n}={cls:= .type "list",data:= .seq its'.toArray n'}) (r:Vals ys its') (hz:ys.length≤sizeLine) (t:Nat) :
 Inv X pins σ (upd H p (.lst ys)) {s with heap:=s.heap.update p f,toks:=t}:=by
 have e:(s.heap.update p f).get? p=some {cls:= .type "list",data:= .seq its'.toArray n'}:=by
  rw[Heap.get?_update_self f ho (by rw[hf] <;> rfl),hf]
 refine I.write (x:=p) (e:=p) (by rw[h];trivial) (.inl rfl) (fun b u hb q=>(Heap.get?_update_other _ _ (Ne.symm hb)).trans q) ⟨_,e⟩ ?_
 exact⟨hz,its',n',r,e⟩
noncomputable def Fh:V→V→V→Hp→(Hp→Prop)→Prop:=fun o i v H Q=>∃p xs k j,o= .ref p∧i= .int k∧H p=some (.lst xs)∧sv xs.length k=some j∧Q (upd H p (.lst (xs.set j v)))
theorem set_list:IV X Fh:=by
 intro pins s σ H o i v ov iv u Q I ro ri rv h
 obtain⟨p,xs,k,j,rfl,rfl,hp,hj,q⟩:=h
 cases ro
 obtain⟨t,rfl⟩:=ri
 obtain⟨its,n,r,ho,hz⟩:=I.lst hp
 obtain⟨h1,h2,h3,h4⟩:=zr hj
 have hl:=r.length
 have hn:=pj
 have I':Inv X pins σ (upd H p (.lst (xs.set j v))) {s with heap:=s.heap.update p (Obj.mapSeq (·.setIfInBounds j u))}:=
  I.GO hp ho (xf its n j u) (r.set rv j) (by rw[List.length_set];exact hz) s.toks
 by_cases h0:0≤k
 ·have hk:k.toNat=j:=by
   rw[seqIndex_of h0 h4] at h1
   exact Option.some.inj h1
  exact PySem.W.ki_setAt ho h0 (by omega) (by rw[List.size_toArray,←hl];exact h4) (by rw[hk];exact⟨_,I',q⟩)
 ·have hk:(k+(its.toArray.size:Int)).toNat=j:=by
   rw[seqIndex_neg (by omega) h3] at h1
   rw[List.size_toArray,←hl]
   exact Option.some.inj h1
  exact PySem.W.ki_setBack ho (by omega) (by rw[List.size_toArray,←hl];exact h3) (by omega) (by rw[hk];exact⟨_,I',q⟩)
theorem uJ(lo hi:Option Int)(n:Nat):(sliceBounds lo hi none n).1=((HT.gM n 0 lo:Nat):Int)∧(sliceBounds lo hi none n).2.1=((HT.gM n n hi:Nat):Int)∧(sliceBounds lo hi none n).2.2=1:=by
 refine⟨?_,?_,rfl⟩
 ·cases lo with
  | none=>simp [sliceBounds,HT.gM]
  | some i=>
    simp only[sliceBounds,HT.gM,Option.getD_none,show(1:Int) > 0 by decide,if_true]
    by_cases h:i < 0
    ·simp only[h,if_true] <;> omega
    ·simp only[h,if_false] <;> omega
 ·cases hi with
  | none=>simp [sliceBounds,HT.gM]
  | some i=>
    simp only[sliceBounds,HT.gM,Option.getD_none,show(1:Int) > 0 by decide,if_true]
    by_cases h:i < 0
    ·simp only[h,if_true] <;> omega
    ·simp only[h,if_false] <;> omega
theorem si(its:List Value)(lo hi:Option Int):slicePick its.toArray lo hi none=((its.drop (HT.gM its.length 0 lo)).take (HT.gM its.length its.length hi - HT.gM its.length 0 lo)).toArray:=by
 obtain⟨h1,h2,h3⟩:=uJ lo hi its.toArray.size
 unfold slicePick
 rw[h1,h2,h3]
 simp only[sliceRange_one,pick_run,List.size_toArray] <;> rfl
noncomputable def Jw(K:PySem.W.Frag):V→Option Int→Option Int→Hp→VK→Prop:=fun x lo hi H Q=>∃a xs,x= .ref a∧mH K H a xs∧∀p,H p=none→Q (.ref p) (upd H p (.lst (wM xs lo hi)))
theorem Es:E4 X (Jw X.K):=by
 intro pins s σ H x v vl vu lo hi sl Q I rx hs pl pu h
 obtain⟨a,xs,rfl,hx,q⟩:=h
 cases rx
 obtain⟨its,r,ht,hz⟩:=I.list hx
 have hlen:=r.length
 refine⟨"list",_,slot_list_getitem.lookup,ht.isList.typeIs,?_⟩
 refine wpAny_getItem_list_slice ht.isList hs pl pu .none (by simp) ?_ (by rw[List.size_toArray] <;> omega)
 rw[si,←hlen]
 refine⟨.ref s.heap.objs.size,_,I.laid (t':=s.toks) (o:= .lst (wM xs lo hi)) (fun b ob q=>Heap.get?_push_of_some _ q) (Nat.le_refl _) ?_,rfl,q _ (I.hok.fresh (Nat.le_refl _))⟩
 exact⟨Nat.le_trans (pJ xs lo hi) hz,_,0,(r.drop (HT.gM xs.length 0 lo)).take (HT.gM xs.length xs.length hi - HT.gM xs.length 0 lo),Heap.get?_push_size _ rfl⟩
noncomputable def k8:V→Bool
 | .di=>true
 | .bl _=>true
 | .int _=>true
 | .str _=>true
 | _=>false
noncomputable def Fc:V→V→Bool
 | .di, .di=>true
 | .bl a, .bl b=>a==b
 | .bl a, .int b=>(if a then 1 else 0)==b
 | .int a, .bl b=>a==(if b then 1 else 0)
 | .int a, .int b=>a==b
 | .str a, .str b=>a==b
 | _,_=>false
theorem Hc{A:Around}{s:Shared}{y x:V}{u v:Value}(ry:RelV y u)(rx:RelV x v)(fy:k8 y=true)(fx:k8 x=true):SeqAt.EqAt A s u v (Fc y x):=by
 cases y with
 | di=>
   cases ry
   cases x with
   | di=>cases rx;exact SeqAt.EqAt.same _
   | bl b=>cases rx;exact SeqAt.EqAt.none_bool b
   | int b=>obtain⟨t,rfl⟩:=rx;exact SeqAt.EqAt.none_int b t
   | str b=>obtain⟨t,rfl⟩:=rx;exact SeqAt.EqAt.none_str b t
   | _=>exact absurd (show false=true from fx) Bool.false_ne_true
 | bl a=>
   cases ry
   cases x with
   | di=>cases rx;exact SeqAt.EqAt.bool_none a
   | bl b=>cases rx;exact SeqAt.EqAt.bool_bool a b
   | int b=>obtain⟨t,rfl⟩:=rx;exact SeqAt.EqAt.bool_int a b t
   | str b=>obtain⟨t,rfl⟩:=rx;exact SeqAt.EqAt.bool_str a b t
   | _=>exact absurd (show false=true from fx) Bool.false_ne_true
 | int a=>
   obtain⟨t',rfl⟩:=ry
   cases x with
   | di=>cases rx;exact SeqAt.EqAt.int_none a t'
   | bl b=>cases rx;exact SeqAt.EqAt.int_bool a t' b
   | int b=>obtain⟨t,rfl⟩:=rx;exact SeqAt.EqAt.int_int a t' b t
   | str b=>obtain⟨t,rfl⟩:=rx;exact SeqAt.EqAt.int_str a t' b t
   | _=>exact absurd (show false=true from fx) Bool.false_ne_true
 | str a=>
   obtain⟨t',rfl⟩:=ry
   cases x with
   | di=>cases rx;exact SeqAt.EqAt.str_none a t'
   | bl b=>cases rx;exact SeqAt.EqAt.str_bool a t' b
   | int b=>obtain⟨t,rfl⟩:=rx;exact SeqAt.EqAt.str_int a t' b t
   | str b=>obtain⟨t,rfl⟩:=rx;exact SeqAt.EqAt.str_str a t' b t
   | _=>exact absurd (show false=true from fx) Bool.false_ne_true
 | _=>exact absurd (show false=true from fy) Bool.false_ne_true
noncomputable def x5(x:V)(u:Value):Bool:=match u with
 | .none=>Fc .di x
 | .bool b=>Fc (.bl b) x
 | .int i _=>Fc (.int i) x
 | .str z _=>Fc (.str z) x
 | _=>false
theorem A1{x y:V}{u:Value}(r:RelV y u)(f:k8 y=true):x5 x u=Fc y x:=by
 cases y with
 | di=>cases r;rfl
 | bl b=>cases r;rfl
 | int i=>obtain⟨t,rfl⟩:=r;rfl
 | str z=>obtain⟨t,rfl⟩:=r;rfl
 | _=>exact absurd (show false=true from f) Bool.false_ne_true
theorem n9{x:V}:∀{xs:List V} {us:List Value},Vals xs us→xs.all k8=true→us.any (x5 x)=xs.any fun y=>Fc y x
 | _,_, .nil,_=>rfl
 | y ::xs,u ::us, .cons r t,f=>by
   rw[List.all_cons,Bool.and_eq_true] at f
   rw[List.any_cons,List.any_cons,A1 r f.1,n9 t f.2]
theorem lT{A:Around}{s:Shared}{x:V}{v:Value}(rx:RelV x v)(fx:k8 x=true):∀{xs:List V} {us:List Value},Vals xs us→xs.all k8=true→∀u∈us,SeqAt.EqAt A s u v (x5 x u)
 | _,_, .nil,_=>fun u hu=>by cases hu
 | y ::xs,u ::us, .cons r t,f=>fun u' hu=>by
   rw[List.all_cons,Bool.and_eq_true] at f
   rcases List.mem_cons.mp hu with rfl | hu
   ·rw[A1 r f.1];exact Hc r rx f.1 fx
   ·exact lT rx fx t f.2 u' hu
noncomputable def Fi(x:V)(xs:List V):Bool:=xs.any fun y=>Fc y x
noncomputable def JT(K:PySem.W.Frag)(neg:Bool):R2:=fun x y H Q=>∃p xs,y= .ref p∧(mH K H p xs∨pE K H p xs)∧k8 x=true∧xs.all k8=true∧Q (.bl (if neg then !Fi x xs else Fi x xs)) H
theorem Ao:lp X (compareOp .In) (JT X.K false):=by
 intro pins s σ H x y v u Q I rx ry h
 obtain⟨p,xs,rfl,hq,fx,fs,q⟩:=h
 cases ry
 rcases hq with hq | hq
 ·obtain⟨its,r,pl,hz⟩:=I.list hq
  refine SeqAt.in_listAt (x5 x) pl.isList (fun w hw=>lT rx fx r fs w (by simpa using hw)) ⟨.bl _,H,I,rfl,?_⟩
  rw[show its.toArray.any (x5 x)=its.any (x5 x) by simp,n9 r fs]
  exact q
 ·obtain⟨its,r,pl,hz⟩:=I.tuple hq
  refine SeqAt.in_tupleAt (x5 x) pl (fun w hw=>lT rx fx r fs w (by simpa using hw)) ⟨.bl _,H,I,rfl,?_⟩
  rw[show its.toArray.any (x5 x)=its.any (x5 x) by simp,n9 r fs]
  exact q
theorem ud:lp X (compareOp .NotIn) (JT X.K true):=by
 intro pins s σ H x y v u Q I rx ry h
 obtain⟨p,xs,rfl,hq,fx,fs,q⟩:=h
 cases ry
 rcases hq with hq | hq
 ·obtain⟨its,r,pl,hz⟩:=I.list hq
  refine SeqAt.notIn_listAt (x5 x) pl.isList (fun w hw=>lT rx fx r fs w (by simpa using hw)) ⟨.bl _,H,I,rfl,?_⟩
  rw[show its.toArray.any (x5 x)=its.any (x5 x) by simp,n9 r fs]
  exact q
 ·obtain⟨its,r,pl,hz⟩:=I.tuple hq
  refine SeqAt.notIn_tupleAt (x5 x) pl (fun w hw=>lT rx fx r fs w (by simpa using hw)) ⟨.bl _,H,I,rfl,?_⟩
  rw[show its.toArray.any (x5 x)=its.any (x5 x) by simp,n9 r fs]
  exact q
theorem nR:nX X (.type "list") (fun xs H Q=>∃p ys,xs=[.ref p]∧(mH X.K H p ys∨pE X.K H p ys)∧∀l,H l=none→Q (.ref l) (upd H l (.lst ys))):=by
 intro pins s σ H xs us Q I r h
 obtain⟨p,ys,rfl,hq,q⟩:=h
 obtain⟨u,rfl,rx⟩:=vals1 r
 cases rx
 have fin:∀(its:List Value),Vals ys its→ys.length≤sizeLine→∀(h':Heap) (c':Nat),(∀b o',s.heap.get? b=some o'→h'.get? b=some o')→
  h'.get? s.heap.objs.size=some {cls:= .type "list",dict:=none,data:= .seq its.toArray c',slots:=#[]}→EP X pins σ Q (.ref s.heap.objs.size) {s with heap:=h'}:=fun its r' hz h' c' kp e=>
  ⟨.ref s.heap.objs.size,_,I.laid (t':=s.toks) kp (Nat.le_refl _) (show dS X.prog X.w _ h' _ (.lst ys) from⟨hz,its,c',r',e⟩),rfl,q _ (I.hok.fresh (Nat.le_refl _))⟩
 rcases hq with hq | hq
 ·obtain⟨its,r',pl,hz⟩:=I.list hq
  have hlen:=r'.length
  obtain⟨o,ho,hc,n,hd⟩:=pl.isList
  exact call_list_seq p (.inl rfl) ho hc hd (fun h' c' kp e=>fin its r' hz h' c' kp e) (by simp only[List.size_toArray] <;> omega)
 ·obtain⟨its,r',pl,hz⟩:=I.tuple hq
  have hlen:=r'.length
  obtain⟨o,ho,hc,n,hd⟩:=pl
  exact call_list_seq p (.inr rfl) ho hc hd (fun h' c' kp e=>fin its r' hz h' c' kp e) (by simp only[List.size_toArray] <;> omega)
theorem r6:nX X (.type "tuple") (fun xs H Q=>∃p ys,xs=[.ref p]∧((mH X.K H p ys∧∀l,H l=none→Q (.ref l) (upd H l (.tup ys)))∨(pE X.K H p ys∧Q (.ref p) H))):=by
 intro pins s σ H xs us Q I r h
 obtain⟨p,ys,rfl,h⟩:=h
 obtain⟨u,rfl,rx⟩:=vals1 r
 cases rx
 rcases h with⟨hq,q⟩ | ⟨hq,q⟩
 ·obtain⟨its,r',pl,hz⟩:=I.list hq
  have hlen:=r'.length
  refine call_tuple_list pl.isList (fun h' kp=>?_) (by simp only[List.size_toArray] <;> omega)
  have I1:Inv X pins σ H {s with heap:=h'}:=I.kept (t':=s.toks) kp
  have I2:Inv X pins σ (upd H h'.objs.size (.tup ys)) {s with heap:=h'.push {cls:= .type "tuple",data:= .seq its.toArray}}:=
   I1.laid (t':=s.toks) (fun b o e=>Heap.get?_push_of_some _ e) (Nat.le_refl _) (show dS X.prog X.w _ _ _ (.tup ys) from⟨hz,its,r',IsTup.new _ _⟩)
  exact⟨.ref h'.objs.size,_,I2,rfl,q _ (I1.hok.fresh (Nat.le_refl _))⟩
 ·obtain⟨its,r',pl,hz⟩:=I.tuple hq
  exact call_tuple_same pl ⟨.ref p,H,I,rfl,q⟩
noncomputable def JK(K:PySem.W.Frag)(T:String)(x:V)(H:Hp):Prop:=match x with
 | .str _=>T="str"
 | .int _=>T="int"
 | .ref p=>(T="list"∧∃xs,mH K H p xs)∨(T="tuple"∧∃o,K.lookup p=some o∧o.cls= .type "tuple"∧o.dict=none)∨
    (T="dict"∧((∃kvs,H p=some (.dK kvs))∨∃kvs,H p=some (.dT kvs)))∨(T="set"∧∃S n,H p=some (.set S n))
 | _=>False
theorem FU{pins:List (Addr × Obj)}{σ:St}{H:Hp}{s:Shared}{T:String}{x:V}{v:Value}(I:Inv X pins σ H s)(r:RelV x v)(ty:JK X.K T x H) :
 s.TypeIs v T∧∀a,v= .ref a→∃ob,s.heap.get? a=some ob∧ob.dict=none:=by
 cases x with
 | str z=>
   obtain⟨t,rfl⟩:=r
   cases(show T="str" from ty)
   exact⟨typeIs_str s z t,fun _ e=>nomatch e⟩
 | int i=>
   obtain⟨t,rfl⟩:=r
   cases(show T="int" from ty)
   exact⟨typeIs_int s i t,fun _ e=>nomatch e⟩
 | ref p=>
   cases r
   rcases ty with⟨rfl,xs,hq⟩ | ⟨rfl,o,hk,hc,hd⟩ | ⟨rfl,hk⟩ | ⟨rfl,S,n,hk⟩
   ·obtain⟨its,_,pl,_⟩:=I.list hq
    refine⟨pl.isList.typeIs,fun a e=>?_⟩
    cases e
    obtain⟨o,n,e,c,hd,_⟩:=pl
    exact⟨o,e,hd⟩
   ·refine⟨⟨o,I.oM p o hk,hc⟩,fun a e=>?_⟩
    cases e
    exact⟨o,I.oM _ o hk,hd⟩
   ·have z:∃o,s.heap.get? p=some o∧o.ExactDict:=by
     rcases hk with⟨kvs,hk⟩ | ⟨kvs,hk⟩
     ·obtain⟨_,_,_,_,o,_,_,e,ex,_⟩:=I.hok p _ hk
      exact⟨o,e,ex⟩
     ·obtain⟨_,_,_,_,o,_,_,e,ex,_⟩:=I.hok p _ hk
      exact⟨o,e,ex⟩
    obtain⟨o,e,ex⟩:=z
    refine⟨⟨o,e,ex.1⟩,fun a e2=>?_⟩
    cases e2
    exact⟨o,e,ex.2.1⟩
   ·obtain⟨o,_,_,_,e,ex,_⟩:=I.hok p _ hk
    refine⟨⟨o,e,ex.1⟩,fun a e2=>?_⟩
    cases e2
    exact⟨o,e,ex.2.1⟩
 | _=>exact False.elim ty
noncomputable def L5(K:PySem.W.Frag)(T:String)(r:V→List V→Hp→VK→Prop)(to:TE):TE:=fun σ H Q=>to σ H fun x H1=>JK K T x H1∧r x [] H1 Q
noncomputable def Lp(K:PySem.W.Frag)(T:String)(r:V→List V→Hp→VK→Prop)(to:TE)(t:TA):TE:=fun σ H Q=>to σ H fun x H1=>JK K T x H1∧t σ H1 fun xs H2=>r x xs H2 Q
variable {o e:Expr} {es:List Expr} {to:TE} {t:TA} {name:Str} {apos cpos:Pos} {T id:String} {r:V→List V→Hp→VK→Prop}
theorem zp(pa:PlainAttrs T)(slot:Slot T name id)(hty:typeOf (.builtin id)=pure (.type "method_descriptor"))(hm:LK X id r)(ho:PE X o to)(ha:PA X (e ::es) t)
 (hbase:attributeBase o name X.env (eval o X.env)=eval o X.env:=by rfl)
 (hfew:((backTo cpos (starEach (e ::es) X.env)).all (fun x=>!x.1) && (backToKw cpos (keywordEach [] X.env)).all (fun x=>x.1.isSome)
   && decide ((e ::es).length+([]:List Keyword).length+(if([]:List Keyword).isEmpty then 0 else 1) < 30))=true:=by rfl)
 (hline:(apos.endLine==cpos.line)=true:=by rfl) (hs:starEach (e ::es) X.env=(false,eval e X.env) ::starEach es X.env:=by rfl) (hplain:(backTo cpos (starEach es X.env)).any (·.1)=false:=by rfl) :
 PE X (.Call (.Attribute o name apos) (e ::es) [] cpos) (Lp X.K T r to t):=by
 intro pins s σ H Q I h
 refine wpAny_Call_method_late hbase hfew hline rfl (eg (ho pins s σ H _ I h) fun v s1 ⟨x,H1,I1,r1,ty,q1⟩=>?_)
 obtain⟨h1,h2⟩:=FU I1 r1 ty
 refine⟨T,id,pa,slot,hty,h1,h2,?_⟩
 have hA:=ha cpos pins s1 σ H1 _ I1 q1
 rw[hs] at hA ⊢
 refine Calls.callWith_builtin (by show(false || (backTo cpos (starEach es X.env)).any (·.1))=false;rw [hplain] <;> rfl) (Calls.evalArgs_plain ?_)
 exact eg hA fun us s2 ⟨vs,H2,I2,r2,q2⟩=>hm pins s2 σ H2 x vs v us Q I2 r1 r2 q2
end
end L2
namespace L2
open PySem PySem.Spec PyProof.Rows
noncomputable def J5(X:Cx)(id:String)(r:V→List V→Hp→VK→Prop):Prop:=
 ∀(pins:List (Addr × Obj)) (s:Shared) (σ:St) (H:Hp) (x:V) (xs:List V) (v:Value) (us:List Value) (Q:VK),Inv X pins σ H s→RelV x v→Vals xs us→r x xs H Q→
  wpAny (model X.prog X.w) X.A (call (.builtin id) (v ::us)) (EP X pins σ Q) X.xe s
theorem Vals.one:∀{x:V} {us:List Value},Vals [x] us→∃u,us=[u]∧RelV x u
 | _,_, .cons r .nil=>⟨_,rfl,r⟩
theorem Vals.rep{xs:List V}{us:List Value}(h:Vals xs us):∀k:Nat,Vals (List.replicate k xs).flatten (List.replicate k us).flatten
 | 0=> .nil
 | k+1=>by
   rw[List.replicate_succ,List.replicate_succ,List.flatten_cons,List.flatten_cons]
   exact Vals.append h (Vals.rep h k)
theorem foldl_rep(its:List Value):∀(k:Nat) (acc:List Value),
 List.foldl (fun x1 x2=>x1++x2) acc.toArray (List.replicate k its.toArray)=(acc++(List.replicate k its).flatten).toArray
 | 0,acc=>by simp
 | k+1,acc=>by
   have e:acc.toArray++its.toArray=(acc++its).toArray:=by simp
   have e2:(acc++its)++(List.replicate k its).flatten=acc++(List.replicate (k+1) its).flatten:=by
    rw[List.replicate_succ,List.flatten_cons,List.append_assoc]
   rw[←e2,←foldl_rep its k (acc++its),←e,List.replicate_succ,List.foldl_cons]
section
variable {X:Cx} {pins:List (Addr × Obj)} {σ:St} {H:Hp} {s:Shared} {l b:Addr} {xs ys zs:List V}
theorem Inv.GI{its its':List Value}{n:Nat}{f:Array Value→Array Value}{t':Nat}(I:Inv X pins σ H s)(hH:H l=some (.lst xs))
 (e:s.heap.get? l=some {cls:= .type "list",data:= .seq its.toArray n}) (hf:f its.toArray=its'.toArray) (hv:Vals ys its') (hz:ys.length≤sizeLine) :
 Inv X pins σ (upd H l (.lst ys)) {s with heap:=s.heap.update l (Obj.mapSeq f),toks:=t'}:=by
 have q:=PySem.IsL.update e f
 rw[hf] at q
 refine I.write (x:=l) (e:=l) (by rw[hH];exact trivial) (.inl rfl) (fun b' u hb hu=>(Heap.get?_update_other s.heap (Obj.mapSeq f) (Ne.symm hb)).trans hu) ⟨_,q⟩ ?_
 exact⟨hz,its',_,hv,q⟩
theorem Inv.EG{its:List Value}{t':Nat}(I:Inv X pins σ H s)(hv:Vals ys its)(hz:ys.length≤sizeLine) :
 Inv X pins σ (upd H s.heap.objs.size (.lst ys)) {s with heap:=s.heap.push {cls:= .type "list",data:= .seq its.toArray},toks:=t'}:=
 I.laid (fun _ _ q=>Heap.get?_push_of_some _ q) (Nat.le_refl _) ⟨hz,its,0,hv,Heap.get?_push_size _ rfl⟩
theorem Inv.fresh(I:Inv X pins σ H s):H s.heap.objs.size=none:=I.hok.fresh (Nat.le_refl _)
theorem Inv.Ba(I:Inv X pins σ H s)(hH:H l=some (.lst xs)):xs.length≤sizeLine∧∃(its:List Value) (n:Nat),Vals xs its∧xs.length=its.length∧s.heap.get? l=some {cls:= .type "list",data:= .seq its.toArray n}:=by
 obtain⟨z,its,n,r,e⟩:=I.hok l _ hH
 exact⟨z,its,n,r,r.length,e⟩
theorem qH{n:Nat}(h:n≤sizeLine):Builtin.List.listTooLong n=false:=by
 unfold Builtin.List.listTooLong
 exact decide_eq_false (by omega)
end
section
variable {X:Cx}
noncomputable def Ex:V→List V→Hp→VK→Prop:=fun x vs H Q=>∃l xs y,x= .ref l∧vs=[y]∧H l=some (.lst xs)∧xs.length < sizeLine∧Q .di (upd H l (.lst (xs++[y])))
theorem oF:J5 X "list.append" Ex:=by
 intro pins s σ H x vs v us Q I rx rv h
 obtain⟨l,xs,y,rfl,rfl,hH,hz,q⟩:=h
 cases rx
 obtain⟨u,rfl,ru⟩:=rv.one
 obtain⟨z,its,n,r,hl,e⟩:=I.Ba hH
 refine call_meets F.slot_list_append ⟨_,e,rfl⟩ F.entry_list_append (F.args_list_append_2 _ _) (PySem.list_append l its.toArray n u (by rw[List.size_toArray];omega)) ⟨e,?_⟩
 refine⟨.di,_,I.GI (its':=its++[u]) hH e (by simp) (r.append (.cons ru .nil)) ?_,rfl,q⟩
 rw[List.length_append,List.length_singleton]
 omega
noncomputable def DP:V→List V→Hp→VK→Prop:=fun x vs H Q=>∃l b xs zs,x= .ref l∧vs=[.ref b]∧H l=some (.lst xs)∧H b=some (.lst zs)∧xs.length+zs.length≤sizeLine∧Q .di (upd H l (.lst (xs++zs)))
theorem Ac:J5 X "list.extend" DP:=by
 intro pins s σ H x vs v us Q I rx rv h
 obtain⟨l,b,xs,zs,rfl,rfl,hH,hB,hz,q⟩:=h
 cases rx
 obtain⟨u,rfl,ru⟩:=rv.one
 cases ru
 obtain⟨z,its,n,r,hl,e⟩:=I.Ba hH
 obtain⟨z2,its2,n2,r2,hl2,e2⟩:=I.Ba hB
 have hsz:its.toArray.size+its2.toArray.size≤sizeLine:=by rw[List.size_toArray,List.size_toArray];omega
 have hlong:¬(!its.toArray.isEmpty && Builtin.List.listTooLong (its.toArray.size+its2.toArray.size))=true:=by
  rw[qH hsz,Bool.and_false]
  exact Bool.false_ne_true
 refine call_meets F.slot_list_extend ⟨_,e,rfl⟩ F.entry_list_extend (F.args_list_extend_2 _ _)
  (AutoSeq1.list_extend_list_list_0 l its.toArray n b its2.toArray n2 hlong (by rw[List.size_toArray];omega) (by omega)) ⟨e,e2,?_⟩
 refine⟨.di,_,I.GI (its':=its++its2) hH e (by simp) (r.append r2) ?_,rfl,q⟩
 rw[List.length_append]
 omega
noncomputable def Lo:V→List V→Hp→VK→Prop:=fun x vs H Q=>∃l xs y,x= .ref l∧vs=[]∧H l=some (.lst xs)∧xs[xs.length - 1]? =some y∧Q y (upd H l (.lst xs.dropLast))
noncomputable def Kp:V→List V→Hp→VK→Prop:=fun x vs H Q=>∃l xs i k y,x= .ref l∧vs=[.int i]∧H l=some (.lst xs)∧ -(2 ^ 63)≤i∧i < 2 ^ 63∧seqIndex? i xs.length=some k∧xs[k]? =some y∧Q y (upd H l (.lst (xs.eraseIdx k)))
noncomputable def HK:V→List V→Hp→VK→Prop:=fun x vs H Q=>∃l xs,x= .ref l∧vs=[]∧H l=some (.lst xs)∧Q .di (upd H l (.lst xs.reverse))
noncomputable def J_:V→List V→Hp→VK→Prop:=fun x vs H Q=>∃l xs,x= .ref l∧vs=[]∧H l=some (.lst xs)∧Q .di (upd H l (.lst []))
noncomputable def L7:R2:=fun x y H Q=>∃l b xs zs,x= .ref l∧y= .ref b∧H l=some (.lst xs)∧H b=some (.lst zs)∧xs.length+zs.length≤sizeLine∧∀p,H p=none→Q (.ref p) (upd H p (.lst (xs++zs)))
noncomputable def J7:R2:=fun x y H Q=>∃l k xs,x= .ref l∧y= .int k∧H l=some (.lst xs)∧ -(2 ^ 63)≤k∧k < 2 ^ 63∧xs.length*k.toNat≤sizeLine∧
 ∀p,H p=none→Q (.ref p) (upd H p (.lst (List.replicate k.toNat xs).flatten))
theorem len_rep{α:Type}(xs:List α)(k:Nat):(List.replicate k xs).flatten.length=k*xs.length:=by
 induction k with
 | zero=>simp
 | succ k ih=>rw [List.replicate_succ,List.flatten_cons,List.length_append,ih,Nat.succ_mul,Nat.add_comm]
theorem GB:lp X (binaryOp .Mult) J7:=by
 intro pins s σ H x y v u Q I rx ry h
 obtain⟨l,k,xs,rfl,rfl,hH,h1,h2,hz,q⟩:=h
 cases rx
 obtain⟨t,rfl⟩:=ry
 obtain⟨z,its,n,r,hl,e⟩:=I.Ba hH
 have hlen:its.toArray.size*k.toNat≤sizeLine:=by rw[List.size_toArray,←hl];exact hz
 have hcap:¬its.toArray.size*k.toNat > (2 ^ 63 - 1) / 8:=by
  have:(sizeLine:Nat)≤(2 ^ 63 - 1) / 8:=by decide
  omega
 have hfit:¬(!Builtin.List.listFitsIndex k)=true:=by
  rw[fitsIndex_both h1 h2]
  exact Bool.false_ne_true
 have hlong:¬Builtin.List.listTooLong (its.toArray.size*k.toNat)=true:=by
  rw[qH hlen]
  exact Bool.false_ne_true
 have hnew:List.foldl (fun x1 x2=>x1++x2) #[] (List.replicate (if its.toArray.isEmpty=true then 0 else k.toNat) its.toArray)=(List.replicate k.toNat its).flatten.toArray:=by
  have f0:∀m:Nat,List.foldl (fun x1 x2=>x1++x2) #[] (List.replicate m its.toArray)=(List.replicate m its).flatten.toArray:=fun m=>by
   have:=foldl_rep its m []
   rw[List.nil_append] at this
   exact this
  rw[f0]
  cases its with
  | nil=>simp
  | cons a r'=>rw [if_neg (by simp)]
 refine wpAny_binaryOp_repeat_ref (T:="list") (U:="int") (by decide) ⟨_,e,rfl⟩ (fun s'=>typeIs_int s' k t) noFill_list_mul F.fills_int_mul F.slot_int_rmul repeat_list F.slot_int_index.lookup
  (call_meets F.slot_int_rmul (typeIs_int s k t) F.entry_int_rmul (F.args_int_rmul_2 _ _) (int___rmul___int_list k t l its.toArray n)
    ⟨e,rfl,⟨_,e,rfl⟩,call_meets F.slot_list_mul ⟨_,e,rfl⟩ F.entry_list_mul (F.args_list_mul_2 _ _) (AutoListH.list___mul___list_int_3 l its.toArray n k t hfit hcap hlong) ⟨e,?_⟩⟩)
 rw[hnew]
 exact⟨.ref _,_,I.EG (t':=s.toks) (r.rep k.toNat) (by rw[len_rep,Nat.mul_comm];exact hz),rfl,q _ I.fresh⟩
end
section
variable {prog:Program} {w:World} {A:Around} {E:Value→Shared→Prop} {s:Shared}
set_option maxRecDepth 100000 in
end
section
variable {X:Cx}
end
end L2
namespace Att
open PySem PySem.W PySem.Calls PyProof.Rows
theorem qa{P:Params}{h:Heap}:∀(ns:List Int) (vs:List Value),WellAll P h vs (ns.map WData.int)→IntsAre vs ns:=by
 intro ns
 induction ns with
 | nil=>
   intro vs w
   rw[List.map_nil] at w
   cases w
   exact .nil
 | cons n ns ih=>
   intro vs w
   rw[List.map_cons] at w
   cases w with
   | cons a b=>
     cases a
     exact .cons _ _ (ih _ b)
theorem z7{l:OpenLaw}{n:Nat}(hn:l.most=some n){P:Params}{h:Heap}{args:List WData}{vals:List Value}
 (hpre:l.row.toRowW.claim.pre args=true) (hwl:WellAll P h vals args) :
 ∃a vs ns,vals=[Value.ref a]∧args=[WData.list (ns.map WData.int)]∧h.get? a=some {cls:= .type "list",data:= .seq vs.toArray}∧IntsAre vs ns∧ns.length≤n:=by
 have hsh:WShape.hasAll [] args [.list .int]=true:=(pre_splitW hpre).1
 have hc:l.pre.holds [] {args:=args}=true:=(pre_splitW hpre).2
 obtain⟨d,r,rfl,h1,h2⟩:=hasAllW_cons hsh
 obtain rfl:=hasAllW_nil h2
 obtain⟨xs,rfl,h3⟩:=hasW_list h1
 obtain⟨ns,rfl⟩:=items_int h3
 have hlen:ns.length≤n:=by
  unfold OpenLaw.pre at hc
  have h4:(WTm.not (.lt (.lit (.int (n:Int))) (.len (.arg 0)))).holds [] {args:=[.list (ns.map .int)]}=true:=by
   have h4:=(holds_andW hc).1
   rw[hn] at h4
   exact h4
  have h5:=condW_of h4 (w_not (w_lt w_lit (w_len_list (w_arg rfl))))
  rw[List.length_map] at h5
  refine Nat.le_of_not_lt fun q=>?_
  have q':(n:Int) < ((ns.length:Nat):Int):=by omega
  first
   | (rw [decide_eq_true q'] at h5;exact absurd h5 (by decide))
   | (simp at h5;omega)
 cases hwl with
 | cons w1 w2=>
   cases w2
   cases w1 with
   | list ho hall=>exact⟨_,_,ns,rfl,rfl,ho,qa ns _ hall,hlen⟩
theorem zF(l:OpenLaw)(args:List WData):l.row.toRowW.claim.post args (.bool true) args=true:=
 postW_of (r:=l.row.toRowW) (X:=(true==true))
  (show WShape.has [] (.bool true) .bool=true by first | rfl | decide | simp [WShape.has,WShape.arms,WShape.armsAll])
  (show(WTm.eq .res (.lit (.bool true))).value [] {args:=args,res:=some (.bool true),after:=args}=some (.bool (true==true)) from w_eq_bool (w_res rfl) w_lit) rfl
theorem wR{l:OpenLaw}{n:Nat}{q:Program}{loose:List Str}{XP:(Str→Option Value)→Heap→Prop}{YP:World→Heap→Prop}{d:DefRec}
 (hn:l.most=some n) (hdf:d.params.defaults=[])
 (call:∀(w:World) (s₀ s₁:Shared) (mg mb:Str→Option Value) (fa:Addr) (o:Obj) (pm cd doc:Value) (a:Addr) (vs:List Value) (ns:List Int),
   Ground q loose [] XP w s₀ mg mb s₁.heap→YP w s₁.heap→
   s₁.heap.get? fa=some o→o.data= .func (docDef d.name d.params d.body d.scope pm cd doc)→s₁.heap.CodeRec cd d.name→mg d.name=some (.ref fa)→
   s₁.heap.get? a=some {cls:= .type "list",data:= .seq vs.toArray}→IntsAre vs ns→ns.length≤n→s₁.gens=#[]→
   codeAny (model l.prog w) callerA (.call (.ref fa) ⟨[.ref a],[]⟩) (fun r s'=>r= .ok (.ret (.bool true))∧OldK s₁.heap s'.heap∧s'.os=s₁.os∧AllBare s'.gens) s₁) :
 WalkO q loose XP YP l.row.toRowW d [] (fun f vs=>PySem.call f vs):=by
 intro w s₀ s₁ mg mb G Y fa o pm cd doc dV kV ho hd hcd hD hmg hg args vals as hpre hlay hrd hwl hlo
 obtain rfl:dV= .none:=Dflts.none hD hdf
 obtain rfl:kV= .none:=Dflts.noKw hD
 obtain⟨a,vs,ns,rfl,rfl,hobj,hints,hlen⟩:=z7 hn hpre hwl
 refine enter_call (codeAny_mono (call w s₀ s₁ mg mb fa o pm cd doc a vs ns G Y ho (fd_plain hd) hcd hmg hobj hints hlen hg) fun r s' hq=>?_)
 obtain⟨rfl,h2,h3,h4⟩:=hq
 exact⟨.inl ⟨.bool true, .bool true,[],rfl,fun _=>rfl, .bool true,zF l _,fun _=>⟨List.Pairwise.nil,fun _ hm=>(nomatch hm)⟩⟩,h2,h3,h4⟩
section
variable {prog:Program} {w:World} {A:Around} {E:Value→Shared→Prop} {s:Shared} {K:Frag}
noncomputable def JC(h:Heap):Heap:={h with objs:=#[]}
noncomputable def ledger(h:Heap)(L d:Addr):List (Addr × Obj):=(List.range h.objs.size).filterMap fun a=>if a=L∨a=d then none else(h.get? a).map fun o=>(a,o)
end
end Att
namespace L2
open PySem PySem.Spec PyProof.Rows
theorem sT:∀{vs:List Value} {ns:List Int},IntsAre vs ns→Vals (ns.map V.int) vs
 | _,_, .nil=> .nil
 | _,_, .cons n t h=> .cons ⟨t,rfl⟩ (sT h)
noncomputable def HL(H:Hp):Prop:=∀b,H b=none∨∃o xs,H b=some (.iH o (.lst xs))
end L2
namespace L2
open PySem PySem.Spec PyProof.Rows
noncomputable abbrev fX{K:PySem.W.Frag}{h:Heap}(_:K.In h):PySem.W.Frag:=K
end L2
namespace L2
open PySem PySem.Spec PyProof.Rows
noncomputable def inClass(s:Stmt)(j:Nat):Stmt:=match s with
 | .ClassDef _ _ _ body _ _ _ _ _ _ _=>body.getD j (.Pass ⟨0,0,0,0⟩)
 | _=> .Pass ⟨0,0,0,0⟩
noncomputable def ij(s:Stmt):Arguments:=match s with
 | .FunctionDef _ a _ _ _ _ _ _ _ _=>a
 | _=>{posonlyargs:=[],args:=[],vararg:=none,kwonlyargs:=[],kw_defaults:=[],kwarg:=none,defaults:=[]}
noncomputable def aq(s:Stmt):List Stmt:=match s with
 | .FunctionDef _ _ b _ _ _ _ _ _ _=>b
 | _=>[]
noncomputable def af(s:Stmt):Scope:=match s with
 | .FunctionDef _ _ _ _ _ _ sc _ _ _=>sc
 | _=>{kind:= .function,names:=[],isGenerator:=false,isCoroutine:=false}
noncomputable abbrev sC:B5:=fun _ _ _ _ _ _=>False
noncomputable abbrev E0:XK:=fun _ _ _=>False
theorem we{X:Cx}:Passes sC X E0:=fun _ _ _ _ _ _ _ h=>h.elim
structure y6 (K:PySem.W.Frag) (x qual:Str) (st:Stmt) (f:Addr) (fd:FuncData):Prop where
 ex:∃(oc:Value) (od:Option Addr) (kV doc pm:Value) (an:Option Addr) (cdv ct:Value) (osl:Array (Option Value)),
  fd=PySem.W.fnOf x qual (ij st) (aq st) (af st) .none kV doc pm an cdv ct∧K.lookup f=some ⟨oc,od, .func fd,osl⟩∧PySem.W.codeIn K cdv qual=true
 kp:PySem.W.keepIn K (.ref f)=true
section
variable {P:Program} {w:World} {K:PySem.W.Frag} {mg:Str→Option Value} {base:Heap}
theorem y6.ok{x qual:Str}{st:Stmt}{f:Addr}{fd:FuncData}{N ps:List Str}{k:Nat}{sp:Sp}(F:y6 K x qual st f fd)(S:ba N ps (af st))(len:∀vs H Q E,sp vs H Q E→vs.length=ps.length)
 (hbody:∀(cdv:Value) (A:Around) (outer:List Env) (s:Shared) (H:Hp) (vs:List V) (Q:VK) (E:XK),eS k (A.deeper (envOfC qual (af st) s.heap.objs.size f cdv))→sp vs H Q E→
   ∃t,u7 (qz sC P w K mg base N qual (af st) f cdv A outer s H E).En (aq st) t∧t {nx:=fun _ H'=>Q .di H',rt:=Q} (start N vs) H):iY P w K mg base sC (k+1) f fd ps sp:=by
 obtain⟨oc,od,kV,doc,pm,an,cdv,ct,osl,rfl,lk,hcd⟩:=F.ex
 refine I_ lk hcd S len fun A outer s H vs Q E hr hsp=>?_
 obtain⟨t,h,q⟩:=hbody cdv A outer s H vs Q E hr hsp
 exact⟨t,h.En,q⟩
theorem y6.binds{x qual:Str}{st:Stmt}{f:Addr}{fd:FuncData}{ps:List Str}(F:y6 K x qual st f fd)
 (h:∀(kV doc pm:Value) (an:Option Addr) (cdv ct:Value) (us:List Value),us.length=ps.length→bindArgs (PySem.W.fnOf x qual (ij st) (aq st) (af st) .none kV doc pm an cdv ct) ⟨us,[]⟩=pure (ps.zip us)):Binds K fd ps []:=by
 obtain⟨oc,od,kV,doc,pm,an,cdv,ct,osl,rfl,lk,hcd⟩:=F.ex
 exact .all (h kV doc pm an cdv ct)
theorem oI{x qual:Str}{st:Stmt}{f:Addr}{oc:Value}{od an:Option Addr}{osl:Array (Option Value)}{kV doc pm cdv ct:Value}(l:K.lookup f=some ⟨oc,od, .func (PySem.W.fnOf x qual (ij st) (aq st) (af st) .none kV doc pm an cdv ct),osl⟩)
 (c:PySem.W.codeIn K cdv qual=true) (k:PySem.W.keepIn K (.ref f)=true):y6 K x qual st f (PySem.W.fnOf x qual (ij st) (aq st) (af st) .none kV doc pm an cdv ct):=⟨⟨oc,od,kV,doc,pm,an,cdv,ct,osl,rfl,l,c⟩,k⟩
end
theorem Iv{A:Around}{k:Nat}(hr:eS k A):A.units+1 < cLine:=Nat.lt_of_le_of_lt (Nat.add_le_add_left (by decide:1≤64) _) hr.units
section
variable {X:Cx}
end
theorem BE{A B:Prop}(h:B):if false=true then A else B:=by
 rw[if_neg Bool.false_ne_true]
 exact h
theorem Cn{A B:Prop}(h:A):if true=true then A else B:=by
 rw[if_pos rfl]
 exact h
noncomputable def a_(H H':Hp):Prop:=∀b o,H b=some o→H' b=some o
theorem a_.refl(H:Hp):a_ H H:=fun _ _ h=>h
theorem a_.trans{H H1 H2:Hp}(a:a_ H H1)(b:a_ H1 H2):a_ H H2:=fun c o h=>b c o (a c o h)
theorem a_.free{H H':Hp}(e:a_ H H'){l:Addr}(h:H' l=Option.none):H l=Option.none:=by
 cases q:H l with
 | none=>rfl
 | some o=>
   rw[e l o q] at h
   cases h
section
variable {κ:Type} [DecidableEq κ]
end
end L2
end
section
set_option maxRecDepth 100000
set_option maxHeartbeats 4000000
namespace L2
open PySem PySem.Spec PyProof.Rows
noncomputable def pQ(cells:List (Str × Addr)):List (Str × NameKind)→List (Str × Addr)→List (Str × Addr)
 | [],acc=>acc
 | (n,k) ::r,acc=>pQ cells r (if k==NameKind.free then(n,(cells.lookup n).getD 0) ::acc else acc)
theorem kK{env:Env}:∀(names:List (Str × NameKind)) (acc:List (Str × Addr)),(∀y∈names,y.2= .free→∃c,env.cells.lookup y.1=some c)→
 (forIn names acc fun(x:Str × NameKind) (cs:List (Str × Addr))=>(match x with
   | (name,kind)=>if kind== .free then do let a ←cellOf env name;pure (ForInStep.yield ((name,a) ::cs)) else pure (ForInStep.yield cs):Sem (ForInStep (List (Str × Addr)))))=pure (pQ env.cells names acc)
 | [],acc,_=>by simp [pQ]
 | (n,k) ::r,acc,h=>by
   rw[List.forIn_cons]
   by_cases hk:k=NameKind.free
   ·subst hk
    obtain⟨c,hc⟩:=h (n, .free) List.mem_cons_self rfl
    have e:cellOf env n=pure c:=by unfold cellOf;rw [hc]
    simp only[beq_self_eq_true,if_true,e,pure_bind,pQ,hc,Option.getD_some]
    exact kK r _ fun y hy=>h y (List.mem_cons_of_mem _ hy)
   ·have hb:(k==NameKind.free)=false:=by simpa using hk
    simp only[hb,Bool.false_eq_true,if_false,pure_bind,pQ]
    exact kK r _ fun y hy=>h y (List.mem_cons_of_mem _ hy)
theorem kY{env:Env}{scope:Scope}(h:∀y∈scope.names,y.2= .free→∃c,env.cells.lookup y.1=some c):closureFor scope env=pure (pQ env.cells scope.names []):=by
 unfold closureFor
 have:=kK (env:=env) scope.names [] h
 simp only[bind_pure]
 exact this
theorem lA{cells:List (Str × Addr)}:∀(names:List (Str × NameKind)) (acc:List (Str × Addr)) {x:Str} {c:Addr},(pQ cells names acc).lookup x=some c→
 acc.lookup x=some c∨((x,NameKind.free)∈names∧c=(cells.lookup x).getD 0)
 | [],acc,x,c,h=> .inl h
 | (n,k) ::r,acc,x,c,h=>by
   rcases lA r _ h with q | ⟨q1,q2⟩
   ·by_cases hk:k=NameKind.free
    ·subst hk
     simp only[beq_self_eq_true,if_true] at q
     cases hx:x==n with
     | true=>
       have e:x=n:=by simpa using hx
       subst e
       rw[List.lookup_cons,hx] at q
       exact .inr ⟨List.mem_cons_self,(Option.some.inj q).symm⟩
     | false=>
       rw[List.lookup_cons,hx] at q
       exact .inl q
    ·have hb:(k==NameKind.free)=false:=by simpa using hk
     simp only[hb,Bool.false_eq_true,if_false] at q
     exact .inl q
   ·exact .inr ⟨List.mem_cons_of_mem _ q1,q2⟩
theorem vm{cells:List (Str × Addr)}:∀(names:List (Str × NameKind)) (acc:List (Str × Addr)) {x:Str},((x,NameKind.free)∈names∨∃c,acc.lookup x=some c)→∃c,(pQ cells names acc).lookup x=some c
 | [],acc,x,h=>by
   rcases h with h | h
   ·simp at h
   ·exact h
 | (n,k) ::r,acc,x,h=>by
   refine vm r _ ?_
   rcases h with h | ⟨c,h⟩
   ·rcases List.mem_cons.mp h with e | e
    ·cases e
     exact .inr ⟨(cells.lookup n).getD 0,by simp [List.lookup_cons]⟩
    ·exact .inl e
   ·by_cases hk:k=NameKind.free
    ·subst hk
     simp only[beq_self_eq_true,if_true]
     cases hx:x==n with
     | true=>exact .inr ⟨(cells.lookup n).getD 0,by rw[List.lookup_cons,hx]⟩
     | false=>exact .inr ⟨c,by rw[List.lookup_cons,hx];exact h⟩
    ·have hb:(k==NameKind.free)=false:=by simpa using hk
     simp only[hb,Bool.false_eq_true,if_false]
     exact .inr ⟨c,h⟩
noncomputable def bJ(X:Cx)(scope:Scope)(N':List Str)(fp:List Addr)(s:Shared)(H:Hp):Cx where
 prog:=X.prog
 w:=X.w
 K:=X.K
 mg:=X.mg
 base:=X.base
 A:=X.A
 N:=N'
 s₀:=s
 H₀:=H
 env:=compEnvC scope (pQ X.env.cells scope.names []) s.heap.objs.size X.env
 outer:=X.stack
 stack:=X.stack
 ex:=fp
 fn:=fun _=>false
 calm:=X.calm
 pn:=[]
 xe:=fun _ _=>False
structure b9 (X:Cx) (scope:Scope) (own:List Str) (kp:List Nat) (kn:List Str):Prop where
 kind:scope.kind= .function
 nocell:∀y∈scope.names,y.2≠ .cell
 nd:∀y∈scope.names,y.2= .local→scope.names.lookup y.1=some .local
 free:∀y∈scope.names,y.2= .free→X.env.kindOf y.1=some .cell∨X.env.kindOf y.1=some .free
 names:kn.length=kp.length
 at_:∀(j i:Nat) (x:Str),kp[j]? =some i→kn[j]? =some x→X.N[i]? =some x
 isfree:∀x∈kn,scope.names.lookup x=some .free
noncomputable def dE(own:List Str)(kp:List Nat)(σ:St):St:=List.replicate own.length none++kp.map fun i=>(σ[i]?).getD none
section
variable {X:Cx} {scope:Scope} {own:List Str} {kp:List Nat} {kn:List Str}
theorem fj{env:Env}:∀{names:List (Str × NameKind)} {x:Str} {k:NameKind},
 (names.map fun(n,k)=>if(k==NameKind.free && env.scope.kind== .function && env.kindOf n==some .cell) then(n,NameKind.cell) else(n,k)).lookup x=some k→
 names.lookup x=some k∨(k= .cell∧names.lookup x=some .free)
 | [],_,_,h=>by simp at h
 | (n,k) ::r,x,k',h=>by
   have ih:=@fj env r x k'
   have h:List.lookup x ((if(k==NameKind.free && env.scope.kind== .function && env.kindOf n==some .cell)=true then(n,NameKind.cell) else(n,k)) ::_)=some k':=h
   by_cases hc:(k==NameKind.free && env.scope.kind== .function && env.kindOf n==some .cell)=true
   ·rw[if_pos hc] at h
    have hkf:k= .free:=by
     simp only[Bool.and_eq_true,beq_iff_eq] at hc
     exact hc.1.1
    cases hx:x==n with
    | true=>
      rw[List.lookup_cons,hx] at h
      cases h
      exact .inr ⟨rfl,by rw[List.lookup_cons,hx,hkf]⟩
    | false=>
      rw[List.lookup_cons,hx] at h
      rw[List.lookup_cons,hx]
      exact ih h
   ·rw[if_neg hc] at h
    cases hx:x==n with
    | true=>
      rw[List.lookup_cons,hx] at h
      rw[List.lookup_cons,hx]
      exact .inl h
    | false=>
      rw[List.lookup_cons,hx] at h
      rw[List.lookup_cons,hx]
      exact ih h
theorem ni{pins:List (Addr × Obj)}{σ:St}{H:Hp}{s:Shared}(C:b9 X scope own kp kn)(I:Inv X pins σ H s):∀y∈scope.names,y.2= .free→∃c,X.env.cells.lookup y.1=some c:=fun y hy hf=>
 I.ok.has y.1 (C.free y hy hf)
theorem A7{pins:List (Addr × Obj)}{σ:St}{H:Hp}{s:Shared}{fp:List Addr}{h₁:Heap}{tk:Nat}(C:b9 X scope own kp kn)(I:Inv X pins σ H s)(hf:∀b∈fp,pT X pins H b)(hb:∀b∈fp,b < s.heap.objs.size)
 (hn:h₁.Ns s.heap.objs.size (fun _=>none)) (hk:∀b o,s.heap.get? b=some o→h₁.get? b=some o):Inv (bJ X scope (own++kn) fp s H) [] (dE own kp σ) H {s with heap:=h₁,toks:=tk}:=by
 have cl:∀x c,(pQ X.env.cells scope.names []).lookup x=some c→X.env.cells.lookup x=some c:=fun x c e=>by
  rcases lA scope.names [] e with q | ⟨q1,q2⟩
  ·simp at q
  ·obtain⟨c',hc'⟩:=ni C I (x, .free) q1 rfl
   have hc':X.env.cells.lookup x=some c':=hc'
   rw[hc'] at q2
   rw[hc',q2]
   rfl
 have clh:∀x,scope.names.lookup x=some .free→∃c,(pQ X.env.cells scope.names []).lookup x=some c:=fun x hx=>vm scope.names [] (.inl (PySem.mem_of_lookup hx))
 refine⟨⟨I.ok.mod,C.kind,I.ok.glob,I.ok.blt,Nat.le_refl _,fun x y c h1 h2=>I.ok.inj x y c (cl x c h1) (cl y c h2),fun x hx=>?_,fun x c h=>(by cases h),I.ok.hd,I.ok.frames, .inl rfl,fun b hb'=>⟨Nat.ne_of_lt (hb b hb'),fun x c e z=>(hf b hb').2.2.2.2.1 x c (cl x c e) z⟩,
  fun b o e=>I.bs b o e,Nat.le_trans I.ok.bsz I.sz,fun b o e hb'=>?_,fun b hb' hs=>?_,I.stack,I.y_⟩,
  rfl,I.bare,Un.kept hk,⟨_,hn,fun i x v h1 h2 h3=>?_⟩,fun x c e=>?_,I.hok.fresh (Nat.le_refl _),fun x c e=>I.freeC x c (cl x c e),fun p hp=>(by cases hp),I.hok.kept hk,?_⟩
 ·have hx:(relabel scope X.env).names.lookup x=some .cell∨(relabel scope X.env).names.lookup x=some .free:=hx
  rcases hx with hx | hx
  ·rcases fj hx with q | ⟨_,q⟩
   ·exact absurd rfl (C.nocell _ (PySem.mem_of_lookup q))
   ·exact clh x q
  ·rcases fj hx with q | ⟨q,_⟩
   ·exact clh x q
   ·cases q
 ·rcases(hf b hb').2.2.2.1 with z | z
  ·exact I.ok.noex b o e z
  ·exact absurd (Nat.lt_of_lt_of_le (Heap.lt_size (I.ok.bs b o e).1) z) (Nat.lt_irrefl _)
 ·rcases List.mem_cons.mp (I.x8 b hs) with z | z
  ·exact(hf b hb').2.1 z
  ·exact(hf b hb').2.2.1 z
 ·-- a kept name
  have h1:(own++kn)[i]? =some x:=h1
  have h2:(dE own kp σ)[i]? =some (some v):=h2
  unfold dE at h2
  by_cases hi:i < own.length
  ·rw[List.getElem?_append_left (by simpa using hi),List.getElem?_replicate] at h2
   split at h2 <;> cases h2
  ·rw[List.getElem?_append_right (by simpa using hi),List.length_replicate,List.getElem?_map] at h2
   rw[List.getElem?_append_right (by simpa using hi)] at h1
   cases e:kp[i - own.length]? with
   | none=>rw [e] at h2;cases h2
   | some j=>
     rw[e] at h2
     have h2:(σ[j]?).getD none=some v:=Option.some.inj h2
     have hj:X.N[j]? =some x:=C.at_ _ j x e h1
     have hσ:σ[j]? =some (some v):=by
      cases q:σ[j]? with
      | none=>rw [q] at h2;cases h2
      | some y=>rw [q] at h2;exact congrArg some h2
     have hfree:scope.names.lookup x=some .free:=C.isfree x (List.mem_of_getElem? h1)
     have hkind:=C.free (x, .free) (PySem.mem_of_lookup hfree) rfl
     obtain⟨m,hm,hl⟩:=I.loc
     obtain⟨u,r,l⟩:=hl j x v hj hσ (hkind.elim (fun q=>Or.inr (Or.inl q)) fun q=>Or.inr (Or.inr q))
     refine⟨u,r, .inr ⟨?_,?_⟩⟩
     ·have h3:(relabel scope X.env).names.lookup x=some .local∨(relabel scope X.env).names.lookup x=some .cell∨(relabel scope X.env).names.lookup x=some .free:=h3
      rcases h3 with q | q | q
      ·rcases fj q with z | ⟨z,_⟩
       ·rw[hfree] at z;cases z
       ·cases z
      ·exact .inl q
      ·exact .inr q
     ·rcases l with⟨k,_⟩ | ⟨_,c,hc,hcell⟩
      ·rcases hkind with q | q
       ·rw[show X.env.kindOf x=some .cell from q] at k;cases k
       ·rw[show X.env.kindOf x=some .free from q] at k;cases k
      ·obtain⟨c',hc'⟩:=clh x hfree
       have:=cl x c' hc'
       rw[hc] at this
       cases this
       obtain⟨o,ho,hd⟩:=hcell
       exact⟨c,hc',o,hk c o ho,hd⟩
 ·obtain⟨v,o,ho,hd⟩:=I.cell x c (cl x c e)
  exact⟨v,o,hk c o ho,hd⟩
 ·show(dE own kp σ).length=(own++kn).length
  unfold dE
  rw[List.length_append,List.length_replicate,List.length_map,List.length_append,C.names]
theorem qT{pins:List (Addr × Obj)}{σ σ':St}{H H':Hp}{s s':Shared}{fp:List Addr}{N':List Str}(I:Inv X pins σ H s)(hf:∀b∈fp,pT X pins H b)(J:Inv (bJ X scope N' fp s H) [] σ' H' s'):Inv X pins σ H' s':=
 I.Ip (ch:=fp) J.os J.base J.hok J.bare fun b hb=>⟨(hf b hb).2.2.2.1,(hf b hb).2.1,(hf b hb).2.2.2.2.1,(hf b hb).2.2.2.2.2⟩
end
noncomputable def oE(X:Cx)(ifs:List Expr)(t:TT):Prop:=
 ∀(pins:List (Addr × Obj)) (s:Shared) (σ:St) (H:Hp) (Q:Bool→Hp→Prop),Inv X pins σ H s→t σ H Q→
  wpAny (model X.prog X.w) X.A (forIn ifs true fun c r=>if r=true then do let ok ←isTrue c X.env (eval c X.env);pure (ForInStep.yield ok) else pure (ForInStep.yield r)) (TP X pins σ Q) X.xe s
noncomputable def JM:TT:=fun _ H Q=>Q true H
theorem vF{X:Cx}:oE X [] JM:=fun _ _ _ H _ I h=>wpAny_tests_nil ⟨H,I,h⟩
theorem wK{X:Cx}{c:Expr}{t:TT}(h:PT X c t):oE X [c] t:=fun pins s σ H Q I hq=>wpAny_tests_one (h pins s σ H Q I hq)
noncomputable def yB(wi:TI)(g:TG)(tc:TT)(te:TE)(own:List Str)(kp:List Nat):TE:=fun σ H Q=>wi σ H fun J H1=>∀D,H1 D=none→
 ∃W:Nat→Nat→List V→Hp→Prop,(∃m,W 0 m [] (upd H1 D (.lst [])))∧∀i m ys H,W i m ys H→
  (J.stop i H∧Q (.ref D) H)∨(J.go i H∧∀x H',J.yld i H x H'→g x (dE own kp σ) H' fun σ2 H2=>tc σ2 H2 fun c H3=>
    if c=true then te σ2 H3 fun y H4=>H4 D=some (.lst ys)∧ys.length < sizeLine∧∃m',m' < m∧W (i+1) m' (ys++[y]) (upd H4 D (.lst (ys++[y])))
    else ∃m',m' < m∧W (i+1) m' ys H3)
section
variable {X:Cx} {scope:Scope} {own:List Str} {kp:List Nat} {kn:List Str} {tg iter elt:Expr} {ifs:List Expr} {wi:TI} {g:TG} {tc:TT} {te:TE} {pos:Pos}
theorem wW{pins:List (Addr × Obj)}{σ:St}{H:Hp}{s:Shared}{fp:List Addr}{it D:Addr}{tn:Nat→Heap→Prop}{J:It}{Q:VK}{h₁:Heap}{tk:Nat}{R:Result→Shared→Prop}
 (hc:X.calm=true) (C:b9 X scope own kp kn) (I:Inv X pins σ H s) (hf:∀b∈fp,pT X pins H b) (hb:∀b∈fp,b < s.heap.objs.size) (T:Turn X.prog X.w X.K tg J fp it tn)
 (hg:PG (bJ X scope (own++kn) fp s H) tg g) (hi:oE (bJ X scope (own++kn) fp s H) ifs tc) (he:PE (bJ X scope (own++kn) fp s H) elt te)
 (hn:h₁.Ns s.heap.objs.size (fun _=>none)) (hk:∀b o,s.heap.get? b=some o→h₁.get? b=some o) (st:tn 0 s.heap)
 (W:Nat→Nat→List V→Hp→Prop) (w0:∃m,W 0 m [] H)
 (turn:∀i m ys H,W i m ys H→
   (J.stop i H∧Q (.ref D) H)∨(J.go i H∧∀x H',J.yld i H x H'→g x (dE own kp σ) H' fun σ2 H2=>tc σ2 H2 fun c H3=>
     if c=true then te σ2 H3 fun y H4=>H4 D=some (.lst ys)∧ys.length < sizeLine∧∃m',m' < m∧W (i+1) m' (ys++[y]) (upd H4 D (.lst (ys++[y])))
     else ∃m',m' < m∧W (i+1) m' ys H3))
 (hR:∀H' s' σ',Inv (bJ X scope (own++kn) fp s H) [] σ' H' s'→Q (.ref D) H'→R (.ok .next) s') :
 codeAny (model X.prog X.w) X.A (.compStart (.ListComp elt [⟨tg,iter,ifs,0⟩] scope pos) 0 (.ref it) (.ref D) (bJ X scope (own++kn) fp s H).env) R {s with heap:=h₁,toks:=tk}:=by
 have I1:Inv (bJ X scope (own++kn) fp s H) [] (dE own kp σ) H {s with heap:=h₁,toks:=tk}:=A7 C I hf hb hn hk
 have st1:tn 0 h₁:=T.keep _ _ _ st fun b _ o e=>hk b o e
 have fp1:∀{H':Hp} {p:List (Addr × Obj)},(∀b∈fp,H' b=none)→(∀b∈fp,∀q∈p,q.1≠b)→∀b∈fp,pT (bJ X scope (own++kn) fp s H) p H' b:=fun {H' p} hn hp b hb'=>
  ⟨hn b hb',(I1.ok.exf b hb').1,I1.ok.exfs b hb', .inl hb',fun x c e=>(I1.ok.exf b hb').2 x c e,fun q hq=>hp b hb' q hq⟩
 obtain⟨m0,w0⟩:=w0
 have loop:codeAny (model X.prog X.w) X.A (.compLoop (.ListComp elt [⟨tg,iter,ifs,0⟩] scope pos) 0 (.ref it) (.ref D) (bJ X scope (own++kn) fp s H).env) R {s with heap:=h₁,toks:=tk}:=by
  refine codeAny_loop rfl (fun n s'=>∃i ys H',Inv (bJ X scope (own++kn) fp s H) [] (dE own kp σ) H' s'∧tn i s'.heap∧(∀b∈fp,H' b=none)∧W i n ys H') (fun n s' hI=>?_) m0 ⟨0,[],H,I1,st1,fun b hb'=>(hf b hb').1,w0⟩
  obtain⟨i,ys,H3,I3,st3,fr3,w3⟩:=hI
  show wpAny _ _ ((compTurn (.ListComp elt [⟨tg,iter,ifs,0⟩] scope pos) 0 (.ref it) (.ref D) (bJ X scope (own++kn) fp s H).env).onRaise (fun x=>do noteFrame x (bJ X scope (own++kn) fp s H).env;theTreesLotGoes x)) _ _ s'
  refine wpAny_noted (wpAny_noRaise ?_)
  rw[compTurn_list]
  refine wpAny_bind (wpAny_standAt (wpAny_bind ?_))
  rcases turn i n ys H3 w3 with⟨stop,q⟩ | ⟨go,step⟩
  ·refine eg (T.done (bJ X scope (own++kn) fp s H) rfl rfl rfl hc i [] s' _ H3 _ I3 (fp1 fr3 (fun _ _ q hq=>by cases hq)) st3 stop) fun r s4 ⟨hr,I4⟩=>?_
   subst hr
   exact wpAny_pure (hR H3 s4 _ I4 q)
  ·refine eg (T.item (bJ X scope (own++kn) fp s H) rfl rfl rfl hc i [] s' _ H3 _ I3 (fp1 fr3 (fun _ _ q hq=>by cases hq)) st3 go) fun r s4 ⟨u,hr,h4⟩=>?_
   subst hr
   refine wpAny_bind (eg h4 fun _ s5 ⟨x,H5,I5,r5,y5,st5,fr5⟩=>?_)
   have I5':=I5.pinned (fp1 fr5 (fun _ _ q hq=>by cases hq)) (T.obj _ _ st5)
   have keepIt:∀{σ7:St} {H7:Hp} {s7:Shared},Inv (bJ X scope (own++kn) fp s H) ([]++nA fp s5.heap) σ7 H7 s7→tn (i+1) s7.heap∧∀b∈fp,H7 b=none:=fun {σ7 H7 s7} I7=>by
    refine⟨T.keep _ _ _ st5 fun b hb o e=>(I7.pin (b,o) (List.mem_append_right _ (List.mem_append_right _ (kA hb e)))).1,fun b hb=>?_⟩
    obtain⟨o,e,d⟩:=T.obj _ _ st5 b hb
    exact(I7.pin (b,o) (List.mem_append_right _ (List.mem_append_right _ (kA hb e)))).2.1
   have reset:∀{σ7:St} {H7:Hp} {s7:Shared},Inv (bJ X scope (own++kn) fp s H) ([]++nA fp s5.heap) σ7 H7 s7→Inv (bJ X scope (own++kn) fp s H) [] (dE own kp σ) H7 s7:=fun {σ7 H7 s7} I7=>by
    have I8:=I7.nV
    have hun:Un (Au X.stack) fp H H7 s.heap s7.heap:=I8.base
    have I9:Inv X pins σ H7 s7:=qT I hf I8
    refine⟨I8.ok,I8.os,I8.bare,I8.base,?_,I8.cell,I8.free,I8.freeC,I8.pin,I8.hok,I1.len⟩
    obtain⟨m,hm,_⟩:=I8.loc
    refine⟨m,hm,fun i x v h1 h2 h3=>?_⟩
    obtain⟨m1,hm1,hl1⟩:=I1.loc
    obtain⟨u1,r1,l1⟩:=hl1 i x v h1 h2 h3
    have h1:(own++kn)[i]? =some x:=h1
    have h2:(dE own kp σ)[i]? =some (some v):=h2
    unfold dE at h2
    by_cases hi:i < own.length
    ·rw[List.getElem?_append_left (by simpa using hi),List.getElem?_replicate] at h2
     split at h2 <;> cases h2
    ·rw[List.getElem?_append_right (by simpa using hi),List.length_replicate,List.getElem?_map] at h2
     rw[List.getElem?_append_right (by simpa using hi)] at h1
     cases e:kp[i - own.length]? with
     | none=>rw [e] at h2;cases h2
     | some j=>
       rw[e] at h2
       have h2:(σ[j]?).getD none=some v:=Option.some.inj h2
       have hj:X.N[j]? =some x:=C.at_ _ j x e h1
       have hσ:σ[j]? =some (some v):=by
        cases q:σ[j]? with
        | none=>rw [q] at h2;cases h2
        | some y=>rw [q] at h2;exact congrArg some h2
       have hfree:scope.names.lookup x=some .free:=C.isfree x (List.mem_of_getElem? h1)
       have hkind:=C.free (x, .free) (PySem.mem_of_lookup hfree) rfl
       obtain⟨m9,hm9,hl9⟩:=I9.loc
       obtain⟨u,r,l⟩:=hl9 j x v hj hσ (hkind.elim (fun q=>Or.inr (Or.inl q)) fun q=>Or.inr (Or.inr q))
       refine⟨u,r, .inr ?_⟩
       rcases l1 with⟨k,k2⟩ | ⟨k,c,hc,hcell⟩
       ·have k:(relabel scope X.env).names.lookup x=some .local:=k
        rcases fj k with z | ⟨z,_⟩
        ·rw[hfree] at z;cases z
        ·cases z
       ·refine⟨k,c,hc,?_⟩
        rcases l with⟨k',_⟩ | ⟨_,c',hc',hcell'⟩
        ·rcases hkind with q | q
         ·rw[show X.env.kindOf x=some .cell from q] at k';cases k'
         ·rw[show X.env.kindOf x=some .free from q] at k';cases k'
        ·have hcl:(pQ X.env.cells scope.names []).lookup x=some c:=hc
         rcases lA scope.names [] hcl with q | ⟨q1,q2⟩
         ·simp at q
         ·rw[hc'] at q2
          have q2:c=c':=q2
          rw[q2]
          exact hcell'
   have hmm:=hg ([]++nA fp s5.heap) s5 (dE own kp σ) H5 x u _ I5' r5 (step x H5 y5)
   refine wpAny_bind (eg hmm fun _ s6 ⟨σ6,H6,I6,q6⟩=>?_)
   refine wpAny_bind (eg (hi _ s6 σ6 H6 _ I6 q6) fun ok s7 ⟨H7,I7,q7⟩=>?_)
   cases ok with
   | false=>
     simp only[Bool.false_eq_true,if_false] at q7 ⊢
     obtain⟨m',hm',w7⟩:=q7
     obtain⟨a1,a2⟩:=keepIt I7
     exact wpAny_pure ⟨rfl,m',hm',i+1,ys,H7,reset I7,a1,a2,w7⟩
   | true=>
     simp only[if_true] at q7 ⊢
     refine wpAny_bind (wpAny_bind (eg (he _ s7 σ6 H7 _ I7 q7) fun yv s8 ⟨y,H8,I8,r8,hD,hlt,m',hm',w8⟩=>wpAny_bind ?_))
     obtain⟨a1,a2⟩:=keepIt I8
     refine eg (oF _ s8 σ6 H8 (.ref D) [y] (.ref D) [yv] (fun v H9=>v= .di∧H9=upd H8 D (.lst (ys++[y]))) I8 rfl (.cons r8 .nil) ⟨D,ys,y,rfl,rfl,hD,hlt,rfl,rfl⟩) fun _ s9 ⟨v9,H9,I9,_,_,e9⟩=>?_
     subst e9
     obtain⟨b1,b2⟩:=keepIt I9
     exact wpAny_pure (wpAny_pure ⟨rfl,m',hm',i+1,ys++[y],_,reset I9,b1,b2,w8⟩)
 exact codeAny_compStart_list loop (T.self _ _ _ _ _ st1 loop)
theorem zm(hc:X.calm=true)(C:b9 X scope own kp kn)(hi:PI X tg iter wi)(hg:∀fp s H,PG (bJ X scope (own++kn) fp s H) tg g)(hif:∀fp s H,oE (bJ X scope (own++kn) fp s H) ifs tc)
 (he:∀fp s H,PE (bJ X scope (own++kn) fp s H) elt te) (hs:∀x,foldedSetIterable iter X.env x=pure x:=by intro _;rfl):PE X (.ListComp elt [⟨tg,iter,ifs,0⟩] scope pos) (yB wi g tc te own kp):=by
 intro pins s σ H Q I h
 rw[eval_ListComp]
 refine wpAny_comprehension_free (use:=none) rfl hs (kY (ni C I)) C.kind C.nd (eg (hi pins s σ H _ I h) fun v s1 h1=>eg h1 fun itv s2 h2=>?_)
 obtain⟨it,fp,tn,J,H2,e,I2,T,st2,f2,q⟩:=h2
 subst e
 refine wpAny_newObj_type ?_
 have I3:Inv X pins σ (upd H2 s2.heap.objs.size (.lst [])) {s2 with heap:=s2.heap.push {cls:= .type "list",dict:=none,data:= .seq ([]:List Value).toArray}}:=I2.EG (its:=[]) (t':=s2.toks) .nil (Nat.zero_le _)
 obtain⟨W,w0,turn⟩:=q s2.heap.objs.size I2.fresh
 have fne:∀b∈fp,b < s2.heap.objs.size:=fun b hb=>let⟨o,e,_⟩:=T.obj _ _ st2 b hb;Heap.lt_size e
 have f3:∀b∈fp,pT X pins (upd H2 s2.heap.objs.size (.lst [])) b:=fun b hb=>⟨by rw[bq (Nat.ne_of_lt (fne b hb))];exact(f2 b hb).1,(f2 b hb).2⟩
 generalize hs3:({s2 with heap:=s2.heap.push {cls:= .type "list",dict:=none,data:= .seq ([]:List Value).toArray}}:Shared)=s3 at I3 ⊢
 have st3:tn 0 s3.heap:=by rw[←hs3];exact T.keep _ _ _ st2 fun b _ o e=>Heap.get?_push_of_some _ e
 have fne3:∀b∈fp,b < s3.heap.objs.size:=fun b hb=>by rw[←hs3];exact Nat.lt_of_lt_of_le (fne b hb) (by rw[Heap.size_push];exact Nat.le_succ _)
 refine wpAny_newFunctionEnv (fun y hy=>C.nocell y hy) (by intro y hy;simp at hy) (fun h₁ hns₁ hsb₁=>?_) C.kind
 have hk:∀b o,s3.heap.get? b=some o→h₁.get? b=some o:=fun b o e=>hsb₁.extBut b o (Nat.ne_of_lt (Heap.lt_size e)) (Heap.get?_push_of_some _ e)
 refine wW (D:=s2.heap.objs.size) hc C I3 f3 fne3 T (hg fp s3 _) (hif fp s3 _) (he fp s3 _) hns₁ hk st3 W w0 turn fun H' s' σ' J' hq=>?_
 have B:=qT I3 f3 J'
 obtain⟨m',hm',_⟩:=J'.loc
 refine⟨m',hm',fun h' sb=>⟨.ref s2.heap.objs.size,H',?_,rfl,hq⟩⟩
 have fC:=I3.qI (H':=H') (b:=s3.heap.objs.size) (Nat.le_refl _) J'.free
 exact B.turned (it:=s3.heap.objs.size) (t':=s'.toks) (fun b o hb e=>(sb.2 b hb).trans e) fC.1 fC.2.1 fC.2.2.2.1 fC.2.2.2.2.1 fC.2.2.2.2.2
theorem qL{i:Nat}{x:Str}{pos' spos:Pos}(hc:X.calm=true)(hN:X.N.Nodup)(hx:X.N[i]? =some x)(hxl:X.env.scope.names.lookup x=some .local)(C:b9 X scope own kp kn)(hi:PI X tg iter wi)
 (hg:∀fp s H,PG (bJ X scope (own++kn) fp s H) tg g) (hif:∀fp s H,oE (bJ X scope (own++kn) fp s H) ifs tc)
 (he:∀fp s H,PE (bJ X scope (own++kn) fp s H) elt te)
 (hsw:swapsWith (.ListComp elt [⟨tg,iter,ifs,0⟩] scope pos) (some (.Name x pos')) spos.line X.env=pure true:=by rfl)
 (hs:∀x,foldedSetIterable iter X.env x=pure x:=by intro _;rfl) :
 PS X (.Assign [.Name x pos'] (.ListComp elt [⟨tg,iter,ifs,0⟩] scope pos) spos) (z8 (yB wi g tc te own kp) (rT i)):=by
 intro pins s σ H D I h
 rw[exec_Assign_Name_used _ _ _ _ hsw]
 refine wpAny_bind (wpAny_standAt (wpAny_bind ?_))
 show wpAny _ X.A (do let _ ←comprehension (.ListComp elt [⟨tg,iter,ifs,0⟩] scope pos) scope X.env _ (newList []) false (eval iter X.env) (some (assign (.Name x pos') X.env))) _ _ s
 refine wpAny_bind (wpAny_mono (wpAny_comprehension_free (use:=some (assign (.Name x pos') X.env)) (Q:=fun _ s'=>SP X pins D .next s') rfl hs (kY (ni C I)) C.kind C.nd
  (eg (hi pins s σ H _ I h) fun v s1 h1=>eg h1 fun itv s2 h2=>?_)) (fun _ s' hq=>wpAny_pure (wpAny_pure hq)) fun _ _ e=>e)
 obtain⟨it,fp,tn,J,H2,e,I2,T,st2,f2,q⟩:=h2
 subst e
 refine wpAny_newObj_type ?_
 have I3:Inv X pins σ (upd H2 s2.heap.objs.size (.lst [])) {s2 with heap:=s2.heap.push {cls:= .type "list",dict:=none,data:= .seq ([]:List Value).toArray}}:=I2.EG (its:=[]) (t':=s2.toks) .nil (Nat.zero_le _)
 obtain⟨W,w0,turn⟩:=q s2.heap.objs.size I2.fresh
 have fne:∀b∈fp,b < s2.heap.objs.size:=fun b hb=>let⟨o,e,_⟩:=T.obj _ _ st2 b hb;Heap.lt_size e
 have f3:∀b∈fp,pT X pins (upd H2 s2.heap.objs.size (.lst [])) b:=fun b hb=>⟨by rw[bq (Nat.ne_of_lt (fne b hb))];exact(f2 b hb).1,(f2 b hb).2⟩
 generalize hs3:({s2 with heap:=s2.heap.push {cls:= .type "list",dict:=none,data:= .seq ([]:List Value).toArray}}:Shared)=s3 at I3 ⊢
 have st3:tn 0 s3.heap:=by rw[←hs3];exact T.keep _ _ _ st2 fun b _ o e=>Heap.get?_push_of_some _ e
 have fne3:∀b∈fp,b < s3.heap.objs.size:=fun b hb=>by rw[←hs3];exact Nat.lt_of_lt_of_le (fne b hb) (by rw[Heap.size_push];exact Nat.le_succ _)
 refine wpAny_newFunctionEnv (fun y hy=>C.nocell y hy) (by intro y hy;simp at hy) (fun h₁ hns₁ hsb₁=>?_) C.kind
 have hk:∀b o,s3.heap.get? b=some o→h₁.get? b=some o:=fun b o e=>hsb₁.extBut b o (Nat.ne_of_lt (Heap.lt_size e)) (Heap.get?_push_of_some _ e)
 refine wW (Q:=fun x H1=>rT i x σ H1 D.nx) (D:=s2.heap.objs.size) hc C I3 f3 fne3 T (hg fp s3 _) (hif fp s3 _) (he fp s3 _) hns₁ hk st3 W w0 turn fun H' s' σ' J' hq=>?_
 have B:=qT I3 f3 J'
 obtain⟨m',hm',_⟩:=J'.loc
 have fC:=I3.qI (H':=H') (b:=s3.heap.objs.size) (Nat.le_refl _) J'.free
 show wpAny _ X.A (assign (.Name x pos') X.env (.ref s2.heap.objs.size)) _ _ s'
 refine wpAny_assign_Name (tp B hN hx (.inl hxl) (v:= .ref s2.heap.objs.size) rfl (fun s4 I4 ⟨a,sb,ha⟩=>?_) (.inr hxl))
 have ha':s3.heap.objs.size≠a:=by
  rcases ha with rfl | z
  ·exact fC.2.1
  ·exact fun e=>fC.2.2.2.2.1 x a z e.symm
 refine⟨m',hm'.sameBut sb ha',fun h' sb'=>⟨_,H',?_,hq⟩⟩
 exact I4.turned (it:=s3.heap.objs.size) (t':=s4.toks) (fun b o hb e=>(sb'.2 b hb).trans e) fC.1 fC.2.1 fC.2.2.2.1 fC.2.2.2.2.1 fC.2.2.2.2.2
end
end L2
end
section
set_option maxRecDepth 100000
set_option maxHeartbeats 4000000
namespace L2
open PySem PySem.Spec PyProof.Rows
inductive D where
 | di | bl (b:Bool) | int (i:Int) | str (x:Str) | lst (ds:List D) | tup (ds:List D) | dct (ks:List Key) (ds:List D)
inductive R (α:Type) where
 | ok (a:α) | ex (c:Nat) | no
noncomputable def R.bind{α β:Type}:R α→(α→R β)→R β
 | .ok a,f=>f a
 | .ex c,_=> .ex c
 | .no,_=> .no
theorem R.ao{α β:Type}{r:R α}{f:α→R β}{b:β}(h:r.bind f= .ok b):∃a,r= .ok a∧f a= .ok b:=by
 cases r with
 | ok a=>exact⟨a,rfl,h⟩
 | ex c=>cases h
 | no=>cases h
@[simp] theorem R.aY{α β:Type}(a:α)(f:α→R β):(R.ok a).bind f=f a:=rfl
noncomputable def R.bV{α:Type}(c:Bool)(r:R α):R α:=if c then r else .no
theorem R.bo{α:Type}{c:Bool}{r:R α}{a:α}(h:R.bV c r= .ok a):c=true∧r= .ok a:=by
 cases c with
 | true=>exact⟨rfl,h⟩
 | false=>cases h
@[simp] theorem R.ib{α:Type}(r:R α):R.bV true r=r:=rfl
noncomputable def qZ(K:PySem.W.Frag)(B:List Addr)(H:Hp)(a:Addr)(xs:List V):Prop:=
 (a ∉ B∧Rd H a (.lst xs))∨∃(its:List Value) (n:Nat),K.lookup a=some {cls:= .type "list",data:= .seq its.toArray n}∧xs.length≤sizeLine∧Vals xs its
noncomputable def tq(K:PySem.W.Frag)(B:List Addr)(H:Hp)(a:Addr)(xs:List V):Prop:=
 (a ∉ B∧Rd H a (.tup xs))∨∃(o:Obj) (its:Array Value) (n:Nat),K.lookup a=some o∧o.cls= .type "tuple"∧o.data= .seq its n∧its.size≤sizeLine∧Vals xs its.toList
theorem qZ.sq{K:PySem.W.Frag}{B:List Addr}{H:Hp}{a:Addr}{xs:List V}(h:qZ K B H a xs):mH K H a xs:=by
 rcases h with z | ⟨its,n,hk,hz,r⟩
 ·exact .inl z.2
 ·exact .inr ⟨_,its.toArray,n,hk,rfl,rfl,rfl,by rw[List.size_toArray,←r.length];exact hz,by simpa using r⟩
theorem tq.sq{K:PySem.W.Frag}{B:List Addr}{H:Hp}{a:Addr}{xs:List V}(h:tq K B H a xs):pE K H a xs:=h.elim (fun z=> .inl z.2) .inr
mutual
noncomputable def Rep(K:PySem.W.Frag)(B:List Addr)(H:Hp):D→V→Prop
 | .di,v=>v= .di
 | .bl b,v=>v= .bl b
 | .int i,v=>v= .int i
 | .str x,v=>v= .str x
 | .lst ds,v=>∃a xs,v= .ref a∧qZ K B H a xs∧aH K B H ds xs
 | .tup ds,v=>∃a xs,v= .ref a∧tq K B H a xs∧aH K B H ds xs
 | .dct ks ds,v=>∃(a:Addr) (kvs:List (Key × V)),v= .ref a∧(a ∉ B∧H a=some (.dK kvs))∧kvs.map (·.1)=ks∧aH K B H ds (kvs.map (·.2))
noncomputable def aH(K:PySem.W.Frag)(B:List Addr)(H:Hp):List D→List V→Prop
 | [],xs=>xs=[]
 | d ::ds,xs=>∃x r,xs=x ::r∧Rep K B H d x∧aH K B H ds r
end
noncomputable def dA(B:List Addr)(H:Hp)(B':List Addr)(H':Hp):Prop:=∀b o,H b=some o→b ∉ B→H' b=some o∧b ∉ B'
theorem dA.rd{B B':List Addr}{H H':Hp}(p:dA B H B' H'){a:Addr}{u:HO}(h:Rd H a u)(n:a ∉ B):Rd H' a u∧a ∉ B':=by
 rcases h with e | ⟨o,e⟩
 ·exact⟨.inl (p a _ e n).1,(p a _ e n).2⟩
 ·exact⟨.inr ⟨o,(p a _ e n).1⟩,(p a _ e n).2⟩
theorem dA.trans{B B' B'':List Addr}{H H' H'':Hp}(p:dA B H B' H')(q:dA B' H' B'' H''):dA B H B'' H'':=fun b o e n=>
 let⟨e1,n1⟩:=p b o e n;q b o e1 n1
theorem dA.same{B:List Addr}{H H':Hp}(s:a_ H H'):dA B H B H':=fun b o e n=>⟨s b o e,n⟩
theorem dA.refl(B:List Addr)(H:Hp):dA B H B H:=dA.same (a_.refl H)
theorem qZ.bt{K:PySem.W.Frag}{B B':List Addr}{H H':Hp}(p:dA B H B' H'){a:Addr}{xs:List V}(l:qZ K B H a xs):qZ K B' H' a xs:=
 l.elim (fun z=> .inl ⟨(p.rd z.2 z.1).2,(p.rd z.2 z.1).1⟩) .inr
mutual
theorem Rep.bt{K:PySem.W.Frag}{B B':List Addr}{H H':Hp}(p:dA B H B' H'):∀{d:D} {v:V},Rep K B H d v→Rep K B' H' d v
 | .di,_,h=>h
 | .bl _,_,h=>h
 | .int _,_,h=>h
 | .str _,_,h=>h
 | .lst ds,v,h=>by
   unfold Rep at h ⊢
   obtain⟨a,xs,e,l,r⟩:=h
   exact⟨a,xs,e,l.bt p,aH.bt p r⟩
 | .tup ds,v,h=>by
   unfold Rep at h ⊢
   obtain⟨a,xs,e,l,r⟩:=h
   exact⟨a,xs,e,l.elim (fun z=> .inl ⟨(p.rd z.2 z.1).2,(p.rd z.2 z.1).1⟩) .inr,aH.bt p r⟩
 | .dct ks ds,v,h=>by
   unfold Rep at h ⊢
   obtain⟨a,kvs,e,⟨n,l⟩,k,r⟩:=h
   exact⟨a,kvs,e,⟨(p a _ l n).2,(p a _ l n).1⟩,k,aH.bt p r⟩
theorem aH.bt{K:PySem.W.Frag}{B B':List Addr}{H H':Hp}(p:dA B H B' H'):∀{ds:List D} {xs:List V},aH K B H ds xs→aH K B' H' ds xs
 | [],_,h=>h
 | d ::ds,xs,h=>by
   unfold aH at h ⊢
   obtain⟨x,r,e,h1,h2⟩:=h
   exact⟨x,r,e,Rep.bt p h1,aH.bt p h2⟩
end
theorem Rep.same{K:PySem.W.Frag}{B:List Addr}{H H':Hp}{d:D}{v:V}(h:Rep K B H d v)(s:a_ H H'):Rep K B H' d v:=h.bt (dA.same s)
theorem aH.same{K:PySem.W.Frag}{B:List Addr}{H H':Hp}{d:List D}{v:List V}(h:aH K B H d v)(s:a_ H H'):aH K B H' d v:=h.bt (dA.same s)
theorem aH.nil{K:PySem.W.Frag}{B:List Addr}{H:Hp}:aH K B H [] []:=by unfold aH;rfl
theorem aH.cons{K:PySem.W.Frag}{B:List Addr}{H:Hp}{d:D}{ds:List D}{x:V}{xs:List V}(h:Rep K B H d x)(t:aH K B H ds xs):aH K B H (d ::ds) (x ::xs):=by
 unfold aH;exact⟨x,xs,rfl,h,t⟩
theorem aH.cw{K:PySem.W.Frag}{B:List Addr}{H:Hp}{d:D}{ds:List D}{xs:List V}(h:aH K B H (d ::ds) xs):∃x r,xs=x ::r∧Rep K B H d x∧aH K B H ds r:=by
 unfold aH at h;exact h
theorem aH.length{K:PySem.W.Frag}{B:List Addr}{H:Hp}:∀{ds:List D} {xs:List V},aH K B H ds xs→ds.length=xs.length
 | [],_,h=>by unfold aH at h;rw [h];rfl
 | d ::ds,xs,h=>by
   obtain⟨x,r,rfl,_,h2⟩:=h.cw
   simp [h2.length]
theorem aH.get{K:PySem.W.Frag}{B:List Addr}{H:Hp}:∀{ds:List D} {xs:List V} {i:Nat} {d:D},aH K B H ds xs→ds[i]? =some d→∃x,xs[i]? =some x∧Rep K B H d x
 | [],_,_,_,_,e=>by simp at e
 | d ::ds,xs,0,d',h,e=>by
   obtain⟨x,r,rfl,h1,h2⟩:=h.cw
   simp at e;subst e
   exact⟨x,rfl,h1⟩
 | d ::ds,xs,i+1,d',h,e=>by
   obtain⟨x,r,rfl,h1,h2⟩:=h.cw
   obtain⟨y,e1,e2⟩:=aH.get (i:=i) h2 (by simpa using e)
   exact⟨y,by simpa using e1,e2⟩
theorem aH.append{K:PySem.W.Frag}{B:List Addr}{H:Hp}:∀{ds es:List D} {xs ys:List V},aH K B H ds xs→aH K B H es ys→aH K B H (ds++es) (xs++ys)
 | [],_,_,_,h,t=>by unfold aH at h;subst h;exact t
 | d ::ds,es,xs,ys,h,t=>by
   obtain⟨x,r,rfl,h1,h2⟩:=h.cw
   exact aH.cons h1 (aH.append h2 t)
theorem aH.drop{K:PySem.W.Frag}{B:List Addr}{H:Hp}:∀{ds:List D} {xs:List V} (n:Nat),aH K B H ds xs→aH K B H (ds.drop n) (xs.drop n)
 | _,_,0,h=>h
 | [],_,n+1,h=>by unfold aH at h;subst h;exact aH.nil
 | d ::ds,xs,n+1,h=>by
   obtain⟨x,r,rfl,h1,h2⟩:=h.cw
   exact aH.drop n h2
theorem aH.take{K:PySem.W.Frag}{B:List Addr}{H:Hp}:∀{ds:List D} {xs:List V} (n:Nat),aH K B H ds xs→aH K B H (ds.take n) (xs.take n)
 | _,_,0,h=>aH.nil
 | [],_,n+1,h=>by unfold aH at h;subst h;exact aH.nil
 | d ::ds,xs,n+1,h=>by
   obtain⟨x,r,rfl,h1,h2⟩:=h.cw
   exact aH.cons h1 (aH.take n h2)
noncomputable def D.atom:D→Bool
 | .di=>true | .bl _=>true | .int _=>true | .str _=>true | _=>false
theorem Rep.atom{K:PySem.W.Frag}{B B':List Addr}{H H':Hp}{d:D}{v:V}(a:d.atom=true)(h:Rep K B H d v):Rep K B' H' d v:=by
 cases d <;> first | exact h | cases a
inductive Sl where
 | un | val (d:D) | bld (ds:List D)
noncomputable abbrev ax:=List Sl
structure eP (K:PySem.W.Frag) (Z B:List Addr) (H:Hp) (σ:St) (δ:ax):Prop where
 len:δ.length=σ.length
 bs:∀a∈B,∃o,H a=some o
 zb:∀a∈Z,a∈B
 val:∀(i:Nat) (d:D),δ[i]? =some (.val d)→∃v,σ[i]? =some (some v)∧Rep K B H d v
 bld:∀(i:Nat) (ds:List D),δ[i]? =some (.bld ds)→∃a xs,σ[i]? =some (some (.ref a))∧a∈B∧a ∉ Z∧H a=some (.lst xs)∧aH K B H ds xs
 dis:∀(i j:Nat) (a:Addr) (ds es:List D),δ[i]? =some (.bld ds)→δ[j]? =some (.bld es)→σ[i]? =some (some (.ref a))→σ[j]? =some (some (.ref a))→i=j
theorem eP.same{K:PySem.W.Frag}{Z B:List Addr}{H H':Hp}{σ:St}{δ:ax}(E:eP K Z B H σ δ)(s:a_ H H'):eP K Z B H' σ δ where
 len:=E.len
 bs:=fun a ha=>let⟨o,e⟩:=E.bs a ha;⟨o,s a o e⟩
 zb:=E.zb
 val:=fun i d e=>let⟨v,h1,h2⟩:=E.val i d e;⟨v,h1,h2.same s⟩
 bld:=fun i ds e=>let⟨a,xs,h1,h2,h3,h4,h5⟩:=E.bld i ds e;⟨a,xs,h1,h2,h3,s a _ h4,h5.same s⟩
 dis:=E.dis
noncomputable def uk(δ:ax):ax:=δ.map fun x=>match x with | .bld ds=> .val (.lst ds) | y=>y
theorem PE.imp{X:Cx}{e:Expr}{t t':TE}(h:PE X e t)(w:∀σ H Q,t' σ H Q→t σ H Q):PE X e t':=fun pins s σ H Q I hq=>h pins s σ H Q I (w σ H Q hq)
theorem PT.imp{X:Cx}{e:Expr}{t t':TT}(h:PT X e t)(w:∀σ H Q,t' σ H Q→t σ H Q):PT X e t':=fun pins s σ H Q I hq=>h pins s σ H Q I (w σ H Q hq)
theorem PA.imp{X:Cx}{e:List Expr}{t t':TA}(h:PA X e t)(w:∀σ H Q,t' σ H Q→t σ H Q):PA X e t':=fun pos pins s σ H Q I hq=>h pos pins s σ H Q I (w σ H Q hq)
theorem PS.imp{X:Cx}{e:Stmt}{t t':TS}(h:PS X e t)(w:∀D σ H,t' D σ H→t D σ H):PS X e t':=fun pins s σ H D I hq=>h pins s σ H D I (w D σ H hq)
theorem u7.imp{X:Cx}{e:List Stmt}{t t':TS}(h:u7 X e t)(w:∀D σ H,t' D σ H→t D σ H):u7 X e t':=fun pins s σ H D I hq=>h pins s σ H D I (w D σ H hq)
theorem PG.imp{X:Cx}{e:Expr}{t t':TG}(h:PG X e t)(w:∀v σ H Q,t' v σ H Q→t v σ H Q):PG X e t':=fun pins s σ H v u Q I r hq=>h pins s σ H v u Q I r (w v σ H Q hq)
theorem PI.imp{X:Cx}{tg e:Expr}{t t':TI}(h:PI X tg e t)(w:∀σ H Q,t' σ H Q→t σ H Q):PI X tg e t':=fun pins s σ H Q I hq=>h pins s σ H Q I (w σ H Q hq)
noncomputable abbrev FD:=ax→R D
noncomputable def tD(K:PySem.W.Frag)(f:FD):TE:=fun σ H Q=>∃Z B δ d,eP K Z B H σ δ∧f δ= .ok d∧∀v H',a_ H H'→Rep K B H' d v→Q v H'
noncomputable def tN(K:PySem.W.Frag)(f:ax→R (List D)):TE:=fun σ H Q=>∃Z B δ ds,eP K Z B H σ δ∧f δ= .ok ds∧∀a xs H',a_ H H'→H a=none→H' a=some (.lst xs)→aH K (a ::B) H' ds xs→Q (.ref a) H'
noncomputable def G9(K:PySem.W.Frag)(f:ax→R Bool):TT:=fun σ H Q=>∃Z B δ b,eP K Z B H σ δ∧f δ= .ok b∧∀H',a_ H H'→Q b H'
noncomputable def K7(K:PySem.W.Frag)(f:ax→R (List D)):TA:=fun σ H Q=>∃Z B δ ds,eP K Z B H σ δ∧f δ= .ok ds∧∀vs H',a_ H H'→aH K B H' ds vs→Q vs H'
noncomputable abbrev PD(X:Cx)(e:Expr)(f:FD):Prop:=PE X e (tD X.K f)
noncomputable abbrev PN(X:Cx)(e:Expr)(f:ax→R (List D)):Prop:=PE X e (tN X.K f)
noncomputable abbrev PB(X:Cx)(e:Expr)(f:ax→R Bool):Prop:=PT X e (G9 X.K f)
noncomputable abbrev CU(X:Cx)(es:List Expr)(f:ax→R (List D)):Prop:=PA X es (K7 X.K f)
section
variable {X:Cx}
noncomputable def eNew(f:ax→R (List D)):FD:=fun δ=>(f δ).bind fun ds=> .ok (.lst ds)
theorem Hh{e:Expr}{f:ax→R (List D)}(h:PN X e f):PD X e (eNew f):=h.imp fun σ H Q ⟨Z,B,δ,d,E,hf,q⟩=>by
 obtain⟨ds,h1,h2⟩:=R.ao hf
 cases h2
 refine⟨Z,B,δ,ds,E,h1,fun a xs H' s n e r=>q _ H' s ?_⟩
 unfold Rep
 refine⟨a,xs,rfl, .inl ⟨fun ha=>?_, .inl e⟩,r.bt fun b o e nb=>⟨e,fun hb=>nb (List.mem_cons_of_mem _ hb)⟩⟩
 obtain⟨o,ho⟩:=E.bs a ha
 rw[n] at ho;cases ho
theorem om{B:List Addr}{H:Hp}{p:Addr}{o:HO}(h:H p=none):dA B H (p ::B) (upd H p o):=fun b u e nb=>
 ⟨by rw[bq (cn e h)];exact e,fun hb=>by
   rcases List.mem_cons.mp hb with z | z
   ·exact cn e h z
   ·exact nb z⟩
noncomputable def qB(f:FD):FD:=fun δ=>(f (uk δ)).bind fun d=>R.bV d.atom (.ok d)
noncomputable def rH(f:ax→R Bool):ax→R Bool:=fun δ=>f (uk δ)
noncomputable def ae(i:Nat):FD:=fun δ=>match δ[i]? with | some (.val d)=> .ok d | _=> .no
noncomputable def eC(d:D):FD:=fun _=> .ok d
theorem G2(i:Nat){x:Str}{pos:Pos}(hN:X.N[i]? =some x:=by rfl)(hv:BP X.env.scope x:=by first | exact Or.inl rfl | exact Or.inr (Or.inl rfl) | exact Or.inr (Or.inr rfl))(hd:(x==("__debug__":Str))=false:=by decide)
 (hcd:(x==("__classdict__":Str))=false:=by decide):PD X (.Name x pos) (ae i):=(o7 hN hv hd hcd).imp fun σ H Q ⟨Z,B,δ,d,E,hf,q⟩=>by
 unfold ae at hf
 split at hf
 ·rename_i d' e
  cases hf
  obtain⟨v,h1,h2⟩:=E.val i d e
  exact⟨v,h1,q v H (a_.refl H) h2⟩
 ·cases hf
theorem rq{e:Expr}{v:V}{d:D}(h:PE X e (tC v))(r:∀B H,Rep X.K B H d v):PD X e (eC d):=h.imp fun σ H Q ⟨Z,B,δ,d',E,hf,q⟩=>by
 cases hf
 exact q v H (a_.refl H) (r B H)
theorem Hv{i j pos}:PD X (.Constant (.int i) j pos) (eC (.int i)):=rq qO fun _ _=>by unfold Rep;rfl
theorem Jd{b j pos}:PD X (.Constant (.bool b) j pos) (eC (.bl b)):=rq IW fun _ _=>by unfold Rep;rfl
theorem Gg{x j pos}:PD X (.Constant (.str x) j pos) (eC (.str x)):=rq qS fun _ _=>by unfold Rep;rfl
noncomputable def Glob(K:PySem.W.Frag)(mg:Str→Option Value)(x:Str)(d:D):Prop:=∃(u:Value) (v:V),mg x=some u∧RelV v u∧∀B H,Rep K B H d v
noncomputable def aW:ax→R (List D):=fun _=> .ok []
noncomputable def az(f:FD)(g:ax→R (List D)):ax→R (List D):=fun δ=>(f δ).bind fun d=>(g δ).bind fun ds=> .ok (d ::ds)
theorem D3:CU X [] aW:=gu.imp fun σ H Q ⟨Z,B,δ,d,E,hf,q⟩=>by
 cases hf
 exact q [] H (a_.refl H) aH.nil
theorem AK{e:Expr}{es:List Expr}{f:FD}{g:ax→R (List D)}(h:PD X e f)(t:CU X es g)(hs:starEach (e ::es) X.env=(false,eval e X.env) ::starEach es X.env:=by rfl):CU X (e ::es) (az f g):=
 (dJ h t hs).imp fun σ H Q ⟨Z,B,δ,d,E,hf,q⟩=>by
   obtain⟨d1,h1,h2⟩:=R.ao hf
   obtain⟨ds,h3,h4⟩:=R.ao h2
   cases h4
   exact⟨Z,B,δ,d1,E,h1,fun v H1 s1 r1=>⟨Z,B,δ,ds,E.same s1,h3,fun vs H2 s2 r2=>q _ H2 (s1.trans s2) (aH.cons (r1.same s2) r2)⟩⟩
noncomputable def fk(g:ax→R (List D)):FD:=fun δ=>(g δ).bind fun ds=>R.bV (decide (ds.length≤sizeLine)) (.ok (.tup ds))
noncomputable def dD(g:ax→R (List D)):ax→R (List D):=fun δ=>(g δ).bind fun ds=>R.bV (decide (ds.length≤sizeLine)) (.ok ds)
theorem aP{H:Hp}{p:Addr}{o:HO}(h:H p=none):a_ H (upd H p o):=fun b u e=>by rw[bq (cn e h)];exact e
theorem Hn{es:List Expr}{g:ax→R (List D)}{x1 pos}(h:CU X es g):PD X (.Tuple es x1 pos) (fk g):=(Bg h).imp fun σ H Q ⟨Z,B,δ,d,E,hf,q⟩=>by
 obtain⟨ds,h1,h2⟩:=R.ao hf
 obtain⟨hl,h3⟩:=R.bo h2
 cases h3
 refine⟨Z,B,δ,ds,E,h1,fun vs H1 s1 r1=>⟨by rw[←r1.length];exact of_decide_eq_true hl,fun p hp=>q _ _ (s1.trans (aP hp)) ?_⟩⟩
 unfold Rep
 refine⟨p,vs,rfl, .inl ⟨fun ha=>?_, .inl aT⟩,r1.same (aP hp)⟩
 obtain⟨o,ho⟩:=(E.same s1).bs p ha
 rw[hp] at ho;cases ho
theorem Hd{es:List Expr}{g:ax→R (List D)}{pos}(h:CU X es g):PN X (.List es pos) (dD g):=(Bl h).imp fun σ H Q ⟨Z,B,δ,d,E,hf,q⟩=>by
 obtain⟨ds,h1,h2⟩:=R.ao hf
 obtain⟨hl,h3⟩:=R.bo h2
 cases h3
 exact⟨Z,B,δ,_,E,h1,fun vs H1 s1 r1=>⟨by rw[←r1.length];exact of_decide_eq_true hl,fun p hp=>q p vs _ (s1.trans (aP hp)) (s1.free hp) aT (r1.bt (om hp))⟩⟩
noncomputable def k_(X:Cx)(f:Value→Value→Sem Value)(g:D→D→R D):Prop:=
 ∀(pins:List (Addr × Obj)) (s:Shared) (σ:St) (H:Hp) (B:List Addr) (da db d:D) (x y:V) (v u:Value),Inv X pins σ H s→(∀a∈B,∃o,H a=some o)→RelV x v→RelV y u→Rep X.K B H da x→Rep X.K B H db y→g da db= .ok d→
  wpAny (model X.prog X.w) X.A (f v u) (EP X pins σ fun z H'=>a_ H H'∧Rep X.K B H' d z) X.xe s
noncomputable def e2(g:D→D→R D)(fa fb:FD):FD:=fun δ=>(fa δ).bind fun a=>(fb δ).bind fun b=>g a b
theorem k_.r{f:Value→Value→Sem Value}{g:D→D→R D}(h:k_ X f g):lp X f (fun x y H Q=>∃B da db d,(∀a∈B,∃o,H a=some o)∧Rep X.K B H da x∧Rep X.K B H db y∧g da db= .ok d∧∀z H',a_ H H'→Rep X.K B H' d z→Q z H'):=by
 intro pins s σ H x y v u Q I rx ry ⟨B,da,db,d,hb,ha,hb',hg,q⟩
 exact eg (h pins s σ H B da db d x y v u I hb rx ry ha hb' hg) fun z s' ⟨zv,H',I',r',s1,r1⟩=>⟨zv,H',I',r',q zv H' s1 r1⟩
theorem F_{K:PySem.W.Frag}{g:D→D→R D}{fa fb:FD}{σ:St}{H:Hp}{Q:VK}(h:tD K (e2 g fa fb) σ H Q) :
 HG (fun x y H Q=>∃B da db d,(∀a∈B,∃o,H a=some o)∧Rep K B H da x∧Rep K B H db y∧g da db= .ok d∧∀z H',a_ H H'→Rep K B H' d z→Q z H') (tD K fa) (tD K fb) σ H Q:=by
 obtain⟨Z,B,δ,d,E,hf,q⟩:=h
 obtain⟨d1,h1,h2⟩:=R.ao hf
 obtain⟨d2,h3,h4⟩:=R.ao h2
 exact⟨Z,B,δ,d1,E,h1,fun v1 H1 s1 r1=>⟨Z,B,δ,d2,E.same s1,h3,fun v2 H2 s2 r2=>⟨B,d1,d2,d,(E.same (s1.trans s2)).bs,r1.same s2,r2,h4,fun z H' s3 r3=>q z H' (s1.trans (s2.trans s3)) r3⟩⟩⟩
theorem IG{op:Operator}{g:D→D→R D}{a b:Expr}{fa fb:FD}{pos:Pos}(ho:k_ X (binaryOp op) g)(ha:PD X a fa)(hb:PD X b fb):PD X (.BinOp a op b pos) (e2 g fa fb):=
 (yF ho.r ha hb).imp fun σ H Q h=>F_ h
theorem Fy{op:CmpOp}{g:D→D→R D}{a b:Expr}{fa fb:FD}{pos:Pos}(ho:k_ X (compareOp op) g)(ha:PD X a fa)(hb:PD X b fb)(hm:behindInMarks op b=false):PD X (.Compare a [op] [b] pos) (e2 g fa fb):=
 (yY ho.r ha hb hm).imp fun σ H Q h=>F_ h
noncomputable def b2(g:D→D→R D)(fa fb:FD):ax→R Bool:=fun δ=>(e2 g fa fb δ).bind fun d=>match d with | .bl b=> .ok b | _=> .no
theorem Ha{op:CmpOp}{g:D→D→R D}{a b:Expr}{fa fb:FD}{pos:Pos}(ho:k_ X (compareOp op) g)(ha:PD X a fa)(hb:PD X b fb)(hm:behindInMarks op b=false):PB X (.Compare a [op] [b] pos) (b2 g fa fb):=
 (zt ho.r ha hb hm).imp fun σ H Q ⟨Z,B,δ,b,E,hf,q⟩=>by
   obtain⟨d,h1,h2⟩:=R.ao hf
   cases d with
   | bl k=>
     cases h2
     exact F_ (g:=g) (Q:=fun x H'=>∃k,x= .bl k∧Q k H') ⟨Z,B,δ, .bl b,E,h1,fun v H' s r=>⟨b,by unfold Rep at r;exact r,q H' s⟩⟩
   | _=>cases h2
noncomputable def J3(g g':D→D→R D)(fa fb fc:FD):FD:=fun δ=>(fa δ).bind fun a=>(fb δ).bind fun b=>(g a b).bind fun r=>match r with
 | .bl true=>(fc δ).bind fun c=>g' b c
 | .bl false=> .ok (.bl false)
 | _=> .no
noncomputable def rG:D→R Bool
 | .di=> .ok false
 | .bl b=> .ok b
 | .int i=> .ok (i !=0)
 | .str x=>R.bV (decide (x.length≤sizeLine)) (.ok ((x.length:Int) !=0))
 | .lst ds=> .ok (!ds.isEmpty)
 | .tup ds=> .ok (!ds.isEmpty)
 | .dct _ _=> .no
noncomputable def iX(f:FD):ax→R Bool:=fun δ=>(f δ).bind rG
theorem aH.isEmpty{K:PySem.W.Frag}{B:List Addr}{H:Hp}{ds:List D}{xs:List V}(h:aH K B H ds xs):ds.isEmpty=xs.isEmpty:=by
 have:=h.length
 cases ds <;> cases xs <;> simp_all
theorem Cs{K:PySem.W.Frag}{B:List Addr}{H:Hp}{d:D}{v:V}{b:Bool}(r:Rep K B H d v)(h:rG d= .ok b):Dw K v H b:=by
 cases d with
 | di=>unfold Rep at r;subst r;cases h;exact rfl
 | bl k=>unfold Rep at r;subst r;cases h;exact rfl
 | int i=>unfold Rep at r;subst r;cases h;exact rfl
 | str x=>unfold Rep at r;subst r;obtain⟨h1,h2⟩:=R.bo h;cases h2;exact⟨of_decide_eq_true h1,rfl⟩
 | lst ds=>unfold Rep at r;obtain⟨a,xs,rfl,l,r⟩:=r;cases h;exact .inl ⟨xs,l.sq,by rw[r.isEmpty]⟩
 | tup ds=>unfold Rep at r;obtain⟨a,xs,rfl,l,r⟩:=r;cases h;exact .inr (.inl ⟨xs,l.sq,by rw[r.isEmpty]⟩)
 | dct _ _=>cases h
theorem Gs{a:Expr}{f:FD}(ha:PD X a f)(he:∀whole,isTrue a X.env whole=(do let v ←whole;standAt a.pos;holding [v] (truthy v)):=by intro _;rfl):PB X a (iX f):=
 (vd ha he).imp fun σ H Q ⟨Z,B,δ,b,E,hf,q⟩=>by
   obtain⟨d,h1,h2⟩:=R.ao hf
   exact⟨Z,B,δ,d,E,h1,fun v H' s r=>⟨b,Cs r h2,q H' s⟩⟩
noncomputable def xU(f g:ax→R Bool):ax→R Bool:=fun δ=>(f δ).bind fun b=>if b then g δ else .ok false
noncomputable def wX(f g:ax→R Bool):ax→R Bool:=fun δ=>(f δ).bind fun b=>if b then .ok true else g δ
noncomputable def ke(f:ax→R Bool):ax→R Bool:=fun δ=>(f δ).bind fun b=> .ok (!b)
noncomputable def Gz(X:Cx)(e:Expr)(f:ax→R Bool):Prop:=PW X e (G9 X.K f)
theorem Gz.pb{e:Expr}{f:ax→R Bool}(h:Gz X e f):PB X e f:=PW.pt h
theorem Ep{a:Expr}{f:ax→R Bool}{pos:Pos}(h:PB X a f):Gz X (.BoolOp .Or [a] pos) f:=Hw h
theorem FH{a b:Expr}{rest:List Expr}{f g:ax→R Bool}{pos:Pos}(ha:PB X a f)(hb:Gz X (.BoolOp .Or (b ::rest) pos) g):Gz X (.BoolOp .Or (a ::b ::rest) pos) (wX f g):=by
 intro wh pins s σ H Q I ⟨Z,B,δ,k,E,hf,q⟩
 refine HJ ha hb wh pins s σ H Q I ?_
 obtain⟨c,h1,h2⟩:=R.ao hf
 refine⟨Z,B,δ,c,E,h1,fun H1 s1=>?_⟩
 cases c with
 | true=>rw [if_pos rfl] at h2 ⊢;cases h2;exact q H1 s1
 | false=>rw [if_neg (by decide)] at h2 ⊢;exact⟨Z,B,δ,k,E.same s1,h2,fun H' s2=>q H' (s1.trans s2)⟩
theorem Fw{a:Expr}{f:ax→R Bool}{pos:Pos}(ha:PB X a f):PB X (.UnaryOp .Not a pos) (ke f):=(B7 ha).imp fun σ H Q ⟨Z,B,δ,k,E,hf,q⟩=>by
 obtain⟨c,h1,h2⟩:=R.ao hf
 cases h2
 exact⟨Z,B,δ,c,E,h1,fun H1 s1=>q H1 s1⟩
noncomputable def CQ(f:FD):ax→R Bool:=fun δ=>(f δ).bind fun d=>match d with | .bl b=> .ok b | _=> .no
noncomputable def xu(f g:FD):FD:=fun δ=>(CQ f δ).bind fun b=>if b then g δ else .ok (.bl false)
noncomputable def FK(f g:FD):FD:=fun δ=>(CQ f δ).bind fun b=>if b then .ok (.bl true) else g δ
noncomputable def yp(f:FD):FD:=fun δ=>(CQ f δ).bind fun b=> .ok (.bl (!b))
noncomputable def za(c:ax→R Bool)(f g:FD):FD:=fun δ=>(c δ).bind fun b=>if b then f δ else g δ
theorem HW{c a b:Expr}{fc:ax→R Bool}{f g:FD}{pos:Pos}(hc:PB X c fc)(ha:PD X a f)(hb:PD X b g):PD X (.IfExp c a b pos) (za fc f g):=(BX hc ha hb).imp fun σ H Q ⟨Z,B,δ,k,E,hf,q⟩=>by
 obtain⟨c,h1,h2⟩:=R.ao hf
 refine⟨Z,B,δ,c,E,h1,fun H1 s1=>?_⟩
 cases c with
 | true=>rw [if_pos rfl] at h2 ⊢;exact⟨Z,B,δ,k,E.same s1,h2,fun v H' s2 r2=>q v H' (s1.trans s2) r2⟩
 | false=>rw [if_neg (by decide)] at h2 ⊢;exact⟨Z,B,δ,k,E.same s1,h2,fun v H' s2 r2=>q v H' (s1.trans s2) r2⟩
noncomputable def gd(X:Cx)(f:Value)(g:List D→R D):Prop:=
 ∀(pins:List (Addr × Obj)) (s:Shared) (σ:St) (H:Hp) (B:List Addr) (ds:List D) (d:D) (xs:List V) (us:List Value),Inv X pins σ H s→(∀a∈B,∃o,H a=some o)→Vals xs us→aH X.K B H ds xs→g ds= .ok d→
  wpAny (model X.prog X.w) X.A (call f us) (EP X pins σ fun z H'=>a_ H H'∧Rep X.K B H' d z) X.xe s
noncomputable def br(g:List D→R D)(fs:ax→R (List D)):FD:=fun δ=>(fs δ).bind g
theorem gd.r{f:Value}{g:List D→R D}(h:gd X f g):nX X f (fun xs H Q=>∃B ds d,(∀a∈B,∃o,H a=some o)∧aH X.K B H ds xs∧g ds= .ok d∧∀z H',a_ H H'→Rep X.K B H' d z→Q z H'):=by
 intro pins s σ H xs us Q I rx ⟨B,ds,d,hb,hr,hg,q⟩
 exact eg (h pins s σ H B ds d xs us I hb rx hr hg) fun z s' ⟨zv,H',I',r',s1,r1⟩=>⟨zv,H',I',r',q zv H' s1 r1⟩
theorem yQ{K:PySem.W.Frag}{g:List D→R D}{fs:ax→R (List D)}{σ:St}{H:Hp}{Q:VK}(h:tD K (br g fs) σ H Q) :
 K7 K fs σ H fun vs H1=>∃B ds d,(∀a∈B,∃o,H1 a=some o)∧aH K B H1 ds vs∧g ds= .ok d∧∀z H',a_ H1 H'→Rep K B H' d z→Q z H':=by
 obtain⟨Z,B,δ,d,E,hf,q⟩:=h
 obtain⟨ds,h1,h2⟩:=R.ao hf
 exact⟨Z,B,δ,ds,E,h1,fun vs H1 s1 r1=>⟨B,ds,d,(E.same s1).bs,r1,h2,fun z H' s2 r2=>q z H' (s1.trans s2) r2⟩⟩
theorem CL{g:List D→R D}{x:Str}{id:String}{p pos:Pos}{e:Expr}{es:List Expr}{fs:ax→R (List D)}(hc:gd X (.builtin id) g)(hg:Gl X x)(hm:X.mg x=none)(hv:bootBuiltins x=some (.builtin id))(ha:CU X (e ::es) fs)(hn:x≠"__name__":=by decide)(hdb:(x==("__debug__":Str))=false:=by decide)
 (he:starEach (e ::es) X.env=(false,eval e X.env) ::starEach es X.env:=by rfl) (hpl:(backTo pos (starEach es X.env)).any (·.1)=false:=by rfl):PD X (.Call (.Name x p) (e ::es) [] pos) (br g fs):=
 (wx hc.r hg hm hv ha hn hdb he hpl).imp fun σ H Q h=>yQ h
theorem zS{g:List D→R D}{x:Str}{T:String}{p pos:Pos}{e:Expr}{es:List Expr}{fs:ax→R (List D)}(hc:gd X (.type T) g)(hg:Gl X x)(hm:X.mg x=none)(hv:bootBuiltins x=some (.type T))(ha:CU X (e ::es) fs)(hn:x≠"__name__":=by decide)(hdb:(x==("__debug__":Str))=false:=by decide)
 (he:starEach (e ::es) X.env=(false,eval e X.env) ::starEach es X.env:=by rfl) (hpl:(backTo pos (starEach es X.env)).any (·.1)=false:=by rfl):PD X (.Call (.Name x p) (e ::es) [] pos) (br g fs):=
 (pe hc.r hg hm hv ha hn hdb he hpl).imp fun σ H Q h=>yQ h
noncomputable def BY(K:PySem.W.Frag)(n:Nat)(g:List D→R D):Sp:=fun vs H Q _=>vs.length=n∧∃B ds d,(∀a∈B,∃o,H a=some o)∧aH K B H ds vs∧g ds= .ok d∧∀z H',a_ H H'→Rep K B H' d z→Q z H'
theorem Dn{g:List D→R D}{k n:Nat}{f:Addr}{fd:FuncData}{ps:List Str}{x:Str}{p pos:Pos}{e:Expr}{es:List Expr}{fs:ax→R (List D)}
 (F:iY X.prog X.w X.K X.mg X.base sC k f fd ps (BY X.K n g)) (hr:eS k X.A) (hg:Gl X x) (hm:X.mg x=some (.ref f)) (hk:PySem.W.keepIn X.K (.ref f)=true) (hb:Binds X.K fd ps []) (ha:CU X (e ::es) fs)
 (hn:∀δ ds,fs δ= .ok ds→ds.length=n) (hdb:(x==("__debug__":Str))=false:=by decide) (he:starEach (e ::es) X.env=(false,eval e X.env) ::starEach es X.env:=by rfl) (hpl:(backTo pos (starEach es X.env)).any (·.1)=false:=by rfl) :
 PD X (.Call (.Name x p) (e ::es) [] pos) (br g fs):=
 (uU F hr hg hm hk hb .nil we ha hdb he hpl).imp fun σ H Q ⟨Z,B,δ,d,E,hf,q⟩=>by
   obtain⟨ds,h1,h2⟩:=R.ao hf
   refine⟨Z,B,δ,ds,E,h1,fun vs H1 s1 r1=>?_⟩
   show BY X.K n g (vs++[]) H1 Q E0
   rw[List.append_nil]
   exact⟨by rw[←r1.length];exact hn δ ds h1,B,ds,d,(E.same s1).bs,r1,h2,fun z H' s2 r2=>q z H' (s1.trans s2) r2⟩
end
end L2
end
section
set_option maxRecDepth 100000
set_option maxHeartbeats 4000000
namespace L2
open PySem PySem.Spec PyProof.Rows
inductive Out where
 | nx (δ:ax) | rt (d:D)
noncomputable abbrev FS:=ax→R Out
structure Ev (Z B:List Addr) (H:Hp) (B':List Addr) (H':Hp):Prop where
 bt:dA B H B' H'
 zs:∀b o,H b=some o→b∈Z→H' b=some o∧b∈B'
theorem Ev.refl(Z B:List Addr)(H:Hp)(zb:∀a∈Z,a∈B):Ev Z B H B H:=⟨dA.refl B H,fun b o e z=>⟨e,zb b z⟩⟩
theorem Ev.trans{Z B B' B'':List Addr}{H H' H'':Hp}(a:Ev Z B H B' H')(b:Ev Z B' H' B'' H''):Ev Z B H B'' H'':=
 ⟨a.bt.trans b.bt,fun c o e z=>let⟨e1,_⟩:=a.zs c o e z;b.zs c o e1 z⟩
theorem Ev.same{Z B:List Addr}{H H':Hp}(zb:∀a∈Z,a∈B)(s:a_ H H'):Ev Z B H B H':=⟨dA.same s,fun b o e z=>⟨s b o e,zb b z⟩⟩
noncomputable def yU(K:PySem.W.Frag)(Z B:List Addr)(H:Hp)(D:Ends):Out→Prop
 | .nx δ'=>∀σ' B' H',Ev Z B H B' H'→eP K Z B' H' σ' δ'→D.nx σ' H'
 | .rt d=>∀v B' H',Ev Z B H B' H'→(∀a∈Z,a∈B')→Rep K B' H' d v→D.rt v H'
theorem yU.ev{K:PySem.W.Frag}{Z B B1:List Addr}{H H1:Hp}{D:Ends}{o:Out}(q:yU K Z B H D o)(ev:Ev Z B H B1 H1):yU K Z B1 H1 D o:=by
 cases o with
 | nx δ'=>exact fun σ' B' H' ev' E'=>q σ' B' H' (ev.trans ev') E'
 | rt d=>exact fun v B' H' ev' z r=>q v B' H' (ev.trans ev') z r
noncomputable def sD(K:PySem.W.Frag)(F:FS):TS:=fun D σ H=>∃Z B δ o,eP K Z B H σ δ∧F δ= .ok o∧yU K Z B H D o
noncomputable abbrev AB(X:Cx)(st:Stmt)(F:FS):Prop:=PS X st (sD X.K F)
noncomputable abbrev pS(X:Cx)(st:List Stmt)(F:FS):Prop:=u7 X st (sD X.K F)
section
variable {X:Cx}
noncomputable def mE:FS:=fun δ=> .ok (.nx δ)
noncomputable def fB(F G:FS):FS:=fun δ=>(F δ).bind fun o=>match o with | .nx δ'=>G δ' | .rt d=> .ok (.rt d)
theorem El:pS X [] mE:=ua.imp fun D σ H ⟨Z,B,δ,o,E,hf,q⟩=>by
 cases hf
 exact q σ B H (Ev.refl Z B H E.zb) E
theorem GA{K:PySem.W.Frag}{F G:FS}{D:Ends}{σ:St}{H:Hp}(h:sD K (fB F G) D σ H):Ic (sD K F) (sD K G) D σ H:=by
 obtain⟨Z,B,δ,o,E,hf,q⟩:=h
 obtain⟨o1,h1,h2⟩:=R.ao hf
 refine⟨Z,B,δ,o1,E,h1,?_⟩
 cases o1 with
 | nx δ1=>
   intro σ1 B1 H1 ev E1
   refine⟨Z,B1,δ1,o,E1,h2,?_⟩
   cases o with
   | nx δ2=>exact fun σ' B' H' ev' E'=>q σ' B' H' (ev.trans ev') E'
   | rt d=>exact fun v B' H' ev' z r=>q v B' H' (ev.trans ev') z r
 | rt d=>
   cases h2
   exact q
theorem AU{st:Stmt}{rest:List Stmt}{F G:FS}(h1:AB X st F)(h2:pS X rest G):pS X (st ::rest) (fB F G):=(rD h1 h2).imp fun D σ H h=>GA h
theorem D1{st:Stmt}{F:FS}(h1:AB X st F):pS X [st] F:=uu h1
theorem eP.set{K:PySem.W.Frag}{Z B:List Addr}{H:Hp}{σ:St}{δ:ax}(E:eP K Z B H σ δ){i:Nat}{d:D}{v:V}(hi:i < σ.length)(r:Rep K B H d v):eP K Z B H (σ.set i (some v)) (δ.set i (.val d)) where
 len:=by rw[List.length_set,List.length_set];exact E.len
 bs:=E.bs
 zb:=E.zb
 val:=fun j d' e=>by
  by_cases h:i=j
  ·subst h
   rw[List.getElem?_set_self (by rw[E.len];exact hi)] at e
   cases e
   exact⟨v,List.getElem?_set_self hi,r⟩
  ·rw[List.getElem?_set_ne h] at e ⊢
   exact E.val j d' e
 bld:=fun j ds e=>by
  by_cases h:i=j
  ·subst h
   rw[List.getElem?_set_self (by rw[E.len];exact hi)] at e
   cases e
  ·rw[List.getElem?_set_ne h] at e ⊢
   exact E.bld j ds e
 dis:=fun j k a ds es e1 e2 e3 e4=>by
  by_cases h:i=j
  ·subst h
   rw[List.getElem?_set_self (by rw[E.len];exact hi)] at e1
   cases e1
  ·by_cases h':i=k
   ·subst h'
    rw[List.getElem?_set_self (by rw[E.len];exact hi)] at e2
    cases e2
   ·rw[List.getElem?_set_ne h] at e1 e3
    rw[List.getElem?_set_ne h'] at e2 e4
    exact E.dis j k a ds es e1 e2 e3 e4
theorem eP.setB{K:PySem.W.Frag}{Z B:List Addr}{H:Hp}{σ:St}{δ:ax}(E:eP K Z B H σ δ){i:Nat}{ds:List D}{a:Addr}{xs:List V}(hi:i < σ.length)(hB:a∈B)(hZ:a ∉ Z)(hH:H a=some (.lst xs))(r:aH K B H ds xs)
 (new:∀j es,j≠i→δ[j]? =some (.bld es)→σ[j]?≠some (some (.ref a))):eP K Z B H (σ.set i (some (.ref a))) (δ.set i (.bld ds)) where
 len:=by rw[List.length_set,List.length_set];exact E.len
 bs:=E.bs
 zb:=E.zb
 val:=fun j d' e=>by
  by_cases h:i=j
  ·subst h
   rw[List.getElem?_set_self (by rw[E.len];exact hi)] at e
   cases e
  ·rw[List.getElem?_set_ne h] at e ⊢
   exact E.val j d' e
 bld:=fun j es e=>by
  by_cases h:i=j
  ·subst h
   rw[List.getElem?_set_self (by rw[E.len];exact hi)] at e
   cases e
   exact⟨a,xs,List.getElem?_set_self hi,hB,hZ,hH,r⟩
  ·rw[List.getElem?_set_ne h] at e ⊢
   exact E.bld j es e
 dis:=fun j k b ds1 es1 e1 e2 e3 e4=>by
  by_cases h:i=j
  ·subst h
   by_cases h':i=k
   ·exact h'
   ·rw[List.getElem?_set_self hi] at e3
    cases e3
    rw[List.getElem?_set_ne h'] at e2 e4
    exact absurd e4 (new k es1 (Ne.symm h') e2)
  ·by_cases h':i=k
   ·subst h'
    rw[List.getElem?_set_self hi] at e4
    cases e4
    rw[List.getElem?_set_ne h] at e1 e3
    exact absurd e3 (new j ds1 (Ne.symm h) e1)
   ·rw[List.getElem?_set_ne h] at e1 e3
    rw[List.getElem?_set_ne h'] at e2 e4
    exact E.dis j k b ds1 es1 e1 e2 e3 e4
noncomputable def jT(i:Nat)(f:FD):FS:=fun δ=>(f δ).bind fun d=>R.bV (decide (i < δ.length)) (.ok (.nx (δ.set i (.val d))))
theorem GF{K:PySem.W.Frag}{i:Nat}{f:FD}{D:Ends}{σ:St}{H:Hp}(h:sD K (jT i f) D σ H):z8 (tD K f) (rT i) D σ H:=by
 obtain⟨Z,B,δ,o,E,hf,q⟩:=h
 obtain⟨d,h1,h2⟩:=R.ao hf
 obtain⟨hi,h3⟩:=R.bo h2
 cases h3
 refine⟨Z,B,δ,d,E,h1,fun v H1 s1 r1=>?_⟩
 exact q _ B H1 (Ev.same E.zb s1) ((E.same s1).set (by rw[←E.len];exact of_decide_eq_true hi) r1)
theorem Ei{i:Nat}{x:Str}{e:Expr}{f:FD}{pos pos':Pos}(hN:X.N.Nodup)(hi:X.N[i]? =some x)(hx:Loc X.env.scope x)(he:PD X e f)(hs:swapsWith e (some (.Name x pos')) pos.line X.env=pure false:=by rfl)(hf:X.fn x=true∨X.env.scope.names.lookup x=some .local:=by first | exact .inl rfl | exact .inr rfl | assumption) :
 AB X (.Assign [.Name x pos'] e pos) (jT i f):=(xJ hN hi hx he hs hf).imp fun D σ H h=>GF h
noncomputable def n_(i:Nat)(f:ax→R (List D)):FS:=fun δ=>(f δ).bind fun ds=>R.bV (decide (i < δ.length)) (.ok (.nx (δ.set i (.bld ds))))
theorem G0{K:PySem.W.Frag}{i:Nat}{f:ax→R (List D)}{D:Ends}{σ:St}{H:Hp}(h:sD K (n_ i f) D σ H):z8 (tN K f) (rT i) D σ H:=by
 obtain⟨Z,B,δ,o,E,hf,q⟩:=h
 obtain⟨ds,h1,h2⟩:=R.ao hf
 obtain⟨hi,h3⟩:=R.bo h2
 cases h3
 refine⟨Z,B,δ,ds,E,h1,fun a xs H1 s1 n e r=>?_⟩
 have E1:=E.same s1
 have aB:a ∉ B:=fun ha=>by obtain⟨o,ho⟩:=E.bs a ha;rw [n] at ho;cases ho
 have nZ:a ∉ Z:=fun ha=>aB (E.zb a ha)
 have p0:dA B H (a ::B) H1:=fun b o e' nb=>⟨s1 b o e',fun hb=>by
  rcases List.mem_cons.mp hb with z | z
  ·subst z;rw [n] at e';cases e'
  ·exact nb z⟩
 have E2:eP K Z (a ::B) H1 σ δ:={
  len:=E.len
  bs:=fun b hb=>by
   rcases List.mem_cons.mp hb with z | z
   ·subst z;exact⟨_,e⟩
   ·exact E1.bs b z
  zb:=fun b hb=>List.mem_cons_of_mem _ (E.zb b hb)
  val:=fun j d e=>let⟨v,q1,q2⟩:=E.val j d e;⟨v,q1,q2.bt p0⟩
  bld:=fun j es e=>let⟨b,ys,q1,q2,q3,q4,q5⟩:=E.bld j es e;⟨b,ys,q1,List.mem_cons_of_mem _ q2,q3,s1 b _ q4,q5.bt p0⟩
  dis:=E.dis}
 refine q _ (a ::B) H1 ⟨p0,fun b o e' hb=>⟨s1 b o e',List.mem_cons_of_mem _ (E.zb b hb)⟩⟩ (E2.setB (by rw[←E.len];exact of_decide_eq_true hi) List.mem_cons_self nZ e r fun j es hj ej hσ=>?_)
 obtain⟨b,ys,q1,_,_,q4,_⟩:=E.bld j es ej
 rw[hσ] at q1
 cases q1
 rw[n] at q4;cases q4
theorem DF{i:Nat}{x:Str}{e:Expr}{f:ax→R (List D)}{pos pos':Pos}(hN:X.N.Nodup)(hi:X.N[i]? =some x)(hx:Loc X.env.scope x)(he:PN X e f)(hs:swapsWith e (some (.Name x pos')) pos.line X.env=pure false:=by rfl)(hf:X.fn x=true∨X.env.scope.names.lookup x=some .local:=by first | exact .inl rfl | exact .inr rfl | assumption) :
 AB X (.Assign [.Name x pos'] e pos) (n_ i f):=(xJ hN hi hx he hs hf).imp fun D σ H h=>G0 h
theorem eP.grow{K:PySem.W.Frag}{Z B:List Addr}{H:Hp}{σ:St}{δ:ax}(E:eP K Z B H σ δ){i:Nat}{ds es:List D}{a:Addr}{xs ys:List V}(hd:δ[i]? =some (.bld ds))(hσ:σ[i]? =some (some (.ref a)))(hB:a∈B)(hH:H a=some (.lst xs))(r:aH K B H es ys) :
 eP K Z B (upd H a (.lst ys)) σ (δ.set i (.bld es))∧dA B H B (upd H a (.lst ys)):=by
 have p:dA B H B (upd H a (.lst ys)):=fun b o e nb=>⟨by rw[bq (fun(z:b=a)=>nb (by rw[z];exact hB))];exact e,nb⟩
 have hi:i < δ.length:=(List.getElem?_eq_some_iff.mp hd).1
 refine⟨{
  len:=by rw[List.length_set];exact E.len
  bs:=fun b hb=>by
   by_cases z:b=a
   ·subst z;exact⟨_,aT⟩
   ·rw[bq z];exact E.bs b hb
  zb:=E.zb
  val:=fun j d e=>by
   by_cases h:i=j
   ·subst h;rw [List.getElem?_set_self hi] at e;cases e
   ·rw[List.getElem?_set_ne h] at e
    obtain⟨v,q1,q2⟩:=E.val j d e
    exact⟨v,q1,q2.bt p⟩
  bld:=fun j fs e=>by
   by_cases h:i=j
   ·subst h;rw [List.getElem?_set_self hi] at e;cases e
    obtain⟨b,zs,q1,q2,q3,_,_⟩:=E.bld i ds hd
    rw[hσ] at q1;cases q1
    exact⟨a,ys,hσ,hB,q3,aT,r.bt p⟩
   ·rw[List.getElem?_set_ne h] at e
    obtain⟨b,zs,q1,q2,q3,q4,q5⟩:=E.bld j fs e
    have ne:b≠a:=fun z=>by subst z;exact h (E.dis i j b ds fs hd e hσ q1)
    exact⟨b,zs,q1,q2,q3,by rw[bq ne];exact q4,q5.bt p⟩
  dis:=fun j k b ds1 es1 e1 e2 e3 e4=>by
   have f1:∃fs,δ[j]? =some (.bld fs):=by
    by_cases h:i=j
    ·subst h;exact⟨ds,hd⟩
    ·rw[List.getElem?_set_ne h] at e1;exact⟨_,e1⟩
   have f2:∃fs,δ[k]? =some (.bld fs):=by
    by_cases h:i=k
    ·subst h;exact⟨ds,hd⟩
    ·rw[List.getElem?_set_ne h] at e2;exact⟨_,e2⟩
   obtain⟨_,f1⟩:=f1
   obtain⟨_,f2⟩:=f2
   exact E.dis j k b _ _ f1 f2 e3 e4},p⟩
theorem Ev.grow{Z B:List Addr}{H:Hp}{a:Addr}{o:HO}(zb:∀a∈Z,a∈B)(hZ:a ∉ Z)(p:dA B H B (upd H a o)):Ev Z B H B (upd H a o):=
 ⟨p,fun b u e hb=>⟨by rw[bq (fun(z:b=a)=>hZ (by rw[←z];exact hb))];exact e,zb b hb⟩⟩
noncomputable def jB(δ:ax)(i:Nat):R (List D):=match δ[i]? with | some (.bld ds)=> .ok ds | _=> .no
theorem wk{δ:ax}{i:Nat}{ds:List D}(h:jB δ i= .ok ds):δ[i]? =some (.bld ds):=by
 unfold jB at h
 split at h
 ·rename_i q;cases h;exact q
 ·cases h
noncomputable def qe(i:Nat)(f:FD):FS:=fun δ=>(f δ).bind fun d=>(jB δ i).bind fun ds=>R.bV (decide (ds.length < sizeLine)) (.ok (.nx (δ.set i (.bld (ds++[d])))))
theorem DU{i:Nat}{x:Str}{e:Expr}{f:FD}{npos apos cpos pos:Pos}(hN:X.N[i]? =some x)(hv:BP X.env.scope x)(he:PD X e f)
 (hd:(x==("__debug__":Str))=false:=by decide) (hcd:(x==("__classdict__":Str))=false:=by decide)
 (hs:starEach [e] X.env=(false,eval e X.env) ::starEach [] X.env:=by rfl) (hline:(apos.endLine==cpos.line)=true:=by rfl)
 (hfew:((backTo cpos (starEach [e] X.env)).all (fun x=>!x.1) && (backToKw cpos (keywordEach [] X.env)).all (fun x=>x.1.isSome)
   && decide (([e]:List Expr).length+([]:List Keyword).length+(if([]:List Keyword).isEmpty then 0 else 1) < 30))=true:=by rfl)
 (hsw:swapsWith (.Call (.Attribute (.Name x npos) "append" apos) [e] [] cpos) none pos.line X.env=pure false:=by rfl)
 (hbase:attributeBase (.Name x npos) "append" X.env (eval (.Name x npos) X.env)=eval (.Name x npos) X.env:=by rfl) :
 AB X (.Expr (.Call (.Attribute (.Name x npos) "append" apos) [e] [] cpos) pos) (qe i f):=by
 refine(qh (zp (X:=X) PySem.F.plainAttrs_list PySem.F.slot_list_append PySem.F.type_list_append oF (o7 hN hv hd hcd) (dJ he gu hs) hbase hfew hline hs) hsw).imp fun D σ H ⟨Z,B,δ,o,E,hf,q⟩=>?_
 obtain⟨d,h1,h2⟩:=R.ao hf
 obtain⟨ds,h3,h4⟩:=R.ao h2
 obtain⟨hl,h5⟩:=R.bo h4
 cases h5
 have hb:=wk h3
 obtain⟨a,xs,q1,q2,q3,q4,q5⟩:=E.bld i ds hb
 refine⟨.ref a,q1, .inl ⟨rfl,xs,mH.of q4⟩,⟨Z,B,δ,d,E,h1,fun v H1 s1 r1=>?_⟩⟩
 have E1:=E.same s1
 refine⟨a,xs,v,rfl,rfl,s1 a _ q4,by rw[←q5.length];exact of_decide_eq_true hl,?_⟩
 obtain⟨E2,p2⟩:=E1.grow (es:=ds++[d]) (ys:=xs++[v]) hb q1 q2 (s1 a _ q4) ((q5.same s1).append (aH.cons r1 aH.nil))
 exact q σ B _ ((Ev.same E.zb s1).trans (Ev.grow E.zb q3 p2)) E2
noncomputable def pU(i:Nat)(f:ax→R (List D)):FS:=fun δ=>(f δ).bind fun es=>(jB δ i).bind fun ds=>R.bV (decide (ds.length+es.length≤sizeLine)) (.ok (.nx (δ.set i (.bld (ds++es)))))
theorem Dr{i:Nat}{x:Str}{e:Expr}{f:ax→R (List D)}{npos apos cpos pos:Pos}(hN:X.N[i]? =some x)(hv:BP X.env.scope x)(he:PN X e f)
 (hd:(x==("__debug__":Str))=false:=by decide) (hcd:(x==("__classdict__":Str))=false:=by decide)
 (hs:starEach [e] X.env=(false,eval e X.env) ::starEach [] X.env:=by rfl) (hline:(apos.endLine==cpos.line)=true:=by rfl)
 (hfew:((backTo cpos (starEach [e] X.env)).all (fun x=>!x.1) && (backToKw cpos (keywordEach [] X.env)).all (fun x=>x.1.isSome)
   && decide (([e]:List Expr).length+([]:List Keyword).length+(if([]:List Keyword).isEmpty then 0 else 1) < 30))=true:=by rfl)
 (hsw:swapsWith (.Call (.Attribute (.Name x npos) "extend" apos) [e] [] cpos) none pos.line X.env=pure false:=by rfl)
 (hbase:attributeBase (.Name x npos) "extend" X.env (eval (.Name x npos) X.env)=eval (.Name x npos) X.env:=by rfl) :
 AB X (.Expr (.Call (.Attribute (.Name x npos) "extend" apos) [e] [] cpos) pos) (pU i f):=by
 refine(qh (zp (X:=X) PySem.F.plainAttrs_list PySem.F.slot_list_extend PySem.F.type_list_extend Ac (o7 hN hv hd hcd) (dJ he gu hs) hbase hfew hline hs) hsw).imp fun D σ H ⟨Z,B,δ,o,E,hf,q⟩=>?_
 obtain⟨es,h1,h2⟩:=R.ao hf
 obtain⟨ds,h3,h4⟩:=R.ao h2
 obtain⟨hl,h5⟩:=R.bo h4
 cases h5
 have hb:=wk h3
 obtain⟨a,xs,q1,q2,q3,q4,q5⟩:=E.bld i ds hb
 refine⟨.ref a,q1, .inl ⟨rfl,xs,mH.of q4⟩,⟨Z,B,δ,es,E,h1,fun b ys H1 s1 n e r=>?_⟩⟩
 have E1:=E.same s1
 have r':aH X.K B H1 es ys:=r.bt fun b o e nb=>⟨e,fun hb=>nb (List.mem_cons_of_mem _ hb)⟩
 refine⟨a,b,xs,ys,rfl,rfl,s1 a _ q4,e,by rw[←q5.length,←r'.length];exact of_decide_eq_true hl,?_⟩
 obtain⟨E2,p2⟩:=E1.grow (es:=ds++es) (ys:=xs++ys) hb q1 q2 (s1 a _ q4) ((q5.same s1).append r')
 exact q σ B _ ((Ev.same E.zb s1).trans (Ev.grow E.zb q3 p2)) E2
noncomputable def iH(i:Nat)(δ:ax):ax:=match δ[i]? with | some (.bld ds)=>δ.set i (.val (.lst ds)) | _=>δ
theorem eP.iH{K:PySem.W.Frag}{Z B:List Addr}{H:Hp}{σ:St}{δ:ax}(E:eP K Z B H σ δ)(i:Nat):∃B',Ev Z B H B' H∧eP K Z B' H σ (iH i δ):=by
 unfold L2.iH
 cases hd:δ[i]? with
 | none=>exact⟨B,Ev.refl Z B H E.zb,E⟩
 | some x=>
   cases x with
   | un=>exact⟨B,Ev.refl Z B H E.zb,E⟩
   | val d=>exact⟨B,Ev.refl Z B H E.zb,E⟩
   | bld ds=>
     obtain⟨a,xs,q1,q2,q3,q4,q5⟩:=E.bld i ds hd
     have hi:i < δ.length:=(List.getElem?_eq_some_iff.mp hd).1
     have p:dA B H (B.filter fun b=>decide (b≠a)) H:=fun b o e nb=>⟨e,fun hb=>nb (List.mem_filter.mp hb).1⟩
     have zb:∀b∈Z,b∈B.filter fun b=>decide (b≠a):=fun b hb=>List.mem_filter.mpr ⟨E.zb b hb,decide_eq_true fun z=>q3 (z▸hb)⟩
     refine⟨B.filter fun b=>decide (b≠a),⟨p,fun b o e hb=>⟨e,zb b hb⟩⟩,{
      len:=by rw[List.length_set];exact E.len
      bs:=fun b hb=>E.bs b (List.mem_filter.mp hb).1
      zb:=zb
      val:=fun j d e=>by
       by_cases h:i=j
       ·subst h;rw [List.getElem?_set_self hi] at e;cases e
        refine⟨.ref a,q1,?_⟩
        unfold Rep
        exact⟨a,xs,rfl, .inl ⟨fun hb=>by simpa using(List.mem_filter.mp hb).2, .inl q4⟩,q5.bt p⟩
       ·rw[List.getElem?_set_ne h] at e
        obtain⟨v,z1,z2⟩:=E.val j d e
        exact⟨v,z1,z2.bt p⟩
      bld:=fun j fs e=>by
       by_cases h:i=j
       ·subst h;rw [List.getElem?_set_self hi] at e;cases e
       ·rw[List.getElem?_set_ne h] at e
        obtain⟨b,zs,z1,z2,z3,z4,z5⟩:=E.bld j fs e
        exact⟨b,zs,z1,List.mem_filter.mpr ⟨z2,decide_eq_true fun z=>by subst z;exact h (E.dis i j b ds fs hd e q1 z1)⟩,z3,z4,z5.bt p⟩
      dis:=fun j k b ds1 es1 e1 e2 e3 e4=>by
       by_cases h:i=j
       ·subst h;rw [List.getElem?_set_self hi] at e1;cases e1
       ·by_cases h':i=k
        ·subst h';rw [List.getElem?_set_self hi] at e2;cases e2
        ·rw[List.getElem?_set_ne h] at e1
         rw[List.getElem?_set_ne h'] at e2
         exact E.dis j k b ds1 es1 e1 e2 e3 e4}⟩
noncomputable def nK(i:Nat)(F:FS):FS:=fun δ=>F (iH i δ)
theorem GY{K:PySem.W.Frag}{i:Nat}{F:FS}{D:Ends}{σ:St}{H:Hp}(h:sD K (nK i F) D σ H):sD K F D σ H:=by
 obtain⟨Z,B,δ,o,E,hf,q⟩:=h
 obtain⟨B1,ev,E1⟩:=E.iH i
 refine⟨Z,B1,L2.iH i δ,o,E1,hf,?_⟩
 cases o with
 | nx δ'=>exact fun σ' B' H' ev' E'=>q σ' B' H' (ev.trans ev') E'
 | rt d=>exact fun v B' H' ev' z r=>q v B' H' (ev.trans ev') z r
theorem C_(i:Nat){sts:List Stmt}{F:FS}(h:pS X sts F):pS X sts (nK i F):=h.imp fun D σ H h=>GY h
noncomputable def fZ(f:FD):FS:=fun δ=>(f δ).bind fun d=> .ok (.rt d)
theorem D_{e:Expr}{f:FD}{pos:Pos}(he:PD X e f):AB X (.Return (some e) pos) (fZ f):=(Cd he).imp fun D σ H ⟨Z,B,δ,o,E,hf,q⟩=>by
 obtain⟨d,h1,h2⟩:=R.ao hf
 cases h2
 exact⟨Z,B,δ,d,E,h1,fun v H1 s1 r1=>q v B H1 (Ev.same E.zb s1) E.zb r1⟩
noncomputable def r9(c:ax→R Bool)(F G:FS):FS:=fun δ=>(c δ).bind fun b=>if b then F δ else G δ
theorem Gh{c:Expr}{a b:List Stmt}{fc:ax→R Bool}{F G:FS}{pos:Pos}(hc:PB X c fc)(ha:pS X a F)(hb:pS X b G):AB X (.If c a b pos) (r9 fc F G):=(AN hc ha hb).imp fun D σ H ⟨Z,B,δ,o,E,hf,q⟩=>by
 obtain⟨k,h1,h2⟩:=R.ao hf
 refine⟨Z,B,δ,k,E,h1,fun H1 s1=>?_⟩
 have q':=q.ev (Ev.same E.zb s1)
 cases k with
 | true=>rw [if_pos rfl] at h2;exact Cn ⟨Z,B,δ,o,E.same s1,h2,q'⟩
 | false=>rw [if_neg (by decide)] at h2;exact BE ⟨Z,B,δ,o,E.same s1,h2,q'⟩
noncomputable abbrev FT:=D→ax→R ax
noncomputable def gD(K:PySem.W.Frag)(t:FT):TG:=fun v σ H Q=>∃Z B δ d δ',eP K Z B H σ δ∧Rep K B H d v∧t d δ= .ok δ'∧∀σ' H',a_ H H'→eP K Z B H' σ' δ'→σ'.length=σ.length→Q σ' H'
noncomputable abbrev FC(X:Cx)(tg:Expr)(t:FT):Prop:=PG X tg (gD X.K t)
noncomputable def aR(i:Nat):FT:=fun d δ=>R.bV (decide (i < δ.length)) (.ok (δ.set i (.val d)))
theorem BL{i:Nat}{x:Str}{pos:Pos}(hN:X.N.Nodup)(hi:X.N[i]? =some x)(hx:Loc X.env.scope x)(hf:X.fn x=true∨X.env.scope.names.lookup x=some .local:=by first | exact .inl rfl | exact .inr rfl | assumption):FC X (.Name x pos) (aR i):=
 (zd hN hi hx hf).imp fun v σ H Q ⟨Z,B,δ,d,δ',E,r,ht,q⟩=>by
   obtain⟨hi,h⟩:=R.bo ht
   cases h
   exact q _ H (a_.refl H) (E.set (by rw[←E.len];exact of_decide_eq_true hi) r) (List.length_set ..)
noncomputable abbrev AW:=List D→ax→R ax
noncomputable def Lq(K:PySem.W.Frag)(t:AW):BC:=fun vs σ H Q=>∃Z B δ ds δ',eP K Z B H σ δ∧aH K B H ds vs∧t ds δ= .ok δ'∧∀σ' H',a_ H H'→eP K Z B H' σ' δ'→σ'.length=σ.length→Q σ' H'
noncomputable abbrev BQ(X:Cx)(ts:List Expr)(t:AW):Prop:=Dh X ts (Lq X.K t)
theorem Dh.imp{X:Cx}{e:List Expr}{t t':BC}(h:Dh X e t)(w:∀v σ H Q,t' v σ H Q→t v σ H Q):Dh X e t':=fun pins s σ H v u Q I r hq=>h pins s σ H v u Q I r (w v σ H Q hq)
noncomputable def dG:AW:=fun ds δ=>match ds with | []=> .ok δ | _=> .no
noncomputable def bw(t:FT)(u:AW):AW:=fun ds δ=>match ds with | d ::r=>(t d δ).bind fun δ'=>u r δ' | []=> .no
theorem Be:BQ X [] dG:=yy.imp fun vs σ H Q ⟨Z,B,δ,ds,δ',E,r,ht,q⟩=>by
 cases ds with
 | nil=>unfold aH at r;cases ht;exact⟨r,q σ H (a_.refl H) E rfl⟩
 | cons=>cases ht
theorem Ae{e:Expr}{es:List Expr}{t:FT}{u:AW}(h1:FC X e t)(h2:BQ X es u)(hs:(assignEach (e ::es) X.env).map (·.2)=assign e X.env ::(assignEach es X.env).map (·.2):=by rfl):BQ X (e ::es) (bw t u):=
 (wq h1 h2 hs).imp fun vs σ H Q ⟨Z,B,δ,ds,δ',E,r,ht,q⟩=>by
   cases ds with
   | nil=>cases ht
   | cons d ds=>
     obtain⟨x,xs,rfl,r1,r2⟩:=r.cw
     obtain⟨δ1,h1,h2⟩:=R.ao ht
     exact⟨x,xs,rfl,Z,B,δ,d,δ1,E,r1,h1,fun σ1 H1 s1 E1 l1=>⟨Z,B,δ1,ds,δ',E1,r2.same s1,h2,fun σ2 H2 s2 E2 l2=>q σ2 H2 (s1.trans s2) E2 (l2.trans l1)⟩⟩
noncomputable def dF(n:Nat)(t:AW):FT:=fun d δ=>match d with | .tup ds=>R.bV (decide (ds.length=n)) (t ds δ) | _=> .no
theorem DS{es:List Expr}{k:Nat}{t:AW}{n:Nat}{pos:Pos}(hc:X.calm=true)(h:BQ X es t)(hn:(assignEach es X.env).length=n:=by rfl)(hst:(assignEach es X.env).findIdx? (·.1)=none:=by rfl):FC X (.Tuple es k pos) (dF n t):=
 (BO hc h hn hst).imp fun v σ H Q ⟨Z,B,δ,d,δ',E,r,ht,q⟩=>by
   cases d with
   | tup ds=>
     unfold Rep at r
     obtain⟨a,xs,rfl,l,r⟩:=r
     obtain⟨hl,h⟩:=R.bo ht
     exact⟨a,xs,rfl,l.sq,by rw[←r.length];exact of_decide_eq_true hl,Z,B,δ,ds,δ',E,r,h,q⟩
   | _=>cases ht
noncomputable def sx(f:FD)(t:FT):FS:=fun δ=>(f δ).bind fun d=>(t d δ).bind fun δ'=> .ok (.nx δ')
theorem D7{tg e:Expr}{f:FD}{t:FT}{pos:Pos}(he:PD X e f)(hg:FC X tg t)(hs:swapsWithSole [tg] e pos.line X.env=pure false:=by rfl)(hw:swappedStores [tg] e X.env=pure none:=by rfl)
 (h1:(assignEach [tg] X.env).map (·.2)=[assign tg X.env]:=by rfl):AB X (.Assign [tg] e pos) (sx f t):=(yg he hg hs hw h1).imp fun D σ H ⟨Z,B,δ,o,E,hf,q⟩=>by
 obtain⟨d,h1,h2⟩:=R.ao hf
 obtain⟨δ1,h3,h4⟩:=R.ao h2
 cases h4
 exact⟨Z,B,δ,d,E,h1,fun v H1 s1 r1=>⟨Z,B,δ,d,δ1,E.same s1,r1,h3,fun σ' H2 s2 E2 _=>q σ' B H2 (Ev.same E.zb (s1.trans s2)) E2⟩⟩
noncomputable def AJ(K:PySem.W.Frag)(B:List Addr)(H:Hp)(J:It)(ds:List D):Prop:=∀B' H',dA B H B' H'→(∀(i:Nat) (d:D),ds[i]? =some d→J.go i H'∧∀x H'',J.yld i H' x H''→(∀a∈B',∃o,H' a=some o)→a_ H' H''∧Rep K B' H'' d x)∧J.stop ds.length H'
noncomputable def iD(K:PySem.W.Frag)(f:ax→R (List D)):TI:=fun σ H R=>∃Z B δ ds,eP K Z B H σ δ∧f δ= .ok ds∧∀J H1,a_ H H1→AJ K B H1 J ds→R J H1
noncomputable abbrev HB(X:Cx)(tg e:Expr)(f:ax→R (List D)):Prop:=PI X tg e (iD X.K f)
noncomputable def dZ(f:FD):ax→R (List D):=fun δ=>(f δ).bind fun d=>match d with | .lst ds=> .ok ds | .tup ds=> .ok ds | _=> .no
theorem ED{tg e:Expr}{f:FD}(h:PD X e f):HB X tg e (dZ f):=by
 intro pins s σ H RR I ⟨Z,B,δ,ds,E,hf,q⟩
 obtain⟨d,h1,h2⟩:=R.ao hf
 refine eg (h pins s σ H (fun v H1=>a_ H H1∧Rep X.K B H1 d v) I ⟨Z,B,δ,d,E,h1,fun v H1 s1 r1=>⟨s1,r1⟩⟩) fun v s1 ⟨x,H1,I1,r1,ss,rr⟩=>?_
 cases d with
 | lst es=>
   cases h2
   unfold Rep at rr
   obtain⟨a,xs,rfl,l,rr⟩:=rr
   cases r1
   obtain⟨its,rv,p,hz⟩:=I1.list l.sq
   refine wpAny_pyIter_list p.isList ?_
   refine⟨s1.heap.objs.size,[s1.heap.objs.size],_,_,H1,rfl,I1.kept (t':=s1.toks) fun b o e=>Heap.get?_push_of_some _ e,sN a _,⟨_,Heap.get?_push_size _ rfl,rfl,rfl⟩,fun b hb=>?_,q _ H1 ss fun B' H' pr=>?_⟩
   ·have e:b=s1.heap.objs.size:=by simpa using hb
    subst e
    exact I1.qI (Nat.le_refl _) (I1.hok.fresh (Nat.le_refl _))
   ·have l':qZ X.K B' H' a xs:=l.bt pr
    have rr':=rr.bt pr
    refine⟨fun i d hd=>?_,⟨xs,l'.sq,by rw[rr.length];exact Nat.le_refl _⟩⟩
    obtain⟨x,hx,rx⟩:=rr'.get hd
    exact⟨⟨xs,x,l'.sq,hx⟩,fun y H'' ⟨e1,e2⟩ _=>by
     subst e1
     have:=e2 xs l'.sq
     rw[hx] at this
     cases this
     exact⟨a_.refl _,rx⟩⟩
 | tup es=>
   cases h2
   unfold Rep at rr
   obtain⟨a,xs,rfl,l,rr⟩:=rr
   cases r1
   obtain⟨its,rv,p,hz⟩:=I1.tuple l.sq
   refine wpAny_pyIter_tuple (show s1.heap.IsTuple a its.toArray from p) ?_
   refine⟨s1.heap.objs.size,[s1.heap.objs.size],_,_,H1,rfl,I1.kept (t':=s1.toks) fun b o e=>Heap.get?_push_of_some _ e,xZ a _,⟨_,Heap.get?_push_size _ rfl,rfl,rfl⟩,fun b hb=>?_,q _ H1 ss fun B' H' pr=>?_⟩
   ·have e:b=s1.heap.objs.size:=by simpa using hb
    subst e
    exact I1.qI (Nat.le_refl _) (I1.hok.fresh (Nat.le_refl _))
   ·have l':tq X.K B' H' a xs:=l.elim (fun z=> .inl ⟨(pr.rd z.2 z.1).2,(pr.rd z.2 z.1).1⟩) .inr
    have rr':=rr.bt pr
    refine⟨fun i d hd=>?_,⟨xs,l'.sq,by rw[rr.length];exact Nat.le_refl _⟩⟩
    obtain⟨x,hx,rx⟩:=rr'.get hd
    exact⟨⟨xs,x,l'.sq,hx⟩,fun y H'' ⟨e1,e2⟩ _=>by
     subst e1
     have:=e2 xs l'.sq
     rw[hx] at this
     cases this
     exact⟨a_.refl _,rx⟩⟩
 | _=>cases h2
noncomputable def e_(lo:Int)(n:Nat):List D:=(List.range n).map fun(i:Nat)=>D.int (lo+i)
theorem BR{K:PySem.W.Frag}{B:List Addr}{H:Hp}(lo:Int)(n:Nat):AJ K B H (Iz lo n) (e_ lo n):=fun B' H' _=>by
 refine⟨fun i d hd=>?_,?_⟩
 ·unfold e_ at hd
  rw[List.getElem?_map] at hd
  cases e:(List.range n)[i]? with
  | none=>rw [e] at hd;cases hd
  | some j=>
    rw[e] at hd
    cases hd
    obtain⟨hi,ej⟩:=List.getElem?_eq_some_iff.mp e
    rw[List.getElem_range] at ej
    subst ej
    rw[List.length_range] at hi
    exact⟨hi,fun x H'' ⟨e1,e2⟩ _=>by subst e1 e2;exact⟨a_.refl _,by unfold Rep;rfl⟩⟩
 ·show n≤(e_ lo n).length
  unfold e_
  rw[List.length_map,List.length_range]
  exact Nat.le_refl _
noncomputable def i9(f:FD):ax→R (List D):=fun δ=>(f δ).bind fun d=>match d with | .int j=>R.bV (decide (-(2 ^ 62)≤j∧j < 2 ^ 62)) (.ok (e_ 0 j.toNat)) | _=> .no
theorem xm{tg a:Expr}{f:FD}{p pos:Pos}(h:PD X a f)(hg:Gl X "range")(hm:X.mg "range"=none)(hs:starEach [a] X.env=[(false,eval a X.env)]:=by rfl):HB X tg (.Call (.Name "range" p) [a] [] pos) (i9 f):=
 (s_ hg hm (dJ h gu hs) hs).imp fun σ H RR ⟨Z,B,δ,ds,E,hf,q⟩=>by
   obtain⟨d,h1,h2⟩:=R.ao hf
   cases d with
   | int j=>
     obtain⟨hb,h3⟩:=R.bo h2
     cases h3
     have hb:=of_decide_eq_true hb
     refine⟨Z,B,δ, .int j,E,h1,fun v H1 s1 r1=>⟨j,?_,hb.1,hb.2,q _ H1 s1 (BR 0 _)⟩⟩
     unfold Rep at r1
     rw[r1]
   | _=>cases h2
noncomputable def Kw(f g:FD):ax→R (List D):=fun δ=>(f δ).bind fun d=>(g δ).bind fun e=>match d,e with
 | .int i, .int j=>R.bV (decide (-(2 ^ 62)≤i∧i < 2 ^ 62∧ -(2 ^ 62)≤j∧j < 2 ^ 62)) (.ok (e_ i (j - i).toNat)) | _,_=> .no
noncomputable def pO(t:FT)(body:FS):List D→FS
 | [],δ=> .ok (.nx δ)
 | d ::ds,δ=>(t d δ).bind fun δ1=>(body δ1).bind fun o=>match o with | .nx δ2=>pO t body ds δ2 | .rt r=> .ok (.rt r)
noncomputable def sf(it:ax→R (List D))(t:FT)(body:FS):FS:=fun δ=>(it δ).bind fun ds=>pO t body ds δ
theorem Dq{tg iter:Expr}{body:List Stmt}{it:ax→R (List D)}{t:FT}{F:FS}{pos:Pos}(hp:PassesOwn (model X.prog X.w) X.A X.env X.xe)(hc:X.calm=true)(hi:HB X tg iter it)(hg:FC X tg t)(hb:pS X body F)
 (hs:∀x,foldedSetIterable iter X.env x=pure x:=by intro _;rfl):AB X (.For tg iter body [] pos) (sf it t F):=(yn hp hc hi hg hb hs).imp fun D σ H ⟨Z,B,δ,o,E,hf,q⟩=>by
 obtain⟨ds,h1,h2⟩:=R.ao hf
 refine⟨Z,B,δ,ds,E,h1,fun J H1 s1 ir=>?_⟩
 refine⟨fun i m σ' H'=>m=ds.length - i∧i≤ds.length∧∃B' δ',Ev Z B H1 B' H'∧eP X.K Z B' H' σ' δ'∧pO t F (ds.drop i) δ'= .ok o,⟨ds.length,rfl,Nat.zero_le _,B,δ,Ev.refl Z B H1 E.zb,E.same s1,by simpa using h2⟩,?_⟩
 rintro i m σ' H' ⟨rfl,hi,B',δ',ev,E',hl⟩
 obtain⟨go,stop⟩:=ir B' H' ev.bt
 by_cases hlt:i < ds.length
 ·have hd:ds[i]? =some ds[i]:=List.getElem?_eq_getElem hlt
  have hdrop:ds.drop i=ds[i] ::ds.drop (i+1):=List.drop_eq_getElem_cons hlt
  rw[hdrop] at hl
  obtain⟨δ1,h3,h4⟩:=R.ao hl
  obtain⟨o1,h5,h6⟩:=R.ao h4
  obtain⟨g1,g2⟩:=go i _ hd
  refine .inr ⟨g1,fun σ2 H2=>∃B2 δ2,Ev Z B H1 B2 H2∧eP X.K Z B2 H2 σ2 δ2∧pO t F (ds.drop (i+1)) δ2= .ok o,fun σ2 H2 n=>⟨ds.length - (i+1),by omega,rfl,hlt,n⟩,fun x H'' y=>?_⟩
  obtain⟨ss,rr⟩:=g2 x H'' y E'.bs
  refine⟨Z,B',δ',ds[i],δ1,E'.same ss,rr,h3,fun σ2 H2 s2 E2 l2=>⟨Z,B',δ1,o1,E2,h5,?_⟩⟩
  have ev2:Ev Z B H1 B' H2:=ev.trans (Ev.same E'.zb (ss.trans s2))
  cases o1 with
  | nx δ2=>exact fun σ3 B3 H3 ev3 E3=>⟨B3,δ2,ev2.trans ev3,E3,h6⟩
  | rt d=>
    cases h6
    exact fun v B3 H3 ev3 z r=>q v B3 H3 ((Ev.same E.zb s1).trans (ev2.trans ev3)) z r
 ·have e:i=ds.length:=by omega
  subst e
  rw[List.drop_length] at hl
  cases hl
  exact .inl ⟨stop,q σ' B' H' ((Ev.same E.zb s1).trans ev) E'⟩
noncomputable def AX(c:ax→R Bool)(body:FS):Nat→FS
 | 0,_=> .no
 | n+1,δ=>(c δ).bind fun b=>if b then(body δ).bind fun o=>match o with | .nx δ2=>AX c body n δ2 | .rt r=> .ok (.rt r) else .ok (.nx δ)
noncomputable def Ks(n:Nat)(c:ax→R Bool)(body:FS):FS:=fun δ=>AX c body n δ
noncomputable def rg(δ:ax)(i:Nat):Sl:=match δ[i]? with | some (.val d)=> .val d | _=> .un
noncomputable def qN(own:List Str)(kp:List Nat)(δ:ax):ax:=List.replicate own.length .un++kp.map (rg δ)
noncomputable def oa(t:FT)(c:ax→R Bool)(f:FD)(δ:ax):List D→R (List D)
 | []=> .ok []
 | d ::ds=>(t d δ).bind fun δ1=>(c δ1).bind fun b=>if b then(f δ1).bind fun y=>(oa t c f δ ds).bind fun ys=> .ok (y ::ys) else oa t c f δ ds
noncomputable def eH(it:ax→R (List D))(t:FT)(c:ax→R Bool)(f:FD)(own:List Str)(kp:List Nat):ax→R (List D):=fun δ=>(it δ).bind fun ds=>R.bV (decide (ds.length≤sizeLine)) (oa t c f (qN own kp δ) ds)
theorem Gi{K:PySem.W.Frag}{Z B B':List Addr}{H H':Hp}{σ:St}{δ:ax}{own:List Str}{kp:List Nat}(E:eP K Z B H σ δ)(p:dA B H B' H')(hB:∀a∈B',∃o,H' a=some o):eP K [] B' H' (dE own kp σ) (qN own kp δ) where
 len:=by unfold dE qN;simp
 bs:=hB
 zb:=fun a ha=>by cases ha
 val:=fun i d e=>by
  unfold qN at e
  unfold dE
  by_cases hi:i < own.length
  ·rw[List.getElem?_append_left (by simpa using hi),List.getElem?_replicate] at e
   split at e <;> cases e
  ·rw[List.getElem?_append_right (by simpa using hi),List.length_replicate,List.getElem?_map] at e ⊢
   cases q:kp[i - own.length]? with
   | none=>rw [q] at e;cases e
   | some j=>
     rw[q] at e
     have e:rg δ j= .val d:=Option.some.inj e
     unfold rg at e
     split at e
     ·rename_i d' ed
      cases e
      obtain⟨v,h1,h2⟩:=E.val j d ed
      exact⟨v,by simp [h1],h2.bt p⟩
     ·cases e
 bld:=fun i ds e=>by
  unfold qN at e
  by_cases hi:i < own.length
  ·rw[List.getElem?_append_left (by simpa using hi),List.getElem?_replicate] at e
   split at e <;> cases e
  ·rw[List.getElem?_append_right (by simpa using hi),List.length_replicate,List.getElem?_map] at e
   cases q:kp[i - own.length]? with
   | none=>rw [q] at e;cases e
   | some j=>
     rw[q] at e
     have e:rg δ j= .bld ds:=Option.some.inj e
     unfold rg at e
     split at e <;> cases e
 dis:=fun i j a ds es e=>by
  unfold qN at e
  by_cases hi:i < own.length
  ·rw[List.getElem?_append_left (by simpa using hi),List.getElem?_replicate] at e
   split at e <;> cases e
  ·rw[List.getElem?_append_right (by simpa using hi),List.length_replicate,List.getElem?_map] at e
   cases q:kp[i - own.length]? with
   | none=>rw [q] at e;cases e
   | some j=>
     rw[q] at e
     have e:rg δ j= .bld ds:=Option.some.inj e
     unfold rg at e
     split at e <;> cases e
theorem ze{K:PySem.W.Frag}{it:ax→R (List D)}{t:FT}{c:ax→R Bool}{f:FD}{own:List Str}{kp:List Nat}{σ:St}{H:Hp}{Q:VK}(h:tN K (eH it t c f own kp) σ H Q) :
 yB (iD K it) (gD K t) (G9 K c) (tD K f) own kp σ H Q:=by
 obtain⟨Z,B,δ,ds,E,hf,q⟩:=h
 obtain⟨es,h1,h2⟩:=R.ao hf
 obtain⟨hl,h3⟩:=R.bo h2
 have hl:=of_decide_eq_true hl
 refine⟨Z,B,δ,es,E,h1,fun J H1 s1 ir Dd hD=>?_⟩
 have E1:=E.same s1
 have pD:dA B H1 (Dd ::B) (upd H1 Dd (.lst [])):=om hD
 refine⟨fun i m ys H'=>m=es.length - i∧i≤es.length∧ys.length≤i∧H' Dd=some (.lst ys)∧a_ H1 H'∧∃done rest,ds=done++rest∧aH K (Dd ::B) H' done ys∧oa t c f (qN own kp δ) (es.drop i)= .ok rest,
  ⟨es.length,rfl,Nat.zero_le _,Nat.le_refl _,aT,aP hD,[],ds,rfl,aH.nil,by simpa using h3⟩,?_⟩
 rintro i m ys H' ⟨rfl,hi,hy,hDl,ss,done,rest,rfl,rd,hc⟩
 have dB:Dd ∉ B:=fun hb=>by obtain⟨o,ho⟩:=E1.bs Dd hb;rw [hD] at ho;cases ho
 have p':dA B H1 (Dd ::B) H':=fun b o e nb=>⟨ss b o e,fun hb=>by
  rcases List.mem_cons.mp hb with z | z
  ·exact cn e hD z
  ·exact nb z⟩
 have hB':∀a∈Dd ::B,∃o,H' a=some o:=fun a ha=>by
  rcases List.mem_cons.mp ha with z | z
  ·subst z;exact⟨_,hDl⟩
  ·obtain⟨o,ho⟩:=E1.bs a z;exact⟨o,ss a o ho⟩
 obtain⟨go,stop⟩:=ir (Dd ::B) H' p'
 by_cases hlt:i < es.length
 ·have hd:es[i]? =some es[i]:=List.getElem?_eq_getElem hlt
  have hdrop:es.drop i=es[i] ::es.drop (i+1):=List.drop_eq_getElem_cons hlt
  rw[hdrop] at hc
  obtain⟨δ1,h4,h5⟩:=R.ao hc
  obtain⟨b,h6,h7⟩:=R.ao h5
  obtain⟨g1,g2⟩:=go i _ hd
  refine .inr ⟨g1,fun x H2 y=>?_⟩
  obtain⟨sy,ry⟩:=g2 x H2 y hB'
  have Ec:eP K [] (Dd ::B) H2 (dE own kp σ) (qN own kp δ):=Gi E1 (p'.trans (dA.same sy)) fun a ha=>let⟨o,ho⟩:=hB' a ha;⟨o,sy a o ho⟩
  refine⟨[],Dd ::B,qN own kp δ,es[i],δ1,Ec,ry,h4,fun σ3 H3 s3 E3 _=>⟨[],Dd ::B,δ1,b,E3,h6,fun H4 s4=>?_⟩⟩
  have sAll:a_ H' H4:=sy.trans (s3.trans s4)
  cases b with
  | true=>
    rw[if_pos rfl] at h7
    refine Cn ?_
    obtain⟨yv,h8,h9⟩:=R.ao h7
    obtain⟨rs,h10,h11⟩:=R.ao h9
    cases h11
    refine⟨[],Dd ::B,δ1,yv,E3.same s4,h8,fun v H5 s5 r5=>?_⟩
    have s':a_ H' H5:=sAll.trans s5
    have hD5:H5 Dd=some (.lst ys):=s' Dd _ hDl
    have pu:dA (Dd ::B) H5 (Dd ::B) (upd H5 Dd (.lst (ys++[v]))):=fun b o e nb=>⟨by rw[bq (fun(z:b=Dd)=>nb (by rw[z];exact List.mem_cons_self))];exact e,nb⟩
    refine⟨hD5,by omega,es.length - (i+1),by omega,rfl,hlt,by rw[List.length_append,List.length_singleton];omega,aT,fun b o e=>?_,done++[yv],rs,by simp,((rd.same s').append (aH.cons r5 aH.nil)).bt pu,h10⟩
    rw[bq (cn e hD)]
    exact s' b o (ss b o e)
  | false=>
    rw[if_neg (by decide)] at h7
    refine BE ?_
    exact⟨es.length - (i+1),by omega,rfl,hlt,by omega,sAll Dd _ hDl,ss.trans sAll,done,rest,rfl,rd.same sAll,h7⟩
 ·have e:i=es.length:=by omega
  subst e
  rw[List.drop_length] at hc
  cases hc
  rw[List.append_nil] at q
  exact .inl ⟨stop,q Dd ys H' (s1.trans ss) (s1.free hD) hDl rd⟩
theorem Ek{scope:Scope}{own:List Str}{kp:List Nat}{kn:List Str}{tg iter elt:Expr}{ifs:List Expr}{it:ax→R (List D)}{t:FT}{c:ax→R Bool}{f:FD}{pos:Pos}(hc:X.calm=true)(C:b9 X scope own kp kn)(hi:HB X tg iter it)
 (hg:∀fp s H,FC (bJ X scope (own++kn) fp s H) tg t) (hif:∀fp s H,oE (bJ X scope (own++kn) fp s H) ifs (G9 X.K c)) (he:∀fp s H,PD (bJ X scope (own++kn) fp s H) elt f)
 (hs:∀x,foldedSetIterable iter X.env x=pure x:=by intro _;rfl):PN X (.ListComp elt [⟨tg,iter,ifs,0⟩] scope pos) (eH it t c f own kp):=
 (zm hc C hi hg hif he hs).imp fun σ H Q h=>ze h
noncomputable def rL:ax→R Bool:=fun _=> .ok true
theorem CB:oE X [] (G9 X.K rL):=fun pins s σ H Q I ⟨Z,B,δ,b,E,hf,q⟩=>vF pins s σ H Q I (by cases hf;exact q H (a_.refl H))
theorem Ed{e:Expr}{c:ax→R Bool}(h:PB X e c):oE X [e] (G9 X.K c):=wK h
end
noncomputable def dj(N:List Str)(ds:List D):ax:=ds.map .val++List.replicate (N.length - ds.length) .un
noncomputable def oY(N:List Str)(F:FS):List D→R D:=fun ds=>(F (dj N ds)).bind fun o=>match o with | .rt d=> .ok d | .nx _=> .ok .di
theorem DZ{K:PySem.W.Frag}{B:List Addr}{H:Hp}{N:List Str}{ds:List D}{vs:List V}(hB:∀a∈B,∃o,H a=some o)(r:aH K B H ds vs):eP K B B H (start N vs) (dj N ds) where
 len:=by unfold start dj;simp [r.length]
 bs:=hB
 zb:=fun a ha=>ha
 val:=fun i d e=>by
  unfold dj at e
  unfold start
  by_cases hi:i < ds.length
  ·rw[List.getElem?_append_left (by simpa using hi),List.getElem?_map] at e
   cases q:ds[i]? with
   | none=>rw [q] at e;cases e
   | some d'=>
     rw[q] at e
     cases e
     obtain⟨x,h1,h2⟩:=r.get q
     exact⟨x,by rw[List.getElem?_append_left (by rw[List.length_map,←r.length];exact hi),List.getElem?_map,h1];rfl,h2⟩
  ·rw[List.getElem?_append_right (by simpa using hi),List.getElem?_replicate] at e
   split at e <;> cases e
 bld:=fun i es e=>by
  unfold dj at e
  by_cases hi:i < ds.length
  ·rw[List.getElem?_append_left (by simpa using hi),List.getElem?_map] at e
   cases q:ds[i]? with
   | none=>rw [q] at e;cases e
   | some d'=>rw [q] at e;cases e
  ·rw[List.getElem?_append_right (by simpa using hi),List.getElem?_replicate] at e
   split at e <;> cases e
 dis:=fun i j a es fs e=>by
  unfold dj at e
  by_cases hi:i < ds.length
  ·rw[List.getElem?_append_left (by simpa using hi),List.getElem?_map] at e
   cases q:ds[i]? with
   | none=>rw [q] at e;cases e
   | some d'=>rw [q] at e;cases e
  ·rw[List.getElem?_append_right (by simpa using hi),List.getElem?_replicate] at e
   split at e <;> cases e
theorem Eb{P:Program}{w:World}{K:PySem.W.Frag}{mg:Str→Option Value}{base:Heap}{x qual:Str}{st:Stmt}{f:Addr}{fd:FuncData}{N ps:List Str}{k:Nat}{F:FS}(Fn:y6 K x qual st f fd)(S:ba N ps (af st))
 (hbody:∀(cdv:Value) (A:Around) (outer:List Env) (s:Shared) (H:Hp) (E:XK),eS k (A.deeper (envOfC qual (af st) s.heap.objs.size f cdv))→
   pS (qz sC P w K mg base N qual (af st) f cdv A outer s H E).En (aq st) F):iY P w K mg base sC (k+1) f fd ps (BY K ps.length (oY N F)):=by
 refine Fn.ok S (fun vs H Q E h=>h.1) (fun cdv A outer s H vs Q E hr h=>⟨_,hbody cdv A outer s H E hr,?_⟩)
 obtain⟨_,B,ds,d,hB,r,hg,q⟩:=h
 obtain⟨o,h1,h2⟩:=R.ao hg
 refine⟨B,B,dj N ds,o,DZ hB r,h1,?_⟩
 have sm:∀{B':List Addr} {H':Hp},Ev B B H B' H'→a_ H H':=fun {B' H'} ev b u e=>by
  by_cases hb:b∈B
  ·exact(ev.zs b u e hb).1
  ·exact(ev.bt b u e hb).1
 cases o with
 | nx δ'=>
   cases h2
   exact fun σ' B' H' ev _=>q _ H' (sm ev) (by unfold Rep;rfl)
 | rt d'=>
   cases h2
   exact fun v B' H' ev z rr=>q v H' (sm ev) (rr.bt fun b o e nb=>⟨e,fun hb=>nb (z b hb)⟩)
end L2
end
section
set_option maxRecDepth 100000
set_option maxHeartbeats 4000000
namespace L2
open PySem PySem.Spec PyProof.Rows
theorem Rep.int{K:PySem.W.Frag}{B:List Addr}{H:Hp}{i:Int}{v:V}:Rep K B H (.int i) v↔v= .int i:=by unfold Rep;exact Iff.rfl
theorem Rep.bl{K:PySem.W.Frag}{B:List Addr}{H:Hp}{i:Bool}{v:V}:Rep K B H (.bl i) v↔v= .bl i:=by unfold Rep;exact Iff.rfl
theorem Rep.str{K:PySem.W.Frag}{B:List Addr}{H:Hp}{i:Str}{v:V}:Rep K B H (.str i) v↔v= .str i:=by unfold Rep;exact Iff.rfl
theorem Rep.di{K:PySem.W.Frag}{B:List Addr}{H:Hp}{v:V}:Rep K B H .di v↔v= .di:=by unfold Rep;exact Iff.rfl
theorem Rep.lst{K:PySem.W.Frag}{B:List Addr}{H:Hp}{ds:List D}{v:V}:Rep K B H (.lst ds) v↔∃a xs,v= .ref a∧qZ K B H a xs∧aH K B H ds xs:=by rw[Rep]
theorem Rep.tup{K:PySem.W.Frag}{B:List Addr}{H:Hp}{ds:List D}{v:V}:Rep K B H (.tup ds) v↔∃a xs,v= .ref a∧tq K B H a xs∧aH K B H ds xs:=by rw[Rep]
section
variable {X:Cx}
theorem k_.of{f:Value→Value→Sem Value}{r:R2}{g:D→D→R D}(h:lp X f r)
 (w:∀(B:List Addr) (H:Hp) (da db d:D) (x y:V) (Q:VK),(∀a∈B,∃o,H a=some o)→Rep X.K B H da x→Rep X.K B H db y→g da db= .ok d→(∀z H',a_ H H'→Rep X.K B H' d z→Q z H')→r x y H Q):k_ X f g:=by
 intro pins s σ H B da db d x y v u I hb rx ry ra rb hg
 exact h pins s σ H x y v u _ I rx ry (w B H da db d x y _ hb ra rb hg fun z H' s1 r1=>⟨s1,r1⟩)
theorem gd.of{f:Value}{r:List V→Hp→VK→Prop}{g:List D→R D}(h:nX X f r)
 (w:∀(B:List Addr) (H:Hp) (ds:List D) (d:D) (xs:List V) (Q:VK),(∀a∈B,∃o,H a=some o)→aH X.K B H ds xs→g ds= .ok d→(∀z H',a_ H H'→Rep X.K B H' d z→Q z H')→r xs H Q):gd X f g:=by
 intro pins s σ H B ds d xs us I hb rx rs hg
 exact h pins s σ H xs us _ I rx (w B H ds d xs _ hb rs hg fun z H' s1 r1=>⟨s1,r1⟩)
noncomputable def vn(C:Int→Int→Bool)(g:Int→Int→Int):D→D→R D
 | .int i, .int j=>R.bV (C i j) (.ok (.int (g i j)))
 | _,_=> .no
theorem wL{f:Value→Value→Sem Value}{C:Int→Int→Bool}{Cp:Int→Int→Prop}{g:Int→Int→Int}(h:lp X f (rI Cp fun i j=> .int (g i j)))(hc:∀i j,C i j=true→Cp i j):k_ X f (vn C g):=
 k_.of h fun B H da db d x y Q _ ra rb hg q=>by
  unfold vn at hg
  split at hg
  ·obtain⟨h1,h2⟩:=R.bo hg
   cases h2
   exact⟨_,_,Rep.int.mp ra,Rep.int.mp rb,hc _ _ h1,q _ H (a_.refl H) (Rep.int.mpr rfl)⟩
  ·cases hg
noncomputable def o4(g:Int→Int→Int):D→D→R D
 | .int i, .int j=> .ok (.int (g i j))
 | _,_=> .no
theorem uI{f:Value→Value→Sem Value}{g:Int→Int→Int}(h:lp X f (CN fun i j=> .int (g i j))):k_ X f (o4 g):=
 k_.of h fun B H da db d x y Q _ ra rb hg q=>by
  unfold o4 at hg
  split at hg
  ·cases hg
   exact⟨_,_,Rep.int.mp ra,Rep.int.mp rb,q _ H (a_.refl H) (Rep.int.mpr rfl)⟩
  ·cases hg
noncomputable def zY(g:Int→Int→Bool):D→D→R D
 | .int i, .int j=> .ok (.bl (g i j))
 | _,_=> .no
theorem EW{f:Value→Value→Sem Value}{g:Int→Int→Bool}(h:lp X f (CN fun i j=> .bl (g i j))):k_ X f (zY g):=
 k_.of h fun B H da db d x y Q _ ra rb hg q=>by
  unfold zY at hg
  split at hg
  ·cases hg
   exact⟨_,_,Rep.int.mp ra,Rep.int.mp rb,q _ H (a_.refl H) (Rep.bl.mpr rfl)⟩
  ·cases hg
noncomputable abbrev mB:D→D→R D:=o4 fun i j=>i - j
theorem pk:k_ X (binaryOp .Sub) mB:=uI FP
noncomputable abbrev lg:D→D→R D:=vn (fun _ j=>decide (0 < j∧j < 1073741824)) fun i j=>i / j
theorem Bt:k_ X (binaryOp .FloorDiv) lg:=wL CY fun i j h=>(of_decide_eq_true h:0 < j∧j < 1073741824)
noncomputable abbrev lJ:D→D→R D:=vn (fun _ j=>decide (0 < j)) fun i j=>i % j
theorem rf:k_ X (binaryOp .Mod) lJ:=wL FQ fun i j h=>of_decide_eq_true h
noncomputable abbrev uG:D→D→R D:=vn (fun i j=>decide (0≤j∧j≤1000000∧i.natAbs < 2 ^ 64)) fun i j=>i ^ j.toNat
theorem Ia:k_ X (binaryOp .Pow) uG:=wL Ft fun i j h=>(of_decide_eq_true h:0≤j∧j≤1000000∧i.natAbs < 2 ^ 64)
noncomputable abbrev uK:D→D→R D:=vn (fun _ j=>decide (0≤j)) fun i j=>i / 2 ^ j.toNat
theorem IP:k_ X (binaryOp .RShift) uK:=wL F3 fun i j h=>of_decide_eq_true h
noncomputable abbrev qp:D→D→R D:=o4 fun i j=>Builtin.bitAnd i j
theorem l0:k_ X (binaryOp .BitAnd) qp:=uI GV
noncomputable abbrev r_:D→D→R D:=o4 fun i j=>Builtin.bitOr i j
theorem mz:k_ X (binaryOp .BitOr) r_:=uI IU
noncomputable abbrev tw:D→D→R D:=o4 fun i j=>Builtin.bitXor i j
theorem nS:k_ X (binaryOp .BitXor) tw:=uI Gk
noncomputable abbrev Fv:D→D→R D:=zY fun i j=>decide (i < j)
noncomputable abbrev Ga:D→D→R D:=zY fun i j=>decide (i≤j)
noncomputable abbrev D4:D→D→R D:=zY fun i j=>decide (j < i)
theorem JZ:k_ X (compareOp .Gt) D4:=EW HV
noncomputable abbrev Ej:D→D→R D:=zY fun i j=>decide (j≤i)
theorem JS:k_ X (compareOp .GtE) Ej:=EW Ir
theorem qZ.uj{K:PySem.W.Frag}{B:List Addr}{H:Hp}{a:Addr}{xs:List V}(h:H a=some (.lst xs))(n:a ∉ B):qZ K B H a xs:= .inl ⟨n, .inl h⟩
theorem Inv.Ff{pins:List (Addr × Obj)}{σ:St}{H:Hp}{s:Shared}{a:Addr}{xs:List V}{B:List Addr}(I:Inv X pins σ H s)(h:qZ X.K B H a xs):∃(its:List Value) (n:Nat),Vals xs its∧s.heap.get? a=some {cls:= .type "list",data:= .seq its.toArray n}∧xs.length≤sizeLine:=by
 rcases h with⟨_,h⟩ | ⟨its,n,hk,hz,r⟩
 ·obtain⟨z,its,n,r,e⟩:=h.ok I.hok
  exact⟨its,n,r,e,z⟩
 ·exact⟨its,n,r,I.oM a _ hk,hz⟩
theorem yA:lp X (binaryOp .Add) (fun x y H Q=>∃B l b xs zs,x= .ref l∧y= .ref b∧qZ X.K B H l xs∧qZ X.K B H b zs∧xs.length+zs.length≤sizeLine∧∀p,H p=none→Q (.ref p) (upd H p (.lst (xs++zs)))):=by
 intro pins s σ H x y v u Q I rx ry h
 obtain⟨B,l,b,xs,zs,rfl,rfl,hH,hB,hz,q⟩:=h
 cases rx
 cases ry
 obtain⟨its,n,r,e,_⟩:=I.Ff hH
 obtain⟨its2,n2,r2,e2,_⟩:=I.Ff hB
 have l1:=r.length
 have l2:=r2.length
 refine PySem.P.add_list e e2 ?_ (by rw[List.size_toArray,List.size_toArray];omega)
 have ea:its.toArray++its2.toArray=(its++its2).toArray:=by simp
 rw[ea]
 exact⟨.ref _,_,I.EG (t':=s.toks) (r.append r2) (by rw[List.length_append];omega),rfl,q _ I.fresh⟩
noncomputable def iL:D→D→R D
 | .int i, .int j=> .ok (.int (i+j))
 | .str a, .str b=>R.bV (decide (a.length+b.length≤sizeLine)) (.ok (.str (a++b)))
 | .lst a, .lst b=>R.bV (decide (a.length+b.length≤sizeLine)) (.ok (.lst (a++b)))
 | _,_=> .no
theorem jh:k_ X (binaryOp .Add) iL:=by
 intro pins s σ H B da db d x y v u I hb rx ry ra rb hg
 unfold iL at hg
 split at hg
 ·cases hg
  exact G3 pins s σ H x y v u _ I rx ry ⟨_,_,Rep.int.mp ra,Rep.int.mp rb,a_.refl H,Rep.int.mpr rfl⟩
 ·obtain⟨h1,h2⟩:=R.bo hg
  cases h2
  exact xA pins s σ H x y v u _ I rx ry ⟨_,_,Rep.str.mp ra,Rep.str.mp rb,of_decide_eq_true h1,a_.refl H,Rep.str.mpr rfl⟩
 ·obtain⟨h1,h2⟩:=R.bo hg
  cases h2
  obtain⟨a1,xs1,rfl,l1,r1⟩:=Rep.lst.mp ra
  obtain⟨a2,xs2,rfl,l2,r2⟩:=Rep.lst.mp rb
  refine yA pins s σ H _ _ v u _ I rx ry ⟨B,a1,a2,xs1,xs2,rfl,rfl,l1,l2,by rw[←r1.length,←r2.length];exact of_decide_eq_true h1,fun p hp=>⟨aP hp,Rep.lst.mpr ⟨p,_,rfl, .uj aT fun ha=>?_,(r1.append r2).same (aP hp)⟩⟩⟩
  obtain⟨o,ho⟩:=hb p ha
  rw[hp] at ho;cases ho
 ·cases hg
theorem Dz:lp X (binaryOp .Mult) (fun x y H Q=>∃z n,x= .str z∧y= .int n∧MulOk z n∧Q (.str (Txt.mul z n)) H):=by
 intro pins s σ H x y v u Q I rx ry h
 obtain⟨z,n,rfl,rfl,hm,q⟩:=h
 obtain⟨t,rfl⟩:=rx
 obtain⟨t',rfl⟩:=ry
 exact SB.mul hm fun t2 k=>⟨.str _,H,I.tok _,⟨_,rfl⟩,q⟩
end
end L2
end
section
set_option maxRecDepth 100000
set_option maxHeartbeats 4000000
namespace L2
open PySem PySem.Spec PyProof.Rows
section
variable {X:Cx}
theorem mulOk_of{x:Str}{n:Int}(h1: -(2 ^ 63)≤n)(h2:n < 2 ^ 63)(h3:x.length*n.toNat≤sizeLine):MulOk x n:=by
 refine⟨by simp only[Bool.or_eq_false_iff,decide_eq_false_iff_not];omega,fun hn _=>?_,fun hn _=>?_⟩
 ·have hz:sizeLine=16777216:=sizeLine_eq
  have e:(n.toNat:Int)=n:=by omega
  have h4:(x.length:Int)*n≤16777216:=by
   have:((x.length*n.toNat:Nat):Int)≤((16777216:Nat):Int):=Int.ofNat_le.mpr (by omega)
   rw[Int.natCast_mul,e] at this
   exact this
  have:(x.length:Int)≤(2 ^ 63 - 1) / n:=(Int.le_ediv_iff_mul_le (by omega)).mpr (by omega)
  omega
 ·unfold Builtin.Str.tooLong;exact decide_eq_false (by omega)
noncomputable def m8:D→D→R D
 | .int i, .int j=>R.bV (decide ((-(2 ^ 64) < i∧i < 2 ^ 64)∨(-(2 ^ 64) < j∧j < 2 ^ 64))) (.ok (.int (i*j)))
 | .str x, .int n=>R.bV (decide (-(2 ^ 63)≤n∧n < 2 ^ 63∧x.length*n.toNat≤sizeLine)) (.ok (.str (Txt.mul x n)))
 | _,_=> .no
theorem t8:k_ X (binaryOp .Mult) m8:=by
 intro pins s σ H B da db d x y v u I hb rx ry ra rb hg
 unfold m8 at hg
 split at hg
 ·obtain⟨h1,h2⟩:=R.bo hg
  cases h2
  have h1:=of_decide_eq_true h1
  exact Ho pins s σ H x y v u _ I rx ry ⟨_,_,Rep.int.mp ra,Rep.int.mp rb,h1,a_.refl H,Rep.int.mpr rfl⟩
 ·obtain⟨h1,h2⟩:=R.bo hg
  cases h2
  have h1:=of_decide_eq_true h1
  exact Dz pins s σ H x y v u _ I rx ry ⟨_,_,Rep.str.mp ra,Rep.int.mp rb,mulOk_of h1.1 h1.2.1 h1.2.2,a_.refl H,Rep.str.mpr rfl⟩
 ·cases hg
mutual
noncomputable def toPy:D→PyData
 | .di=> .none
 | .bl b=> .bool b
 | .int i=> .int i
 | .str x=> .str x
 | .lst ds=> .list (kR ds)
 | .tup ds=> .tuple (kR ds)
 | .dct _ _=> .dict []
noncomputable def kR:List D→List PyData
 | []=>[]
 | d ::ds=>toPy d ::kR ds
end
mutual
noncomputable def eT:D→Bool
 | .dct _ _=>false
 | .lst ds=>jI ds
 | .tup ds=>jI ds
 | _=>true
noncomputable def jI:List D→Bool
 | []=>true
 | d ::ds=>eT d && jI ds
end
mutual
theorem Rep.reads{pins:List (Addr × Obj)}{σ:St}{H:Hp}{s:Shared}{B:List Addr}(I:Inv X pins σ H s):∀{d:D} {v:V} {u:Value},eT d=true→Rep X.K B H d v→RelV v u→∃as,Reads s.heap u (toPy d) as
 | .di,v,u,_,r,q=>by rw[Rep.di.mp r] at q;cases q;unfold toPy;exact⟨_, .none⟩
 | .bl b,v,u,_,r,q=>by rw[Rep.bl.mp r] at q;cases q;unfold toPy;exact⟨_, .bool b⟩
 | .int i,v,u,_,r,q=>by rw[Rep.int.mp r] at q;obtain⟨t,rfl⟩:=q;unfold toPy;exact⟨_, .int i t⟩
 | .str x,v,u,_,r,q=>by rw[Rep.str.mp r] at q;obtain⟨t,rfl⟩:=q;unfold toPy;exact⟨_, .str x t⟩
 | .lst ds,v,u,hp,r,q=>by
   obtain⟨a,xs,rfl,l,rs⟩:=Rep.lst.mp r
   cases q
   obtain⟨its,rv,⟨o,n,e,hc,hd,he⟩,_⟩:=I.list l.sq
   obtain⟨as,ra⟩:=aH.reads I (by unfold eT at hp;exact hp) rs rv
   unfold toPy
   exact⟨_, .list e hc he (by simpa using ra)⟩
 | .tup ds,v,u,hp,r,q=>by
   obtain⟨a,xs,rfl,l,rs⟩:=Rep.tup.mp r
   cases q
   obtain⟨its,rv,⟨o,e,hc,n,hd⟩,_⟩:=I.tuple l.sq
   obtain⟨as,ra⟩:=aH.reads I (by unfold eT at hp;exact hp) rs rv
   unfold toPy
   exact⟨_, .tuple e hc hd (by simpa using ra)⟩
 | .dct _ _,v,u,hp,r,q=>by unfold eT at hp;cases hp
theorem aH.reads{pins:List (Addr × Obj)}{σ:St}{H:Hp}{s:Shared}{B:List Addr}(I:Inv X pins σ H s):∀{ds:List D} {vs:List V} {us:List Value},jI ds=true→aH X.K B H ds vs→Vals vs us→∃as,ReadsAll s.heap us (kR ds) as
 | [],vs,us,_,r,q=>by unfold aH at r;subst r;cases q;unfold kR;exact⟨_, .nil⟩
 | d ::ds,vs,us,hp,r,q=>by
   obtain⟨x,xs,rfl,r1,r2⟩:=r.cw
   cases q with
   | cons q1 q2=>
     unfold jI at hp
     obtain⟨h1,h2⟩:=Bool.and_eq_true_iff.mp hp
     obtain⟨as,a1⟩:=Rep.reads I h1 r1 q1
     obtain⟨bs,a2⟩:=aH.reads I h2 r2 q2
     unfold kR
     exact⟨_, .cons a1 a2⟩
end
noncomputable def zg:D→D→R Bool
 | .int i, .int j=> .ok (decide (i=j))
 | .str x, .str y=> .ok (decide (x=y))
 | .bl a, .bl b=> .ok (decide (a=b))
 | d,e=>R.bV (eT d && eT e && SeqAt.shaped (toPy d) && SeqAt.shaped (toPy e)) (.ok (PyData.eqv (toPy d) (toPy e)))
noncomputable def gO(d e:D):R D:=(zg d e).bind fun b=> .ok (.bl b)
noncomputable def w9(d e:D):R D:=(zg d e).bind fun b=> .ok (.bl (!b))
theorem gy(hu:X.A.units+64 < cLine):k_ X (compareOp .Eq) gO:=by
 intro pins s σ H B da db d x y v u I hb rx ry ra rb hg
 obtain⟨b,h1,h2⟩:=R.ao hg
 cases h2
 unfold zg at h1
 split at h1
 ·cases h1
  rename_i i j
  have:=AA pins s σ H x y v u (fun z H'=>a_ H H'∧Rep X.K B H' (.bl (decide (i=j))) z) I rx ry
  rw[Rep.int.mp ra,Rep.int.mp rb] at this
  refine this ⟨rfl,a_.refl H,Rep.bl.mpr ?_⟩
  simp [V.int.injEq]
 ·cases h1
  rename_i i j
  have:=AA pins s σ H x y v u (fun z H'=>a_ H H'∧Rep X.K B H' (.bl (decide (i=j))) z) I rx ry
  rw[Rep.str.mp ra,Rep.str.mp rb] at this
  refine this ⟨rfl,a_.refl H,Rep.bl.mpr ?_⟩
  simp [V.str.injEq]
 ·cases h1
  rename_i i j
  have:=AA pins s σ H x y v u (fun z H'=>a_ H H'∧Rep X.K B H' (.bl (decide (i=j))) z) I rx ry
  rw[Rep.bl.mp ra,Rep.bl.mp rb] at this
  refine this ⟨rfl,a_.refl H,Rep.bl.mpr ?_⟩
  simp [V.bl.injEq]
 ·obtain⟨h3,h4⟩:=R.bo h1
  cases h4
  simp only[Bool.and_eq_true] at h3
  obtain⟨⟨⟨p1,p2⟩,s1⟩,s2⟩:=h3
  obtain⟨as,r1⟩:=ra.reads I p1 rx
  obtain⟨bs,r2⟩:=rb.reads I p2 ry
  exact eq_dataH r1 r2 s1 s2 hu ⟨.bl _,H,I,rfl,a_.refl H,Rep.bl.mpr rfl⟩
theorem Dl(hu:X.A.units+64 < cLine):k_ X (compareOp .NotEq) w9:=by
 intro pins s σ H B da db d x y v u I hb rx ry ra rb hg
 obtain⟨b,h1,h2⟩:=R.ao hg
 cases h2
 unfold zg at h1
 split at h1
 ·cases h1
  rename_i i j
  have:=A4 pins s σ H x y v u (fun z H'=>a_ H H'∧Rep X.K B H' (.bl (!decide (i=j))) z) I rx ry
  rw[Rep.int.mp ra,Rep.int.mp rb] at this
  refine this ⟨rfl,a_.refl H,Rep.bl.mpr ?_⟩
  simp [V.int.injEq]
 ·cases h1
  rename_i i j
  have:=A4 pins s σ H x y v u (fun z H'=>a_ H H'∧Rep X.K B H' (.bl (!decide (i=j))) z) I rx ry
  rw[Rep.str.mp ra,Rep.str.mp rb] at this
  refine this ⟨rfl,a_.refl H,Rep.bl.mpr ?_⟩
  simp [V.str.injEq]
 ·cases h1
  rename_i i j
  have:=A4 pins s σ H x y v u (fun z H'=>a_ H H'∧Rep X.K B H' (.bl (!decide (i=j))) z) I rx ry
  rw[Rep.bl.mp ra,Rep.bl.mp rb] at this
  refine this ⟨rfl,a_.refl H,Rep.bl.mpr ?_⟩
  simp [V.bl.injEq]
 ·obtain⟨h3,h4⟩:=R.bo h1
  cases h4
  simp only[Bool.and_eq_true] at h3
  obtain⟨⟨⟨p1,p2⟩,s1⟩,s2⟩:=h3
  obtain⟨as,r1⟩:=ra.reads I p1 rx
  obtain⟨bs,r2⟩:=rb.reads I p2 ry
  exact ne_dataH r1 r2 s1 s2 hu ⟨.bl _,H,I,rfl,a_.refl H,Rep.bl.mpr rfl⟩
noncomputable def strs?:List D→Option (List Str)
 | []=>some []
 | .str x ::ds=>(strs? ds).map (x ::·)
 | _ ::_=>none
theorem j5{K:PySem.W.Frag}{B:List Addr}{H:Hp}:∀{ds:List D} {xs:List V} {ss:List Str},aH K B H ds xs→strs? ds=some ss→xs=ss.map V.str
 | [],xs,ss,r,h=>by unfold aH at r;subst r;cases h;rfl
 | d ::ds,xs,ss,r,h=>by
   obtain⟨x,r',rfl,r1,r2⟩:=r.cw
   cases d with
   | str z=>
     unfold strs? at h
     cases e:strs? ds with
     | none=>rw [e] at h;cases h
     | some tt=>
       rw[e] at h
       cases h
       rw[Rep.str.mp r1,j5 r2 e]
       rfl
   | _=>cases h
noncomputable def ints?:List D→Option (List Int)
 | []=>some []
 | .int x ::ds=>(ints? ds).map (x ::·)
 | _ ::_=>none
theorem iZ{K:PySem.W.Frag}{B:List Addr}{H:Hp}:∀{ds:List D} {xs:List V} {ss:List Int},aH K B H ds xs→ints? ds=some ss→xs=ss.map V.int
 | [],xs,ss,r,h=>by unfold aH at r;subst r;cases h;rfl
 | d ::ds,xs,ss,r,h=>by
   obtain⟨x,r',rfl,r1,r2⟩:=r.cw
   cases d with
   | int z=>
     unfold ints? at h
     cases e:ints? ds with
     | none=>rw [e] at h;cases h
     | some tt=>
       rw[e] at h
       cases h
       rw[Rep.int.mp r1,iZ r2 e]
       rfl
   | _=>cases h
noncomputable def inD(d e:D):R Bool:=match d,e with
 | .str x, .lst ds=>(match strs? ds with | some ss=> .ok (ss.contains x) | none=> .no)
 | .str x, .tup ds=>(match strs? ds with | some ss=> .ok (ss.contains x) | none=> .no)
 | .str x, .str y=> .ok (!(Builtin.Str.occurrences y x 0 y.length 1).isEmpty)
 | .int x, .lst ds=>(match ints? ds with | some ss=> .ok (ss.contains x) | none=> .no)
 | .int x, .tup ds=>(match ints? ds with | some ss=> .ok (ss.contains x) | none=> .no)
 | _,_=> .no
noncomputable def vB(d e:D):R D:=(inD d e).bind fun b=> .ok (.bl b)
noncomputable def iO(d e:D):R D:=(inD d e).bind fun b=> .ok (.bl (!b))
theorem rn(x:Str):∀ss:List Str,Fi (.str x) (ss.map V.str)=ss.contains x
 | []=>rfl
 | y ::ss=>by
   unfold Fi
   rw[List.map_cons,List.any_cons]
   have ih:=rn x ss
   unfold Fi at ih
   rw[ih]
   show(y==x || ss.contains x)=_
   rw[List.contains_cons]
   congr 1
   exact Bool.eq_iff_iff.mpr ⟨fun h=>by simpa using(beq_iff_eq.mp h).symm,fun h=>by simpa using(beq_iff_eq.mp h).symm⟩
theorem qU(x:Int):∀ss:List Int,Fi (.int x) (ss.map V.int)=ss.contains x
 | []=>rfl
 | y ::ss=>by
   unfold Fi
   rw[List.map_cons,List.any_cons]
   have ih:=qU x ss
   unfold Fi at ih
   rw[ih]
   show(y==x || ss.contains x)=_
   rw[List.contains_cons]
   congr 1
   exact Bool.eq_iff_iff.mpr ⟨fun h=>by simpa using(beq_iff_eq.mp h).symm,fun h=>by simpa using(beq_iff_eq.mp h).symm⟩
theorem tM(ss:List Int):(ss.map V.int).all k8=true:=by
 rw[List.all_map]
 simp [List.all_eq_true,k8]
theorem tU(ss:List Str):(ss.map V.str).all k8=true:=by
 rw[List.all_map]
 simp [List.all_eq_true,k8]
theorem BK{neg:Bool}{op:CmpOp}{g:D→D→R D}(h1:lp X (compareOp op) (JT X.K neg))(h2:lp X (compareOp op) (fun x y H Q=>∃i j,x= .str i∧y= .str j∧Q (.bl (if neg then !(!(Builtin.Str.occurrences j i 0 j.length 1).isEmpty) else(!(Builtin.Str.occurrences j i 0 j.length 1).isEmpty))) H))
 (hg:∀d e r,g d e= .ok r→∃b,inD d e= .ok b∧r= .bl (if neg then !b else b)):k_ X (compareOp op) g:=by
 intro pins s σ H B da db d x y v u I hb rx ry ra rb hg'
 obtain⟨b,hi,rfl⟩:=hg da db d hg'
 unfold inD at hi
 split at hi
 ·rename_i z ds
  split at hi
  ·rename_i ss e
   cases hi
   obtain⟨a,xs,rfl,l,rs⟩:=Rep.lst.mp rb
   refine h1 pins s σ H x _ v u _ I rx ry ⟨a,xs,rfl, .inl l.sq,by rw[Rep.str.mp ra];rfl,by rw[j5 rs e];exact tU _,a_.refl H,Rep.bl.mpr ?_⟩
   rw[j5 rs e,Rep.str.mp ra,rn]
  ·cases hi
 ·rename_i z ds
  split at hi
  ·rename_i ss e
   cases hi
   obtain⟨a,xs,rfl,l,rs⟩:=Rep.tup.mp rb
   refine h1 pins s σ H x _ v u _ I rx ry ⟨a,xs,rfl, .inr l.sq,by rw[Rep.str.mp ra];rfl,by rw[j5 rs e];exact tU _,a_.refl H,Rep.bl.mpr ?_⟩
   rw[j5 rs e,Rep.str.mp ra,rn]
  ·cases hi
 ·cases hi
  exact h2 pins s σ H x y v u _ I rx ry ⟨_,_,Rep.str.mp ra,Rep.str.mp rb,a_.refl H,Rep.bl.mpr rfl⟩
 ·rename_i z ds
  split at hi
  ·rename_i ss e
   cases hi
   obtain⟨a,xs,rfl,l,rs⟩:=Rep.lst.mp rb
   refine h1 pins s σ H x _ v u _ I rx ry ⟨a,xs,rfl, .inl l.sq,by rw[Rep.int.mp ra];rfl,by rw[iZ rs e];exact tM _,a_.refl H,Rep.bl.mpr ?_⟩
   rw[iZ rs e,Rep.int.mp ra,qU]
  ·cases hi
 ·rename_i z ds
  split at hi
  ·rename_i ss e
   cases hi
   obtain⟨a,xs,rfl,l,rs⟩:=Rep.tup.mp rb
   refine h1 pins s σ H x _ v u _ I rx ry ⟨a,xs,rfl, .inr l.sq,by rw[Rep.int.mp ra];rfl,by rw[iZ rs e];exact tM _,a_.refl H,Rep.bl.mpr ?_⟩
   rw[iZ rs e,Rep.int.mp ra,qU]
  ·cases hi
 ·cases hi
theorem D6:k_ X (compareOp .In) vB:=BK (neg:=false) Ao Ah fun d e r h=>by
 obtain⟨b,h1,h2⟩:=R.ao h
 cases h2
 exact⟨b,h1,rfl⟩
theorem Er:k_ X (compareOp .NotIn) iO:=BK (neg:=true) ud uN fun d e r h=>by
 obtain⟨b,h1,h2⟩:=R.ao h
 cases h2
 exact⟨b,h1,rfl⟩
noncomputable def bZ(d e:D):R D:=match d,e with
 | .lst ds, .int i=>(match pG ds i with | some x=> .ok x | none=> .no)
 | .tup ds, .int i=>(match pG ds i with | some x=> .ok x | none=> .no)
 | .str x, .int i=>R.bV (decide (x.length≤sizeLine)) (match pG x.cps.toList i with | some c=> .ok (.str ⟨#[c]⟩) | none=> .no)
 | _,_=> .no
theorem oy{K:PySem.W.Frag}{B:List Addr}{H:Hp}{ds:List D}{xs:List V}{i:Int}{d:D}(r:aH K B H ds xs)(h:pG ds i=some d):∃x,pG xs i=some x∧Rep K B H d x:=by
 unfold pG at h ⊢
 rw[←r.length]
 cases e:sv ds.length i with
 | none=>rw [e] at h;cases h
 | some j=>
   rw[e] at h
   exact r.get h
theorem Iu{a b:Expr}{fa fb:FD}{pos:Pos}(ha:PD X a fa)(hb:PD X b fb)(hs:qk b):PD X (.Subscript a b pos) (e2 bZ fa fb):=by
 refine(EZ (r:=Ke X.K) CC ha hb hs).imp fun σ H Q ⟨Z,B,δ,d,E,hf,q⟩=>?_
 obtain⟨d1,h1,h2⟩:=R.ao hf
 obtain⟨d2,h3,h4⟩:=R.ao h2
 refine⟨Z,B,δ,d1,E,h1,fun v1 H1 s1 r1=>⟨Z,B,δ,d2,E.same s1,h3,fun v2 H2 s2 r2=>?_⟩⟩
 have r1':=r1.same s2
 unfold bZ at h4
 split at h4
 ·split at h4
  ·rename_i e
   cases h4
   obtain⟨p,xs,rfl,l,rs⟩:=Rep.lst.mp r1'
   obtain⟨y,e1,e2⟩:=oy rs e
   exact .inl ⟨p,xs,_,y,rfl,Rep.int.mp r2,l.sq,e1,q y H2 (s1.trans s2) e2⟩
  ·cases h4
 ·split at h4
  ·rename_i e
   cases h4
   obtain⟨p,xs,rfl,l,rs⟩:=Rep.tup.mp r1'
   obtain⟨y,e1,e2⟩:=oy rs e
   exact .inr (.inl ⟨p,xs,_,y,rfl,Rep.int.mp r2,l.sq,e1,q y H2 (s1.trans s2) e2⟩)
  ·cases h4
 ·obtain⟨hl,h5⟩:=R.bo h4
  split at h5
  ·rename_i e
   cases h5
   exact .inr (.inr ⟨_,_,_,Rep.str.mp r1',Rep.int.mp r2,of_decide_eq_true hl,e,q _ H2 (s1.trans s2) (Rep.str.mpr rfl)⟩)
  ·cases h5
 ·cases h4
noncomputable abbrev FO:=ax→R (Option Int)
noncomputable def Lv(K:PySem.W.Frag)(f:FO):TO:=fun σ H Q=>∃Z B δ o,eP K Z B H σ δ∧f δ= .ok o∧∀H',a_ H H'→Q o H'
theorem PO.imp{X:Cx}{e:Option Expr}{t t':TO}(h:PO X e t)(w:∀σ H Q,t' σ H Q→t σ H Q):PO X e t':=fun pins s σ H Q I hq=>h pins s σ H Q I (w σ H Q hq)
noncomputable abbrev PP(X:Cx)(e:Option Expr)(f:FO):Prop:=PO X e (Lv X.K f)
noncomputable def jL:FO:=fun _=> .ok none
noncomputable def iQ(f:FD):FO:=fun δ=>(f δ).bind fun d=>match d with | .int i=> .ok (some i) | _=> .no
theorem Ea:PP X none jL:=DL.imp fun σ H Q ⟨Z,B,δ,o,E,hf,q⟩=>by cases hf;exact q H (a_.refl H)
theorem DR{e:Expr}{f:FD}(h:PD X e f):PP X (some e) (iQ f):=(C9 h).imp fun σ H Q ⟨Z,B,δ,o,E,hf,q⟩=>by
 obtain⟨d,h1,h2⟩:=R.ao hf
 cases d with
 | int i=>cases h2;exact⟨Z,B,δ, .int i,E,h1,fun v H1 s1 r1=>⟨i,Rep.int.mp r1,q H1 s1⟩⟩
 | _=>cases h2
theorem G6:E4 X (fun x lo hi H Q=>∃z,x= .str z∧z.length≤sizeLine∧Q (.str (Txt.slice z lo hi)) H):=by
 intro pins s σ H x v vl vu lo hi sl Q I rx hs pl pu h
 obtain⟨z,rfl,hz,q⟩:=h
 obtain⟨t,rfl⟩:=rx
 refine⟨"str",_,F.slot_str_getitem.lookup,typeIs_str _ _ _,?_⟩
 have fin:∀t' k,EP X pins σ Q (.str (Txt.slice z lo hi) t') {s with toks:=k}:=fun t' k=>⟨.str _,H,I.tok _,⟨_,rfl⟩,q⟩
 obtain⟨o,ho,hc,hd⟩:=hs
 cases pl with
 | none=>
   cases pu with
   | none=>exact wpAny_getItem_str_slice (l:=none) (u:=none) (st:=none) ⟨o,ho,hc,hd⟩ rfl (post_val_or_str ⟨Nat.le_trans (Txt.slice_le z _ _) hz,fin⟩)
   | int j u=>exact wpAny_getItem_str_slice (l:=none) (u:=some (j,u)) (st:=none) ⟨o,ho,hc,hd⟩ rfl (post_val_or_str ⟨Nat.le_trans (Txt.slice_le z _ _) hz,fin⟩)
 | int i t1=>
   cases pu with
   | none=>exact wpAny_getItem_str_slice (l:=some (i,t1)) (u:=none) (st:=none) ⟨o,ho,hc,hd⟩ rfl (post_val_or_str ⟨Nat.le_trans (Txt.slice_le z _ _) hz,fin⟩)
   | int j u=>exact wpAny_getItem_str_slice (l:=some (i,t1)) (u:=some (j,u)) (st:=none) ⟨o,ho,hc,hd⟩ rfl (post_val_or_str ⟨Nat.le_trans (Txt.slice_le z _ _) hz,fin⟩)
noncomputable def cutD{α:Type}(xs:List α)(lo hi:Option Int):List α:=(xs.drop (HT.gM xs.length 0 lo)).take (HT.gM xs.length xs.length hi - HT.gM xs.length 0 lo)
noncomputable def H_(d:D)(lo hi:Option Int):R D:=match d with
 | .str x=>R.bV (decide (x.length≤sizeLine)) (.ok (.str (Txt.slice x lo hi)))
 | .lst ds=> .ok (.lst (cutD ds lo hi))
 | _=> .no
theorem vb{K:PySem.W.Frag}{B:List Addr}{H:Hp}{ds:List D}{xs:List V}(r:aH K B H ds xs)(lo hi:Option Int):aH K B H (cutD ds lo hi) (wM xs lo hi):=by
 unfold cutD wM
 rw[←r.length]
 exact(r.drop _).take _
noncomputable def zB(f:FD)(fl fh:FO):FD:=fun δ=>(f δ).bind fun d=>(fl δ).bind fun lo=>(fh δ).bind fun hi=>H_ d lo hi
theorem IK{e:Expr}{lo hi:Option Expr}{f:FD}{fl fh:FO}{p2 pos:Pos}(he:PD X e f)(hl:PP X lo fl)(hh:PP X hi fh):PD X (.Subscript e (.Slice lo hi none p2) pos) (zB f fl fh):=by
 refine(wu (G6.or Es) he hl hh).imp fun σ H Q ⟨Z,B,δ,d,E,hf,q⟩=>?_
 obtain⟨d1,h1,h2⟩:=R.ao hf
 obtain⟨l,h3,h4⟩:=R.ao h2
 obtain⟨h,h5,h6⟩:=R.ao h4
 refine⟨Z,B,δ,d1,E,h1,fun v1 H1 s1 r1=>⟨Z,B,δ,l,E.same s1,h3,fun H2 s2=>⟨Z,B,δ,h,(E.same s1).same s2,h5,fun H3 s3=>?_⟩⟩⟩
 have sA:a_ H H3:=s1.trans (s2.trans s3)
 have r1':=r1.same (s2.trans s3)
 unfold H_ at h6
 split at h6
 ·obtain⟨hz,h7⟩:=R.bo h6
  cases h7
  exact .inl ⟨_,Rep.str.mp r1',of_decide_eq_true hz,q _ H3 sA (Rep.str.mpr rfl)⟩
 ·cases h6
  obtain⟨a,xs,rfl,ls,rs⟩:=Rep.lst.mp r1'
  refine .inr ⟨a,xs,rfl,ls.sq,fun p hp=>q _ _ (sA.trans (aP hp)) (Rep.lst.mpr ⟨p,_,rfl, .uj aT fun ha=>?_,(vb rs l h).same (aP hp)⟩)⟩
  obtain⟨o,ho⟩:=(E.same sA).bs p ha
  rw[hp] at ho;cases ho
 ·cases h6
end
end L2
end
section
set_option maxRecDepth 100000
set_option maxHeartbeats 4000000
namespace L2
open PySem PySem.Spec PyProof.Rows
section
variable {X:Cx}
theorem aH.one{K:PySem.W.Frag}{B:List Addr}{H:Hp}{d:D}{xs:List V}(h:aH K B H [d] xs):∃x,xs=[x]∧Rep K B H d x:=by
 obtain⟨x,r,rfl,h1,h2⟩:=h.cw
 unfold aH at h2
 subst h2
 exact⟨x,rfl,h1⟩
theorem aH.two{K:PySem.W.Frag}{B:List Addr}{H:Hp}{d e:D}{xs:List V}(h:aH K B H [d,e] xs):∃x y,xs=[x,y]∧Rep K B H d x∧Rep K B H e y:=by
 obtain⟨x,r,rfl,h1,h2⟩:=h.cw
 obtain⟨y,rfl,h3⟩:=h2.one
 exact⟨x,y,rfl,h1,h3⟩
noncomputable def fO:List D→R D
 | [.str x]=>R.bV (decide (x.length≤sizeLine)) (.ok (.int x.length))
 | [.lst ds]=> .ok (.int ds.length)
 | [.tup ds]=> .ok (.int ds.length)
 | _=> .no
theorem fQ:gd X (.builtin "len") fO:=gd.of B_ fun B H ds d xs Q _ rs hg q=>by
 unfold fO at hg
 split at hg
 ·obtain⟨h1,h2⟩:=R.bo hg
  cases h2
  obtain⟨x,rfl,r⟩:=rs.one
  exact⟨x,_,rfl,by rw[Rep.str.mp r];exact⟨of_decide_eq_true h1,rfl⟩,q _ H (a_.refl H) (Rep.int.mpr rfl)⟩
 ·cases hg
  obtain⟨x,rfl,r⟩:=rs.one
  obtain⟨a,ys,rfl,l,r⟩:=Rep.lst.mp r
  exact⟨_,_,rfl, .inl ⟨ys,l.sq,rfl⟩,q _ H (a_.refl H) (Rep.int.mpr (by rw[r.length]))⟩
 ·cases hg
  obtain⟨x,rfl,r⟩:=rs.one
  obtain⟨a,ys,rfl,l,r⟩:=Rep.tup.mp r
  exact⟨_,_,rfl, .inr ⟨ys,l.sq,rfl⟩,q _ H (a_.refl H) (Rep.int.mpr (by rw[r.length]))⟩
 ·cases hg
noncomputable def cInt:List D→R D
 | [.int i]=> .ok (.int i)
 | [.bl b]=> .ok (.int (if b then 1 else 0))
 | _=> .no
noncomputable def cStr:List D→R D
 | [.int i]=>R.bV (decide (i.natAbs.log2 < 1920)) (.ok (.str (toString i)))
 | _=> .no
noncomputable def se:List D→R D
 | [.int i, .int j]=> .ok (.int (if j < i then j else i))
 | _=> .no
theorem IX(hc:X.calm=true):gd X (.builtin "min") se:=gd.of (Aj hc) fun B H ds d xs Q _ rs hg q=>by
 unfold se at hg
 split at hg
 ·cases hg
  obtain⟨x,y,rfl,r1,r2⟩:=rs.two
  exact⟨_,_,by rw[Rep.int.mp r1,Rep.int.mp r2],q _ H (a_.refl H) (Rep.int.mpr rfl)⟩
 ·cases hg
noncomputable def Km:List D→R D
 | [.int i, .int j]=> .ok (.int (if j > i then j else i))
 | _=> .no
noncomputable def iG:List D→R D
 | [.lst ds]=> .ok (.tup ds)
 | [.tup ds]=> .ok (.tup ds)
 | _=> .no
theorem uY:gd X (.type "tuple") iG:=gd.of r6 fun B H ds d xs Q hb rs hg q=>by
 unfold iG at hg
 split at hg
 ·cases hg
  obtain⟨x,rfl,r⟩:=rs.one
  obtain⟨a,ys,rfl,l,r⟩:=Rep.lst.mp r
  refine⟨a,ys,rfl, .inl ⟨l.sq,fun p hp=>q _ _ (aP hp) (Rep.tup.mpr ⟨p,ys,rfl, .inl ⟨fun ha=>?_, .inl aT⟩,r.same (aP hp)⟩)⟩⟩
  obtain⟨o,ho⟩:=hb p ha
  rw[hp] at ho;cases ho
 ·cases hg
  obtain⟨x,rfl,r⟩:=rs.one
  have r0:=r
  obtain⟨a,ys,rfl,l,r⟩:=Rep.tup.mp r
  exact⟨a,ys,rfl, .inr ⟨l.sq,q _ H (a_.refl H) r0⟩⟩
 ·cases hg
noncomputable def k5:List D→R D
 | [.lst ds]=> .ok (.lst ds)
 | [.tup ds]=> .ok (.lst ds)
 | _=> .no
theorem xw:gd X (.type "list") k5:=gd.of nR fun B H ds d xs Q hb rs hg q=>by
 unfold k5 at hg
 split at hg
 ·cases hg
  obtain⟨x,rfl,r⟩:=rs.one
  obtain⟨a,ys,rfl,l,r⟩:=Rep.lst.mp r
  refine⟨a,ys,rfl, .inl l.sq,fun p hp=>q _ _ (aP hp) (Rep.lst.mpr ⟨p,ys,rfl, .uj aT fun ha=>?_,r.same (aP hp)⟩)⟩
  obtain⟨o,ho⟩:=hb p ha
  rw[hp] at ho;cases ho
 ·cases hg
  obtain⟨x,rfl,r⟩:=rs.one
  obtain⟨a,ys,rfl,l,r⟩:=Rep.tup.mp r
  refine⟨a,ys,rfl, .inr l.sq,fun p hp=>q _ _ (aP hp) (Rep.lst.mpr ⟨p,ys,rfl, .uj aT fun ha=>?_,r.same (aP hp)⟩)⟩
  obtain⟨o,ho⟩:=hb p ha
  rw[hp] at ho;cases ho
 ·cases hg
noncomputable def cAbs:List D→R D
 | [.int i]=> .ok (.int (if i < 0 then -i else i))
 | _=> .no
noncomputable def Ll:List D→R D
 | [.lst ds]=>(match ints? ds with | some ns=> .ok (.int ns.sum) | none=> .no)
 | _=> .no
theorem mU:∀{ns:List Int} {us:List Value},Vals (ns.map V.int) us→∃l:List (Int × Tok),us=l.map (fun p=>Value.int p.1 p.2)∧l.map (·.1)=ns
 | [],_, .nil=>⟨[],rfl,rfl⟩
 | n ::ns,_, .cons r t=>by
   obtain⟨l,rfl,e⟩:=mU t
   obtain⟨tk,rfl⟩:=r
   exact⟨(n,tk) ::l,rfl,by rw[List.map_cons,e]⟩
noncomputable def tyName:D→String
 | .di=>"NoneType" | .bl _=>"bool" | .int _=>"int" | .str _=>"str" | .lst _=>"list" | .tup _=>"tuple" | .dct _ _=>"dict"
noncomputable def xh(T:String)(f:FD):FD:=fun δ=>(f δ).bind fun d=>R.bV (tyName d==T && d.atom) (.ok (.bl true))
noncomputable def Mz(X:Cx)(id:String)(g:D→List D→R D):Prop:=
 ∀(pins:List (Addr × Obj)) (s:Shared) (σ:St) (H:Hp) (B:List Addr) (da d:D) (ds:List D) (x:V) (xs:List V) (v:Value) (us:List Value),Inv X pins σ H s→(∀a∈B,∃o,H a=some o)→RelV x v→Vals xs us→Rep X.K B H da x→aH X.K B H ds xs→g da ds= .ok d→
  wpAny (model X.prog X.w) X.A (call (.builtin id) (v ::us)) (EP X pins σ fun z H'=>a_ H H'∧Rep X.K B H' d z) X.xe s
noncomputable def Hu(T:String)(g:D→List D→R D)(f:FD)(fs:ax→R (List D)):FD:=fun δ=>(f δ).bind fun d=>R.bV (tyName d==T && (d.atom || T=="list")) ((fs δ).bind fun ds=>g d ds)
noncomputable def KA(d:D)(ds:List D):R D:=match d,ds with
 | .str sep,[.lst es]=>(match strs? es with | some ss=>R.bV (JoinOk sep ss) (.ok (.str (Str.join sep ss))) | none=> .no)
 | _,_=> .no
noncomputable abbrev PJ(X:Cx)(es:List Expr)(f:ax→R (List Str)):Prop:=
 ∀(pins:List (Addr × Obj)) (s:Shared) (σ:St) (H:Hp) (Z B:List Addr) (δ:ax) (acc:Str) (ss:List Str) (Q:VK),Inv X pins σ H s→eP X.K Z B H σ δ→f δ= .ok ss→(ss.foldl (·++·) acc).length≤sizeLine→(∀H',a_ H H'→Q (.str (ss.foldl (·++·) acc)) H')→
  wpAny (model X.prog X.w) X.A (joinParts acc (evalEach es X.env)) (EP X pins σ Q) X.xe s
noncomputable def xn:ax→R (List Str):=fun _=> .ok []
noncomputable def rX(f:FD)(g:ax→R (List Str)):ax→R (List Str):=fun δ=>(f δ).bind fun d=>match d with | .str x=>(g δ).bind fun ss=> .ok (x ::ss) | _=> .no
noncomputable def kj(g:ax→R (List Str)):FD:=fun δ=>(g δ).bind fun ss=>R.bV (decide ((ss.foldl (·++·) Str.empty).length≤sizeLine)) (.ok (.str (ss.foldl (·++·) Str.empty)))
noncomputable def vV:D→R D
 | .str x=>R.bV (decide (x.length≤sizeLine)) (.ok (.str x))
 | .int i=>R.bV (decide (i.natAbs.log2 < 1920)) (.ok (.str (toString i)))
 | _=> .no
noncomputable def xB(f:FD):FD:=fun δ=>(f δ).bind vV
noncomputable def HY:List (D × D)→Str→R (Option D)
 | [],_=> .ok none
 | (.str y,d) ::r,x=>(HY r x).bind fun o=> .ok (match o with | some e=>some e | none=>if y=x then some d else none)
 | _ ::_,_=> .no
noncomputable def Ie(x:Str):List D:=x.cps.toList.map fun c=> .str ⟨#[c]⟩
noncomputable def My(x:Str):It:=⟨fun i _=>i < x.cps.size,fun i H v H'=>H'=H∧∃c,x.cps[i]? =some c∧v= .str ⟨#[c]⟩,fun i _=>x.cps.size≤i⟩
noncomputable def KO(f:FD):ax→R (List D):=fun δ=>(f δ).bind fun d=>match d with | .str x=> .ok (Ie x) | _=> .no
noncomputable def L8(K:PySem.W.Frag)(a:Addr):It:=
 ⟨fun i H=>∃xs x,mH K H a xs∧xs[i]? =some x,fun i H v H'=>∃p x,H p=none∧v= .ref p∧(∀xs,mH K H a xs→xs[i]? =some x)∧H'=upd H p (.tup [.int i,x]),fun i H=>∃xs,mH K H a xs∧xs.length≤i⟩
theorem Af{P:Program}{w:World}{K:PySem.W.Frag}{elts:List Expr}{k:Nat}{pos:Pos}(a e it:Addr)(hei:e≠it):Turn P w K (.Tuple elts k pos) (L8 K a) [e,it] e (fun i h=>(∃old,IsEnum h e it ((i:Nat):Int) old)∧h.IsListIter it a i) where
 mem:=by simp
 obj:=fun i h st b hb=>by
  obtain⟨⟨old,he⟩,o,ho,c,d⟩:=st
  rcases List.mem_cons.mp hb with rfl | hb
  ·exact⟨_,he,fun v z=>by cases z⟩
  ·have e:b=it:=by simpa using hb
   subst e
   exact⟨o,ho,fun v z=>by rw[d] at z;cases z⟩
 keep:=fun i h h' st k=>by
  obtain⟨⟨old,he⟩,hi⟩:=st
  exact⟨⟨old,k e (by simp) _ he⟩,hi.at fun o x=>k it (by simp) o x⟩
 item:=by
  intro X hP hw hK hc i pins s σ H E I hf st hg
  subst hP hw hK
  obtain⟨xs,x,hq,hx⟩:=hg
  obtain⟨its,rv,p,hz⟩:=I.list hq
  obtain⟨u,hu,ru⟩:=rv.get hx
  obtain⟨⟨old,he⟩,hit⟩:=st
  obtain⟨f0,f1,f2,f3,f4,f5⟩:=hf e (by simp)
  obtain⟨g0,g1,g2,g3,g4,g5⟩:=hf it (by simp)
  refine wpAny_pyNext_enum_item he hit p.isList (x:=u) (by simpa using hu) hei fun h₁ heo hit₁ ht₁ hz₁ hk₁=>⟨_,rfl,?_⟩
  refine wpAny_letOwnedTupleGo_enum heo fun h₂ he₂ hs₂=>?_
  replace hs₂:Heap.SameBut e h₁ h₂:=hs₂
  have hel:e < s.heap.objs.size:=Heap.lt_size he
  have ht₂:h₂.get? s.heap.objs.size=some {cls:= .type "tuple",data:= .seq #[.int i s.toks,u]}:=(hs₂.2 _ (Nat.ne_of_gt hel)).trans ht₁
  have kk:∀b o,b≠e→b≠it→s.heap.get? b=some o→h₂.get? b=some o:=fun b o h1 h2 q=>(hs₂.2 b h1).trans (hk₁ b o h1 h2 q)
  have hn:H s.heap.objs.size=none:=I.fresh
  have sm:a_ H (upd H s.heap.objs.size (.tup [.int i,x])):=aP hn
  have nit:∀b o,H b=some o→b≠e∧b≠it:=fun b o q=>⟨fun z=>(by rw[z,f0] at q;cases q),fun z=>(by rw[z,g0] at q;cases q)⟩
  have hok:mJ X.prog X.w (upd H s.heap.objs.size (.tup [.int i,x])) h₂:=fun b ob q=>by
   by_cases hb:b=s.heap.objs.size
   ·subst hb
    rw[aT] at q
    cases q
    exact⟨by show 2≤sizeLine;decide,[.int i s.toks,u], .cons ⟨_,rfl⟩ (.cons ru .nil),⟨_,ht₂,rfl,_,rfl⟩⟩
   ·rw[bq hb] at q
    refine(I.hok b ob q).uB (fun c v hc z=>?_) (fun c z=>sm c _ z) fun c ys z=>sm c _ z
    rcases hc with rfl | hc
    ·exact kk c v (nit c _ q).1 (nit c _ q).2 z
    ·exact kk c v (nit c _ hc).1 (nit c _ hc).2 z
  have nch:∀b,b ∉ [e,it]→b≠e∧b≠it:=fun b hb=>⟨fun z=>hb (by simp [z]),fun z=>hb (by simp [z])⟩
  have I2:Inv X pins σ (upd H s.heap.objs.size (.tup [.int i,x])) {s with heap:=h₂,toks:=s.toks+1}:=by
   refine I.step (g':=s.gens) (d':=s.drawn) (ch:=[e,it]) (fun b hb=>?_) (fun b o _ _ hb q _=>kk b o (nch b hb).1 (nch b hb).2 q) (fun b o _ _ hb q _=>⟨o.slots,kk b o (nch b hb).1 (nch b hb).2 q⟩)
    (fun b o hb q n=>by rw[bq (Nat.ne_of_lt (Heap.lt_size q))];exact n) (fun b o hb q=>⟨o,kk b o (nch b hb).1 (nch b hb).2 q⟩) (fun b ys z=>sm b _ z) (fun b o u z=>sm b _ z) (fun b ps z=>⟨#[],by rw[sm b _ z];simp⟩) (fun m hm=>?_) hok I.bare
   ·rcases List.mem_cons.mp hb with rfl | hb
    ·exact⟨f3,f1,f4,f5⟩
    ·have z:b=it:=by simpa using hb
     subst z
     exact⟨g3,g1,g4,g5⟩
   ·obtain⟨o,es,ep,ho,r⟩:=hm
    exact⟨o,es,ep,kk _ o (Ne.symm f1) (Ne.symm g1) ho,r⟩
  refine⟨.ref s.heap.objs.size,_,I2,rfl,⟨s.heap.objs.size,x,hn,rfl,fun ys hy=>(by rw[I.oC hy hq];exact hx),rfl⟩,⟨⟨_,by simpa using he₂⟩,hit₁.at fun o q=>(hs₂.2 it (Ne.symm hei)).trans q⟩,fun b hb=>?_⟩
  rcases List.mem_cons.mp hb with rfl | hb
  ·rw[bq (Nat.ne_of_lt hel)];exact f0
  ·have z:b=it:=by simpa using hb
   subst z
   obtain⟨o,ho,_⟩:=hit
   rw[bq (Nat.ne_of_lt (Heap.lt_size ho))];exact g0
 done:=by
  intro X hP hw hK hc i pins s σ H E I hf st hg
  subst hP hw hK
  obtain⟨xs,hq,hx⟩:=hg
  obtain⟨its,rv,p,hz⟩:=I.list hq
  obtain⟨⟨old,he⟩,hit⟩:=st
  obtain⟨g0,g1,g2,g3,g4,g5⟩:=hf it (by simp)
  have hl:=rv.length
  exact wpAny_pyNext_enum_end (I.ok.hd hc) he hit p.isList (by simp;omega) fun h' eb=>⟨rfl,I.turned (t':=s.toks) (fun b o hb q=>eb b o hb q) g0 g1 g3 g4 g5⟩
 self:=fun A i s Q E st h=>let⟨⟨_,he⟩,_⟩:=st;wpAny_pyIter_enum he h
noncomputable def cG(ds:List D):List D:=ds.zipIdx.map fun p=> .tup [.int p.2,p.1]
noncomputable def eO(f:FD):ax→R (List D):=fun δ=>(f δ).bind fun d=>match d with | .lst ds=> .ok (cG ds) | _=> .no
theorem vf{elts:List Expr}{k:Nat}{tpos:Pos}{a:Expr}{f:FD}{p pos:Pos}(h:PD X a f)(hg:Gl X "enumerate")(hm:X.mg "enumerate"=none)(hs:starEach [a] X.env=[(false,eval a X.env)]:=by rfl):HB X (.Tuple elts k tpos) (.Call (.Name "enumerate" p) [a] [] pos) (eO f):=by
 intro pins s σ H RR I ⟨Z,B,δ,ds,E,hf,q⟩
 obtain⟨d,h1,h2⟩:=R.ao hf
 have hA:=dJ h gu hs pos pins s σ H (fun vs H1=>a_ H H1∧∃v,vs=[v]∧Rep X.K B H1 d v) I ⟨Z,B,δ,d,E,h1,fun v H1 s1 r1=>⟨s1,v,rfl,r1⟩⟩
 refine Call_ (ko I hg hm boot_enumerate (PyProof.Rows.callWith_type1 (eg hA fun us s1 ⟨vs,H1,I1,r1,ss,v,ev,rr⟩=>?_) hs rfl))
 subst ev
 obtain⟨u,rfl,ru⟩:=vals1 r1
 cases d with
 | lst es=>
   cases h2
   obtain⟨b,xs,rfl,l,rs⟩:=Rep.lst.mp rr
   cases ru
   obtain⟨its,n,rv,e1,hz⟩:=I1.Ff l
   refine call_enumerate_list (items:=its.toArray) ⟨_,e1,rfl,n,rfl⟩ fun h' he hit hsz kk=>wpAny_pyIter_enum he ?_
   have I2:Inv X pins σ H1 {s1 with heap:=h'}:=I1.kept (t':=s1.toks) kk
   refine⟨s1.heap.objs.size+1,[s1.heap.objs.size+1,s1.heap.objs.size],_,_,H1,rfl,I2,Af b (s1.heap.objs.size+1) s1.heap.objs.size (Nat.succ_ne_self _),⟨⟨_,he⟩,hit⟩,fun c hc=>?_,q _ H1 ss fun B' H' pr=>?_⟩
   ·have hle:s1.heap.objs.size≤c:=by
     rcases List.mem_cons.mp hc with z | hc
     ·rw[z];exact Nat.le_succ _
     ·have z:c=s1.heap.objs.size:=by simpa using hc
      rw[z];exact Nat.le_refl _
    exact I1.qI hle (I1.hok.fresh hle)
   ·have l':qZ X.K B' H' b xs:=l.bt pr
    have rs':=rs.bt pr
    refine⟨fun i d hd=>?_,⟨xs,l'.sq,by rw[←rs.length];unfold cG;simp⟩⟩
    unfold cG at hd
    rw[List.getElem?_map,List.getElem?_zipIdx] at hd
    cases e:es[i]? with
    | none=>rw [e] at hd;cases hd
    | some d0=>
      rw[e] at hd
      have hd:D.tup [.int ((0+i:Nat):Int),d0]=d:=Option.some.inj hd
      rw[Nat.zero_add] at hd
      obtain⟨x,hx,rx⟩:=rs'.get e
      refine⟨⟨xs,x,l'.sq,hx⟩,fun v H'' y hB'=>?_⟩
      obtain⟨p,y,hp,rfl,hy,rfl⟩:=y
      refine⟨aP hp,?_⟩
      subst hd
      have hy2:=hy xs l'.sq
      rw[hx] at hy2
      cases hy2
      refine Rep.tup.mpr ⟨p,_,rfl, .inl ⟨fun ha=>?_, .inl aT⟩,aH.cons (Rep.int.mpr rfl) (aH.cons (rx.same (aP hp)) aH.nil)⟩
      obtain⟨o,ho⟩:=hB' p ha
      rw[hp] at ho;cases ho
 | _=>cases h2
end
end L2
end
section
set_option maxRecDepth 100000
set_option maxHeartbeats 4000000
namespace L2
open PySem PySem.Spec PyProof.Rows
noncomputable def Def(K:PySem.W.Frag)(mg:Str→Option Value)(x:Str)(st:Stmt):Prop:=∃f fd,y6 K x x st f fd∧mg x=some (.ref f)
noncomputable def Callee(P:Program)(w:World)(K:PySem.W.Frag)(mg:Str→Option Value)(base:Heap)(k:Nat)(x:Str)(n:Nat)(g:List D→R D):Prop:=
 ∃f fd ps,iY P w K mg base sC k f fd ps (BY K n g)∧mg x=some (.ref f)∧PySem.W.keepIn K (.ref f)=true∧Binds K fd ps []
theorem dm:∀(δ:ax) (ds:List D),aW δ= .ok ds→ds.length=0:=fun δ ds h=>by cases h;rfl
theorem bN{f:FD}{g:ax→R (List D)}{n:Nat}(h:∀(δ:ax) (ds:List D),g δ= .ok ds→ds.length=n):∀(δ:ax) (ds:List D),az f g δ= .ok ds→ds.length=n+1:=fun δ ds e=>by
 obtain⟨d,h1,h2⟩:=R.ao e
 obtain⟨es,h3,h4⟩:=R.ao h2
 cases h4
 rw[List.length_cons,h δ es h3]
theorem Bz{P:Program}{w:World}{K:PySem.W.Frag}{mg:Str→Option Value}{base:Heap}{x qual:Str}{st:Stmt}{f:Addr}{fd:FuncData}{N ps:List Str}{k:Nat}{F:FS}{b:List Stmt}{sc:Scope}(hb:aq st=b)(hs:af st=sc)(Fn:y6 K x qual st f fd)(S:ba N ps sc)
 (hbody:∀(cdv:Value) (A:Around) (outer:List Env) (s:Shared) (H:Hp) (E:XK),eS k (A.deeper (envOfC qual sc s.heap.objs.size f cdv))→
   pS (qz sC P w K mg base N qual sc f cdv A outer s H E).En b F):iY P w K mg base sC (k+1) f fd ps (BY K ps.length (oY N F)):=by
 subst hb hs
 exact Eb Fn S hbody
section
variable {X:Cx}
theorem CA{g:List D→R D}{k j n:Nat}{x:Str}{p pos:Pos}{e:Expr}{es:List Expr}{fs:ax→R (List D)}(C:Callee X.prog X.w X.K X.mg X.base k x n g)(hr:eS j X.A)(hkj:k≤j)(hg:Gl X x)(ha:CU X (e ::es) fs)
 (hn:∀δ ds,fs δ= .ok ds→ds.length=n) (hdb:(x==("__debug__":Str))=false:=by decide) (he:starEach (e ::es) X.env=(false,eval e X.env) ::starEach es X.env:=by rfl) (hpl:(backTo pos (starEach es X.env)).any (·.1)=false:=by rfl) :
 PD X (.Call (.Name x p) (e ::es) [] pos) (br g fs):=by
 obtain⟨f,fd,ps,F,hm,hk,hb⟩:=C
 exact Dn F (hr.mono hkj) hg hm hk hb ha hn hdb he hpl
noncomputable def IS(sc:Scope)(N:List Str)(scope:Scope)(kp:List Nat)(kn:List Str):Bool:=
 decide (scope.kind= .function) && scope.names.all (fun y=>decide (y.2≠ .cell)) && scope.names.all (fun y=>decide (y.2= .local→scope.names.lookup y.1=some .local))
  && scope.names.all (fun y=>decide (y.2= .free→(sc.names.lookup y.1=some .cell∨sc.names.lookup y.1=some .free))) && decide (kn.length=kp.length)
  && (List.range kp.length).all (fun j=>decide ((kp[j]?).bind (N[·]?)=kn[j]?)) && kn.all (fun x=>decide (scope.names.lookup x=some .free))
theorem b9.of{scope:Scope}{own:List Str}{kp:List Nat}{kn:List Str}{sc:Scope}{N:List Str}(h1:X.env.scope=sc)(h2:X.N=N)(h:IS sc N scope kp kn=true):b9 X scope own kp kn:=by
 unfold IS at h
 simp only[Bool.and_eq_true,decide_eq_true_eq,List.all_eq_true] at h
 obtain⟨⟨⟨⟨⟨⟨a1,a2⟩,a3⟩,a4⟩,a5⟩,a6⟩,a7⟩:=h
 refine⟨a1,a2,a3,fun y hy hf=>?_,a5,fun j i x hj hx=>?_,a7⟩
 ·have:=a4 y hy hf
  unfold Env.kindOf
  rw[h1]
  exact this
 ·have hlt:j < kp.length:=(List.getElem?_eq_some_iff.mp hj).1
  have:=a6 j (List.mem_range.mpr hlt)
  rw[hj] at this
  rw[h2]
  exact this.trans hx
noncomputable def Gu(kvs:List (Key × V))(f g:FD):FD:=fun δ=>(f δ).bind fun k=>(g δ).bind fun d=>match k with
 | .str x=>(match l8 (jU [] kvs) (Sum.inr x) with | some (.int i)=> .ok (.int i) | none=> .ok d | _=> .no)
 | _=> .no
theorem F0{keys:List (Option Expr)}{values:List Expr}{trs:List (TE × TE)}{dpos apos cpos:Pos}{e f:Expr}{fe ff:FD}{kvs:List (Key × V)}(hu:X.A.units+1 < cLine)(h:HF X dpos keys values trs)(hall:keys.all (·.isSome)=true)(hl:keys.length=values.length)(h0:keys≠[])
 (hc:∀σ H Q,Q (kvs.map fun kv=>(kV kv.1,kv.2)) H→rC trs σ H Q) (hlen:kvs.length≤15) (he:PD X e fe) (hf:PD X f ff) (m:M2 X (.Dict keys values dpos) "get" apos e f cpos)
 (hd:PE X (.Dict keys values dpos) (AR trs)):PD X (.Call (.Attribute (.Dict keys values dpos) "get" apos) [e,f] [] cpos) (Gu kvs fe ff):=by
 refine(BV hu hd he hf m).imp fun σ H Q ⟨Z,B,δ,d,E,hfd,q⟩=>?_
 obtain⟨k,h1,h2⟩:=R.ao hfd
 obtain⟨dd,h3,h4⟩:=R.ao h2
 intro p hp
 refine hc σ _ _ ⟨aT,kvs,rfl,hlen,p,rfl, .inl ⟨_, .inl aT⟩,?_⟩
 rw[EB]
 have s0:a_ H (upd H p (.dK (jU [] kvs))):=aP hp
 refine⟨Z,B,δ,k,E.same s0,h1,fun v1 H1 s1 r1=>⟨Z,B,δ,dd,(E.same s0).same s1,h3,fun v2 H2 s2 r2=>?_⟩⟩
 have hH2:H2 p=some (.dK (jU [] kvs)):=s2 p _ (s1 p _ aT)
 have sA:a_ H H2:=s0.trans (s1.trans s2)
 split at h4
 ·rename_i x
  refine⟨l8 (jU [] kvs) (Sum.inr x),?_,?_⟩
  ·rw[Rep.str.mp r1];exact sj.k (k:=Sum.inr x) hH2
  ·split at h4
   ·rename_i i e1
    cases h4
    rw[e1]
    exact q _ H2 sA (Rep.int.mpr rfl)
   ·rename_i e1
    cases h4
    rw[e1]
    exact q _ H2 sA r2
   ·cases h4
 ·cases h4
theorem x_:J5 X "list.extend" (fun x vs H Q=>∃l b xs zs,x= .ref l∧vs=[.ref b]∧H l=some (.lst xs)∧(∃B,qZ X.K B H b zs)∧xs.length+zs.length≤sizeLine∧Q .di (upd H l (.lst (xs++zs)))):=by
 intro pins s σ H x vs v us Q I rx rv h
 obtain⟨l,b,xs,zs,rfl,rfl,hH,⟨_,hB⟩,hz,q⟩:=h
 cases rx
 obtain⟨u,rfl,ru⟩:=rv.one
 cases ru
 obtain⟨z,its,n,r,hl,e⟩:=I.Ba hH
 obtain⟨its2,n2,r2,e2,z2⟩:=I.Ff hB
 have hl2:=r2.length
 have hsz:its.toArray.size+its2.toArray.size≤sizeLine:=by rw[List.size_toArray,List.size_toArray];omega
 have hlong:¬(!its.toArray.isEmpty && Builtin.List.listTooLong (its.toArray.size+its2.toArray.size))=true:=by
  rw[qH hsz,Bool.and_false]
  exact Bool.false_ne_true
 refine call_meets F.slot_list_extend ⟨_,e,rfl⟩ F.entry_list_extend (F.args_list_extend_2 _ _)
  (AutoSeq1.list_extend_list_list_0 l its.toArray n b its2.toArray n2 hlong (by rw[List.size_toArray];omega) (by omega)) ⟨e,e2,?_⟩
 refine⟨.di,_,I.GI (its':=its++its2) hH e (by simp) (r.append r2) ?_,rfl,q⟩
 rw[List.length_append]
 omega
noncomputable def qW(i:Nat)(f:FD):FS:=fun δ=>(f δ).bind fun d=>match d with
 | .lst es=>(jB δ i).bind fun ds=>R.bV (decide (ds.length+es.length≤sizeLine)) (.ok (.nx (δ.set i (.bld (ds++es)))))
 | _=> .no
end
end L2
end
section
set_option maxRecDepth 100000
set_option maxHeartbeats 4000000
namespace L2
open PySem PySem.Spec PyProof.Rows
structure QD (X:Cx) (e:Expr) (f:FD):Prop where
 h:PD X e f
structure QN (X:Cx) (e:Expr) (f:ax→R (List D)):Prop where
 h:PN X e f
structure QB (X:Cx) (e:Expr) (f:ax→R Bool):Prop where
 h:PB X e f
structure Jk (X:Cx) (e:Expr) (f:ax→R Bool):Prop where
 h:Gz X e f
structure Fd (X:Cx) (e:List Expr) (f:ax→R (List D)):Prop where
 h:CU X e f
structure CV (X:Cx) (e:Stmt) (f:FS):Prop where
 h:AB X e f
structure sk (X:Cx) (e:List Stmt) (f:FS):Prop where
 h:pS X e f
structure GZ (X:Cx) (e:Expr) (f:FT):Prop where
 h:FC X e f
structure Dm (X:Cx) (e:List Expr) (f:AW):Prop where
 h:BQ X e f
structure wZ (X:Cx) (tg e:Expr) (f:ax→R (List D)):Prop where
 h:HB X tg e f
structure QP (X:Cx) (e:Option Expr) (f:FO):Prop where
 h:PP X e f
structure QJ (X:Cx) (e:List Expr) (f:ax→R (List Str)):Prop where
 h:PJ X e f
structure EE (X:Cx) (e:List Expr) (c:ax→R Bool):Prop where
 h:oE X e (G9 X.K c)
section
variable {X:Cx}
theorem cj{e:Expr}{f:ax→R (List D)}(h:QN X e f):QD X e (eNew f):=⟨Hh h.1⟩
theorem aa(i:Nat){x:Str}{pos:Pos}(hN:X.N[i]? =some x:=by rfl)(hv:BP X.env.scope x:=by first | exact Or.inl rfl | exact Or.inr (Or.inl rfl) | exact Or.inr (Or.inr rfl))(hd:(x==("__debug__":Str))=false:=by decide)(hcd:(x==("__classdict__":Str))=false:=by decide):QD X (.Name x pos) (ae i):=⟨G2 i hN hv hd hcd⟩
theorem aj{i j pos}:QD X (.Constant (.int i) j pos) (eC (.int i)):=⟨Hv⟩
theorem uP{b j pos}:QD X (.Constant (.bool b) j pos) (eC (.bl b)):=⟨Jd⟩
theorem bG{x j pos}:QD X (.Constant (.str x) j pos) (eC (.str x)):=⟨Gg⟩
theorem au:Fd X [] aW:=⟨D3⟩
theorem ab{e:Expr}{es:List Expr}{f:FD}{g:ax→R (List D)}(h:QD X e f)(t:Fd X es g)(hs:starEach (e ::es) X.env=(false,eval e X.env) ::starEach es X.env:=by rfl):Fd X (e ::es) (az f g):=⟨AK h.1 t.1 hs⟩
theorem cK{es:List Expr}{g:ax→R (List D)}{x1 pos}(h:Fd X es g):QD X (.Tuple es x1 pos) (fk g):=⟨Hn h.1⟩
theorem bK{es:List Expr}{g:ax→R (List D)}{pos}(h:Fd X es g):QN X (.List es pos) (dD g):=⟨Hd h.1⟩
theorem aC{op:Operator}{g:D→D→R D}{a b:Expr}{fa fb:FD}{pos:Pos}(ho:k_ X (binaryOp op) g)(ha:QD X a fa)(hb:QD X b fb):QD X (.BinOp a op b pos) (e2 g fa fb):=⟨IG ho ha.1 hb.1⟩
theorem uV{op:CmpOp}{g:D→D→R D}{a b:Expr}{fa fb:FD}{pos:Pos}(ho:k_ X (compareOp op) g)(ha:QD X a fa)(hb:QD X b fb)(hm:behindInMarks op b=false):QD X (.Compare a [op] [b] pos) (e2 g fa fb):=⟨Fy ho ha.1 hb.1 hm⟩
theorem bH{op:CmpOp}{g:D→D→R D}{a b:Expr}{fa fb:FD}{pos:Pos}(ho:k_ X (compareOp op) g)(ha:QD X a fa)(hb:QD X b fb)(hm:behindInMarks op b=false):QB X (.Compare a [op] [b] pos) (b2 g fa fb):=⟨Ha ho ha.1 hb.1 hm⟩
theorem jH{a:Expr}{f:FD}(ha:QD X a f)(he:∀whole,isTrue a X.env whole=(do let v ←whole;standAt a.pos;holding [v] (truthy v)):=by intro _;rfl):QB X a (iX f):=⟨Gs ha.1 he⟩
theorem uz{e:Expr}{f:ax→R Bool}(h:Jk X e f):QB X e f:=⟨Gz.pb h.1⟩
theorem rF{a:Expr}{f:ax→R Bool}{pos:Pos}(h:QB X a f):Jk X (.BoolOp .Or [a] pos) f:=⟨Ep h.1⟩
theorem qg{a b:Expr}{rest:List Expr}{f g:ax→R Bool}{pos:Pos}(ha:QB X a f)(hb:Jk X (.BoolOp .Or (b ::rest) pos) g):Jk X (.BoolOp .Or (a ::b ::rest) pos) (wX f g):=⟨FH ha.1 hb.1⟩
theorem mi{a:Expr}{f:ax→R Bool}{pos:Pos}(ha:QB X a f):QB X (.UnaryOp .Not a pos) (ke f):=⟨Fw ha.1⟩
theorem yt{c a b:Expr}{fc:ax→R Bool}{f g:FD}{pos:Pos}(hc:QB X c fc)(ha:QD X a f)(hb:QD X b g):QD X (.IfExp c a b pos) (za fc f g):=⟨HW hc.1 ha.1 hb.1⟩
theorem bB{g:List D→R D}{x:Str}{id:String}{p pos:Pos}{e:Expr}{es:List Expr}{fs:ax→R (List D)}(hc:gd X (.builtin id) g)(hg:Gl X x)(hm:X.mg x=none)(hv:bootBuiltins x=some (.builtin id))(ha:Fd X (e ::es) fs)(hn:x≠"__name__":=by decide)(hdb:(x==("__debug__":Str))=false:=by decide)(he:starEach (e ::es) X.env=(false,eval e X.env) ::starEach es X.env:=by rfl)(hpl:(backTo pos (starEach es X.env)).any (·.1)=false:=by rfl):QD X (.Call (.Name x p) (e ::es) [] pos) (br g fs):=⟨CL hc hg hm hv ha.1 hn hdb he hpl⟩
theorem jx{g:List D→R D}{x:Str}{T:String}{p pos:Pos}{e:Expr}{es:List Expr}{fs:ax→R (List D)}(hc:gd X (.type T) g)(hg:Gl X x)(hm:X.mg x=none)(hv:bootBuiltins x=some (.type T))(ha:Fd X (e ::es) fs)(hn:x≠"__name__":=by decide)(hdb:(x==("__debug__":Str))=false:=by decide)(he:starEach (e ::es) X.env=(false,eval e X.env) ::starEach es X.env:=by rfl)(hpl:(backTo pos (starEach es X.env)).any (·.1)=false:=by rfl):QD X (.Call (.Name x p) (e ::es) [] pos) (br g fs):=⟨zS hc hg hm hv ha.1 hn hdb he hpl⟩
theorem ju:sk X [] mE:=⟨El⟩
theorem bU{st:Stmt}{rest:List Stmt}{F G:FS}(h1:CV X st F)(h2:sk X rest G):sk X (st ::rest) (fB F G):=⟨AU h1.1 h2.1⟩
theorem bF{st:Stmt}{F:FS}(h1:CV X st F):sk X [st] F:=⟨D1 h1.1⟩
theorem gr{i:Nat}{x:Str}{e:Expr}{f:FD}{pos pos':Pos}(hN:X.N.Nodup)(hi:X.N[i]? =some x)(hx:Loc X.env.scope x)(he:QD X e f)(hs:swapsWith e (some (.Name x pos')) pos.line X.env=pure false:=by rfl)(hf:X.fn x=true∨X.env.scope.names.lookup x=some .local:=by first | exact .inl rfl | exact .inr rfl | assumption):CV X (.Assign [.Name x pos'] e pos) (jT i f):=⟨Ei hN hi hx he.1 hs hf⟩
theorem vR{i:Nat}{x:Str}{e:Expr}{f:ax→R (List D)}{pos pos':Pos}(hN:X.N.Nodup)(hi:X.N[i]? =some x)(hx:Loc X.env.scope x)(he:QN X e f)(hs:swapsWith e (some (.Name x pos')) pos.line X.env=pure false:=by rfl)(hf:X.fn x=true∨X.env.scope.names.lookup x=some .local:=by first | exact .inl rfl | exact .inr rfl | assumption):CV X (.Assign [.Name x pos'] e pos) (n_ i f):=⟨DF hN hi hx he.1 hs hf⟩
theorem Ck{i:Nat}{x:Str}{e:Expr}{f:FD}{npos apos cpos pos:Pos}(hN:X.N[i]? =some x)(hv:BP X.env.scope x)(he:QD X e f)(hd:(x==("__debug__":Str))=false:=by decide)(hcd:(x==("__classdict__":Str))=false:=by decide)(hs:starEach [e] X.env=(false,eval e X.env) ::starEach [] X.env:=by rfl)(hline:(apos.endLine==cpos.line)=true:=by rfl)(hfew:((backTo cpos (starEach [e] X.env)).all (fun x=>!x.1) && (backToKw cpos (keywordEach [] X.env)).all (fun x=>x.1.isSome)
 && decide (([e]:List Expr).length+([]:List Keyword).length+(if([]:List Keyword).isEmpty then 0 else 1) < 30))=true:=by rfl) (hsw:swapsWith (.Call (.Attribute (.Name x npos) "append" apos) [e] [] cpos) none pos.line X.env=pure false:=by rfl) (hbase:attributeBase (.Name x npos) "append" X.env (eval (.Name x npos) X.env)=eval (.Name x npos) X.env:=by rfl):CV X (.Expr (.Call (.Attribute (.Name x npos) "append" apos) [e] [] cpos) pos) (qe i f):=⟨DU hN hv he.1 hd hcd hs hline hfew hsw hbase⟩
theorem Bp{i:Nat}{x:Str}{e:Expr}{f:ax→R (List D)}{npos apos cpos pos:Pos}(hN:X.N[i]? =some x)(hv:BP X.env.scope x)(he:QN X e f)(hd:(x==("__debug__":Str))=false:=by decide)(hcd:(x==("__classdict__":Str))=false:=by decide)(hs:starEach [e] X.env=(false,eval e X.env) ::starEach [] X.env:=by rfl)(hline:(apos.endLine==cpos.line)=true:=by rfl)(hfew:((backTo cpos (starEach [e] X.env)).all (fun x=>!x.1) && (backToKw cpos (keywordEach [] X.env)).all (fun x=>x.1.isSome)
 && decide (([e]:List Expr).length+([]:List Keyword).length+(if([]:List Keyword).isEmpty then 0 else 1) < 30))=true:=by rfl) (hsw:swapsWith (.Call (.Attribute (.Name x npos) "extend" apos) [e] [] cpos) none pos.line X.env=pure false:=by rfl) (hbase:attributeBase (.Name x npos) "extend" X.env (eval (.Name x npos) X.env)=eval (.Name x npos) X.env:=by rfl):CV X (.Expr (.Call (.Attribute (.Name x npos) "extend" apos) [e] [] cpos) pos) (pU i f):=⟨Dr hN hv he.1 hd hcd hs hline hfew hsw hbase⟩
theorem wH(i:Nat){sts:List Stmt}{F:FS}(h:sk X sts F):sk X sts (nK i F):=⟨C_ i h.1⟩
theorem cv{e:Expr}{f:FD}{pos:Pos}(he:QD X e f):CV X (.Return (some e) pos) (fZ f):=⟨D_ he.1⟩
theorem jJ{c:Expr}{a b:List Stmt}{fc:ax→R Bool}{F G:FS}{pos:Pos}(hc:QB X c fc)(ha:sk X a F)(hb:sk X b G):CV X (.If c a b pos) (r9 fc F G):=⟨Gh hc.1 ha.1 hb.1⟩
theorem aX{i:Nat}{x:Str}{pos:Pos}(hN:X.N.Nodup)(hi:X.N[i]? =some x)(hx:Loc X.env.scope x)(hf:X.fn x=true∨X.env.scope.names.lookup x=some .local:=by first | exact .inl rfl | exact .inr rfl | assumption):GZ X (.Name x pos) (aR i):=⟨BL hN hi hx hf⟩
theorem eM:Dm X [] dG:=⟨Be⟩
theorem bC{e:Expr}{es:List Expr}{t:FT}{u:AW}(h1:GZ X e t)(h2:Dm X es u)(hs:(assignEach (e ::es) X.env).map (·.2)=assign e X.env ::(assignEach es X.env).map (·.2):=by rfl):Dm X (e ::es) (bw t u):=⟨Ae h1.1 h2.1 hs⟩
theorem fS{es:List Expr}{k:Nat}{t:AW}{n:Nat}{pos:Pos}(hc:X.calm=true)(h:Dm X es t)(hn:(assignEach es X.env).length=n:=by rfl)(hst:(assignEach es X.env).findIdx? (·.1)=none:=by rfl):GZ X (.Tuple es k pos) (dF n t):=⟨DS hc h.1 hn hst⟩
theorem AY{tg e:Expr}{f:FD}{t:FT}{pos:Pos}(he:QD X e f)(hg:GZ X tg t)(hs:swapsWithSole [tg] e pos.line X.env=pure false:=by rfl)(hw:swappedStores [tg] e X.env=pure none:=by rfl)(h1:(assignEach [tg] X.env).map (·.2)=[assign tg X.env]:=by rfl):CV X (.Assign [tg] e pos) (sx f t):=⟨D7 he.1 hg.1 hs hw h1⟩
theorem cB{tg e:Expr}{f:FD}(h:QD X e f):wZ X tg e (dZ f):=⟨ED h.1⟩
theorem fq{tg a:Expr}{f:FD}{p pos:Pos}(h:QD X a f)(hg:Gl X "range")(hm:X.mg "range"=none)(hs:starEach [a] X.env=[(false,eval a X.env)]:=by rfl):wZ X tg (.Call (.Name "range" p) [a] [] pos) (i9 f):=⟨xm h.1 hg hm hs⟩
theorem j8{tg iter:Expr}{body:List Stmt}{it:ax→R (List D)}{t:FT}{F:FS}{pos:Pos}(hp:PassesOwn (model X.prog X.w) X.A X.env X.xe)(hc:X.calm=true)(hi:wZ X tg iter it)(hg:GZ X tg t)(hb:sk X body F)(hs:∀x,foldedSetIterable iter X.env x=pure x:=by intro _;rfl):CV X (.For tg iter body [] pos) (sf it t F):=⟨Dq hp hc hi.1 hg.1 hb.1 hs⟩
theorem dX{scope:Scope}{own:List Str}{kp:List Nat}{kn:List Str}{tg iter elt:Expr}{ifs:List Expr}{it:ax→R (List D)}{t:FT}{c:ax→R Bool}{f:FD}{pos:Pos}(hc:X.calm=true)(C:b9 X scope own kp kn)(hi:wZ X tg iter it)(hg:∀fp s H,GZ (bJ X scope (own++kn) fp s H) tg t)(hif:∀fp s H,EE (bJ X scope (own++kn) fp s H) ifs c)(he:∀fp s H,QD (bJ X scope (own++kn) fp s H) elt f)(hs:∀x,foldedSetIterable iter X.env x=pure x:=by intro _;rfl):QN X (.ListComp elt [⟨tg,iter,ifs,0⟩] scope pos) (eH it t c f own kp):=⟨Ek hc C hi.1 (fun fp s H=>(hg fp s H).1) (fun fp s H=>(hif fp s H).1) (fun fp s H=>(he fp s H).1) hs⟩
theorem gh:EE X [] rL:=⟨CB⟩
theorem j_{e:Expr}{c:ax→R Bool}(h:QB X e c):EE X [e] c:=⟨Ed h.1⟩
theorem aG{a b:Expr}{fa fb:FD}{pos:Pos}(ha:QD X a fa)(hb:QD X b fb)(hs:qk b):QD X (.Subscript a b pos) (e2 bZ fa fb):=⟨Iu ha.1 hb.1 hs⟩
theorem ot:QP X none jL:=⟨Ea⟩
theorem nQ{e:Expr}{f:FD}(h:QD X e f):QP X (some e) (iQ f):=⟨DR h.1⟩
theorem yw{e:Expr}{lo hi:Option Expr}{f:FD}{fl fh:FO}{p2 pos:Pos}(he:QD X e f)(hl:QP X lo fl)(hh:QP X hi fh):QD X (.Subscript e (.Slice lo hi none p2) pos) (zB f fl fh):=⟨IK he.1 hl.1 hh.1⟩
theorem hV{elts:List Expr}{k:Nat}{tpos:Pos}{a:Expr}{f:FD}{p pos:Pos}(h:QD X a f)(hg:Gl X "enumerate")(hm:X.mg "enumerate"=none)(hs:starEach [a] X.env=[(false,eval a X.env)]:=by rfl):wZ X (.Tuple elts k tpos) (.Call (.Name "enumerate" p) [a] [] pos) (eO f):=⟨vf h.1 hg hm hs⟩
theorem c_{P:Program}{w:World}{K:PySem.W.Frag}{mg:Str→Option Value}{base:Heap}{x qual:Str}{st:Stmt}{f:Addr}{fd:FuncData}{N ps:List Str}{k:Nat}{F:FS}{b:List Stmt}{sc:Scope}(hb:aq st=b)(hs:af st=sc)(Fn:y6 K x qual st f fd)(S:ba N ps sc)(hbody:∀(cdv:Value) (A:Around) (outer:List Env) (s:Shared) (H:Hp) (E:XK),eS k (A.deeper (envOfC qual sc s.heap.objs.size f cdv))→
 sk (qz sC P w K mg base N qual sc f cdv A outer s H E).En b F):iY P w K mg base sC (k+1) f fd ps (BY K ps.length (oY N F)):=Bz hb hs Fn S (fun cdv A outer s H E hr=>(hbody cdv A outer s H E hr).1)
theorem cQ{g:List D→R D}{k j n:Nat}{x:Str}{p pos:Pos}{e:Expr}{es:List Expr}{fs:ax→R (List D)}(C:Callee X.prog X.w X.K X.mg X.base k x n g)(hr:eS j X.A)(hkj:k≤j)(hg:Gl X x)(ha:Fd X (e ::es) fs)(hn:∀δ ds,fs δ= .ok ds→ds.length=n)(hdb:(x==("__debug__":Str))=false:=by decide)(he:starEach (e ::es) X.env=(false,eval e X.env) ::starEach es X.env:=by rfl)(hpl:(backTo pos (starEach es X.env)).any (·.1)=false:=by rfl):QD X (.Call (.Name x p) (e ::es) [] pos) (br g fs):=⟨CA C hr hkj hg ha.1 hn hdb he hpl⟩
theorem Ey{keys:List (Option Expr)}{values:List Expr}{trs:List (TE × TE)}{dpos apos cpos:Pos}{e f:Expr}{fe ff:FD}{kvs:List (Key × V)}(hu:X.A.units+1 < cLine)(h:HF X dpos keys values trs)(hall:keys.all (·.isSome)=true)(hl:keys.length=values.length)(h0:keys≠[])(hc:∀σ H Q,Q (kvs.map fun kv=>(kV kv.1,kv.2)) H→rC trs σ H Q)(hlen:kvs.length≤15)(he:QD X e fe)(hf:QD X f ff)(m:M2 X (.Dict keys values dpos) "get" apos e f cpos)(hd:PE X (.Dict keys values dpos) (AR trs)):QD X (.Call (.Attribute (.Dict keys values dpos) "get" apos) [e,f] [] cpos) (Gu kvs fe ff):=⟨F0 hu h hall hl h0 hc hlen he.1 hf.1 m hd⟩
end
end L2
end
section
set_option maxRecDepth 100000
set_option maxHeartbeats 4000000
namespace L2
open PySem PySem.Spec PyProof.Rows
theorem zI{P:Program}{w:World}{K:PySem.W.Frag}{mg mb:Str→Option Value}{CX:B5}{k:Nat}{fa a:Addr}{fd:FuncData}{x:Str}{sp:Sp}{s₁:Shared}{vs:List Value}{ns:List Int}
 (KX:K.In s₁.heap) (hns:s₁.heap.Ns mainGlobals mg) (hb:s₁.heap.Ns builtinsNs mb) (hbb:∀x:Str,x≠"__name__"→mb x=bootBuiltins x) (hlim:s₁.heap.NoLimit) (hg:s₁.gens=#[])
 (ha:s₁.heap.get? a=some {cls:= .type "list",data:= .seq vs.toArray}) (hi:IntsAre vs ns) (hl:ns.length≤sizeLine) (hr:eS k callerA)
 (F:∀base:Heap,K.In base→base.Ns mainGlobals mg→iY P w K mg base CX k fa fd [x] sp) (hbind:∀(s:Shared) (u:Value),BindsTo s fd ⟨[u],[]⟩ [(x,u)])
 (hsp:∀H:Hp,HL H→qZ K [] H a (ns.map V.int)→sp [.ref a] H (fun v _=>v= .bl true) fun _ _ _=>False)
 (hCX:∀H e s',CX [] H s₁ (fun _ _ _=>False) e s'→False) :
 codeAny (model P w) callerA (.call (.ref fa) ⟨[.ref a],[]⟩) (fun r s'=>r= .ok (.ret (.bool true))∧OldK s₁.heap s'.heap∧s'.os=s₁.os∧AllBare s'.gens) s₁:=by
 have rv:=sT hi
 have lenV:=hi.length
 have core:∀H:Hp,HL H→qZ K [] H a (ns.map V.int)→mJ P w H s₁.heap→(∀b,H b≠none→b=a)→(H a≠none→K.lookup a=none)→
  codeAny (model P w) callerA (.call (.ref fa) ⟨[.ref a],[]⟩) (fun r s'=>r= .ok (.ret (.bool true))∧OldK s₁.heap s'.heap∧s'.os=s₁.os∧AllBare s'.gens) s₁:=by
  intro H hO hS hok hA hK
  have base_of:∀{b:Addr} {o:Obj},s₁.heap.get? b=some o→H b=none→(uH s₁.heap H).get? b=some o:=fun e n=>Bb e n
  have noA:∀{b:Addr} {o:Obj} {es:Array DictEntry} {ep:Nat},s₁.heap.get? b=some o→o.data= .dict es ep→H b=none:=fun {b o es ep} e d=>by
   cases q:H b with
   | none=>rfl
   | some u=>
     have e':b=a:=hA b (by rw[q];simp)
     subst e'
     rw[ha] at e;cases e
     have d':Data.seq vs.toArray _=Data.dict es ep:=d
     cases d'
  have nsK:∀{b:Addr} {m:Str→Option Value},s₁.heap.Ns b m→(uH s₁.heap H).Ns b m:=fun {b m} ⟨o,es,ep,e,d,r⟩=>⟨o,es,ep,base_of e (noA e d),d,r⟩
  have hKb:K.In (uH s₁.heap H):=fun b o e=>base_of (KX b o e) (by
   cases q:H b with
   | none=>rfl
   | some u=>
     have e':b=a:=hA b (by rw[q];simp)
     subst e'
     rw[hK (by rw[q];simp)] at e;cases e)
  have hM:Mod K mg (uH s₁.heap H):=⟨hKb,nsK hns,⟨mb,nsK hb,hbb⟩,let⟨mc,h1,h2⟩:=hlim;⟨mc,nsK h1,h2⟩⟩
  have e0:xO P w K mg (uH s₁.heap H) callerA [] s₁ H:=⟨rfl,hM,fun b o e=>DM e,Nat.le_of_eq (z_ _ _),trivial,fun b hb=>absurd (show b∈([]:List Addr) from hb) (by simp),hok, .of_eq hg⟩
  refine codeAny_mono ((F _ hKb (nsK hns)).run callerA [] s₁ H ⟨[.ref a],[]⟩ [.ref a] [.ref a] _ _ hr e0 (hbind s₁ (.ref a)) (.cons rfl .nil) (hsp H hO hS)) fun r s' h=>?_
  cases r with
  | error e=>exact(hCX H e s' h).elim
  | ok fl=>
    cases fl with
    | next=>exact False.elim h
    | brk=>exact False.elim h
    | cont=>exact False.elim h
    | ret u=>
      obtain⟨v,H',os,bare,un,hok',r',q⟩:=h
      have q':v= .bl true:=q
      subst q'
      obtain rfl:u=Value.bool true:=r'
      refine⟨rfl,OldK.of_keep fun b o e=>?_,os,bare⟩
      cases q:H b with
      | none=>exact un.keep b o e q (by intro z;exact absurd (show b∈([]:List Addr) from z) (by simp)) (by simp)
      | some u=>
        rcases hO b with z | ⟨ob,xs,z⟩
        ·rw[q] at z;cases z
        ·have z2:=un.frzs b ob _ z
         obtain⟨e1,_⟩:=hok b _ z
         obtain⟨e2,_⟩:=hok' b _ z2
         rw[e] at e1;cases e1
         exact e2
 cases hk:K.lookup a with
 | some o=>
   have e:=KX a o hk
   rw[ha] at e
   cases e
   refine core (fun _=>none) (fun _=> .inl rfl) (.inr ⟨vs,_,hk,by rw[List.length_map];exact hl,rv⟩) (fun b u z=>by have z':(none:Option HO)=some u:=z;cases z') (fun b z=>absurd rfl z) fun z=>absurd rfl z
 | none=>
   refine core (fun b=>if b=a then some (.iH {cls:= .type "list",data:= .seq vs.toArray} (.lst (ns.map V.int))) else none) (fun b=>?_) (.inl ⟨by simp, .inr ⟨{cls:= .type "list",data:= .seq vs.toArray},if_pos rfl⟩⟩) (fun b u z=>?_) (fun b z=>?_) fun _=>hk
   ·by_cases hb:b=a
    ·exact .inr ⟨_,_,if_pos hb⟩
    ·exact .inl (if_neg hb)
   ·by_cases hb:b=a
    ·have z':=(if_pos hb).symm.trans z
     cases z'
     subst hb
     exact⟨ha,by rw[List.length_map];exact hl,vs,_,rv,ha⟩
    ·have z':=(if_neg hb).symm.trans z
     cases z'
   ·by_cases hb:b=a
    ·exact hb
    ·exact absurd (if_neg hb) z
theorem ints_rep{K:PySem.W.Frag}{B:List Addr}{H:Hp}:∀ns:List Int,aH K B H (ns.map D.int) (ns.map V.int)
 | []=>aH.nil
 | n ::ns=>aH.cons (Rep.int.mpr rfl) (ints_rep ns)
theorem IA{l:PySem.W.OpenLaw}{n k:Nat}{q:Program}{loose:List Str}{XP:(Str→Option Value)→Heap→Prop}{YP:World→Heap→Prop}{d:DefRec}{K:Params→PySem.W.Frag}{x:Str}{g:List D→R D}
 (hn:l.most=some n) (hn2:n≤sizeLine) (hdf:d.params.defaults=[]) (hr:eS k callerA) (hY:∀(w:World) (h:Heap),YP w h→(K w.params).In h)
 (F:∀(w:World) (mg:Str→Option Value) (fa:Addr) (h:Heap),(K w.params).In h→h.Ns mainGlobals mg→mg d.name=some (.ref fa)→
   ∃fd:FuncData,(∀(s:Shared) (u:Value),BindsTo s fd ⟨[u],[]⟩ [(x,u)])∧∀base:Heap,(K w.params).In base→base.Ns mainGlobals mg→iY l.prog w (K w.params) mg base sC k fa fd [x] (BY (K w.params) 1 g))
 (hg:∀ns:List Int,ns.length≤n→g [.lst (ns.map D.int)]= .ok (.bl true)):PySem.W.WalkO q loose XP YP l.row.toRowW d [] (fun f vs=>PySem.call f vs):=by
 refine Att.wR hn hdf fun w s₀ s₁ mg mb fa o pm cd doc a vs ns G Y ho hd hcd hmg hobj hints hlen hgen=>?_
 have KX:=hY w _ Y
 obtain⟨fd,hb,hF⟩:=F w mg fa _ KX G.T.g hmg
 refine zI KX G.T.g G.T.b G.T.builtins G.T.nolimit hgen hobj hints (Nat.le_trans hlen hn2) hr hF hb (fun H hO hS=>?_) fun H e s' h=>h
 refine⟨rfl,[],[.lst (ns.map D.int)], .bl true,fun b hb=>(by cases hb),aH.cons (Rep.lst.mpr ⟨_,_,rfl,hS,ints_rep ns⟩) aH.nil,hg ns hlen,fun z H' _ r=>Rep.bl.mp r⟩
theorem cx{K:PySem.W.Frag}{h:Heap}{mg:Str→Option Value}{x:Str}{st:Stmt}{f:Addr}{oc:Value}{od an:Option Addr}{osl:Array (Option Value)}{kV doc pm cdv ct:Value}(X:K.In h)(G:h.Ns mainGlobals mg)(a:PySem.W.nsIn K mainGlobals x=some (some (.ref f)))
 (l:K.lookup f=some ⟨oc,od, .func (PySem.W.fnOf x x (ij st) (aq st) (af st) .none kV doc pm an cdv ct),osl⟩) (c:PySem.W.codeIn K cdv x=true) (k:PySem.W.keepIn K (.ref f)=true):Def K mg x st:=
 ⟨f,_,oI l c k,PySem.W.mg_of X G a⟩
end L2
end
section
set_option maxRecDepth 100000
set_option maxHeartbeats 4000000
namespace L2
open PySem PySem.Spec PyProof.Rows
theorem rO{t:FT}{body:FS}:∀(ds:List D) (n:Nat) (P:Nat→ax→Prop) {δ:ax},P n δ→
 (∀i d δ,ds[i]? =some d→P (n+i) δ→∃δ',((t d δ).bind body)= .ok (.nx δ')∧P (n+i+1) δ')→∃δ',pO t body ds δ= .ok (.nx δ')∧P (n+ds.length) δ'
 | [],n,P,δ,h0,_=>⟨δ,rfl,h0⟩
 | d ::ds,n,P,δ,h0,hs=>by
   obtain⟨δ1,e1,p1⟩:=hs 0 d δ rfl h0
   obtain⟨δ2,e2,p2⟩:=rO ds (n+1) P p1 (fun i d' δ' hi hp=>by
    have:=hs (i+1) d' δ' (by simpa using hi) (by rw[show n+(i+1)=n+1+i by omega];exact hp)
    rw[show n+(i+1)+1=n+1+i+1 by omega] at this
    exact this)
   refine⟨δ2,?_,by rw[List.length_cons,show n+(ds.length+1)=n+1+ds.length by omega];exact p2⟩
   obtain⟨δ0,h1,h2⟩:=R.ao e1
   show(t d δ).bind (fun δ1=>(body δ1).bind fun o=>match o with | .nx δ2=>pO t body ds δ2 | .rt r=> .ok (.rt r))=_
   rw[h1,R.aY,h2,R.aY]
   exact e2
theorem i3{t:FT}{body:FS}{ds:List D}(P:Nat→ax→Prop){δ:ax}(h0:P 0 δ)
 (hs:∀i d δ,ds[i]? =some d→P i δ→∃δ',((t d δ).bind body)= .ok (.nx δ')∧P (i+1) δ'):∃δ',pO t body ds δ= .ok (.nx δ')∧P ds.length δ':=by
 have:=rO (t:=t) (body:=body) ds 0 P h0 (fun i d δ hi hp=>by simpa using hs i d δ hi (by simpa using hp))
 simpa using this
theorem mZ{α:Type}{xs:List α}{i:Int}(h0:0≤i)(h:i.toNat < xs.length):pG xs i=some xs[i.toNat]:=by
 unfold pG sv
 rw[if_pos h0,if_pos (by omega)]
 simp [h]
theorem ints_map:∀ss:List Int,ints? (ss.map D.int)=some ss
 | []=>rfl
 | s ::ss=>by show(ints? (ss.map D.int)).map (s ::·)=_;rw [ints_map ss];rfl
theorem bY{F G:FS}{δ δ1:ax}{r:R Out}(h:F δ= .ok (.nx δ1))(h2:G δ1=r):fB F G δ=r:=by unfold fB;rw [h,R.aY];exact h2
theorem eu{f:ax→R (List D)}{δ:ax}{ds:List D}(h:f δ= .ok ds):eNew f δ= .ok (.lst ds):=by unfold eNew;rw [h];rfl
theorem qx{c:ax→R Bool}{F G:FS}{δ:ax}{r:R Out}(h:c δ= .ok true)(h2:F δ=r):r9 c F G δ=r:=by unfold r9;rw [h,R.aY,if_pos rfl];exact h2
theorem jr{c:ax→R Bool}{F G:FS}{δ:ax}{r:R Out}(h:c δ= .ok false)(h2:G δ=r):r9 c F G δ=r:=by unfold r9;rw [h,R.aY,if_neg (by decide)];exact h2
theorem me{it:ax→R (List D)}{t:FT}{F:FS}{δ:ax}{ds:List D}{r:R Out}(h:it δ= .ok ds)(h2:pO t F ds δ=r):sf it t F δ=r:=by unfold sf;rw [h,R.aY];exact h2
theorem cZ{f:FD}{δ:ax}{d:D}(h:f δ= .ok d):fZ f δ= .ok (.rt d):=by unfold fZ;rw [h];rfl
theorem d9{N:List Str}{F:FS}{ds:List D}{d:D}(h:F (dj N ds)= .ok (.rt d)):oY N F ds= .ok d:=by unfold oY;rw [h];rfl
theorem cD{α:Type}{p:Prop} [Decidable p](r:R α)(h:p):R.bV (decide p) r=r:=by rw[decide_eq_true h];rfl
theorem iW{i:Nat}{f:FD}{δ:ax}{d:D}(h:f δ= .ok d)(hi:i < δ.length):jT i f δ= .ok (.nx (δ.set i (.val d))):=by unfold jT;rw [h,R.aY,cD _ hi]
theorem zy{i:Nat}{f:ax→R (List D)}{δ:ax}{ds:List D}(h:f δ= .ok ds)(hi:i < δ.length):n_ i f δ= .ok (.nx (δ.set i (.bld ds))):=by unfold n_;rw [h,R.aY,cD _ hi]
theorem EK{i:Nat}{f:FD}{δ:ax}{d:D}{ds:List D}(h:f δ= .ok d)(hb:δ[i]? =some (.bld ds))(hl:ds.length < sizeLine):qe i f δ= .ok (.nx (δ.set i (.bld (ds++[d])))):=by unfold qe jB;rw [h,R.aY,hb];show R.bV _ _=_;rw [cD _ hl]
theorem dN{it:ax→R (List D)}{t:FT}{c:ax→R Bool}{f:FD}{own:List Str}{kp:List Nat}{δ:ax}{ds ys:List D}(h1:it δ= .ok ds)(h2:ds.length≤sizeLine)(h3:oa t c f (qN own kp δ) ds= .ok ys):eH it t c f own kp δ= .ok ys:=by unfold eH;rw [h1,R.aY,cD _ h2,h3]
theorem uq{ds:List D}{i:Int}{d:D}(h:pG ds i=some d):bZ (.lst ds) (.int i)= .ok d:=by unfold bZ;simp only[h]
theorem rm{ds:List D}{i:Int}{d:D}(h:pG ds i=some d):bZ (.tup ds) (.int i)= .ok d:=by unfold bZ;simp only[h]
end L2
end
section
set_option maxRecDepth 100000
namespace L2
open PySem PySem.Spec PyProof.Rows
theorem aw{g:D→D→R D}{fa fb:FD}{δ:ax}{a b:D}{r:R D}(ha:fa δ= .ok a)(hb:fb δ= .ok b)(h:g a b=r):e2 g fa fb δ=r:=by unfold e2;rw [ha,R.aY,hb,R.aY];exact h
theorem f_{g:D→D→R D}{fa fb:FD}{δ:ax}{a b:D}{k:Bool}(ha:fa δ= .ok a)(hb:fb δ= .ok b)(h:g a b= .ok (.bl k)):b2 g fa fb δ= .ok k:=by unfold b2;rw [aw ha hb h];rfl
theorem aZ{f:FD}{g:ax→R (List D)}{δ:ax}{d:D}{ds:List D}(h:f δ= .ok d)(h2:g δ= .ok ds):az f g δ= .ok (d ::ds):=by unfold az;rw [h,R.aY,h2];rfl
theorem bp{g:List D→R D}{fs:ax→R (List D)}{δ:ax}{ds:List D}{r:R D}(h:fs δ= .ok ds)(h2:g ds=r):br g fs δ=r:=by unfold br;rw [h,R.aY];exact h2
theorem dH{g:ax→R (List D)}{δ:ax}{ds:List D}(h:g δ= .ok ds)(hl:ds.length≤sizeLine):fk g δ= .ok (.tup ds):=by unfold fk;rw [h,R.aY,cD _ hl]
theorem jM{g:ax→R (List D)}{δ:ax}{ds:List D}(h:g δ= .ok ds)(hl:ds.length≤sizeLine):dD g δ= .ok ds:=by unfold dD;rw [h,R.aY,cD _ hl]
theorem x4{f:FD}{fl fh:FO}{δ:ax}{d:D}{lo hi:Option Int}{r:R D}(h:f δ= .ok d)(h1:fl δ= .ok lo)(h2:fh δ= .ok hi)(h3:H_ d lo hi=r):zB f fl fh δ=r:=by unfold zB;rw [h,R.aY,h1,R.aY,h2,R.aY];exact h3
theorem A9{f:FD}{δ:ax}{i:Int}(h:f δ= .ok (.int i)):iQ f δ= .ok (some i):=by unfold iQ;rw [h];rfl
theorem xt{a b:Int}(h:0 < b):lJ (.int a) (.int b)= .ok (.int (a % b)):=by unfold lJ vn;exact cD _ h
theorem C5{a b:Int}(h:0 < b)(h2:b < 1073741824):lg (.int a) (.int b)= .ok (.int (a / b)):=by unfold lg vn;exact cD _ ⟨h,h2⟩
theorem kJ{f:FD}{δ:ax}{n:Nat}(h:f δ= .ok (.int n))(hn:n < 1000000):i9 f δ= .ok (e_ 0 n):=by
 unfold i9;rw [h,R.aY];show R.bV (decide (-(2 ^ 62)≤(n:Int)∧(n:Int) < 2 ^ 62)) _=_
 rw[cD _ ⟨by omega,by omega⟩,Int.toNat_natCast]
theorem kC{f:FD}{δ:ax}{ds:List D}(h:f δ= .ok (.lst ds)):dZ f δ= .ok ds:=by unfold dZ;rw [h];rfl
theorem nC{f:FD}{δ:ax}{ds:List D}(h:f δ= .ok (.tup ds)):dZ f δ= .ok ds:=by unfold dZ;rw [h];rfl
theorem ur{f:FD}{δ:ax}{ds:List D}(h:f δ= .ok (.lst ds)):eO f δ= .ok (cG ds):=by unfold eO;rw [h];rfl
theorem qd(ds:List D):fO [.lst ds]= .ok (.int ds.length):=rfl
end L2
end
section
set_option maxRecDepth 100000
set_option maxHeartbeats 4000000
namespace L3
open PySem PySem.Spec PyProof.Rows L2
inductive V3 where
 | d (x:D) | loc (k:Nat) | lst (vs:List V3) | tup (vs:List V3)
inductive SO where
 | lst (ds:List D) | dct (kvs:List (Key × D)) | ins (c:Nat) (fs:List (Str × V3)) | iH
noncomputable abbrev aN:=List SO
inductive R3 (α:Type) where
 | ok (a:α) (S:aN) | ex (c:Nat) (S:aN) | no
noncomputable def R3.bind{α β:Type}:R3 α→(α→aN→R3 β)→R3 β
 | .ok a S,f=>f a S
 | .ex c S,_=> .ex c S
 | .no,_=> .no
theorem R3.ao{α β:Type}{r:R3 α}{f:α→aN→R3 β}{b:β}{S':aN}(h:r.bind f= .ok b S'):∃a S,r= .ok a S∧f a S= .ok b S':=by
 cases r with
 | ok a S=>exact⟨a,S,rfl,h⟩
 | ex c S=>cases h
 | no=>cases h
@[simp] theorem R3.aY{α β:Type}(a:α)(S:aN)(f:α→aN→R3 β):(R3.ok a S).bind f=f a S:=rfl
noncomputable def R3.bV{α:Type}(c:Bool)(r:R3 α):R3 α:=if c then r else .no
theorem R3.bo{α:Type}{c:Bool}{r:R3 α}{a:α}{S:aN}(h:R3.bV c r= .ok a S):c=true∧r= .ok a S:=by
 cases c with
 | true=>exact⟨rfl,h⟩
 | false=>cases h
noncomputable def R3.of{α:Type}(r:R α)(S:aN):R3 α:=match r with | .ok a=> .ok a S | _=> .no
theorem R3.of_ok{α:Type}{r:R α}{S S':aN}{a:α}(h:R3.of r S= .ok a S'):r= .ok a∧S'=S:=by
 cases r with
 | ok b=>cases h;exact⟨rfl,rfl⟩
 | ex c=>cases h
 | no=>cases h
structure P3 where
 r:List Addr
 z:List Addr
 f:List Addr
noncomputable def P3.b(ρ:P3):List Addr:=ρ.r.filter (fun a=>!ρ.f.contains a)++ρ.z
theorem P3.d7{ρ:P3}{a:Addr}:a∈ρ.b↔(a∈ρ.r∧a ∉ ρ.f)∨a∈ρ.z:=by
 unfold P3.b
 rw[List.mem_append,List.mem_filter]
 simp
noncomputable def P3.push(ρ:P3)(a:Addr):P3:=⟨ρ.r++[a],ρ.z,ρ.f⟩
noncomputable def P3.cut(ρ:P3)(n:Nat):P3:=⟨ρ.r.take n,ρ.z,ρ.f⟩
mutual
noncomputable def bf(K:PySem.W.Frag)(ρ:P3)(H:Hp):V3→V→Prop
 | .d x,v=>Rep K ρ.b H x v
 | .loc k,v=>∃a,ρ.r[k]? =some a∧v= .ref a
 | .lst vs,v=>∃a xs,v= .ref a∧qZ K ρ.b H a xs∧aK K ρ H vs xs
 | .tup vs,v=>∃a xs,v= .ref a∧tq K ρ.b H a xs∧aK K ρ H vs xs
noncomputable def aK(K:PySem.W.Frag)(ρ:P3)(H:Hp):List V3→List V→Prop
 | [],xs=>xs=[]
 | d ::ds,xs=>∃x r,xs=x ::r∧bf K ρ H d x∧aK K ρ H ds r
end
structure Pre (ρ:P3) (H:Hp) (ρ':P3) (H':Hp):Prop where
 bt:dA ρ.b H ρ'.b H'
 zz:ρ'.z=ρ.z
 zs:∀(b:Addr) (o:HO),b∈ρ.z→H b=some o→H' b=some o
 ext:∀(k:Nat) (a:Addr),ρ.r[k]? =some a→ρ'.r[k]? =some a
theorem Pre.refl(ρ:P3)(H:Hp):Pre ρ H ρ H:=⟨dA.refl ρ.b H,rfl,fun _ _ _ h=>h,fun _ _ h=>h⟩
theorem Pre.trans{ρ ρ' ρ'':P3}{H H' H'':Hp}(a:Pre ρ H ρ' H')(b:Pre ρ' H' ρ'' H''):Pre ρ H ρ'' H'':=⟨a.bt.trans b.bt,b.zz.trans a.zz,fun c o hc h=>b.zs c o (by rw[a.zz];exact hc) (a.zs c o hc h),fun k x h=>b.ext k x (a.ext k x h)⟩
theorem Pre.same{ρ:P3}{H H':Hp}(s:a_ H H'):Pre ρ H ρ H':=⟨dA.same s,rfl,fun b o _ h=>s b o h,fun _ _ h=>h⟩
theorem tq.bt{K:PySem.W.Frag}{B B':List Addr}{H H':Hp}(p:dA B H B' H'){a:Addr}{xs:List V}(l:tq K B H a xs):tq K B' H' a xs:=
 l.elim (fun z=> .inl ⟨(p.rd z.2 z.1).2,(p.rd z.2 z.1).1⟩) .inr
mutual
theorem bf.pre{K:PySem.W.Frag}{ρ ρ':P3}{H H':Hp}(p:Pre ρ H ρ' H'):∀{d:V3} {v:V},bf K ρ H d v→bf K ρ' H' d v
 | .d x,v,h=>by unfold bf at h ⊢;exact h.bt p.bt
 | .loc k,v,h=>by unfold bf at h ⊢;obtain⟨a,h1,h2⟩:=h;exact⟨a,p.ext k a h1,h2⟩
 | .lst vs,v,h=>by unfold bf at h ⊢;obtain⟨a,xs,e,l,r⟩:=h;exact⟨a,xs,e,l.bt p.bt,aK.pre p r⟩
 | .tup vs,v,h=>by unfold bf at h ⊢;obtain⟨a,xs,e,l,r⟩:=h;exact⟨a,xs,e,tq.bt p.bt l,aK.pre p r⟩
theorem aK.pre{K:PySem.W.Frag}{ρ ρ':P3}{H H':Hp}(p:Pre ρ H ρ' H'):∀{ds:List V3} {xs:List V},aK K ρ H ds xs→aK K ρ' H' ds xs
 | [],_,h=>by unfold aK at h ⊢;exact h
 | d ::ds,xs,h=>by
   unfold aK at h ⊢
   obtain⟨x,r,e,h1,h2⟩:=h
   exact⟨x,r,e,bf.pre p h1,aK.pre p h2⟩
end
structure PW (ρ:P3) (H:Hp) (ρ':P3) (H':Hp):Prop where
 bt:dA ρ.b H ρ'.b H'
 ext:∀(k:Nat) (a:Addr),ρ.r[k]? =some a→ρ'.r[k]? =some a
theorem Pre.pw{ρ ρ':P3}{H H':Hp}(p:Pre ρ H ρ' H'):PW ρ H ρ' H':=⟨p.bt,p.ext⟩
theorem PW.trans{ρ ρ' ρ'':P3}{H H' H'':Hp}(a:PW ρ H ρ' H')(b:PW ρ' H' ρ'' H''):PW ρ H ρ'' H'':=⟨a.bt.trans b.bt,fun k x h=>b.ext k x (a.ext k x h)⟩
mutual
theorem bf.pw{K:PySem.W.Frag}{ρ ρ':P3}{H H':Hp}(p:PW ρ H ρ' H'):∀{d:V3} {v:V},bf K ρ H d v→bf K ρ' H' d v
 | .d x,v,h=>by unfold bf at h ⊢;exact h.bt p.bt
 | .loc k,v,h=>by unfold bf at h ⊢;obtain⟨a,h1,h2⟩:=h;exact⟨a,p.ext k a h1,h2⟩
 | .lst vs,v,h=>by unfold bf at h ⊢;obtain⟨a,xs,e,l,r⟩:=h;exact⟨a,xs,e,l.bt p.bt,aK.pw p r⟩
 | .tup vs,v,h=>by unfold bf at h ⊢;obtain⟨a,xs,e,l,r⟩:=h;exact⟨a,xs,e,tq.bt p.bt l,aK.pw p r⟩
theorem aK.pw{K:PySem.W.Frag}{ρ ρ':P3}{H H':Hp}(p:PW ρ H ρ' H'):∀{ds:List V3} {xs:List V},aK K ρ H ds xs→aK K ρ' H' ds xs
 | [],_,h=>by unfold aK at h ⊢;exact h
 | d ::ds,xs,h=>by
   unfold aK at h ⊢
   obtain⟨x,r,e,h1,h2⟩:=h
   exact⟨x,r,e,bf.pw p h1,aK.pw p h2⟩
end
theorem aK.nil{K:PySem.W.Frag}{ρ:P3}{H:Hp}:aK K ρ H [] []:=by unfold aK;rfl
theorem aK.cons{K:PySem.W.Frag}{ρ:P3}{H:Hp}{d:V3}{ds:List V3}{x:V}{xs:List V}(h:bf K ρ H d x)(t:aK K ρ H ds xs):aK K ρ H (d ::ds) (x ::xs):=by
 unfold aK;exact⟨x,xs,rfl,h,t⟩
theorem aK.cw{K:PySem.W.Frag}{ρ:P3}{H:Hp}{d:V3}{ds:List V3}{xs:List V}(h:aK K ρ H (d ::ds) xs):∃x r,xs=x ::r∧bf K ρ H d x∧aK K ρ H ds r:=by
 unfold aK at h;exact h
theorem aK.length{K:PySem.W.Frag}{ρ:P3}{H:Hp}:∀{ds:List V3} {xs:List V},aK K ρ H ds xs→ds.length=xs.length
 | [],_,h=>by unfold aK at h;rw [h];rfl
 | d ::ds,xs,h=>by
   obtain⟨x,r,rfl,_,h2⟩:=h.cw
   simp [h2.length]
theorem aK.of{K:PySem.W.Frag}{ρ:P3}{H:Hp}:∀{ds:List D} {xs:List V},aH K ρ.b H ds xs→aK K ρ H (ds.map .d) xs
 | [],_,h=>by unfold aH at h;subst h;exact aK.nil
 | d ::ds,xs,h=>by
   obtain⟨x,r,rfl,h1,h2⟩:=h.cw
   exact aK.cons (by unfold bf;exact h1) (aK.of h2)
theorem aK.to{K:PySem.W.Frag}{ρ:P3}{H:Hp}:∀{ds:List D} {xs:List V},aK K ρ H (ds.map .d) xs→aH K ρ.b H ds xs
 | [],_,h=>by unfold aK at h;subst h;exact aH.nil
 | d ::ds,xs,h=>by
   obtain⟨x,r,rfl,h1,h2⟩:=aK.cw h
   unfold bf at h1
   exact aH.cons h1 (aK.to h2)
noncomputable def AO(K:PySem.W.Frag)(cl:Nat→Addr)(ρ:P3)(H:Hp):SO→Option HO→Prop
 | .lst ds,h=>∃xs,h=some (.lst xs)∧aH K ρ.b H ds xs
 | .dct kvs,h=>∃ys,h=some (.dK ys)∧ys.map (·.1)=kvs.map (·.1)∧aH K ρ.b H (kvs.map (·.2)) (ys.map (·.2))
 | .ins c fs,h=>∃dx ys,h=some (.ins (cl c) dx ys)∧ys.map (·.1)=fs.map (·.1)∧aK K ρ H (fs.map (·.2)) (ys.map (·.2))
 | .iH,h=>∃u,h=some u
theorem AO.pre{K:PySem.W.Frag}{cl:Nat→Addr}{ρ ρ':P3}{H H':Hp}(p:Pre ρ H ρ' H'){o:SO}{h:Option HO}(r:AO K cl ρ H o h):AO K cl ρ' H' o h:=by
 cases o with
 | lst ds=>obtain⟨xs,e,q⟩:=r;exact⟨xs,e,q.bt p.bt⟩
 | dct kvs=>obtain⟨ys,e,e2,q⟩:=r;exact⟨ys,e,e2,q.bt p.bt⟩
 | ins c fs=>obtain⟨dx,ys,e,e2,q⟩:=r;exact⟨dx,ys,e,e2,q.pre p⟩
 | iH=>exact r
theorem AO.pw{K:PySem.W.Frag}{cl:Nat→Addr}{ρ ρ':P3}{H H':Hp}(p:PW ρ H ρ' H'){o:SO}{h:Option HO}(r:AO K cl ρ H o h):AO K cl ρ' H' o h:=by
 cases o with
 | lst ds=>obtain⟨xs,e,q⟩:=r;exact⟨xs,e,q.bt p.bt⟩
 | dct kvs=>obtain⟨ys,e,e2,q⟩:=r;exact⟨ys,e,e2,q.bt p.bt⟩
 | ins c fs=>obtain⟨dx,ys,e,e2,q⟩:=r;exact⟨dx,ys,e,e2,q.pw p⟩
 | iH=>exact r
theorem AO.some{K:PySem.W.Frag}{cl:Nat→Addr}{ρ:P3}{H:Hp}{o:SO}{h:Option HO}(r:AO K cl ρ H o h):∃u,h=some u:=by
 cases o with
 | lst ds=>obtain⟨xs,e,q⟩:=r;exact⟨_,e⟩
 | dct kvs=>obtain⟨ys,e,e2,q⟩:=r;exact⟨_,e⟩
 | ins c fs=>obtain⟨dx,ys,e,e2,q⟩:=r;exact⟨_,e⟩
 | iH=>exact r
structure SW (K:PySem.W.Frag) (cl:Nat→Addr) (ρ:P3) (H:Hp) (S:aN):Prop where
 len:ρ.r.length=S.length
 nd:∀(i j:Nat) (a:Addr),ρ.r[i]? =some a→ρ.r[j]? =some a→i=j
 ob:∀(k:Nat) (a:Addr) (o:SO),ρ.r[k]? =some a→S[k]? =some o→AO K cl ρ H o (H a)
 zb:∀b∈ρ.z,(∃xs,H b=some (.lst xs))∧b ∉ ρ.r
 fz:∀(k:Nat) (a:Addr),ρ.r[k]? =some a→S[k]?≠some .iH→a ∉ ρ.f
 ff:∀a∈ρ.f,∃o,H a=some o
 fi:∀(k:Nat) (a:Addr),ρ.r[k]? =some a→S[k]? =some .iH→a∈ρ.f
theorem SW.rs{K:PySem.W.Frag}{cl:Nat→Addr}{ρ:P3}{H:Hp}{S:aN}(w:SW K cl ρ H S):∀a∈ρ.r,∃o,H a=some o:=fun a z=>by
 obtain⟨k,hk⟩:=List.getElem?_of_mem z
 have hl:=(List.getElem?_eq_some_iff.mp hk).1
 exact(w.ob k a _ hk (List.getElem?_eq_getElem (by rw[←w.len];exact hl))).some
theorem SW.bs{K:PySem.W.Frag}{cl:Nat→Addr}{ρ:P3}{H:Hp}{S:aN}(w:SW K cl ρ H S):∀a∈ρ.b,∃o,H a=some o:=fun a ha=>by
 rcases P3.d7.mp ha with z | z
 ·exact w.rs a z.1
 ·obtain⟨xs,h⟩:=(w.zb a z).1
  exact⟨_,h⟩
theorem SW.same{K:PySem.W.Frag}{cl:Nat→Addr}{ρ:P3}{H H':Hp}{S:aN}(w:SW K cl ρ H S)(s:a_ H H'):SW K cl ρ H' S:=
 ⟨w.len,w.nd,fun k a o h1 h2=>by
   have r:=w.ob k a o h1 h2
   obtain⟨u,hu⟩:=r.some
   rw[s a u hu,←hu]
   exact r.pre (Pre.same s),fun b hb=>let⟨⟨o,ho⟩,n⟩:=w.zb b hb;⟨⟨o,s b _ ho⟩,n⟩,w.fz,fun a ha=>let⟨o,ho⟩:=w.ff a ha;⟨o,s a o ho⟩,w.fi⟩
theorem P3.mem_push{ρ:P3}{a b:Addr}(h:b∈(ρ.push a).b):b∈ρ.b∨b=a:=by
 rcases P3.d7.mp h with⟨z,n⟩ | z
 ·rcases List.mem_append.mp z with y | y
  ·exact .inl (P3.d7.mpr (.inl ⟨y,n⟩))
  ·exact .inr (List.mem_singleton.mp y)
 ·exact .inl (P3.d7.mpr (.inr z))
theorem SW.new{K:PySem.W.Frag}{cl:Nat→Addr}{ρ:P3}{H H':Hp}{S:aN}(w:SW K cl ρ H S){a:Addr}{o:SO}(s:a_ H H')(n:H a=none)(r:AO K cl (ρ.push a) H' o (H' a))(hne:o≠SO.iH:=by intro h;cases h) :
 SW K cl (ρ.push a) H' (S++[o])∧Pre ρ H (ρ.push a) H':=by
 have na:a ∉ ρ.b:=fun ha=>by obtain⟨o,ho⟩:=w.bs a ha;rw [n] at ho;cases ho
 have nr:a ∉ ρ.r:=fun ha=>by obtain⟨o,ho⟩:=w.rs a ha;rw [n] at ho;cases ho
 have nf:a ∉ ρ.f:=fun ha=>by obtain⟨o,ho⟩:=w.ff a ha;rw [n] at ho;cases ho
 have p:Pre ρ H (ρ.push a) H':=⟨fun b u e nb=>⟨s b u e,fun hb=>by
  rcases P3.mem_push hb with z | z
  ·exact nb z
  ·subst z;rw [n] at e;cases e⟩,rfl,fun b o _ h=>s b o h,fun k x hx=>by
   show(ρ.r++[a])[k]? =_
   rw[List.getElem?_append_left (List.getElem?_eq_some_iff.mp hx).1];exact hx⟩
 have last:∀(i:Nat) (b:Addr),(ρ.push a).r[i]? =some b→(i < ρ.r.length∧ρ.r[i]? =some b)∨(i=ρ.r.length∧b=a):=fun i b h=>by
  have h:(ρ.r++[a])[i]? =some b:=h
  by_cases q:i < ρ.r.length
  ·rw[List.getElem?_append_left q] at h;exact .inl ⟨q,h⟩
  ·rw[List.getElem?_append_right (by omega)] at h
   have h0:i - ρ.r.length=0:=by
    have:=(List.getElem?_eq_some_iff.mp h).1
    simp at this;omega
   rw[h0] at h
   cases h
   exact .inr ⟨by omega,rfl⟩
 refine⟨⟨by show(ρ.r++[a]).length=_;rw [List.length_append,List.length_append,w.len];rfl,fun i j b hi hj=>?_,fun k b u hk hu=>?_,fun b hb=>?_,fun k b hk hu=>?_,fun b hb=>?_,fun k b hk hu=>?_⟩,p⟩
 ·rcases last i b hi with⟨q1,q2⟩ | ⟨q1,rfl⟩
  ·rcases last j b hj with⟨z1,z2⟩ | ⟨z1,rfl⟩
   ·exact w.nd i j b q2 z2
   ·exact absurd (List.mem_of_getElem? q2) nr
  ·rcases last j b hj with⟨z1,z2⟩ | ⟨z1,z3⟩
   ·exact absurd (List.mem_of_getElem? z2) nr
   ·omega
 ·rcases last k b hk with⟨q1,q2⟩ | ⟨q1,rfl⟩
  ·rw[List.getElem?_append_left (by rw[←w.len];exact q1)] at hu
   have r0:=w.ob k b u q2 hu
   obtain⟨x,hx⟩:=r0.some
   rw[s b x hx,←hx]
   exact r0.pre p
  ·rw[List.getElem?_append_right (by rw[←w.len];omega),q1,w.len,Nat.sub_self] at hu
   cases hu
   exact r
 ·obtain⟨⟨o,ho⟩,nb⟩:=w.zb b hb
  refine⟨⟨o,s b _ ho⟩,fun h=>?_⟩
  rcases List.mem_append.mp h with y | y
  ·exact nb y
  ·rw[List.mem_singleton] at y;subst y;rw [n] at ho;cases ho
 ·rcases last k b hk with⟨q1,q2⟩ | ⟨q1,rfl⟩
  ·rw[List.getElem?_append_left (by rw[←w.len];exact q1)] at hu
   exact w.fz k b q2 hu
  ·exact nf
 ·obtain⟨o,ho⟩:=w.ff b hb
  exact⟨o,s b o ho⟩
 ·rcases last k b hk with⟨q1,q2⟩ | ⟨q1,rfl⟩
  ·rw[List.getElem?_append_left (by rw[←w.len];exact q1)] at hu
   exact w.fi k b q2 hu
  ·rw[List.getElem?_append_right (by rw[←w.len];omega),q1,w.len,Nat.sub_self] at hu
   cases hu
   exact absurd rfl hne
theorem SW.put{K:PySem.W.Frag}{cl:Nat→Addr}{ρ:P3}{H:Hp}{S:aN}(w:SW K cl ρ H S){k:Nat}{a:Addr}{o:SO}{u:HO}(hk:ρ.r[k]? =some a)(hf:a ∉ ρ.f)(r:AO K cl ρ H o (some u))(hne:o≠SO.iH:=by intro h;cases h) :
 SW K cl ρ (upd H a u) (S.set k o)∧Pre ρ H ρ (upd H a u):=by
 have ha:a∈ρ.r:=List.mem_of_getElem? hk
 have hb:a∈ρ.b:=P3.d7.mpr (.inl ⟨ha,hf⟩)
 have nz:∀b∈ρ.z,b≠a:=fun b hb z=>(w.zb b hb).2 (by rw[z];exact ha)
 have p:Pre ρ H ρ (upd H a u):=⟨fun b x e nb=>⟨by rw[bq (fun(z:b=a)=>nb (by rw[z];exact hb))];exact e,nb⟩,rfl,fun b o hb h=>by rw[bq (nz b hb)];exact h,fun _ _ h=>h⟩
 have hl:k < S.length:=by rw[←w.len];exact(List.getElem?_eq_some_iff.mp hk).1
 refine⟨⟨by rw[List.length_set];exact w.len,w.nd,fun j b x hj hx=>?_,fun b hb=>?_,fun j b hj hx=>?_,fun b hb=>?_,fun j b hj hx=>?_⟩,p⟩
 ·by_cases q:k=j
  ·subst q
   rw[hk] at hj;cases hj
   rw[List.getElem?_set_self hl] at hx;cases hx
   rw[aT]
   exact r.pre p
  ·rw[List.getElem?_set_ne q] at hx
   have ne:b≠a:=fun z=>by subst z;exact q (w.nd k j b hk hj)
   rw[bq ne]
   exact(w.ob j b x hj hx).pre p
 ·obtain⟨⟨o,ho⟩,nb⟩:=w.zb b hb
  exact⟨⟨o,by rw[bq (nz b hb)];exact ho⟩,nb⟩
 ·by_cases q:k=j
  ·subst q
   rw[hk] at hj;cases hj
   exact hf
  ·rw[List.getElem?_set_ne q] at hx
   exact w.fz j b hj hx
 ·obtain⟨o,ho⟩:=w.ff b hb
  exact⟨o,by rw[bq (fun z=>hf (by rw[←z];exact hb))];exact ho⟩
 ·by_cases q:k=j
  ·subst q
   rw[List.getElem?_set_self hl] at hx;cases hx
   exact absurd rfl hne
  ·rw[List.getElem?_set_ne q] at hx
   exact w.fi j b hj hx
theorem SW.iH{K:PySem.W.Frag}{cl:Nat→Addr}{ρ:P3}{H:Hp}{S:aN}(w:SW K cl ρ H S){k:Nat}{a:Addr}{ds:List D}(hk:ρ.r[k]? =some a)(hS:S[k]? =some (.lst ds)) :
 SW K cl ⟨ρ.r,ρ.z,a ::ρ.f⟩ H (S.set k .iH)∧Pre ρ H ⟨ρ.r,ρ.z,a ::ρ.f⟩ H∧Rep K (⟨ρ.r,ρ.z,a ::ρ.f⟩:P3).b H (.lst ds) (.ref a):=by
 have hl:k < S.length:=by rw[←w.len];exact(List.getElem?_eq_some_iff.mp hk).1
 have sub:∀b,b∈(⟨ρ.r,ρ.z,a ::ρ.f⟩:P3).b→b∈ρ.b:=fun b hb=>by
  rcases P3.d7.mp hb with⟨z,n⟩ | z
  ·exact P3.d7.mpr (.inl ⟨z,fun h=>n (List.mem_cons_of_mem _ h)⟩)
  ·exact P3.d7.mpr (.inr z)
 have p:Pre ρ H ⟨ρ.r,ρ.z,a ::ρ.f⟩ H:=⟨fun b o e nb=>⟨e,fun hb=>nb (sub b hb)⟩,rfl,fun _ _ _ h=>h,fun _ _ h=>h⟩
 obtain⟨xs,e1,r1⟩:=w.ob k a _ hk hS
 refine⟨⟨by rw[List.length_set];exact w.len,w.nd,fun j b x hj hx=>?_,w.zb,fun j b hj hx=>?_,fun b hb=>?_,fun j b hj hx=>?_⟩,p,?_⟩
 ·by_cases q:k=j
  ·subst q
   rw[List.getElem?_set_self hl] at hx;cases hx
   rw[hk] at hj;cases hj
   exact⟨_,e1⟩
  ·rw[List.getElem?_set_ne q] at hx
   exact(w.ob j b x hj hx).pre p
 ·by_cases q:k=j
  ·subst q
   rw[List.getElem?_set_self hl] at hx
   exact absurd rfl hx
  ·rw[List.getElem?_set_ne q] at hx
   intro h
   rcases List.mem_cons.mp h with z | z
   ·subst z;exact q (w.nd k j b hk hj)
   ·exact w.fz j b hj hx z
 ·rcases List.mem_cons.mp hb with z | z
  ·subst z;exact⟨_,e1⟩
  ·exact w.ff b z
 ·by_cases q:k=j
  ·subst q
   rw[hk] at hj;cases hj
   exact List.mem_cons_self
  ·rw[List.getElem?_set_ne q] at hx
   exact List.mem_cons_of_mem _ (w.fi j b hj hx)
 ·refine Rep.lst.mpr ⟨a,xs,rfl, .inl ⟨fun hb=>?_, .inl e1⟩,r1.bt p.bt⟩
  rcases P3.d7.mp hb with⟨_,n⟩ | z
  ·exact n List.mem_cons_self
  ·exact(w.zb a z).2 (List.mem_of_getElem? hk)
mutual
noncomputable def ox:D→Bool
 | .lst _=>false
 | .dct _ _=>false
 | .tup ds=>jK ds
 | _=>true
noncomputable def jK:List D→Bool
 | []=>true
 | d ::ds=>ox d && jK ds
end
mutual
theorem Rep.tG{K:PySem.W.Frag}{B:List Addr}{H:Hp}(hB:∀b∈B,∀xs,¬Rd H b (.tup xs)):∀{d:D} {v:V},ox d=true→Rep K [] H d v→Rep K B H d v
 | .di,v,_,r=>Rep.di.mpr (Rep.di.mp r)
 | .bl _,v,_,r=>Rep.bl.mpr (Rep.bl.mp r)
 | .int _,v,_,r=>Rep.int.mpr (Rep.int.mp r)
 | .str _,v,_,r=>Rep.str.mpr (Rep.str.mp r)
 | .lst _,v,h,_=>by unfold ox at h;cases h
 | .dct _ _,v,h,_=>by unfold ox at h;cases h
 | .tup ds,v,h,r=>by
   unfold ox at h
   obtain⟨a,xs,rfl,l,rs⟩:=Rep.tup.mp r
   exact Rep.tup.mpr ⟨a,xs,rfl,l.elim (fun z=> .inl ⟨fun hb=>hB a hb xs z.2,z.2⟩) .inr,aH.tG hB h rs⟩
theorem aH.tG{K:PySem.W.Frag}{B:List Addr}{H:Hp}(hB:∀b∈B,∀xs,¬Rd H b (.tup xs)):∀{ds:List D} {vs:List V},jK ds=true→aH K [] H ds vs→aH K B H ds vs
 | [],_,_,r=>by unfold aH at r;subst r;exact aH.nil
 | d ::ds,vs,h,r=>by
   unfold jK at h
   obtain⟨h1,h2⟩:=Bool.and_eq_true_iff.mp h
   obtain⟨x,xs,rfl,r1,r2⟩:=r.cw
   exact aH.cons (Rep.tG hB h1 r1) (aH.tG hB h2 r2)
end
theorem SW.nt{K:PySem.W.Frag}{cl:Nat→Addr}{ρ:P3}{H:Hp}{S:aN}(w:SW K cl ρ H S):∀b∈ρ.b,∀xs,¬Rd H b (.tup xs):=fun b hb xs h=>by
 have key:∀o,H b=some o→(∀xs,o≠ .tup xs)→(∀ob xs,o≠ .iH ob (.tup xs))→False:=fun o e h1 h2=>by
  rcases h with z | ⟨ob,z⟩
  ·rw[e] at z;cases z;exact h1 _ rfl
  ·rw[e] at z;cases z;exact h2 _ _ rfl
 rcases P3.d7.mp hb with⟨z,n⟩ | z
 ·obtain⟨k,hk⟩:=List.getElem?_of_mem z
  have hl:=(List.getElem?_eq_some_iff.mp hk).1
  have hS:S[k]? =some (S[k]'(by rw[←w.len];exact hl)):=List.getElem?_eq_getElem (by rw[←w.len];exact hl)
  have r:=w.ob k b _ hk hS
  generalize S[k]'(by rw[←w.len];exact hl)=o at r hS
  cases o with
  | lst ds=>obtain⟨ys,e,_⟩:=r;exact key _ e (fun _ q=>by cases q) (fun _ _ q=>by cases q)
  | dct kvs=>obtain⟨ys,e,_⟩:=r;exact key _ e (fun _ q=>by cases q) (fun _ _ q=>by cases q)
  | ins c fs=>obtain⟨dx,ys,e,_⟩:=r;exact key _ e (fun _ q=>by cases q) (fun _ _ q=>by cases q)
  | iH=>exact n (w.fi k b hk hS)
 ·obtain⟨⟨ys,e⟩,_⟩:=w.zb b z
  exact key _ e (fun _ q=>by cases q) (fun _ _ q=>by cases q)
noncomputable abbrev DE:=List (Option V3)
structure fP (K:PySem.W.Frag) (cl:Nat→Addr) (ρ:P3) (H:Hp) (S:aN) (σ:L2.St) (δ:DE):Prop where
 len:δ.length=σ.length
 sw:SW K cl ρ H S
 val:∀(i:Nat) (d:V3),δ[i]? =some (some d)→∃v,σ[i]? =some (some v)∧bf K ρ H d v
theorem fP.to{K:PySem.W.Frag}{cl:Nat→Addr}{ρ ρ':P3}{H H':Hp}{S S':aN}{σ:L2.St}{δ:DE}(E:fP K cl ρ H S σ δ)(p:Pre ρ H ρ' H')(w:SW K cl ρ' H' S'):fP K cl ρ' H' S' σ δ:=
 ⟨E.len,w,fun i d e=>let⟨v,h1,h2⟩:=E.val i d e;⟨v,h1,h2.pre p⟩⟩
theorem fP.set{K:PySem.W.Frag}{cl:Nat→Addr}{ρ:P3}{H:Hp}{S:aN}{σ:L2.St}{δ:DE}(E:fP K cl ρ H S σ δ){i:Nat}{d:V3}{v:V}(hi:i < σ.length)(r:bf K ρ H d v):fP K cl ρ H S (σ.set i (some v)) (δ.set i (some d)):=
 ⟨by rw[List.length_set,List.length_set];exact E.len,E.sw,fun j d' e=>by
   by_cases h:i=j
   ·subst h
    rw[List.getElem?_set_self (by rw[E.len];exact hi)] at e
    cases e
    exact⟨v,List.getElem?_set_self hi,r⟩
   ·rw[List.getElem?_set_ne h] at e ⊢
    exact E.val j d' e⟩
noncomputable def down(δ:DE):ax:=δ.map fun x=>match x with | some (.d d)=> .val d | _=> .un
theorem fP.down{K:PySem.W.Frag}{cl:Nat→Addr}{ρ:P3}{H:Hp}{S:aN}{σ:L2.St}{δ:DE}(E:fP K cl ρ H S σ δ):eP K [] ρ.b H σ (down δ) where
 len:=by unfold L3.down;rw [List.length_map];exact E.len
 bs:=E.sw.bs
 zb:=fun a ha=>by cases ha
 val:=fun i d e=>by
  unfold L3.down at e
  rw[List.getElem?_map] at e
  cases q:δ[i]? with
  | none=>rw [q] at e;cases e
  | some x=>
    rw[q] at e
    match x,e,q with
    | some (.d y),e,q=>
      cases e
      obtain⟨v,h1,h2⟩:=E.val i _ q
      unfold bf at h2
      exact⟨v,h1,h2⟩
    | some (.loc k),e,q=>cases e
    | some (.lst k),e,q=>cases e
    | some (.tup k),e,q=>cases e
    | none,e,q=>cases e
 bld:=fun i ds e=>by
  unfold L3.down at e
  rw[List.getElem?_map] at e
  cases q:δ[i]? with
  | none=>rw [q] at e;cases e
  | some x=>
    rw[q] at e
    match x,e with
    | some (.d y),e=>cases e
    | some (.loc k),e=>cases e
    | some (.lst k),e=>cases e
    | some (.tup k),e=>cases e
    | none,e=>cases e
 dis:=fun i j a ds es e=>by
  unfold L3.down at e
  rw[List.getElem?_map] at e
  cases q:δ[i]? with
  | none=>rw [q] at e;cases e
  | some x=>
    rw[q] at e
    match x,e with
    | some (.d y),e=>cases e
    | some (.loc k),e=>cases e
    | some (.lst k),e=>cases e
    | some (.tup k),e=>cases e
    | none,e=>cases e
mutual
noncomputable def res(S:aN):V3→Option D
 | .d x=>some x
 | .loc k=>(match S[k]? with | some (.lst ds)=>some (.lst ds) | _=>none)
 | .lst vs=>(mW S vs).map D.lst
 | .tup vs=>(mW S vs).map D.tup
noncomputable def mW(S:aN):List V3→Option (List D)
 | []=>some []
 | v ::vs=>(res S v).bind fun d=>(mW S vs).map (d ::·)
end
noncomputable def cM(S:aN)(δ:DE):ax:=δ.map fun x=>match x with | some v=>(match res S v with | some d=> .val d | none=> .un) | none=> .un
theorem o_{α β:Type}{o:Option α}{f:α→β}{b:β}(h:o.map f=some b):∃a,o=some a∧f a=b:=by
 cases o with
 | none=>cases h
 | some a=>cases h;exact⟨a,rfl,rfl⟩
theorem xX{α β:Type}{o:Option α}{f:α→Option β}{b:β}(h:o.bind f=some b):∃a,o=some a∧f a=some b:=by
 cases o with
 | none=>cases h
 | some a=>exact⟨a,rfl,h⟩
mutual
noncomputable def gQ(n:Nat):V3→Bool
 | .d _=>true
 | .loc k=>decide (n≤k)
 | .lst vs=>og n vs
 | .tup vs=>og n vs
noncomputable def og(n:Nat):List V3→Bool
 | []=>true
 | v ::vs=>gQ n v && og n vs
end
mutual
theorem bf.resB{K:PySem.W.Frag}{cl:Nat→Addr}{ρ:P3}{H:Hp}{S:aN}{B':List Addr}{n:Nat}(w:SW K cl ρ H S)(p:dA ρ.b H B' H)(hn:∀(k:Nat) (a:Addr),n≤k→ρ.r[k]? =some a→a ∉ B'):∀{v:V3} {d:D} {x:V},gQ n v=true→res S v=some d→bf K ρ H v x→Rep K B' H d x
 | .d y,d,x,_,h,r=>by unfold L3.res at h;cases h;unfold bf at r;exact r.bt p
 | .loc k,d,x,g,h,r=>by
   unfold L3.res at h
   unfold bf at r
   unfold gQ at g
   obtain⟨a,h1,rfl⟩:=r
   split at h
   ·rename_i ds e
    cases h
    obtain⟨xs,e2,q⟩:=w.ob k a _ h1 e
    unfold Rep
    exact⟨a,xs,rfl, .inl ⟨hn k a (of_decide_eq_true g) h1, .inl e2⟩,q.bt p⟩
   ·cases h
 | .lst vs,d,x,g,h,r=>by
   unfold L3.res at h
   unfold gQ at g
   obtain⟨ds,e,rfl⟩:=o_ h
   unfold bf at r
   obtain⟨a,xs,rfl,l,r⟩:=r
   unfold Rep
   exact⟨a,xs,rfl,l.bt p,aK.resB w p hn g e r⟩
 | .tup vs,d,x,g,h,r=>by
   unfold L3.res at h
   unfold gQ at g
   obtain⟨ds,e,rfl⟩:=o_ h
   unfold bf at r
   obtain⟨a,xs,rfl,l,r⟩:=r
   unfold Rep
   exact⟨a,xs,rfl,tq.bt p l,aK.resB w p hn g e r⟩
theorem aK.resB{K:PySem.W.Frag}{cl:Nat→Addr}{ρ:P3}{H:Hp}{S:aN}{B':List Addr}{n:Nat}(w:SW K cl ρ H S)(p:dA ρ.b H B' H)(hn:∀(k:Nat) (a:Addr),n≤k→ρ.r[k]? =some a→a ∉ B'):∀{vs:List V3} {ds:List D} {xs:List V},og n vs=true→mW S vs=some ds→aK K ρ H vs xs→aH K B' H ds xs
 | [],ds,xs,_,h,r=>by unfold mW at h;cases h;unfold aK at r;subst r;exact aH.nil
 | v ::vs,ds,xs,g,h,r=>by
   unfold mW at h
   unfold og at g
   obtain⟨g1,g2⟩:=Bool.and_eq_true_iff.mp g
   obtain⟨d,e1,h2⟩:=xX h
   obtain⟨es,e2,rfl⟩:=o_ h2
   obtain⟨y,ys,rfl,r1,r2⟩:=r.cw
   exact aH.cons (bf.resB w p hn g1 e1 r1) (aK.resB w p hn g2 e2 r2)
end
mutual
theorem tI:∀v:V3,gQ 0 v=true
 | .d _=>by unfold gQ;rfl
 | .loc k=>by unfold gQ;exact decide_eq_true (Nat.zero_le _)
 | .lst vs=>by unfold gQ;exact ng vs
 | .tup vs=>by unfold gQ;exact ng vs
theorem ng:∀vs:List V3,og 0 vs=true
 | []=>by unfold og;rfl
 | v ::vs=>by unfold og;rw [tI v,ng vs];rfl
end
theorem bf.res{K:PySem.W.Frag}{cl:Nat→Addr}{ρ:P3}{H:Hp}{S:aN}(w:SW K cl ρ H S){v:V3}{d:D}{x:V}(h:res S v=some d)(r:bf K ρ H v x):Rep K [] H d x:=
 r.resB w (fun b o e _=>⟨e,by simp⟩) (n:=0) (fun _ _ _ _=>by simp) (tI v) h
theorem oU{S:aN}{δ:DE}{i:Nat}{y:Sl}(e:(cM S δ)[i]? =some y):(∃v d,δ[i]? =some (some v)∧res S v=some d∧y= .val d)∨y= .un:=by
 unfold cM at e
 rw[List.getElem?_map] at e
 cases q:δ[i]? with
 | none=>rw [q] at e;cases e
 | some x=>
   rw[q] at e
   cases x with
   | none=>cases e;exact .inr rfl
   | some v=>
     cases z:res S v with
     | none=>
       have e:some (match res S v with | some d=>Sl.val d | none=> .un)=some y:=e
       rw[z] at e;cases e;exact .inr rfl
     | some d=>
       have e:some (match res S v with | some d=>Sl.val d | none=> .un)=some y:=e
       rw[z] at e;cases e;exact .inl ⟨v,d,rfl,z,rfl⟩
theorem fP.cM{K:PySem.W.Frag}{cl:Nat→Addr}{ρ:P3}{H:Hp}{S:aN}{σ:L2.St}{δ:DE}(E:fP K cl ρ H S σ δ):eP K [] [] H σ (cM S δ) where
 len:=by unfold L3.cM;rw [List.length_map];exact E.len
 bs:=fun a ha=>by cases ha
 zb:=fun a ha=>by cases ha
 val:=fun i d e=>by
  rcases oU e with⟨v,d',h1,h2,h3⟩ | h
  ·cases h3
   obtain⟨x,q1,q2⟩:=E.val i v h1
   exact⟨x,q1,q2.res E.sw h2⟩
  ·cases h
 bld:=fun i ds e=>by
  rcases oU e with⟨v,d',h1,h2,h3⟩ | h
  ·cases h3
  ·cases h
 dis:=fun i j a ds es e=>by
  rcases oU e with⟨v,d',h1,h2,h3⟩ | h
  ·cases h3
  ·cases h
noncomputable abbrev FX:=DE→aN→R3 V3
noncomputable abbrev FB:=DE→aN→R3 Bool
noncomputable abbrev FA:=DE→aN→R3 (List V3)
noncomputable def tX(K:PySem.W.Frag)(cl:Nat→Addr)(f:FX):TE:=fun σ H Q=>∃ρ S δ v S',fP K cl ρ H S σ δ∧f δ S= .ok v S'∧∀u ρ' H',Pre ρ H ρ' H'→SW K cl ρ' H' S'→bf K ρ' H' v u→Q u H'
noncomputable def Hi(K:PySem.W.Frag)(cl:Nat→Addr)(f:FB):TT:=fun σ H Q=>∃ρ S δ b S',fP K cl ρ H S σ δ∧f δ S= .ok b S'∧∀ρ' H',Pre ρ H ρ' H'→SW K cl ρ' H' S'→Q b H'
noncomputable def K_(K:PySem.W.Frag)(cl:Nat→Addr)(f:FA):TA:=fun σ H Q=>∃ρ S δ vs S',fP K cl ρ H S σ δ∧f δ S= .ok vs S'∧∀us ρ' H',Pre ρ H ρ' H'→SW K cl ρ' H' S'→aK K ρ' H' vs us→Q us H'
structure PX (X:Cx) (cl:Nat→Addr) (e:Expr) (f:FX):Prop where
 go:PE X e (tX X.K cl f)
structure Aq (X:Cx) (cl:Nat→Addr) (e:Expr) (f:FB):Prop where
 go:PT X e (Hi X.K cl f)
structure CP (X:Cx) (cl:Nat→Addr) (es:List Expr) (f:FA):Prop where
 go:PA X es (K_ X.K cl f)
section
variable {X:Cx} {cl:Nat→Addr}
noncomputable def xP(f:FD):FX:=fun δ S=>(R3.of (f (down δ)) S).bind fun d S=> .ok (.d d) S
theorem ak{e:Expr}{f:FD}(h:QD X e f):PX X cl e (xP f):=⟨h.1.imp fun σ H Q ⟨ρ,S,δ,v,S',E,hf,q⟩=>by
 obtain⟨d,S1,h1,h2⟩:=R3.ao hf
 obtain⟨h3,e3⟩:=R3.of_ok h1
 cases h2
 subst e3
 exact⟨[],ρ.b,down δ,d,E.down,h3,fun v H' s r=>q v ρ H' (Pre.same s) (E.sw.same s) (by unfold bf;exact r)⟩⟩
noncomputable def xT(f:FD):FX:=fun δ S=>(R3.of (f (cM S δ)) S).bind fun d S=>R3.bV (ox d) (.ok (.d d) S)
theorem dI{e:Expr}{f:FD}(h:QD X e f):PX X cl e (xT f):=⟨h.1.imp fun σ H Q ⟨ρ,S,δ,v,S',E,hf,q⟩=>by
 obtain⟨d,S1,h1,h2⟩:=R3.ao hf
 obtain⟨h4,e3⟩:=R3.of_ok h1
 obtain⟨ha,h3⟩:=R3.bo h2
 cases h3
 subst e3
 exact⟨[],[],cM _ δ,d,E.cM,h4,fun v H' s r=>q v ρ H' (Pre.same s) (E.sw.same s) (by unfold bf;exact Rep.tG (E.sw.same s).nt ha r)⟩⟩
noncomputable def bP(f:ax→R Bool):FB:=fun δ S=>R3.of (f (down δ)) S
theorem dr{e:Expr}{f:ax→R Bool}(h:QB X e f):Aq X cl e (bP f):=⟨h.1.imp fun σ H Q ⟨ρ,S,δ,v,S',E,hf,q⟩=>by
 obtain⟨h1,e3⟩:=R3.of_ok hf
 subst e3
 exact⟨[],ρ.b,down δ,v,E.down,h1,fun H' s=>q ρ H' (Pre.same s) (E.sw.same s)⟩⟩
noncomputable def bT(f:ax→R Bool):FB:=fun δ S=>R3.of (f (cM S δ)) S
theorem lV{e:Expr}{f:ax→R Bool}(h:QB X e f):Aq X cl e (bT f):=⟨h.1.imp fun σ H Q ⟨ρ,S,δ,v,S',E,hf,q⟩=>by
 obtain⟨h1,e3⟩:=R3.of_ok hf
 subst e3
 exact⟨[],[],cM _ δ,v,E.cM,h1,fun H' s=>q ρ H' (Pre.same s) (E.sw.same s)⟩⟩
noncomputable def bR(i:Nat):FX:=fun δ S=>match δ[i]? with | some (some v)=> .ok v S | _=> .no
theorem aO(i:Nat){x:Str}{pos:Pos}(hN:X.N[i]? =some x:=by rfl)(hv:BP X.env.scope x:=by first | exact Or.inl rfl | exact Or.inr (Or.inl rfl) | exact Or.inr (Or.inr rfl))(hd:(x==("__debug__":Str))=false:=by decide)
 (hcd:(x==("__classdict__":Str))=false:=by decide):PX X cl (.Name x pos) (bR i):=⟨(o7 hN hv hd hcd).imp fun σ H Q ⟨ρ,S,δ,v,S',E,hf,q⟩=>by
 unfold bR at hf
 split at hf
 ·rename_i d' e
  cases hf
  obtain⟨u,h1,h2⟩:=E.val i _ e
  exact⟨u,h1,q u ρ H (Pre.refl ρ H) E.sw h2⟩
 ·cases hf⟩
noncomputable def kG(f:ax→R (List D)):FX:=fun δ S=>(R3.of (f (down δ)) S).bind fun ds S=> .ok (.loc S.length) (S++[.lst ds])
theorem eW{e:Expr}{f:ax→R (List D)}(h:QN X e f):PX X cl e (kG f):=⟨h.1.imp fun σ H Q ⟨ρ,S,δ,v,S',E,hf,q⟩=>by
 obtain⟨ds,S1,h1,h2⟩:=R3.ao hf
 obtain⟨h3,e3⟩:=R3.of_ok h1
 cases h2
 subst e3
 refine⟨[],ρ.b,down δ,ds,E.down,h3,fun a xs H' s n e r=>?_⟩
 have r':aH X.K (ρ.push a).b H' ds xs:=r.bt fun b o e nb=>⟨e,fun hb=>nb (by
  rcases P3.mem_push hb with z | z
  ·exact List.mem_cons_of_mem _ z
  ·subst z;exact List.mem_cons_self)⟩
 obtain⟨w,p⟩:=E.sw.new (o:= .lst ds) s n ⟨xs,e,r'⟩
 exact q _ _ H' p w (by unfold bf;exact⟨a,by show(ρ.r++[a])[_]? =_;rw [←E.sw.len,List.getElem?_append_right (by omega),Nat.sub_self];rfl,rfl⟩)⟩
end
end L3
end
section
set_option maxRecDepth 100000
set_option maxHeartbeats 4000000
namespace L3
open PySem PySem.Spec PyProof.Rows L2
section
variable {X:Cx} {cl:Nat→Addr}
noncomputable def cq:FA:=fun _ S=> .ok [] S
noncomputable def ay(f:FX)(g:FA):FA:=fun δ S=>(f δ S).bind fun v S1=>(g δ S1).bind fun vs S2=> .ok (v ::vs) S2
theorem aM:CP X cl [] cq:=⟨gu.imp fun σ H Q ⟨ρ,S,δ,v,S',E,hf,q⟩=>by
 cases hf
 exact q [] ρ H (Pre.refl ρ H) E.sw aK.nil⟩
theorem ag{e:Expr}{es:List Expr}{f:FX}{g:FA}(h:PX X cl e f)(t:CP X cl es g)(hs:starEach (e ::es) X.env=(false,eval e X.env) ::starEach es X.env:=by rfl):CP X cl (e ::es) (ay f g):=
 ⟨(dJ h.1 t.1 hs).imp fun σ H Q ⟨ρ,S,δ,v,S',E,hf,q⟩=>by
   obtain⟨v1,S1,h1,h2⟩:=R3.ao hf
   obtain⟨vs,S2,h3,h4⟩:=R3.ao h2
   cases h4
   exact⟨ρ,S,δ,v1,S1,E,h1,fun u ρ1 H1 p1 w1 r1=>⟨ρ1,S1,δ,vs,_,E.to p1 w1,h3,fun us ρ2 H2 p2 w2 r2=>q _ ρ2 H2 (p1.trans p2) w2 (aK.cons (r1.pre p2) r2)⟩⟩⟩
noncomputable def km:List V3→Option (List D)
 | []=>some []
 | .d x ::r=>(km r).map (x ::·)
 | _ ::_=>none
theorem i7:∀{vs:List V3} {ds:List D},km vs=some ds→vs=ds.map .d
 | [],ds,h=>by cases h;rfl
 | .d x ::r,ds,h=>by
   cases e:km r with
   | none=>have h:(km r).map (x ::·)=some ds:=h;rw [e] at h;cases h
   | some es=>
     have h:(km r).map (x ::·)=some ds:=h
     rw[e] at h
     cases h
     rw[i7 e]
     rfl
 | .loc _ ::_,_,h=>by cases h
 | .lst _ ::_,_,h=>by cases h
 | .tup _ ::_,_,h=>by cases h
theorem qP:∀ds:List D,km (ds.map .d)=some ds
 | []=>rfl
 | d ::ds=>by show(km (ds.map .d)).map (d ::·)=_;rw [qP ds];rfl
noncomputable def lu(vs:List V3):V3:=match km vs with | some ds=> .d (.tup ds) | none=> .tup vs
noncomputable def jt(vs:List V3):V3:=match km vs with | some ds=> .d (.lst ds) | none=> .lst vs
noncomputable def wV(g:FA):FX:=fun δ S=>(g δ S).bind fun vs S=>R3.bV (decide (vs.length≤sizeLine)) (.ok (lu vs) S)
theorem qm{ρ:P3}{H:Hp}{p:Addr}{o:HO}(hp:H p=none):Pre ρ H ρ (upd H p o):=Pre.same (aP hp)
theorem Am{K:PySem.W.Frag}{ρ:P3}{H:Hp}{vs:List V3}{xs:List V}{a:Addr}(l:tq K ρ.b H a xs)(r:aK K ρ H vs xs):bf K ρ H (lu vs) (.ref a):=by
 unfold lu
 split
 ·rename_i ds e
  rw[i7 e] at r
  unfold bf Rep
  exact⟨a,xs,rfl,l,r.to⟩
 ·unfold bf
  exact⟨a,xs,rfl,l,r⟩
theorem sM{K:PySem.W.Frag}{ρ:P3}{H:Hp}{vs:List V3}{xs:List V}{a:Addr}(l:qZ K ρ.b H a xs)(r:aK K ρ H vs xs):bf K ρ H (jt vs) (.ref a):=by
 unfold jt
 split
 ·rename_i ds e
  rw[i7 e] at r
  unfold bf Rep
  exact⟨a,xs,rfl,l,r.to⟩
 ·unfold bf
  exact⟨a,xs,rfl,l,r⟩
theorem o8{es:List Expr}{g:FA}{x1 pos}(h:CP X cl es g):PX X cl (.Tuple es x1 pos) (wV g):=⟨(Bg h.1).imp fun σ H Q ⟨ρ,S,δ,v,S',E,hf,q⟩=>by
 obtain⟨vs,S1,h1,h2⟩:=R3.ao hf
 obtain⟨hl,h3⟩:=R3.bo h2
 cases h3
 refine⟨ρ,S,δ,vs,_,E,h1,fun us ρ1 H1 p1 w1 r1=>⟨by rw[←r1.length];exact of_decide_eq_true hl,fun p hp=>q _ ρ1 _ (p1.trans (qm hp)) (w1.same (aP hp)) ?_⟩⟩
 refine Am (.inl ⟨fun ha=>?_, .inl aT⟩) (r1.pre (qm hp))
 obtain⟨o,ho⟩:=w1.bs p ha
 rw[hp] at ho;cases ho⟩
noncomputable def GD(g:FA):FX:=fun δ S=>(g δ S).bind fun vs S=>R3.bV (decide (vs.length≤sizeLine)) (.ok (jt vs) S)
theorem Gr{es:List Expr}{g:FA}{pos}(h:CP X cl es g):PX X cl (.List es pos) (GD g):=⟨(Bl h.1).imp fun σ H Q ⟨ρ,S,δ,v,S',E,hf,q⟩=>by
 obtain⟨vs,S1,h1,h2⟩:=R3.ao hf
 obtain⟨hl,h3⟩:=R3.bo h2
 cases h3
 refine⟨ρ,S,δ,vs,_,E,h1,fun us ρ1 H1 p1 w1 r1=>⟨by rw[←r1.length];exact of_decide_eq_true hl,fun p hp=>q _ ρ1 _ (p1.trans (qm hp)) (w1.same (aP hp)) ?_⟩⟩
 refine sM (.inl ⟨fun ha=>?_, .inl aT⟩) (r1.pre (qm hp))
 obtain⟨o,ho⟩:=w1.bs p ha
 rw[hp] at ho;cases ho⟩
noncomputable def x2(g:D→D→R D)(fa fb:FX):FX:=fun δ S=>(fa δ S).bind fun a S1=>(fb δ S1).bind fun b S2=>match a,b with
 | .d x, .d y=>(R3.of (g x y) S2).bind fun d S=> .ok (.d d) S
 | _,_=> .no
theorem Hj{K:PySem.W.Frag}{g:D→D→R D}{fa fb:FX}{σ:L2.St}{H:Hp}{Q:VK}(h:tX K cl (x2 g fa fb) σ H Q) :
 HG (fun x y H Q=>∃B da db d,(∀a∈B,∃o,H a=some o)∧Rep K B H da x∧Rep K B H db y∧g da db= .ok d∧∀z H',a_ H H'→Rep K B H' d z→Q z H') (tX K cl fa) (tX K cl fb) σ H Q:=by
 obtain⟨ρ,S,δ,v,S',E,hf,q⟩:=h
 obtain⟨a,S1,h1,h2⟩:=R3.ao hf
 obtain⟨b,S2,h3,h4⟩:=R3.ao h2
 match a,b,h1,h3,h4 with
 | .d x, .d y,h1,h3,h4=>
   obtain⟨d,S3,h5,h6⟩:=R3.ao h4
   obtain⟨h7,e⟩:=R3.of_ok h5
   cases h6
   subst e
   refine⟨ρ,S,δ, .d x,S1,E,h1,fun u1 ρ1 H1 p1 w1 r1=>⟨ρ1,S1,δ, .d y,_,E.to p1 w1,h3,fun u2 ρ2 H2 p2 w2 r2=>?_⟩⟩
   have r1':=r1.pre p2
   unfold bf at r1' r2
   exact⟨ρ2.b,x,y,d,w2.bs,r1',r2,h7,fun z H' s r=>q z ρ2 H' (p1.trans (p2.trans (Pre.same s))) (w2.same s) (by unfold bf;exact r)⟩
 | .d x, .loc _,_,_,h4=>cases h4
 | .d x, .lst _,_,_,h4=>cases h4
 | .d x, .tup _,_,_,h4=>cases h4
 | .loc _,_,_,_,h4=>cases h4
 | .lst _,_,_,_,h4=>cases h4
 | .tup _,_,_,_,h4=>cases h4
theorem vA{op:Operator}{g:D→D→R D}{a b:Expr}{fa fb:FX}{pos:Pos}(ho:k_ X (binaryOp op) g)(ha:PX X cl a fa)(hb:PX X cl b fb):PX X cl (.BinOp a op b pos) (x2 g fa fb):=
 ⟨(yF ho.r ha.1 hb.1).imp fun σ H Q h=>Hj h⟩
theorem Bf{op:CmpOp}{g:D→D→R D}{a b:Expr}{fa fb:FX}{pos:Pos}(ho:k_ X (compareOp op) g)(ha:PX X cl a fa)(hb:PX X cl b fb)(hm:behindInMarks op b=false):PX X cl (.Compare a [op] [b] pos) (x2 g fa fb):=
 ⟨(yY ho.r ha.1 hb.1 hm).imp fun σ H Q h=>Hj h⟩
noncomputable def Iy(g:D→D→R D)(fa fb:FX):FB:=fun δ S=>(x2 g fa fb δ S).bind fun v S=>match v with | .d (.bl b)=> .ok b S | _=> .no
theorem uX{op:CmpOp}{g:D→D→R D}{a b:Expr}{fa fb:FX}{pos:Pos}(ho:k_ X (compareOp op) g)(ha:PX X cl a fa)(hb:PX X cl b fb)(hm:behindInMarks op b=false):Aq X cl (.Compare a [op] [b] pos) (Iy g fa fb):=
 ⟨(zt ho.r ha.1 hb.1 hm).imp fun σ H Q ⟨ρ,S,δ,b,S',E,hf,q⟩=>by
   obtain⟨v,S1,h1,h2⟩:=R3.ao hf
   have hv:v= .d (.bl b)∧S1=S':=by
    match v,h2 with
    | .d (.bl k),h2=>cases h2;exact⟨rfl,rfl⟩
    | .d .di,h2=>cases h2
    | .d (.int _),h2=>cases h2
    | .d (.str _),h2=>cases h2
    | .d (.lst _),h2=>cases h2
    | .d (.tup _),h2=>cases h2
    | .d (.dct _ _),h2=>cases h2
    | .loc _,h2=>cases h2
    | .lst _,h2=>cases h2
    | .tup _,h2=>cases h2
   obtain⟨rfl,rfl⟩:=hv
   exact Hj (g:=g) (Q:=fun x H'=>∃k,x= .bl k∧Q k H') ⟨ρ,S,δ,_,_,E,h1,fun u ρ' H' p w r=>⟨b,by unfold bf Rep at r;exact r,q ρ' H' p w⟩⟩⟩
inductive Ou where
 | nx (δ:DE) | rt (v:V3)
noncomputable abbrev FZ:=DE→aN→R3 Ou
noncomputable def C2(K:PySem.W.Frag)(cl:Nat→Addr)(ρ:P3)(H:Hp)(D:Ends)(S':aN):Ou→Prop
 | .nx δ'=>∀σ' ρ' H',Pre ρ H ρ' H'→fP K cl ρ' H' S' σ' δ'→D.nx σ' H'
 | .rt v=>∀u ρ' H',Pre ρ H ρ' H'→SW K cl ρ' H' S'→bf K ρ' H' v u→D.rt u H'
theorem C2.pre{K:PySem.W.Frag}{ρ ρ1:P3}{H H1:Hp}{D:Ends}{S':aN}{o:Ou}(q:C2 K cl ρ H D S' o)(p:Pre ρ H ρ1 H1):C2 K cl ρ1 H1 D S' o:=by
 cases o with
 | nx δ'=>exact fun σ' ρ' H' p' E'=>q σ' ρ' H' (p.trans p') E'
 | rt d=>exact fun v ρ' H' p' w r=>q v ρ' H' (p.trans p') w r
noncomputable def sX(K:PySem.W.Frag)(cl:Nat→Addr)(F:FZ):TS:=fun D σ H=>∃ρ S δ o S',fP K cl ρ H S σ δ∧F δ S= .ok o S'∧C2 K cl ρ H D S' o
structure PZ (X:Cx) (cl:Nat→Addr) (st:Stmt) (F:FZ):Prop where
 go:PS X st (sX X.K cl F)
structure As (X:Cx) (cl:Nat→Addr) (st:List Stmt) (F:FZ):Prop where
 go:u7 X st (sX X.K cl F)
noncomputable def gS:FZ:=fun δ S=> .ok (.nx δ) S
noncomputable def bb(F G:FZ):FZ:=fun δ S=>(F δ S).bind fun o S1=>match o with | .nx δ'=>G δ' S1 | .rt d=> .ok (.rt d) S1
theorem dM:As X cl [] gS:=⟨ua.imp fun D σ H ⟨ρ,S,δ,o,S',E,hf,q⟩=>by
 cases hf
 exact q σ ρ H (Pre.refl ρ H) E⟩
theorem av{st:Stmt}{rest:List Stmt}{F G:FZ}(h1:PZ X cl st F)(h2:As X cl rest G):As X cl (st ::rest) (bb F G):=⟨(rD h1.1 h2.1).imp fun D σ H ⟨ρ,S,δ,o,S',E,hf,q⟩=>by
 obtain⟨o1,S1,h1,h2⟩:=R3.ao hf
 refine⟨ρ,S,δ,o1,S1,E,h1,?_⟩
 cases o1 with
 | nx δ1=>
   intro σ1 ρ1 H1 p1 E1
   exact⟨ρ1,S1,δ1,o,S',E1,h2,q.pre p1⟩
 | rt d=>
   cases h2
   exact q⟩
theorem aI{st:Stmt}{F:FZ}(h1:PZ X cl st F):As X cl [st] F:=⟨uu h1.1⟩
noncomputable def bL(i:Nat)(f:FX):FZ:=fun δ S=>(f δ S).bind fun v S=>R3.bV (decide (i < δ.length)) (.ok (.nx (δ.set i (some v))) S)
theorem aS{i:Nat}{x:Str}{e:Expr}{f:FX}{pos pos':Pos}(hN:X.N.Nodup)(hi:X.N[i]? =some x)(hx:Loc X.env.scope x)(he:PX X cl e f)(hs:swapsWith e (some (.Name x pos')) pos.line X.env=pure false:=by rfl)(hf:X.fn x=true∨X.env.scope.names.lookup x=some .local:=by first | exact .inl rfl | exact .inr rfl | assumption) :
 PZ X cl (.Assign [.Name x pos'] e pos) (bL i f):=⟨(xJ hN hi hx he.1 hs hf).imp fun D σ H ⟨ρ,S,δ,o,S',E,hf,q⟩=>by
 obtain⟨v,S1,h1,h2⟩:=R3.ao hf
 obtain⟨hi,h3⟩:=R3.bo h2
 cases h3
 refine⟨ρ,S,δ,v,_,E,h1,fun u ρ1 H1 p1 w1 r1=>?_⟩
 exact q _ ρ1 H1 p1 ((E.to p1 w1).set (by rw[←E.len];exact of_decide_eq_true hi) r1)⟩
noncomputable def iq(f:FX):FZ:=fun δ S=>(f δ S).bind fun v S=> .ok (.rt v) S
theorem c0{e:Expr}{f:FX}{pos:Pos}(he:PX X cl e f):PZ X cl (.Return (some e) pos) (iq f):=⟨(Cd he.1).imp fun D σ H ⟨ρ,S,δ,o,S',E,hf,q⟩=>by
 obtain⟨v,S1,h1,h2⟩:=R3.ao hf
 cases h2
 exact⟨ρ,S,δ,v,_,E,h1,fun u ρ1 H1 p1 w1 r1=>q u ρ1 H1 p1 w1 r1⟩⟩
noncomputable def mX(c:FB)(F G:FZ):FZ:=fun δ S=>(c δ S).bind fun b S=>if b then F δ S else G δ S
theorem gH{c:Expr}{a b:List Stmt}{fc:FB}{F G:FZ}{pos:Pos}(hc:Aq X cl c fc)(ha:As X cl a F)(hb:As X cl b G):PZ X cl (.If c a b pos) (mX fc F G):=⟨(AN hc.1 ha.1 hb.1).imp fun D σ H ⟨ρ,S,δ,o,S',E,hf,q⟩=>by
 obtain⟨k,S1,h1,h2⟩:=R3.ao hf
 refine⟨ρ,S,δ,k,S1,E,h1,fun ρ1 H1 p1 w1=>?_⟩
 cases k with
 | true=>rw [if_pos rfl] at h2;exact Cn ⟨ρ1,S1,δ,o,S',E.to p1 w1,h2,q.pre p1⟩
 | false=>rw [if_neg (by decide)] at h2;exact BE ⟨ρ1,S1,δ,o,S',E.to p1 w1,h2,q.pre p1⟩⟩
noncomputable def Lf(f:FX):FZ:=fun δ S=>(f δ S).bind fun _ S=> .ok (.nx δ) S
noncomputable def yC(c:FB)(body:FZ):Nat→FZ
 | 0,_,_=> .no
 | n+1,δ,S=>(c δ S).bind fun b S=>if b then(body δ S).bind fun o S=>match o with | .nx δ2=>yC c body n δ2 S | .rt r=> .ok (.rt r) S else .ok (.nx δ) S
noncomputable def Kb(n:Nat)(c:FB)(body:FZ):FZ:=fun δ S=>yC c body n δ S
end
end L3
end
section
set_option maxRecDepth 100000
set_option maxHeartbeats 4000000
namespace L3
open PySem PySem.Spec PyProof.Rows L2
theorem aK.get{K:PySem.W.Frag}{ρ:P3}{H:Hp}:∀{ds:List V3} {xs:List V} {i:Nat} {d:V3},aK K ρ H ds xs→ds[i]? =some d→∃x,xs[i]? =some x∧bf K ρ H d x
 | [],_,_,_,_,e=>by simp at e
 | d ::ds,xs,0,d',h,e=>by
   obtain⟨x,r,rfl,h1,h2⟩:=h.cw
   simp at e;subst e
   exact⟨x,rfl,h1⟩
 | d ::ds,xs,i+1,d',h,e=>by
   obtain⟨x,r,rfl,h1,h2⟩:=h.cw
   obtain⟨y,e1,e2⟩:=aK.get (i:=i) h2 (by simpa using e)
   exact⟨y,by simpa using e1,e2⟩
noncomputable def HE(K:PySem.W.Frag)(ρ:P3)(H:Hp)(J:It)(vs:List V3):Prop:=∀ρ' H',PW ρ H ρ' H'→(∀a∈ρ'.b,∃o,H' a=some o)→(∀(i:Nat) (d:V3),vs[i]? =some d→J.go i H'∧∀x H'',J.yld i H' x H''→a_ H' H''∧bf K ρ' H'' d x)∧J.stop vs.length H'
theorem HE.of{K:PySem.W.Frag}{ρ:P3}{H:Hp}{J:It}{ds:List D}(h:AJ K ρ.b H J ds):HE K ρ H J (ds.map .d):=fun ρ' H' p bs=>by
 obtain⟨h1,h2⟩:=h ρ'.b H' p.bt
 refine⟨fun i v hv=>?_,by rw[List.length_map];exact h2⟩
 rw[List.getElem?_map] at hv
 cases e:ds[i]? with
 | none=>rw [e] at hv;cases hv
 | some d=>
   rw[e] at hv
   cases hv
   obtain⟨g1,g2⟩:=h1 i d e
   exact⟨g1,fun x H'' y=>let⟨s,r⟩:=g2 x H'' y bs;⟨s,by unfold bf;exact r⟩⟩
noncomputable def KZ(K:PySem.W.Frag)(cl:Nat→Addr)(f:FA):TI:=fun σ H R=>∃ρ S δ vs S',fP K cl ρ H S σ δ∧f δ S= .ok vs S'∧∀J ρ1 H1,Pre ρ H ρ1 H1→SW K cl ρ1 H1 S'→HE K ρ1 H1 J vs→R J H1
structure E6 (X:Cx) (cl:Nat→Addr) (tg e:Expr) (f:FA):Prop where
 go:PI X tg e (KZ X.K cl f)
section
variable {X:Cx} {cl:Nat→Addr}
noncomputable def iP(f:ax→R (List D)):FA:=fun δ S=>(R3.of (f (down δ)) S).bind fun ds S=> .ok (ds.map .d) S
theorem cT{tg e:Expr}{f:ax→R (List D)}(h:wZ X tg e f):E6 X cl tg e (iP f):=⟨h.1.imp fun σ H Q ⟨ρ,S,δ,vs,S',E,hf,q⟩=>by
 obtain⟨ds,S1,h1,h2⟩:=R3.ao hf
 obtain⟨h3,e3⟩:=R3.of_ok h1
 cases h2
 subst e3
 exact⟨[],ρ.b,down δ,ds,E.down,h3,fun J H1 s r=>q J ρ H1 (Pre.same s) (E.sw.same s) (HE.of r)⟩⟩
noncomputable def pK(f:FX):FA:=fun δ S=>(f δ S).bind fun v S=>match v with | .d (.int j)=>R3.bV (decide (-(2 ^ 62)≤j∧j < 2 ^ 62)) (.ok ((e_ 0 j.toNat).map .d) S) | _=> .no
theorem ku{tg a:Expr}{f:FX}{p pos:Pos}(h:PX X cl a f)(hg:Gl X "range")(hm:X.mg "range"=none)(hs:starEach [a] X.env=[(false,eval a X.env)]:=by rfl):E6 X cl tg (.Call (.Name "range" p) [a] [] pos) (pK f):=
 ⟨(s_ hg hm (dJ h.1 gu hs) hs).imp fun σ H RR ⟨ρ,S,δ,vs,S',E,hf,q⟩=>by
   obtain⟨v,S1,h1,h2⟩:=R3.ao hf
   match v,h1,h2 with
   | .d (.int j),h1,h2=>
     obtain⟨hb,h3⟩:=R3.bo h2
     cases h3
     have hb:=of_decide_eq_true hb
     refine⟨ρ,S,δ, .d (.int j),_,E,h1,fun u ρ1 H1 p1 w1 r1=>⟨j,?_,hb.1,hb.2,q _ ρ1 H1 p1 w1 (HE.of (BR 0 _))⟩⟩
     unfold bf Rep at r1
     rw[r1]
   | .d .di,_,h2=>cases h2
   | .d (.bl _),_,h2=>cases h2
   | .d (.str _),_,h2=>cases h2
   | .d (.lst _),_,h2=>cases h2
   | .d (.tup _),_,h2=>cases h2
   | .d (.dct _ _),_,h2=>cases h2
   | .loc _,_,h2=>cases h2
   | .lst _,_,h2=>cases h2
   | .tup _,_,h2=>cases h2⟩
noncomputable def yc(f:FX):FA:=fun δ S=>(f δ S).bind fun v S=>match v with | .d (.lst ds)=> .ok (ds.map .d) S | .lst vs=> .ok vs S | _=> .no
theorem qv{tg e:Expr}{f:FX}(h:PX X cl e f):E6 X cl tg e (yc f):=⟨by
 intro pins s σ H RR I ⟨ρ,S,δ,vs,S',E,hf,q⟩
 obtain⟨v,S1,h1,h2⟩:=R3.ao hf
 refine eg (h.1 pins s σ H (fun u H1=>∃ρ1,Pre ρ H ρ1 H1∧SW X.K cl ρ1 H1 S1∧bf X.K ρ1 H1 v u) I ⟨ρ,S,δ,v,S1,E,h1,fun u ρ1 H1 p1 w1 r1=>⟨ρ1,p1,w1,r1⟩⟩) fun u s1 ⟨x,H1,I1,r1,ρ1,p1,w1,rr⟩=>?_
 have key:S1=S'∧∃a xs,x= .ref a∧qZ X.K ρ1.b H1 a xs∧aK X.K ρ1 H1 vs xs:=by
  match v,h2,rr with
  | .d (.lst ds),h2,rr=>
    cases h2
    unfold bf Rep at rr
    obtain⟨a,xs,e,l,r⟩:=rr
    exact⟨rfl,a,xs,e,l,aK.of r⟩
  | .lst ws,h2,rr=>
    cases h2
    unfold bf at rr
    exact⟨rfl,rr⟩
  | .d .di,h2,_=>cases h2
  | .d (.bl _),h2,_=>cases h2
  | .d (.int _),h2,_=>cases h2
  | .d (.str _),h2,_=>cases h2
  | .d (.tup _),h2,_=>cases h2
  | .d (.dct _ _),h2,_=>cases h2
  | .loc _,h2,_=>cases h2
  | .tup _,h2,_=>cases h2
 obtain⟨rfl,a,xs,rfl,l,rr⟩:=key
 cases r1
 obtain⟨its,rv,p,hz⟩:=I1.list l.sq
 refine wpAny_pyIter_list p.isList ?_
 refine⟨s1.heap.objs.size,[s1.heap.objs.size],_,_,H1,rfl,I1.kept (t':=s1.toks) fun b o e=>Heap.get?_push_of_some _ e,sN a _,⟨_,Heap.get?_push_size _ rfl,rfl,rfl⟩,fun b hb=>?_,q _ ρ1 H1 p1 w1 fun ρ' H' pr bs=>?_⟩
 ·have e:b=s1.heap.objs.size:=by simpa using hb
  subst e
  exact I1.qI (Nat.le_refl _) (I1.hok.fresh (Nat.le_refl _))
 ·have l':qZ X.K ρ'.b H' a xs:=l.bt pr.bt
  have rr':=rr.pw pr
  refine⟨fun i d hd=>?_,⟨xs,l'.sq,by rw[rr.length];exact Nat.le_refl _⟩⟩
  obtain⟨x,hx,rx⟩:=rr'.get hd
  exact⟨⟨xs,x,l'.sq,hx⟩,fun y H'' ⟨e1,e2⟩=>by
   subst e1
   have:=e2 xs l'.sq
   rw[hx] at this
   cases this
   exact⟨a_.refl _,rx⟩⟩⟩
noncomputable abbrev FG:=V3→DE→Option DE
noncomputable abbrev Ez:=List V3→DE→Option DE
noncomputable def gX(K:PySem.W.Frag)(cl:Nat→Addr)(t:FG):TG:=fun v σ H Q=>∃ρ S δ x δ',fP K cl ρ H S σ δ∧bf K ρ H x v∧t x δ=some δ'∧∀σ' H',a_ H H'→fP K cl ρ H' S σ' δ'→Q σ' H'
noncomputable def LN(K:PySem.W.Frag)(cl:Nat→Addr)(t:Ez):BC:=fun v σ H Q=>∃ρ S δ x δ',fP K cl ρ H S σ δ∧aK K ρ H x v∧t x δ=some δ'∧∀σ' H',a_ H H'→fP K cl ρ H' S σ' δ'→Q σ' H'
structure Fb (X:Cx) (cl:Nat→Addr) (tg:Expr) (t:FG):Prop where
 go:PG X tg (gX X.K cl t)
structure D8 (X:Cx) (cl:Nat→Addr) (tg:List Expr) (t:Ez):Prop where
 go:Dh X tg (LN X.K cl t)
theorem fP.same{K:PySem.W.Frag}{ρ:P3}{H H':Hp}{S:aN}{σ:L2.St}{δ:DE}(E:fP K cl ρ H S σ δ)(s:a_ H H'):fP K cl ρ H' S σ δ:=E.to (Pre.same s) (E.sw.same s)
noncomputable def iR(i:Nat):FG:=fun d δ=>if i < δ.length then some (δ.set i (some d)) else none
theorem aV{i:Nat}{x:Str}{pos:Pos}(hN:X.N.Nodup)(hi:X.N[i]? =some x)(hx:Loc X.env.scope x)(hf:X.fn x=true∨X.env.scope.names.lookup x=some .local:=by first | exact .inl rfl | exact .inr rfl | assumption):Fb X cl (.Name x pos) (iR i):=
 ⟨(zd hN hi hx hf).imp fun v σ H Q ⟨ρ,S,δ,d,δ',E,r,ht,q⟩=>by
   unfold iR at ht
   split at ht
   ·rename_i hi
    cases ht
    exact q _ H (a_.refl H) (E.set (by rw[←E.len];exact hi) r)
   ·cases ht⟩
noncomputable def u0:Ez:=fun ds δ=>match ds with | []=>some δ | _=>none
noncomputable def oz(t:FG)(u:Ez):Ez:=fun ds δ=>match ds with | d ::r=>(t d δ).bind fun δ'=>u r δ' | []=>none
theorem fU:D8 X cl [] u0:=⟨yy.imp fun vs σ H Q ⟨ρ,S,δ,ds,δ',E,r,ht,q⟩=>by
 cases ds with
 | nil=>unfold aK at r;cases ht;exact⟨r,q σ H (a_.refl H) E⟩
 | cons=>cases ht⟩
theorem bQ{e:Expr}{es:List Expr}{t:FG}{u:Ez}(h1:Fb X cl e t)(h2:D8 X cl es u)(hs:(assignEach (e ::es) X.env).map (·.2)=assign e X.env ::(assignEach es X.env).map (·.2):=by rfl):D8 X cl (e ::es) (oz t u):=
 ⟨(wq h1.1 h2.1 hs).imp fun vs σ H Q ⟨ρ,S,δ,ds,δ',E,r,ht,q⟩=>by
   cases ds with
   | nil=>cases ht
   | cons d ds=>
     obtain⟨x,xs,rfl,r1,r2⟩:=r.cw
     have ht:(t d δ).bind (fun δ'=>u ds δ')=some δ':=ht
     cases e1:t d δ with
     | none=>rw [e1] at ht;cases ht
     | some δ1=>
       rw[e1] at ht
       exact⟨x,xs,rfl,ρ,S,δ,d,δ1,E,r1,e1,fun σ1 H1 s1 E1=>⟨ρ,S,δ1,ds,δ',E1,r2.pre (Pre.same s1),ht,fun σ2 H2 s2 E2=>q σ2 H2 (s1.trans s2) E2⟩⟩⟩
noncomputable def uA(n:Nat)(t:Ez):FG:=fun d δ=>match d with
 | .d (.tup ds)=>if ds.length=n then t (ds.map .d) δ else none
 | .tup vs=>if vs.length=n then t vs δ else none
 | _=>none
theorem ie{es:List Expr}{k:Nat}{t:Ez}{n:Nat}{pos:Pos}(hc:X.calm=true)(h:D8 X cl es t)(hn:(assignEach es X.env).length=n:=by rfl)(hst:(assignEach es X.env).findIdx? (·.1)=none:=by rfl):Fb X cl (.Tuple es k pos) (uA n t):=
 ⟨(BO hc h.1 hn hst).imp fun v σ H Q ⟨ρ,S,δ,d,δ',E,r,ht,q⟩=>by
   have key:∃vs a xs,v= .ref a∧tq X.K ρ.b H a xs∧aK X.K ρ H vs xs∧vs.length=n∧t vs δ=some δ':=by
    unfold uA at ht
    split at ht
    ·rename_i ds
     split at ht
     ·rename_i hl
      unfold bf Rep at r
      obtain⟨a,xs,e,l,r⟩:=r
      exact⟨ds.map .d,a,xs,e,l,aK.of r,by rw[List.length_map];exact hl,ht⟩
     ·cases ht
    ·rename_i vs
     split at ht
     ·rename_i hl
      unfold bf at r
      obtain⟨a,xs,e,l,r⟩:=r
      exact⟨vs,a,xs,e,l,r,hl,ht⟩
     ·cases ht
    ·cases ht
   obtain⟨vs,a,xs,rfl,l,r,hl,ht⟩:=key
   exact⟨a,xs,rfl,l.sq,by rw[←r.length];exact hl,ρ,S,δ,vs,δ',E,r,ht,q⟩⟩
noncomputable def EF(f:FX)(t:FG):FZ:=fun δ S=>(f δ S).bind fun d S=>match t d δ with | some δ'=> .ok (.nx δ') S | none=> .no
theorem BM{tg e:Expr}{f:FX}{t:FG}{pos:Pos}(he:PX X cl e f)(hg:Fb X cl tg t)(hs:swapsWithSole [tg] e pos.line X.env=pure false:=by rfl)(hw:swappedStores [tg] e X.env=pure none:=by rfl)
 (h1:(assignEach [tg] X.env).map (·.2)=[assign tg X.env]:=by rfl):PZ X cl (.Assign [tg] e pos) (EF f t):=⟨(yg he.1 hg.1 hs hw h1).imp fun D σ H ⟨ρ,S,δ,o,S',E,hf,q⟩=>by
 obtain⟨d,S1,h1,h2⟩:=R3.ao hf
 split at h2
 ·rename_i δ1 e1
  cases h2
  exact⟨ρ,S,δ,d,_,E,h1,fun v ρ1 H1 p1 w1 r1=>⟨ρ1,_,δ,d,δ1,E.to p1 w1,r1,e1,fun σ' H2 s2 E2=>q σ' ρ1 H2 (p1.trans (Pre.same s2)) E2⟩⟩
 ·cases h2⟩
noncomputable def kT(t:FG)(body:FZ):List V3→FZ
 | [],δ,S=> .ok (.nx δ) S
 | d ::ds,δ,S=>match t d δ with
   | none=> .no
   | some δ1=>(body δ1 S).bind fun o S=>match o with | .nx δ2=>kT t body ds δ2 S | .rt r=> .ok (.rt r) S
noncomputable def jR(it:FA)(t:FG)(body:FZ):FZ:=fun δ S=>(it δ S).bind fun vs S=>kT t body vs δ S
theorem eV{tg iter:Expr}{body:List Stmt}{it:FA}{t:FG}{F:FZ}{pos:Pos}(hp:PassesOwn (model X.prog X.w) X.A X.env X.xe)(hc:X.calm=true)(hi:E6 X cl tg iter it)(hg:Fb X cl tg t)(hb:As X cl body F)
 (hs:∀x,foldedSetIterable iter X.env x=pure x:=by intro _;rfl):PZ X cl (.For tg iter body [] pos) (jR it t F):=⟨(yn hp hc hi.1 hg.1 hb.1 hs).imp fun D σ H ⟨ρ,S,δ,o,S',E,hf,q⟩=>by
 obtain⟨ds,S0,h1,h2⟩:=R3.ao hf
 refine⟨ρ,S,δ,ds,S0,E,h1,fun J ρ1 H1 p1 w1 ir=>?_⟩
 refine⟨fun i m σ' H'=>m=ds.length - i∧i≤ds.length∧∃ρ' S1 δ',Pre ρ1 H1 ρ' H'∧fP X.K cl ρ' H' S1 σ' δ'∧kT t F (ds.drop i) δ' S1= .ok o S',⟨ds.length,rfl,Nat.zero_le _,ρ1,S0,δ,Pre.refl ρ1 H1,E.to p1 w1,by simpa using h2⟩,?_⟩
 rintro i m σ' H' ⟨rfl,hi,ρ',S1,δ',pv,E',hl⟩
 obtain⟨go,stop⟩:=ir ρ' H' pv.pw E'.sw.bs
 by_cases hlt:i < ds.length
 ·have hd:ds[i]? =some ds[i]:=List.getElem?_eq_getElem hlt
  have hdrop:ds.drop i=ds[i] ::ds.drop (i+1):=List.drop_eq_getElem_cons hlt
  rw[hdrop] at hl
  unfold kT at hl
  split at hl
  ·cases hl
  ·rename_i δ1 h3
   obtain⟨o1,S2,h5,h6⟩:=R3.ao hl
   obtain⟨g1,g2⟩:=go i _ hd
   refine .inr ⟨g1,fun σ2 H2=>∃ρ2 S2 δ2,Pre ρ1 H1 ρ2 H2∧fP X.K cl ρ2 H2 S2 σ2 δ2∧kT t F (ds.drop (i+1)) δ2 S2= .ok o S',fun σ2 H2 n=>⟨ds.length - (i+1),by omega,rfl,hlt,n⟩,fun x H'' y=>?_⟩
   obtain⟨ss,rr⟩:=g2 x H'' y
   refine⟨ρ',S1,δ',ds[i],δ1,E'.same ss,rr,h3,fun σ2 H2 s2 E2=>⟨ρ',S1,δ1,o1,S2,E2,h5,?_⟩⟩
   have pv2:Pre ρ1 H1 ρ' H2:=pv.trans (Pre.same (ss.trans s2))
   cases o1 with
   | nx δ2=>exact fun σ3 ρ3 H3 p3 E3=>⟨ρ3,S2,δ2,pv2.trans p3,E3,h6⟩
   | rt d=>
     cases h6
     exact fun v ρ3 H3 p3 w r=>q v ρ3 H3 (p1.trans (pv2.trans p3)) w r
 ·have e:i=ds.length:=by omega
  subst e
  rw[List.drop_length] at hl
  cases hl
  exact .inl ⟨stop,q σ' ρ' H' (p1.trans pv) E'⟩⟩
end
end L3
end
section
set_option maxRecDepth 100000
set_option maxHeartbeats 4000000
namespace L3
open PySem PySem.Spec PyProof.Rows L2
mutual
noncomputable def lF(n:Nat):V3→Bool
 | .d _=>true
 | .loc k=>decide (k < n)
 | .lst vs=>jg n vs
 | .tup vs=>jg n vs
noncomputable def jg(n:Nat):List V3→Bool
 | []=>true
 | v ::vs=>lF n v && jg n vs
end
noncomputable def mC(n:Nat):SO→Bool
 | .ins _ fs=>jg n (fs.map (·.2))
 | _=>true
theorem De{ρ:P3}{n:Nat}{b:Addr}(h:b∈(ρ.cut n).b):b∈ρ.b:=by
 rcases P3.d7.mp h with z | z
 ·exact P3.d7.mpr (.inl ⟨List.mem_of_mem_take z.1,z.2⟩)
 ·exact P3.d7.mpr (.inr z)
theorem jd{ρ:P3}{H:Hp}(n:Nat):dA ρ.b H (ρ.cut n).b H:=fun b o e nb=>⟨e,fun hb=>nb (De hb)⟩
mutual
theorem bf.cut{K:PySem.W.Frag}{ρ:P3}{H:Hp}{n:Nat}:∀{v:V3} {x:V},lF n v=true→bf K ρ H v x→bf K (ρ.cut n) H v x
 | .d y,x,_,h=>by unfold bf at h ⊢;exact h.bt (jd n)
 | .loc k,x,o,h=>by
   unfold bf at h ⊢
   unfold lF at o
   obtain⟨a,h1,h2⟩:=h
   exact⟨a,by show(ρ.r.take n)[k]? =_;rw [List.getElem?_take_of_lt (of_decide_eq_true o)];exact h1,h2⟩
 | .lst vs,x,o,h=>by
   unfold bf at h ⊢
   unfold lF at o
   obtain⟨a,xs,e,l,r⟩:=h
   exact⟨a,xs,e,l.bt (jd n),aK.cut o r⟩
 | .tup vs,x,o,h=>by
   unfold bf at h ⊢
   unfold lF at o
   obtain⟨a,xs,e,l,r⟩:=h
   exact⟨a,xs,e,tq.bt (jd n) l,aK.cut o r⟩
theorem aK.cut{K:PySem.W.Frag}{ρ:P3}{H:Hp}{n:Nat}:∀{vs:List V3} {xs:List V},jg n vs=true→aK K ρ H vs xs→aK K (ρ.cut n) H vs xs
 | [],_,_,h=>by unfold aK at h ⊢;exact h
 | v ::vs,xs,o,h=>by
   unfold jg at o
   obtain⟨o1,o2⟩:=Bool.and_eq_true_iff.mp o
   obtain⟨x,r,rfl,h1,h2⟩:=h.cw
   exact aK.cons (bf.cut o1 h1) (aK.cut o2 h2)
end
theorem SW.cut{K:PySem.W.Frag}{cl:Nat→Addr}{ρ:P3}{H:Hp}{S:aN}(w:SW K cl ρ H S){n:Nat}(ok:(S.take n).all (mC n)=true):SW K cl (ρ.cut n) H (S.take n):=
 ⟨by show(ρ.r.take n).length=_;rw [List.length_take,List.length_take,w.len],fun i j a hi hj=>by
   have hi:(ρ.r.take n)[i]? =some a:=hi
   have hj:(ρ.r.take n)[j]? =some a:=hj
   have gi:ρ.r[i]? =some a:=by
    rw[List.getElem?_take] at hi;split at hi
    ·exact hi
    ·cases hi
   have gj:ρ.r[j]? =some a:=by
    rw[List.getElem?_take] at hj;split at hj
    ·exact hj
    ·cases hj
   exact w.nd i j a gi gj,fun k a o hk ho=>by
   have hk:(ρ.r.take n)[k]? =some a:=hk
   have gk:ρ.r[k]? =some a:=by
    rw[List.getElem?_take] at hk;split at hk
    ·exact hk
    ·cases hk
   have go:S[k]? =some o:=by
    rw[List.getElem?_take] at ho;split at ho
    ·exact ho
    ·cases ho
   have r:=w.ob k a o gk go
   have oo:mC n o=true:=List.all_eq_true.mp ok o (List.mem_of_getElem? ho)
   cases o with
   | lst ds=>obtain⟨xs,e,q⟩:=r;exact⟨xs,e,q.bt (jd n)⟩
   | dct kvs=>obtain⟨ys,e,e2,q⟩:=r;exact⟨ys,e,e2,q.bt (jd n)⟩
   | ins c fs=>obtain⟨dx,ys,e,e2,q⟩:=r;exact⟨dx,ys,e,e2,q.cut oo⟩
   | iH=>exact r,fun b hb=>let⟨h1,h2⟩:=w.zb b hb;⟨h1,fun h=>h2 (List.mem_of_mem_take h)⟩,(fun k a hk ho=>by
   have hk:(ρ.r.take n)[k]? =some a:=hk
   rw[List.getElem?_take] at hk
   split at hk
   ·rename_i hlt
    rw[List.getElem?_take_of_lt hlt] at ho
    exact w.fz k a hk ho
   ·cases hk),w.ff,(fun k a hk ho=>by
   have hk:(ρ.r.take n)[k]? =some a:=hk
   rw[List.getElem?_take] at hk
   split at hk
   ·rename_i hlt
    rw[List.getElem?_take_of_lt hlt] at ho
    exact w.fi k a hk ho
   ·cases hk)⟩
theorem SW.FF{K:PySem.W.Frag}{cl:Nat→Addr}{ρ ρ':P3}{H H':Hp}{n:Nat}(hn:ρ.r.length≤n)(p:Pre ρ H ρ' H'):Pre ρ H (ρ'.cut n) H':=
 ⟨p.bt.trans (jd n),p.zz,p.zs,fun k a h=>by show(ρ'.r.take n)[k]? =_;rw [List.getElem?_take_of_lt (Nat.lt_of_lt_of_le (List.getElem?_eq_some_iff.mp h).1 hn)];exact p.ext k a h⟩
section
variable {X:Cx} {cl:Nat→Addr}
noncomputable def cJ(S:aN)(k:Nat):Option (List D):=match S[k]? with | some (.lst ds)=>some ds | _=>none
theorem dC{S:aN}{k:Nat}{ds:List D}(h:cJ S k=some ds):S[k]? =some (.lst ds):=by
 unfold cJ at h
 split at h
 ·rename_i e;cases h;exact e
 ·cases h
noncomputable def gI(δ:DE)(i:Nat):Option Nat:=match δ[i]? with | some (some (.loc k))=>some k | _=>none
theorem kQ{δ:DE}{i k:Nat}(h:gI δ i=some k):δ[i]? =some (some (.loc k)):=by
 unfold gI at h
 split at h
 ·rename_i e;cases h;exact e
 ·cases h
noncomputable def jP(i:Nat)(f:FX):FZ:=fun δ S=>match gI δ i with
 | none=> .no
 | some k=>match cJ S k with
   | none=> .no
   | some _=>(f δ S).bind fun v S1=>match v with
     | .d d=>(match cJ S1 k with | some ds=>R3.bV (decide (ds.length < sizeLine)) (.ok (.nx δ) (S1.set k (.lst (ds++[d])))) | none=> .no)
     | _=> .no
theorem f7{i:Nat}{x:Str}{e:Expr}{f:FX}{npos apos cpos pos:Pos}(hN:X.N[i]? =some x)(hv:BP X.env.scope x)(he:PX X cl e f)
 (hd:(x==("__debug__":Str))=false:=by decide) (hcd:(x==("__classdict__":Str))=false:=by decide)
 (hs:starEach [e] X.env=(false,eval e X.env) ::starEach [] X.env:=by rfl) (hline:(apos.endLine==cpos.line)=true:=by rfl)
 (hfew:((backTo cpos (starEach [e] X.env)).all (fun x=>!x.1) && (backToKw cpos (keywordEach [] X.env)).all (fun x=>x.1.isSome)
   && decide (([e]:List Expr).length+([]:List Keyword).length+(if([]:List Keyword).isEmpty then 0 else 1) < 30))=true:=by rfl)
 (hsw:swapsWith (.Call (.Attribute (.Name x npos) "append" apos) [e] [] cpos) none pos.line X.env=pure false:=by rfl)
 (hbase:attributeBase (.Name x npos) "append" X.env (eval (.Name x npos) X.env)=eval (.Name x npos) X.env:=by rfl) :
 PZ X cl (.Expr (.Call (.Attribute (.Name x npos) "append" apos) [e] [] cpos) pos) (jP i f):=by
 refine⟨(qh (zp (X:=X) PySem.F.plainAttrs_list PySem.F.slot_list_append PySem.F.type_list_append oF (o7 hN hv hd hcd) (dJ he.1 gu hs) hbase hfew hline hs) hsw).imp fun D σ H ⟨ρ,S,δ,o,S',E,hf,q⟩=>?_⟩
 unfold jP at hf
 split at hf
 ·cases hf
 ·rename_i k hk
  split at hf
  ·cases hf
  ·rename_i ds0 h0
   obtain⟨v,S1,h1,h2⟩:=R3.ao hf
   split at h2
   ·rename_i d
    split at h2
    ·rename_i ds h3
     obtain⟨hl,h4⟩:=R3.bo h2
     cases h4
     obtain⟨u,u1,u2⟩:=E.val i _ (kQ hk)
     unfold bf at u2
     obtain⟨a,a1,rfl⟩:=u2
     obtain⟨xs0,x0,_⟩:=E.sw.ob k a _ a1 (dC h0)
     refine⟨.ref a,u1, .inl ⟨rfl,xs0,mH.of x0⟩,⟨ρ,S,δ, .d d,S1,E,h1,fun y ρ1 H1 p1 w1 r1=>?_⟩⟩
     have b1:=p1.ext k a a1
     obtain⟨xs,x1,x2⟩:=w1.ob k a _ b1 (dC h3)
     refine⟨a,xs,y,rfl,rfl,x1,by rw[←x2.length];exact of_decide_eq_true hl,?_⟩
     unfold bf at r1
     obtain⟨w2,p2⟩:=w1.put (o:= .lst (ds++[d])) (u:= .lst (xs++[y])) b1 (w1.fz k a b1 (by rw[dC h3];intro h;cases h)) ⟨xs++[y],rfl,x2.append (aH.cons r1 aH.nil)⟩
     exact q σ ρ1 _ (p1.trans p2) (E.to (p1.trans p2) w2)
    ·cases h2
   ·cases h2
noncomputable def CW(fo fi fe:FX):FZ:=fun δ S=>(fe δ S).bind fun v S1=>(fo δ S1).bind fun o S2=>(fi δ S2).bind fun j S3=>match v,o,j with
 | .d d, .loc k, .d (.int n)=>(match cJ S3 k with
   | some ds=>(match sv ds.length n with | some m=> .ok (.nx δ) (S3.set k (.lst (ds.set m d))) | none=> .no)
   | none=> .no)
 | _,_,_=> .no
noncomputable def Bw(K:PySem.W.Frag)(cl:Nat→Addr)(n:Nat)(g:List V3→aN→R3 V3):Sp:=fun vs H Q _=>vs.length=n∧∃ρ S xs v S',SW K cl ρ H S∧aK K ρ H xs vs∧g xs S= .ok v S'∧∀u ρ' H',Pre ρ H ρ' H'→SW K cl ρ' H' S'→bf K ρ' H' v u→Q u H'
noncomputable def cb(g:List V3→aN→R3 V3)(fs:FA):FX:=fun δ S=>(fs δ S).bind g
noncomputable def aD(P:Program)(w:World)(K:PySem.W.Frag)(mg:Str→Option Value)(base:Heap)(cl:Nat→Addr)(k:Nat)(x:Str)(n:Nat)(g:List V3→aN→R3 V3):Prop:=
 ∃(f:Addr) (fd:FuncData) (ps:List Str),iY P w K mg base sC k f fd ps (Bw K cl n g)∧mg x=some (.ref f)∧PySem.W.keepIn K (.ref f)=true∧Binds K fd ps []
theorem bA{g:List V3→aN→R3 V3}{k j n:Nat}{x:Str}{p pos:Pos}{e:Expr}{es:List Expr}{fs:FA}(C:aD X.prog X.w X.K X.mg X.base cl k x n g)(hr:eS j X.A)(hkj:k≤j)(hg:Gl X x)(ha:CP X cl (e ::es) fs)
 (hn:∀δ S ds S',fs δ S= .ok ds S'→ds.length=n) (hdb:(x==("__debug__":Str))=false:=by decide) (he:starEach (e ::es) X.env=(false,eval e X.env) ::starEach es X.env:=by rfl) (hpl:(backTo pos (starEach es X.env)).any (·.1)=false:=by rfl) :
 PX X cl (.Call (.Name x p) (e ::es) [] pos) (cb g fs):=by
 obtain⟨f,fd,ps,F,hm,hk,hb⟩:=C
 refine⟨(uU F (hr.mono hkj) hg hm hk hb .nil we ha.1 hdb he hpl).imp fun σ H Q ⟨ρ,S,δ,v,S',E,hf,q⟩=>?_⟩
 obtain⟨vs,S1,h1,h2⟩:=R3.ao hf
 refine⟨ρ,S,δ,vs,S1,E,h1,fun us ρ1 H1 p1 w1 r1=>?_⟩
 show Bw X.K cl n g (us++[]) H1 Q E0
 rw[List.append_nil]
 exact⟨by rw[←r1.length];exact hn δ S vs S1 h1,ρ1,S1,vs,v,S',w1,r1,h2,fun z ρ2 H2 p2 w2 r2=>q z ρ2 H2 (p1.trans p2) w2 r2⟩
end
noncomputable def bS(N:List Str)(vs:List V3):DE:=vs.map some++List.replicate (N.length - vs.length) none
theorem Ax{K:PySem.W.Frag}{cl:Nat→Addr}{ρ:P3}{H:Hp}{S:aN}{N:List Str}{ds:List V3}{vs:List V}(w:SW K cl ρ H S)(r:aK K ρ H ds vs):fP K cl ρ H S (L2.start N vs) (bS N ds) where
 len:=by unfold L2.start bS;simp [r.length]
 sw:=w
 val:=fun i d e=>by
  unfold bS at e
  unfold L2.start
  by_cases hi:i < ds.length
  ·rw[List.getElem?_append_left (by simpa using hi),List.getElem?_map] at e
   cases q:ds[i]? with
   | none=>rw [q] at e;cases e
   | some d'=>
     rw[q] at e
     cases e
     obtain⟨x,h1,h2⟩:=r.get q
     exact⟨x,by rw[List.getElem?_append_left (by rw[List.length_map,←r.length];exact hi),List.getElem?_map,h1];rfl,h2⟩
  ·rw[List.getElem?_append_right (by simpa using hi),List.getElem?_replicate] at e
   split at e <;> cases e
noncomputable def mr(N:List Str)(F:FZ):List V3→aN→R3 V3:=fun vs S=>(F (bS N vs) S).bind fun o S'=>match o with | .rt v=> .ok v S' | .nx _=> .ok (.d .di) S'
noncomputable def nE(N:List Str)(F:FZ):List V3→aN→R3 V3:=fun vs S=>(mr N F vs S).bind fun v S'=>match res S' v with
 | some d=>R3.bV ((S'.take S.length).all (mC S.length) && gQ S.length v) (.ok (.d d) (S'.take S.length))
 | none=> .no
theorem DD{P:Program}{w:World}{K:PySem.W.Frag}{mg:Str→Option Value}{base:Heap}{cl:Nat→Addr}{x qual:Str}{st:Stmt}{f:Addr}{fd:FuncData}{N ps:List Str}{k:Nat}{F:FZ}(Fn:y6 K x qual st f fd)(S:ba N ps (af st))
 (hbody:∀(cdv:Value) (A:Around) (outer:List Env) (s:Shared) (H:Hp) (E:XK),eS k (A.deeper (envOfC qual (af st) s.heap.objs.size f cdv))→
   As (qz sC P w K mg base N qual (af st) f cdv A outer s H E).En cl (aq st) F):iY P w K mg base sC (k+1) f fd ps (Bw K cl ps.length (mr N F)):=by
 refine Fn.ok S (fun vs H Q E h=>h.1) (fun cdv A outer s H vs Q E hr h=>⟨_,(hbody cdv A outer s H E hr).1,?_⟩)
 obtain⟨_,ρ,S,ds,v,S',w,r,hg,q⟩:=h
 obtain⟨o,S1,h1,h2⟩:=R3.ao hg
 refine⟨ρ,S,bS N ds,o,S1,Ax w r,h1,?_⟩
 cases o with
 | nx δ'=>
   cases h2
   exact fun σ' ρ' H' p' E'=>q _ ρ' H' p' E'.sw (by unfold bf Rep;rfl)
 | rt d'=>
   cases h2
   exact fun u ρ' H' p' w' r'=>q u ρ' H' p' w' r'
theorem xo{K:PySem.W.Frag}{cl:Nat→Addr}{N:List Str}{F:FZ}{n:Nat}{vs:List V}{H:Hp}{Q:VK}{E:XK}(h:Bw K cl n (nE N F) vs H Q E):Bw K cl n (mr N F) vs H Q E:=by
 obtain⟨hl,ρ,S,xs,v,S',w,r,hg,q⟩:=h
 obtain⟨v1,S1,h1,h2⟩:=R3.ao hg
 refine⟨hl,ρ,S,xs,v1,S1,w,r,h1,fun u ρ1 H1 p1 w1 r1=>?_⟩
 have pc:Pre ρ H (ρ1.cut S.length) H1:=SW.FF (K:=K) (cl:=cl) (by rw[w.len];exact Nat.le_refl _) p1
 split at h2
 ·rename_i d e
  obtain⟨ok,h3⟩:=R3.bo h2
  obtain⟨ok,hk⟩:=Bool.and_eq_true_iff.mp ok
  cases h3
  refine q u _ H1 pc (w1.cut ok) ?_
  unfold bf
  refine r1.resB w1 (jd _) (fun k a hk a1 ha=>?_) hk e
  rcases P3.d7.mp ha with⟨z,_⟩ | z
  ·obtain⟨j,hj⟩:=List.getElem?_of_mem z
   have hj:(ρ1.r.take S.length)[j]? =some a:=hj
   rw[List.getElem?_take] at hj
   split at hj
   ·rename_i hjl
    have:=w1.nd j k a hj a1
    omega
   ·cases hj
  ·exact(w1.zb a z).2 (List.mem_of_getElem? a1)
 ·cases h2
end L3
end
section
set_option maxRecDepth 100000
set_option maxHeartbeats 4000000
namespace L3
open PySem PySem.Spec PyProof.Rows L2
theorem aH.setAt{K:PySem.W.Frag}{ρ:P3}{H:Hp}:∀{ds:List D} {xs:List V} {m:Nat} {d:D} {v:V},aH K ρ.b H ds xs→Rep K ρ.b H d v→aH K ρ.b H (ds.set m d) (xs.set m v)
 | [],_,_,_,_,h,_=>by unfold aH at h;subst h;exact aH.nil
 | e ::ds,xs,0,d,v,h,r=>by
   obtain⟨x,r',rfl,h1,h2⟩:=h.cw
   exact aH.cons r h2
 | e ::ds,xs,m+1,d,v,h,r=>by
   obtain⟨x,r',rfl,h1,h2⟩:=h.cw
   exact aH.cons h1 (aH.setAt h2 r)
section
variable {X:Cx} {cl:Nat→Addr}
theorem A5{o i e:Expr}{fo fi fe:FX}{spos pos:Pos}(he:PX X cl e fe)
 (hg:PG X (.Subscript o i spos) (Ik (tX X.K cl fo) (tX X.K cl fi) Fh))
 (hs:swapsWithSole [.Subscript o i spos] e pos.line X.env=pure false:=by rfl) (hw:swappedStores [.Subscript o i spos] e X.env=pure none:=by rfl)
 (h1:(assignEach [.Subscript o i spos] X.env).map (·.2)=[assign (.Subscript o i spos) X.env]:=by rfl):PZ X cl (.Assign [.Subscript o i spos] e pos) (CW fo fi fe):=⟨(yg he.1 hg hs hw h1).imp fun D σ H ⟨ρ,S,δ,ou,S',E,hf,q⟩=>by
 obtain⟨v,S1,h1,h2⟩:=R3.ao hf
 obtain⟨vo,S2,h3,h4⟩:=R3.ao h2
 obtain⟨vi,S3,h5,h6⟩:=R3.ao h4
 split at h6
 ·rename_i d k n
  split at h6
  ·rename_i ds hds
   split at h6
   ·rename_i m hm
    cases h6
    refine⟨ρ,S,δ, .d d,S1,E,h1,fun u ρ1 H1 p1 w1 r1=>⟨ρ1,S1,δ, .loc k,S2,E.to p1 w1,h3,fun u2 ρ2 H2 p2 w2 r2=>⟨ρ2,S2,δ, .d (.int n),S3,(E.to p1 w1).to p2 w2,h5,fun u3 ρ3 H3 p3 w3 r3=>?_⟩⟩⟩
    unfold bf at r2
    obtain⟨a,a1,rfl⟩:=r2
    have a3:=p3.ext k a a1
    obtain⟨xs,x1,x2⟩:=w3.ob k a _ a3 (dC hds)
    unfold bf Rep at r3
    have r1':=r1.pre (p2.trans p3)
    unfold bf at r1'
    obtain⟨w4,p4⟩:=w3.put (o:= .lst (ds.set m d)) (u:= .lst (xs.set m u)) a3 (w3.fz k a a3 (by rw[dC hds];intro h;cases h)) ⟨xs.set m u,rfl,aH.setAt x2 r1'⟩
    exact⟨a,xs,n,m,rfl,r3,x1,by rw[←x2.length];exact hm,q σ ρ3 _ (((p1.trans p2).trans p3).trans p4) (E.to (((p1.trans p2).trans p3).trans p4) w4)⟩
   ·cases h6
  ·cases h6
 ·cases h6⟩
noncomputable def kX(δ:DE)(i:Nat):Option V3:=match δ[i]? with | some (some v)=>some v | _=>none
noncomputable def f9(own:List Str)(kp:List Nat)(δ:DE):DE:=List.replicate own.length none++kp.map (kX δ)
theorem Ew{K:PySem.W.Frag}{ρ ρ':P3}{H H':Hp}{S S':aN}{σ:L2.St}{δ:DE}{own:List Str}{kp:List Nat}(E:fP K cl ρ H S σ δ)(p:PW ρ H ρ' H')(w:SW K cl ρ' H' S'):fP K cl ρ' H' S' (dE own kp σ) (f9 own kp δ) where
 len:=by unfold dE f9;simp
 sw:=w
 val:=fun i d e=>by
  unfold f9 at e
  unfold dE
  by_cases hi:i < own.length
  ·rw[List.getElem?_append_left (by simpa using hi),List.getElem?_replicate] at e
   split at e <;> cases e
  ·rw[List.getElem?_append_right (by simpa using hi),List.length_replicate,List.getElem?_map] at e ⊢
   cases q:kp[i - own.length]? with
   | none=>rw [q] at e;cases e
   | some j=>
     rw[q] at e
     have e:kX δ j=some d:=Option.some.inj e
     unfold kX at e
     split at e
     ·rename_i d' ed
      cases e
      obtain⟨v,h1,h2⟩:=E.val j d ed
      exact⟨v,by simp [h1],h2.pw p⟩
     ·cases e
noncomputable def lR(t:FG)(c:FB)(f:FX)(δ:DE):List V3→aN→R3 (List V3)
 | [],S=> .ok [] S
 | v ::vs,S=>match t v δ with
   | none=> .no
   | some δ1=>(c δ1 S).bind fun b S1=>if b then(f δ1 S1).bind fun y S2=>(lR t c f δ vs S2).bind fun ys S3=> .ok (y ::ys) S3 else lR t c f δ vs S1
noncomputable def jm(it:FA)(t:FG)(c:FB)(f:FX)(own:List Str)(kp:List Nat):FX:=fun δ S=>(it δ S).bind fun vs S1=>R3.bV (decide (vs.length≤sizeLine)) ((lR t c f (f9 own kp δ) vs S1).bind fun ys S2=> .ok (jt ys) S2)
theorem aK.append{K:PySem.W.Frag}{ρ:P3}{H:Hp}:∀{ds es:List V3} {xs ys:List V},aK K ρ H ds xs→aK K ρ H es ys→aK K ρ H (ds++es) (xs++ys)
 | [],_,_,_,h,t=>by unfold aK at h;subst h;exact t
 | d ::ds,es,xs,ys,h,t=>by
   obtain⟨x,r,rfl,h1,h2⟩:=h.cw
   exact aK.cons h1 (aK.append h2 t)
theorem zw{K:PySem.W.Frag}{it:FA}{t:FG}{c:FB}{f:FX}{own:List Str}{kp:List Nat}{σ:L2.St}{H:Hp}{Q:VK}(h:tX K cl (jm it t c f own kp) σ H Q) :
 yB (KZ K cl it) (gX K cl t) (Hi K cl c) (tX K cl f) own kp σ H Q:=by
 obtain⟨ρ,S,δ,v,SF,E,hf,q⟩:=h
 obtain⟨es,S1,h1,h2⟩:=R3.ao hf
 obtain⟨hl,h3⟩:=R3.bo h2
 have hl:=of_decide_eq_true hl
 obtain⟨vs,S2,h4,h5⟩:=R3.ao h3
 cases h5
 refine⟨ρ,S,δ,es,S1,E,h1,fun J ρ1 H1 p1 w1 ir Dd hD=>?_⟩
 have nDz:Dd ∉ ρ1.b:=fun hb=>by obtain⟨o,ho⟩:=w1.bs Dd hb;rw [hD] at ho;cases ho
 have nDr:Dd ∉ ρ1.r:=fun hb=>by obtain⟨o,ho⟩:=w1.rs Dd hb;rw [hD] at ho;cases ho
 have toZ:∀{r' f':List Addr} {H':Hp},Pre ρ1 H1 ⟨r',ρ1.z,f'⟩ H'→PW ρ1 H1 ⟨r',Dd ::ρ1.z,f'⟩ H':=fun {r' f' H'} p=>⟨fun b o e nb=>⟨(p.bt b o e nb).1,fun hb=>by
  rcases P3.d7.mp hb with z | z
  ·exact(p.bt b o e nb).2 (P3.d7.mpr (.inl z))
  ·rcases List.mem_cons.mp z with y | y
   ·exact cn e hD y
   ·exact(p.bt b o e nb).2 (P3.d7.mpr (.inr y))⟩,p.ext⟩
 have w0:SW K cl ⟨ρ1.r,Dd ::ρ1.z,ρ1.f⟩ (upd H1 Dd (.lst [])) S1:=by
  have s0:a_ H1 (upd H1 Dd (.lst [])):=aP hD
  have ws:=w1.same s0
  refine⟨ws.len,ws.nd,fun k a o hk ho=>?_,fun b hb=>?_,ws.fz,ws.ff,ws.fi⟩
  ·have r:=w1.ob k a o hk ho
   obtain⟨u,hu⟩:=r.some
   rw[s0 a u hu,←hu]
   exact r.pw (toZ (Pre.same s0))
  ·rcases List.mem_cons.mp hb with y | y
   ·subst y;exact⟨⟨_,aT⟩,nDr⟩
   ·exact ws.zb b y
 refine⟨fun i m ys H'=>m=es.length - i∧i≤es.length∧ys.length≤i∧H' Dd=some (.lst ys)∧∃r' f' S' done rest,Pre ρ1 H1 ⟨r',ρ1.z,f'⟩ H'∧SW K cl ⟨r',Dd ::ρ1.z,f'⟩ H' S'∧vs=done++rest∧aK K ⟨r',Dd ::ρ1.z,f'⟩ H' done ys∧lR t c f (f9 own kp δ) (es.drop i) S'= .ok rest SF,
  ⟨es.length,rfl,Nat.zero_le _,Nat.le_refl _,aT,ρ1.r,ρ1.f,S1,[],vs,Pre.same (aP hD),w0,rfl,aK.nil,by simpa using h4⟩,?_⟩
 rintro i m ys H' ⟨rfl,hi,hy,hDl,r',f',S',done,rest,pv,w',rfl,rd,hc⟩
 obtain⟨go,stop⟩:=ir ⟨r',Dd ::ρ1.z,f'⟩ H' (toZ pv) w'.bs
 have unZ:∀{ρ4:P3} {H4:Hp},Pre ⟨r',Dd ::ρ1.z,f'⟩ H' ρ4 H4→Pre ρ1 H1 ⟨ρ4.r,ρ1.z,ρ4.f⟩ H4:=fun {ρ4 H4} p4=>⟨fun b o e nb=>by
  obtain⟨e1,n1⟩:=(toZ pv).bt b o e nb
  obtain⟨e2',n2⟩:=p4.bt b o e1 n1
  refine⟨e2',fun hb=>n2 ?_⟩
  rcases P3.d7.mp hb with z | z
  ·exact P3.d7.mpr (.inl z)
  ·exact P3.d7.mpr (.inr (by rw[p4.zz];exact List.mem_cons_of_mem _ z)),rfl,fun b o hb h=>p4.zs b o (List.mem_cons_of_mem _ hb) (pv.zs b o hb h),fun k a h=>p4.ext k a (pv.ext k a h)⟩
 by_cases hlt:i < es.length
 ·have hd:es[i]? =some es[i]:=List.getElem?_eq_getElem hlt
  have hdrop:es.drop i=es[i] ::es.drop (i+1):=List.drop_eq_getElem_cons hlt
  rw[hdrop] at hc
  unfold lR at hc
  split at hc
  ·cases hc
  ·rename_i δ1 h6
   obtain⟨b,T1,h7,h8⟩:=R3.ao hc
   obtain⟨g1,g2⟩:=go i _ hd
   refine .inr ⟨g1,fun x H2 y=>?_⟩
   obtain⟨sy,ry⟩:=g2 x H2 y
   have Ec:fP K cl ⟨r',Dd ::ρ1.z,f'⟩ H2 S' (dE own kp σ) (f9 own kp δ):=Ew E (p1.pw.trans ((toZ pv).trans (Pre.same sy).pw)) (w'.same sy)
   refine⟨⟨r',Dd ::ρ1.z,f'⟩,S',f9 own kp δ,es[i],δ1,Ec,ry,h6,fun σ3 H3 s3 E3=>⟨⟨r',Dd ::ρ1.z,f'⟩,S',δ1,b,T1,E3,h7,fun ρ4 H4 p4 w4=>?_⟩⟩
   have pv4:Pre ⟨r',Dd ::ρ1.z,f'⟩ H' ρ4 H4:=(Pre.same (sy.trans s3)).trans p4
   cases b with
   | true=>
     rw[if_pos rfl] at h8
     refine Cn ?_
     obtain⟨yv,T2,h9,h10⟩:=R3.ao h8
     obtain⟨rs,T3,h11,h12⟩:=R3.ao h10
     cases h12
     refine⟨ρ4,T1,δ1,yv,T2,E3.to p4 w4,h9,fun v5 ρ5 H5 p5 w5 r5=>?_⟩
     have pv5:Pre ⟨r',Dd ::ρ1.z,f'⟩ H' ρ5 H5:=pv4.trans p5
     have hD5:H5 Dd=some (.lst ys):=pv5.zs Dd _ List.mem_cons_self hDl
     have u5:=unZ pv5
     obtain⟨r5',z5,f5⟩:=ρ5
     have ez:z5=Dd ::ρ1.z:=pv5.zz
     subst ez
     have nr:Dd ∉ r5':=(w5.zb Dd List.mem_cons_self).2
     have pw:PW ⟨r5',Dd ::ρ1.z,f5⟩ H5 ⟨r5',Dd ::ρ1.z,f5⟩ (upd H5 Dd (.lst (ys++[v5]))):=⟨fun b o e nb=>⟨by rw[bq (fun(z:b=Dd)=>nb (by rw[z];exact P3.d7.mpr (.inr List.mem_cons_self)))];exact e,nb⟩,fun _ _ h=>h⟩
     refine⟨hD5,by omega,es.length - (i+1),by omega,rfl,hlt,by rw[List.length_append,List.length_singleton];omega,aT,r5',f5,T2,done++[yv],rs,?_,?_,by simp,aK.append ((rd.pre pv5).pw pw) (aK.cons (r5.pw pw) aK.nil),h11⟩
     ·refine⟨fun b o e nb=>⟨by rw[bq (cn e hD)];exact(u5.bt b o e nb).1,(u5.bt b o e nb).2⟩,rfl,fun b o hb h=>?_,u5.ext⟩
      rw[bq (cn h hD)]
      exact u5.zs b o hb h
     ·refine⟨w5.len,w5.nd,fun k a o hk ho=>?_,fun b hb=>?_,w5.fz,fun b hb=>?_,w5.fi⟩
      ·have ne:a≠Dd:=fun z=>nr (by rw[←z];exact List.mem_of_getElem? hk)
       rw[bq ne]
       exact(w5.ob k a o hk ho).pw pw
      ·obtain⟨⟨o,ho⟩,n⟩:=w5.zb b hb
       refine⟨?_,n⟩
       by_cases z:b=Dd
       ·subst z;exact⟨_,aT⟩
       ·rw[bq z];exact⟨o,ho⟩
      ·obtain⟨o,ho⟩:=w5.ff b hb
       by_cases z:b=Dd
       ·subst z;exact⟨_,aT⟩
       ·rw[bq z];exact⟨o,ho⟩
   | false=>
     rw[if_neg (by decide)] at h8
     refine BE ?_
     have hD4:H4 Dd=some (.lst ys):=pv4.zs Dd _ List.mem_cons_self hDl
     have u4:=unZ pv4
     obtain⟨r4',z4,f4⟩:=ρ4
     have ez:z4=Dd ::ρ1.z:=pv4.zz
     subst ez
     exact⟨es.length - (i+1),by omega,rfl,hlt,by omega,hD4,r4',f4,T1,done,rest,u4,w4,rfl,rd.pre pv4,h8⟩
 ·have e:i=es.length:=by omega
  subst e
  rw[List.drop_length] at hc
  cases hc
  rw[List.append_nil] at q
  refine .inl ⟨stop,?_⟩
  have back:PW ⟨r',Dd ::ρ1.z,f'⟩ H' ⟨r',ρ1.z,f'⟩ H':=⟨fun b o e nb=>⟨e,fun hb=>nb (by
   rcases P3.d7.mp hb with z | z
   ·exact P3.d7.mpr (.inl z)
   ·exact P3.d7.mpr (.inr (List.mem_cons_of_mem _ z)))⟩,fun _ _ h=>h⟩
  have wB:SW K cl ⟨r',ρ1.z,f'⟩ H' _:=⟨w'.len,w'.nd,fun k a o hk ho=>(w'.ob k a o hk ho).pw back,fun b hb=>w'.zb b (List.mem_cons_of_mem _ hb),w'.fz,w'.ff,w'.fi⟩
  refine q _ ⟨r',ρ1.z,f'⟩ H' (p1.trans pv) wB (sM (.inl ⟨fun hb=>?_, .inl hDl⟩) (rd.pw back))
  rcases P3.d7.mp hb with z | z
  ·exact(w'.zb Dd List.mem_cons_self).2 z.1
  ·exact nDz (P3.d7.mpr (.inr z))
end
end L3
end
section
set_option maxRecDepth 100000
set_option maxHeartbeats 4000000
namespace L3
open PySem PySem.Spec PyProof.Rows L2
section
variable {X:Cx} {cl:Nat→Addr}
theorem uT{scope:Scope}{own:List Str}{kp:List Nat}{kn:List Str}{tg iter elt:Expr}{ifs:List Expr}{it:FA}{t:FG}{c:FB}{f:FX}{pos:Pos}(hc:X.calm=true)(C:b9 X scope own kp kn)(hi:E6 X cl tg iter it)
 (hg:∀fp s H,Fb (bJ X scope (own++kn) fp s H) cl tg t) (hif:∀fp s H,oE (bJ X scope (own++kn) fp s H) ifs (Hi X.K cl c)) (he:∀fp s H,PX (bJ X scope (own++kn) fp s H) cl elt f)
 (hs:∀x,foldedSetIterable iter X.env x=pure x:=by intro _;rfl):PX X cl (.ListComp elt [⟨tg,iter,ifs,0⟩] scope pos) (jm it t c f own kp):=
 ⟨(zm hc C hi.1 (fun fp s H=>(hg fp s H).1) hif (fun fp s H=>(he fp s H).1) hs).imp fun σ H Q h=>zw h⟩
noncomputable def sH:FB:=fun _ S=> .ok true S
theorem i4:oE X [] (Hi X.K cl sH):=fun pins s σ H Q I ⟨ρ,S,δ,b,S',E,hf,q⟩=>vF pins s σ H Q I (by cases hf;exact q ρ H (Pre.refl ρ H) E.sw)
theorem Bh{e:Expr}{c:FB}(h:Aq X cl e c):oE X [e] (Hi X.K cl c):=wK h.1
theorem A8{K:PySem.W.Frag}{i:Nat}{f:FX}{D:Ends}{σ:L2.St}{H:Hp}(h:sX K cl (bL i f) D σ H):z8 (tX K cl f) (rT i) D σ H:=by
 obtain⟨ρ,S,δ,o,S',E,hf,q⟩:=h
 obtain⟨v,S1,h1,h2⟩:=R3.ao hf
 obtain⟨hi,h3⟩:=R3.bo h2
 cases h3
 refine⟨ρ,S,δ,v,_,E,h1,fun u ρ1 H1 p1 w1 r1=>?_⟩
 exact q _ ρ1 H1 p1 ((E.to p1 w1).set (by rw[←E.len];exact of_decide_eq_true hi) r1)
theorem kP{i:Nat}{x:Str}{pos' spos:Pos}{scope:Scope}{own:List Str}{kp:List Nat}{kn:List Str}{tg iter elt:Expr}{ifs:List Expr}{it:FA}{t:FG}{c:FB}{f:FX}{pos:Pos}(hc:X.calm=true)
 (hN:X.N.Nodup) (hx:X.N[i]? =some x) (hxl:X.env.scope.names.lookup x=some .local) (C:b9 X scope own kp kn) (hi:E6 X cl tg iter it)
 (hg:∀fp s H,Fb (bJ X scope (own++kn) fp s H) cl tg t) (hif:∀fp s H,oE (bJ X scope (own++kn) fp s H) ifs (Hi X.K cl c)) (he:∀fp s H,PX (bJ X scope (own++kn) fp s H) cl elt f)
 (hsw:swapsWith (.ListComp elt [⟨tg,iter,ifs,0⟩] scope pos) (some (.Name x pos')) spos.line X.env=pure true:=by rfl)
 (hs:∀x,foldedSetIterable iter X.env x=pure x:=by intro _;rfl):PZ X cl (.Assign [.Name x pos'] (.ListComp elt [⟨tg,iter,ifs,0⟩] scope pos) spos) (bL i (jm it t c f own kp)):=
 ⟨(qL hc hN hx hxl C hi.1 (fun fp s H=>(hg fp s H).1) hif (fun fp s H=>(he fp s H).1) hsw hs).imp fun D σ H h=>zw (A8 h)⟩
noncomputable def Mf(g:FA):FX:=fun δ S=>(g δ S).bind fun vs S1=>match km vs with
 | some ds=>R3.bV (decide (ds.length≤sizeLine)) (.ok (.loc S1.length) (S1++[.lst ds]))
 | none=> .no
end
end L3
end
section
set_option maxRecDepth 100000
set_option maxHeartbeats 4000000
namespace L3
open PySem PySem.Spec PyProof.Rows L2
section
variable {X:Cx} {cl:Nat→Addr}
noncomputable def lB(g:List D→R D)(fs:FA):FX:=fun δ S=>(fs δ S).bind fun vs S1=>match km vs with
 | some ds=>(R3.of (g ds) S1).bind fun d S=> .ok (.d d) S
 | none=> .no
theorem Cy{K:PySem.W.Frag}{g:List D→R D}{fs:FA}{σ:L2.St}{H:Hp}{Q:VK}(h:tX K cl (lB g fs) σ H Q) :
 K_ K cl fs σ H fun vs H1=>∃B ds d,(∀a∈B,∃o,H1 a=some o)∧aH K B H1 ds vs∧g ds= .ok d∧∀z H',a_ H1 H'→Rep K B H' d z→Q z H':=by
 obtain⟨ρ,S,δ,v,S',E,hf,q⟩:=h
 obtain⟨vs,S1,h1,h2⟩:=R3.ao hf
 split at h2
 ·rename_i ds e
  obtain⟨d,S2,h3,h4⟩:=R3.ao h2
  obtain⟨h5,e5⟩:=R3.of_ok h3
  cases h4
  subst e5
  refine⟨ρ,S,δ,vs,_,E,h1,fun us ρ1 H1 p1 w1 r1=>?_⟩
  rw[i7 e] at r1
  exact⟨ρ1.b,ds,d,w1.bs,r1.to,h5,fun z H' s r=>q z ρ1 H' (p1.trans (Pre.same s)) (w1.same s) (by unfold bf;exact r)⟩
 ·cases h2
theorem zK{g:List D→R D}{x:Str}{T:String}{p pos:Pos}{e:Expr}{es:List Expr}{fs:FA}(hc:gd X (.type T) g)(hg:Gl X x)(hm:X.mg x=none)(hv:bootBuiltins x=some (.type T))(ha:CP X cl (e ::es) fs)(hn:x≠"__name__":=by decide)(hdb:(x==("__debug__":Str))=false:=by decide)
 (he:starEach (e ::es) X.env=(false,eval e X.env) ::starEach es X.env:=by rfl) (hpl:(backTo pos (starEach es X.env)).any (·.1)=false:=by rfl):PX X cl (.Call (.Name x p) (e ::es) [] pos) (lB g fs):=
 ⟨(pe hc.r hg hm hv ha.1 hn hdb he hpl).imp fun σ H Q h=>Cy h⟩
noncomputable def Mm(c:FB)(f g:FX):FX:=fun δ S=>(c δ S).bind fun b S=>if b then f δ S else g δ S
theorem aL:∀(δ:DE) (S:aN) (ds:List V3) (S':aN),cq δ S= .ok ds S'→ds.length=0:=fun δ S ds S' h=>by cases h;rfl
theorem ai{f:FX}{g:FA}{n:Nat}(h:∀(δ:DE) (S:aN) (ds:List V3) (S':aN),g δ S= .ok ds S'→ds.length=n):∀(δ:DE) (S:aN) (ds:List V3) (S':aN),ay f g δ S= .ok ds S'→ds.length=n+1:=fun δ S ds S' e=>by
 obtain⟨v,S1,h1,h2⟩:=R3.ao e
 obtain⟨vs,S2,h3,h4⟩:=R3.ao h2
 cases h4
 rw[List.length_cons,h δ S1 vs _ h3]
end
end L3
end
section
set_option maxRecDepth 100000
set_option maxHeartbeats 4000000
namespace L3
open PySem PySem.Spec PyProof.Rows L2
theorem tT{K:PySem.W.Frag}{ρ:P3}{H:Hp}{ds:List V3}{xs:List V}{i:Int}{d:V3}(r:aK K ρ H ds xs)(h:pG ds i=some d):∃x,pG xs i=some x∧bf K ρ H d x:=by
 unfold pG at h ⊢
 rw[←r.length]
 cases e:sv ds.length i with
 | none=>rw [e] at h;cases h
 | some j=>
   rw[e] at h
   exact r.get h
section
variable {X:Cx} {cl:Nat→Addr}
noncomputable def Hl(fa fb:FX):FX:=fun δ S=>(fa δ S).bind fun a S1=>(fb δ S1).bind fun b S2=>match a,b with
 | .d x, .d y=>(R3.of (bZ x y) S2).bind fun d S=> .ok (.d d) S
 | .lst vs, .d (.int i)=>(match pG vs i with | some v=> .ok v S2 | none=> .no)
 | .tup vs, .d (.int i)=>(match pG vs i with | some v=> .ok v S2 | none=> .no)
 | _,_=> .no
theorem yz{a b:Expr}{fa fb:FX}{pos:Pos}(ha:PX X cl a fa)(hb:PX X cl b fb)(hs:qk b):PX X cl (.Subscript a b pos) (Hl fa fb):=by
 refine⟨(EZ (r:=Ke X.K) CC ha.1 hb.1 hs).imp fun σ H Q ⟨ρ,S,δ,v,S',E,hf,q⟩=>?_⟩
 obtain⟨v1,S1,h1,h2⟩:=R3.ao hf
 obtain⟨v2,S2,h3,h4⟩:=R3.ao h2
 refine⟨ρ,S,δ,v1,S1,E,h1,fun u1 ρ1 H1 p1 w1 r1=>⟨ρ1,S1,δ,v2,S2,E.to p1 w1,h3,fun u2 ρ2 H2 p2 w2 r2=>?_⟩⟩
 have r1':=r1.pre p2
 have p12:=p1.trans p2
 split at h4
 ·rename_i x y
  obtain⟨d,S3,h5,h6⟩:=R3.ao h4
  obtain⟨h7,e7⟩:=R3.of_ok h5
  cases h6
  subst e7
  unfold bf at r1' r2
  unfold bZ at h7
  split at h7
  ·split at h7
   ·rename_i e
    cases h7
    obtain⟨p,xs,rfl,l,rs⟩:=Rep.lst.mp r1'
    obtain⟨y,e1,e2⟩:=oy rs e
    exact .inl ⟨p,xs,_,y,rfl,Rep.int.mp r2,l.sq,e1,q y ρ2 H2 p12 w2 (by unfold bf;exact e2)⟩
   ·cases h7
  ·split at h7
   ·rename_i e
    cases h7
    obtain⟨p,xs,rfl,l,rs⟩:=Rep.tup.mp r1'
    obtain⟨y,e1,e2⟩:=oy rs e
    exact .inr (.inl ⟨p,xs,_,y,rfl,Rep.int.mp r2,l.sq,e1,q y ρ2 H2 p12 w2 (by unfold bf;exact e2)⟩)
   ·cases h7
  ·obtain⟨hl,h8⟩:=R.bo h7
   split at h8
   ·rename_i e
    cases h8
    exact .inr (.inr ⟨_,_,_,Rep.str.mp r1',Rep.int.mp r2,of_decide_eq_true hl,e,q _ ρ2 H2 p12 w2 (by unfold bf;exact Rep.str.mpr rfl)⟩)
   ·cases h8
  ·cases h7
 ·split at h4
  ·rename_i e
   cases h4
   unfold bf at r1' r2
   obtain⟨p,xs,rfl,l,rs⟩:=r1'
   obtain⟨y,e1,e2⟩:=tT rs e
   exact .inl ⟨p,xs,_,y,rfl,Rep.int.mp r2,l.sq,e1,q y ρ2 H2 p12 w2 e2⟩
  ·cases h4
 ·split at h4
  ·rename_i e
   cases h4
   unfold bf at r1' r2
   obtain⟨p,xs,rfl,l,rs⟩:=r1'
   obtain⟨y,e1,e2⟩:=tT rs e
   exact .inr (.inl ⟨p,xs,_,y,rfl,Rep.int.mp r2,l.sq,e1,q y ρ2 H2 p12 w2 e2⟩)
  ·cases h4
 ·cases h4
end
end L3
end
section
set_option maxRecDepth 100000
set_option maxHeartbeats 4000000
namespace L3
open PySem PySem.Spec PyProof.Rows L2
section
variable {X:Cx} {cl:Nat→Addr}
structure F4 (X:Cx) (cl:Nat→Addr) (e:Expr) (f:FB):Prop where
 go:L2.PW X e (Hi X.K cl f)
theorem F4.pb{e:Expr}{f:FB}(h:F4 X cl e f):Aq X cl e f:=⟨L2.PW.pt h.1⟩
noncomputable def DJ(f g:FB):FB:=fun δ S=>(f δ S).bind fun b S=>if b then g δ S else .ok false S
noncomputable def Mn(f g:FB):FB:=fun δ S=>(f δ S).bind fun b S=>if b then .ok true S else g δ S
noncomputable def GP(f:FB):FB:=fun δ S=>(f δ S).bind fun b S=> .ok (!b) S
theorem vM{a:Expr}{f:FB}{pos:Pos}(h:Aq X cl a f):F4 X cl (.BoolOp .And [a] pos) f:=⟨CZ h.1⟩
theorem y8{a b:Expr}{rest:List Expr}{f g:FB}{pos:Pos}(ha:Aq X cl a f)(hb:F4 X cl (.BoolOp .And (b ::rest) pos) g):F4 X cl (.BoolOp .And (a ::b ::rest) pos) (DJ f g):=⟨by
 intro wh pins s σ H Q I ⟨ρ,S,δ,k,S',E,hf,q⟩
 refine F8 ha.1 hb.1 wh pins s σ H Q I ?_
 obtain⟨c,S1,h1,h2⟩:=R3.ao hf
 refine⟨ρ,S,δ,c,S1,E,h1,fun ρ1 H1 p1 w1=>?_⟩
 cases c with
 | true=>rw [if_pos rfl] at h2 ⊢;exact⟨ρ1,S1,δ,k,S',E.to p1 w1,h2,fun ρ2 H' p2 w2=>q ρ2 H' (p1.trans p2) w2⟩
 | false=>rw [if_neg (by decide)] at h2 ⊢;cases h2;exact q ρ1 H1 p1 w1⟩
theorem DB{a:Expr}{f:FB}{pos:Pos}(ha:Aq X cl a f):Aq X cl (.UnaryOp .Not a pos) (GP f):=⟨(B7 ha.1).imp fun σ H Q ⟨ρ,S,δ,k,S',E,hf,q⟩=>by
 obtain⟨c,S1,h1,h2⟩:=R3.ao hf
 cases h2
 exact⟨ρ,S,δ,c,_,E,h1,fun ρ1 H1 p1 w1=>q ρ1 H1 p1 w1⟩⟩
noncomputable def D0(f:FX):FB:=fun δ S=>(f δ S).bind fun v S=>match v with | .d d=>R3.of (rG d) S | _=> .no
theorem DX{a:Expr}{f:FX}(ha:PX X cl a f)(ht:∀{t:TE},PE X a t→PT X a (fun σ H Q=>t σ H fun x H'=>∃b,Dw X.K x H' b∧Q b H')):Aq X cl a (D0 f):=
 ⟨(ht ha.1).imp fun σ H Q ⟨ρ,S,δ,b,S',E,hf,q⟩=>by
   obtain⟨v,S1,h1,h2⟩:=R3.ao hf
   split at h2
   ·rename_i d
    obtain⟨h3,e3⟩:=R3.of_ok h2
    subst e3
    exact⟨ρ,S,δ, .d d,_,E,h1,fun u ρ1 H1 p1 w1 r1=>⟨b,Cs (by unfold bf at r1;exact r1) h3,q ρ1 H1 p1 w1⟩⟩
   ·cases h2⟩
noncomputable abbrev HR:=DE→aN→R3 (Option Int)
noncomputable def LV(K:PySem.W.Frag)(cl:Nat→Addr)(f:HR):TO:=fun σ H Q=>∃ρ S δ o S',fP K cl ρ H S σ δ∧f δ S= .ok o S'∧∀ρ' H',Pre ρ H ρ' H'→SW K cl ρ' H' S'→Q o H'
structure Mp (X:Cx) (cl:Nat→Addr) (e:Option Expr) (f:HR):Prop where
 go:PO X e (LV X.K cl f)
noncomputable def J1:HR:=fun _ S=> .ok none S
noncomputable def Kq(f:FX):HR:=fun δ S=>(f δ S).bind fun v S=>match v with | .d (.int i)=> .ok (some i) S | _=> .no
noncomputable def Ml(f:FX)(fl fh:HR):FX:=fun δ S=>(f δ S).bind fun v S1=>(fl δ S1).bind fun lo S2=>(fh δ S2).bind fun hi S3=>match v with
 | .d d=>(R3.of (H_ d lo hi) S3).bind fun r S=> .ok (.d r) S
 | _=> .no
end
end L3
end
section
set_option maxRecDepth 100000
set_option maxHeartbeats 4000000
namespace L2
open PySem PySem.Spec PyProof.Rows
section
variable {X:Cx}
noncomputable def nT(t T:String):Bool:=t==T || (t=="bool" && T=="int")
theorem oH{K:PySem.W.Frag}(t T:String)(ht:t∈["NoneType","bool","int","str","list","tuple"])(hT:T∈["bool","int","str","list","tuple"]):PySem.W.kitOne K (.type t) (.type T)=some (nT t T):=by
 simp only[List.mem_cons,List.not_mem_nil,or_false] at ht hT
 rcases ht with rfl | rfl | rfl | rfl | rfl | rfl <;> rcases hT with rfl | rfl | rfl | rfl | rfl <;> rfl
noncomputable def nq(T:String)(f:FD):FD:=fun δ=>(f δ).bind fun d=>match d with | .dct _ _=> .no | _=> .ok (.bl (nT (tyName d) T))
theorem qo{T:Str}{Ts:String}{p p2 pos:Pos}{e:Expr}{f:FD}(he:QD X e f)(hT:Ts∈["bool","int","str","list","tuple"])(hg:Gl X "isinstance")(hm:X.mg "isinstance"=none)(hgT:Gl X T)(hmT:X.mg T=none)(hvT:bootBuiltins T=some (.type Ts))(hnT:T≠"__name__":=by decide)(hdT:(T==("__debug__":Str))=false:=by decide)
 (hs:starEach [e, .Name T p2] X.env=(false,eval e X.env) ::starEach [.Name T p2] X.env:=by rfl) (hpl:(backTo pos (starEach [.Name T p2] X.env)).any (·.1)=false:=by rfl):QD X (.Call (.Name "isinstance" p) [e, .Name T p2] [] pos) (nq Ts f):=by
 have hc:nX X (.builtin "isinstance") (fun xs H Q=>∃B d x,Rep X.K B H d x∧(∀a b,d≠ .dct a b)∧xs=[x, .ty Ts]∧Q (.bl (nT (tyName d) Ts)) H):=by
  intro pins s σ H xs us Q I r h
  obtain⟨B,d,x,rd,ha,rfl,q⟩:=h
  obtain⟨u,w',rfl,ru,rw'⟩:=vals2 r
  cases rw'
  have fin:∀tk,EP X pins σ Q (.bool (nT (tyName d) Ts)) {s with toks:=tk}:=fun tk=>⟨.bl _,H,I.tok _,rfl,q⟩
  cases d with
  | di=>exact mw I ru (by rw[Rep.di.mp rd];exact .di) (oH "NoneType" Ts (by decide) hT) fin
  | bl b=>exact mw I ru (by rw[Rep.bl.mp rd];exact .bl b) (oH "bool" Ts (by decide) hT) fin
  | int i=>exact mw I ru (by rw[Rep.int.mp rd];exact .int i) (oH "int" Ts (by decide) hT) fin
  | str z=>exact mw I ru (by rw[Rep.str.mp rd];exact .str z) (oH "str" Ts (by decide) hT) fin
  | lst es=>
    obtain⟨a,ys,rfl,l,_⟩:=Rep.lst.mp rd
    cases(show u=Value.ref a from ru)
    obtain⟨its2,n2,r2,h1,z2⟩:=I.Ff l
    exact PySem.W.kia_one PySem.W.kitx_list I.oM ⟨_,h1,rfl⟩ (oH "list" Ts (by decide) hT) (fun z=>nomatch z) fin
  | tup es=>
    obtain⟨a,ys,rfl,l,_⟩:=Rep.tup.mp rd
    cases(show u=Value.ref a from ru)
    obtain⟨its,rv,p,hz⟩:=I.tuple l.sq
    obtain⟨o,h1,h2,_⟩:=p
    exact PySem.W.kia_one PySem.W.kitx_tuple I.oM ⟨o,h1,h2⟩ (oH "tuple" Ts (by decide) hT) (fun z=>nomatch z) fin
  | dct a b=>exact absurd rfl (ha a b)
 refine⟨(wx hc hg hm boot_isinstance (dJ he.1 (dJ (Eg (v:= .ty Ts) hgT hmT hvT rfl hnT hdT) gu) hs) (by decide) (by decide) hs hpl).imp fun σ H Q ⟨Z,B,δ,d,E,hf,q⟩=>?_⟩
 obtain⟨d1,h1,h2⟩:=R.ao hf
 have key:(∀a b,d1≠ .dct a b)∧d= .bl (nT (tyName d1) Ts):=by
  cases d1 with
  | dct a b=>cases h2
  | _=>cases h2;exact⟨fun _ _ z=>(by cases z),rfl⟩
 obtain⟨k1,rfl⟩:=key
 exact⟨Z,B,δ,d1,E,h1,fun v H1 s1 r1=>⟨B,d1,v,r1,k1,rfl,q _ H1 s1 (Rep.bl.mpr rfl)⟩⟩
noncomputable def nList(f:FD):ax→R (List D):=fun δ=>(f δ).bind fun d=>match d with | .lst ds=> .ok ds | .tup ds=> .ok ds | _=> .no
theorem BJ{p pos:Pos}{e:Expr}{f:FD}(he:QD X e f)(hg:Gl X "list")(hm:X.mg "list"=none)
 (hs:starEach [e] X.env=(false,eval e X.env) ::starEach [] X.env:=by rfl) (hpl:(backTo pos (starEach [] X.env)).any (·.1)=false:=by rfl):QN X (.Call (.Name "list" p) [e] [] pos) (nList f):=by
 refine⟨(pe nR hg hm boot_list (dJ he.1 gu hs) (by decide) (by decide) hs hpl).imp fun σ H Q ⟨Z,B,δ,ds,E,hf,q⟩=>?_⟩
 obtain⟨d,h1,h2⟩:=R.ao hf
 refine⟨Z,B,δ,d,E,h1,fun v H1 s1 r1=>?_⟩
 split at h2
 ·cases h2
  obtain⟨a,ys,rfl,l,r⟩:=Rep.lst.mp r1
  exact⟨a,ys,rfl, .inl l.sq,fun p hp=>q p ys _ (s1.trans (aP hp)) (s1.free hp) aT (r.bt (om hp))⟩
 ·cases h2
  obtain⟨a,ys,rfl,l,r⟩:=Rep.tup.mp r1
  exact⟨a,ys,rfl, .inr l.sq,fun p hp=>q p ys _ (s1.trans (aP hp)) (s1.free hp) aT (r.bt (om hp))⟩
 ·cases h2
end
end L2
namespace L3
open PySem PySem.Spec PyProof.Rows L2
theorem b3{P:Program}{w:World}{K:PySem.W.Frag}{mg:Str→Option Value}{base:Heap}{cl:Nat→Addr}{x qual:Str}{st:Stmt}{f:Addr}{fd:FuncData}{N ps:List Str}{k:Nat}{F:FZ}{b:List Stmt}{sc:Scope}(hb:aq st=b)(hs:af st=sc)(Fn:y6 K x qual st f fd)(S:ba N ps sc)
 (hbody:∀(cdv:Value) (A:Around) (outer:List Env) (s:Shared) (H:Hp) (E:XK),eS k (A.deeper (envOfC qual sc s.heap.objs.size f cdv))→
   As (qz sC P w K mg base N qual sc f cdv A outer s H E).En cl b F):iY P w K mg base sC (k+1) f fd ps (Bw K cl ps.length (mr N F)):=by
 subst hb hs
 exact DD Fn S hbody
theorem aD.p{P:Program}{w:World}{K:PySem.W.Frag}{mg:Str→Option Value}{base:Heap}{cl:Nat→Addr}{k:Nat}{x:Str}{n:Nat}{N:List Str}{F:FZ}(C:aD P w K mg base cl k x n (mr N F)):aD P w K mg base cl k x n (nE N F):=
 let⟨f,fd,ps,F,h⟩:=C;⟨f,fd,ps,F.imp fun _ _ _ _ h=>xo h,h⟩
noncomputable def Jg(N:List Str)(F:FZ):List D→R D:=fun ds=>match nE N F (ds.map .d) [] with
 | .ok (.d d) []=>R.bV d.atom (.ok d)
 | _=> .no
theorem Fz{K:PySem.W.Frag}{cl:Nat→Addr}{N:List Str}{F:FZ}{n:Nat}{vs:List V}{H:Hp}{Q:VK}{E:XK}(h:BY K n (Jg N F) vs H Q E):Bw K cl n (mr N F) vs H Q E:=by
 obtain⟨hl,B,ds,d,hb,r,hg,q⟩:=h
 unfold Jg at hg
 split at hg
 ·rename_i d' e
  obtain⟨ha,h2⟩:=R.bo hg
  cases h2
  have r0:aH K (⟨[],[],[]⟩:P3).b H ds vs:=r.bt fun b o e _=>⟨e,by simp [P3.b]⟩
  refine xo ⟨hl,⟨[],[],[]⟩,[],ds.map .d, .d d,[],⟨rfl,fun i j a hi=>by simp at hi,fun k a o hk=>by simp at hk,fun b hb=>by simp at hb,fun k a hk=>by simp at hk,fun b hb=>by simp at hb,fun k a hk=>by simp at hk⟩,aK.of r0,e,fun u ρ' H' p w' r'=>q u H' (fun b o eb=>?_) ?_⟩
  ·exact(p.bt b o eb (by simp [P3.b])).1
  ·unfold bf at r'
   exact r'.atom ha
 ·cases hg
section
variable {X:Cx} {cl:Nat→Addr}
theorem A0{a:Expr}{f:FX}(ha:PX X cl a f)(he:∀whole,isTrue a X.env whole=(do let v ←whole;standAt a.pos;holding [v] (truthy v)):=by intro _;rfl):Aq X cl a (D0 f):=DX ha fun h=>vd h he
theorem rj{g:List D→R D}{k j n:Nat}{x:Str}{p pos:Pos}{e:Expr}{es:List Expr}{fs:FA}(C:Callee X.prog X.w X.K X.mg X.base k x n g)(hr:eS j X.A)(hkj:k≤j)(hg:Gl X x)(ha:CP X cl (e ::es) fs)
 (hn:∀δ S ds S',fs δ S= .ok ds S'→ds.length=n) (hdb:(x==("__debug__":Str))=false:=by decide) (he:starEach (e ::es) X.env=(false,eval e X.env) ::starEach es X.env:=by rfl) (hpl:(backTo pos (starEach es X.env)).any (·.1)=false:=by rfl) :
 PX X cl (.Call (.Name x p) (e ::es) [] pos) (lB g fs):=by
 obtain⟨f,fd,ps,F,hm,hk,hb⟩:=C
 refine⟨(uU F (hr.mono hkj) hg hm hk hb .nil we ha.1 hdb he hpl).imp fun σ H Q ⟨ρ,S,δ,v,S',E,hf,q⟩=>?_⟩
 obtain⟨vs,S1,h1,h2⟩:=R3.ao hf
 split at h2
 ·rename_i ds e
  obtain⟨d,S2,h3,h4⟩:=R3.ao h2
  obtain⟨h5,e5⟩:=R3.of_ok h3
  cases h4
  subst e5
  refine⟨ρ,S,δ,vs,_,E,h1,fun us ρ1 H1 p1 w1 r1=>?_⟩
  have hl:=hn δ S vs _ h1
  rw[i7 e] at r1
  show BY X.K n g (us++[]) H1 Q E0
  rw[List.append_nil]
  exact⟨by rw[←r1.length,←i7 e];exact hl,ρ1.b,ds,d,w1.bs,r1.to,h5,fun z H' s r=>q z ρ1 H' (p1.trans (Pre.same s)) (w1.same s) (by unfold bf;exact r)⟩
 ·cases h2
noncomputable def JY(f:FX):FA:=fun δ S=>(f δ S).bind fun v S=>match v with | .d (.tup ds)=> .ok (ds.map .d) S | .tup vs=> .ok vs S | _=> .no
end
end L3
end
section
set_option maxRecDepth 100000
set_option maxHeartbeats 4000000
namespace L3
open PySem PySem.Spec PyProof.Rows L2
noncomputable def W3{α:Type}(r:R3 α)(Q:α→aN→Prop):Prop:=∃a S,r= .ok a S∧Q a S
section
variable {α β:Type} {Q Q':α→aN→Prop} {S:aN} {δ:DE}
theorem W3.ok{a:α}(h:Q a S):W3 (.ok a S) Q:=⟨a,S,rfl,h⟩
theorem W3.bind{Q:β→aN→Prop}{r:R3 α}{f:α→aN→R3 β}(h:W3 r fun a S=>W3 (f a S) Q):W3 (r.bind f) Q:=by
 obtain⟨a,S1,e1,b,S2,h2,q⟩:=h
 exact⟨b,S2,by rw[e1];exact h2,q⟩
theorem W3.mono{r:R3 α}(h:W3 r Q)(m:∀a S,Q a S→Q' a S):W3 r Q':=let⟨a,S,e,q⟩:=h;⟨a,S,e,m a S q⟩
theorem W3.wh{c:Bool}{r:R3 α}(hc:c=true)(h:W3 r Q):W3 (R3.bV c r) Q:=by rw[hc];exact h
theorem W3.of{r:R α}{a:α}(e:r= .ok a)(h:Q a S):W3 (R3.of r S) Q:=by rw[e];exact⟨a,S,rfl,h⟩
end
section
variable {S:aN} {δ:DE} {QV:V3→aN→Prop} {QB:Bool→aN→Prop} {QA:List V3→aN→Prop} {QO:Ou→aN→Prop}
theorem cy{f:FD}{d:D}(e:f (down δ)= .ok d)(h:QV (.d d) S):W3 (xP f δ S) QV:=W3.bind (W3.of e (W3.ok h))
theorem yI{f:FD}{d:D}(e:f (cM S δ)= .ok d)(ha:ox d=true)(h:QV (.d d) S):W3 (xT f δ S) QV:=W3.bind (W3.of e (W3.wh ha (W3.ok h)))
theorem eJ{f:ax→R Bool}{b:Bool}(e:f (down δ)= .ok b)(h:QB b S):W3 (bP f δ S) QB:=W3.of e h
theorem Bc{f:ax→R Bool}{b:Bool}(e:f (cM S δ)= .ok b)(h:QB b S):W3 (bT f δ S) QB:=W3.of e h
theorem w_var{i:Nat}{v:V3}(e:δ[i]? =some (some v))(h:QV v S):W3 (bR i δ S) QV:=by unfold bR;rw [e];exact W3.ok h
theorem ik{f:ax→R (List D)}{ds:List D}(e:f (down δ)= .ok ds)(h:QV (.loc S.length) (S++[.lst ds])):W3 (kG f δ S) QV:=W3.bind (W3.of e (W3.ok h))
theorem cu(h:QA [] S):W3 (cq δ S) QA:=W3.ok h
theorem aA{f:FX}{g:FA}(h:W3 (f δ S) fun v S1=>W3 (g δ S1) fun vs S2=>QA (v ::vs) S2):W3 (ay f g δ S) QA:=W3.bind (h.mono fun _ _ h=>W3.bind (h.mono fun _ _ h=>W3.ok h))
theorem tZ{g:FA}(h:W3 (g δ S) fun vs S1=>vs.length≤sizeLine∧QV (lu vs) S1):W3 (wV g δ S) QV:=W3.bind (h.mono fun _ _ h=>W3.wh (decide_eq_true h.1) (W3.ok h.2))
theorem HX{g:FA}(h:W3 (g δ S) fun vs S1=>vs.length≤sizeLine∧QV (jt vs) S1):W3 (GD g δ S) QV:=W3.bind (h.mono fun _ _ h=>W3.wh (decide_eq_true h.1) (W3.ok h.2))
theorem ES{g:D→D→R D}{fa fb:FX}(h:W3 (fa δ S) fun a S1=>W3 (fb δ S1) fun b S2=>∃x y d,a= .d x∧b= .d y∧g x y= .ok d∧QV (.d d) S2):W3 (x2 g fa fb δ S) QV:=
 W3.bind (h.mono fun _ _ h=>W3.bind (h.mono fun _ _ ⟨_,_,_,e1,e2,e3,q⟩=>by subst e1 e2;exact W3.bind (W3.of e3 (W3.ok q))))
theorem Hy{g:D→D→R D}{fa fb:FX}(h:W3 (fa δ S) fun a S1=>W3 (fb δ S1) fun b S2=>∃x y k,a= .d x∧b= .d y∧g x y= .ok (.bl k)∧QB k S2):W3 (Iy g fa fb δ S) QB:=
 W3.bind (ES (h.mono fun _ _ h=>h.mono fun _ _ ⟨x,y,k,e1,e2,e3,q⟩=>⟨x,y, .bl k,e1,e2,e3,W3.ok q⟩))
theorem DG{fa fb:FX}(h:W3 (fa δ S) fun a S1=>W3 (fb δ S1) fun b S2=>∃x y d,a= .d x∧b= .d y∧bZ x y= .ok d∧QV (.d d) S2):W3 (Hl fa fb δ S) QV:=
 W3.bind (h.mono fun _ _ h=>W3.bind (h.mono fun _ _ ⟨_,_,_,e1,e2,e3,q⟩=>by subst e1 e2;exact W3.bind (W3.of e3 (W3.ok q))))
theorem cV{g:List V3→aN→R3 V3}{fs:FA}(h:W3 (fs δ S) fun vs S1=>W3 (g vs S1) QV):W3 (cb g fs δ S) QV:=W3.bind h
theorem qu{g:List D→R D}{fs:FA}(h:W3 (fs δ S) fun vs S1=>∃ds d,vs=ds.map .d∧g ds= .ok d∧QV (.d d) S1):W3 (lB g fs δ S) QV:=
 W3.bind (h.mono fun _ _ ⟨ds,_,e1,e2,q⟩=>by subst e1;rw [qP];exact W3.bind (W3.of e2 (W3.ok q)))
theorem A3{it:FA}{t:FG}{c:FB}{f:FX}{own:List Str}{kp:List Nat}(h:W3 (it δ S) fun vs S1=>vs.length≤sizeLine∧W3 (lR t c f (f9 own kp δ) vs S1) fun ys S2=>QV (jt ys) S2):W3 (jm it t c f own kp δ S) QV:=
 W3.bind (h.mono fun _ _ h=>W3.wh (decide_eq_true h.1) (W3.bind (h.2.mono fun _ _ h=>W3.ok h)))
theorem Ib{f:FX}(h:W3 (f δ S) fun v S1=>∃d b,v= .d d∧rG d= .ok b∧QB b S1):W3 (D0 f δ S) QB:=W3.bind (h.mono fun _ _ ⟨_,_,e,e2,q⟩=>by subst e;exact W3.of e2 q)
theorem w_not{f:FB}(h:W3 (f δ S) fun b S1=>QB (!b) S1):W3 (GP f δ S) QB:=W3.bind (h.mono fun _ _ h=>W3.ok h)
theorem aF{F G:FZ}(h:W3 (F δ S) fun o S1=>∃δ1,o= .nx δ1∧W3 (G δ1 S1) QO):W3 (bb F G δ S) QO:=W3.bind (h.mono fun _ _ ⟨_,e,h⟩=>by subst e;exact h)
theorem Av{F G:FZ}(h:W3 (F δ S) fun o S1=>∃v,o= .rt v∧QO (.rt v) S1):W3 (bb F G δ S) QO:=W3.bind (h.mono fun _ _ ⟨_,e,h⟩=>by subst e;exact W3.ok h)
theorem bj{i:Nat}{f:FX}(hi:i < δ.length)(h:W3 (f δ S) fun v S1=>QO (.nx (δ.set i (some v))) S1):W3 (bL i f δ S) QO:=W3.bind (h.mono fun _ _ h=>W3.wh (decide_eq_true hi) (W3.ok h))
theorem fN{f:FX}(h:W3 (f δ S) fun v S1=>QO (.rt v) S1):W3 (iq f δ S) QO:=W3.bind (h.mono fun _ _ h=>W3.ok h)
theorem lU{c:FB}{F G:FZ}(h:W3 (c δ S) fun b S1=>if b then W3 (F δ S1) QO else W3 (G δ S1) QO):W3 (mX c F G δ S) QO:=W3.bind (h.mono fun b _ h=>by cases b <;> exact h)
theorem Fs{f:FX}{t:FG}(h:W3 (f δ S) fun v S1=>∃δ1,t v δ=some δ1∧QO (.nx δ1) S1):W3 (EF f t δ S) QO:=W3.bind (h.mono fun _ _ ⟨_,e,q⟩=>by rw[e];exact W3.ok q)
theorem iK(h:QO (.nx δ) S):W3 (gS δ S) QO:=W3.ok h
theorem my{f:ax→R (List D)}{ds:List D}(e:f (down δ)= .ok ds)(h:QA (ds.map .d) S):W3 (iP f δ S) QA:=W3.bind (W3.of e (W3.ok h))
theorem uQ{f:FX}(h:W3 (f δ S) fun v S1=>∃n:Nat,v= .d (.int n)∧n < 1000000∧QA ((e_ 0 n).map .d) S1):W3 (pK f δ S) QA:=W3.bind (h.mono fun _ _ ⟨n,e,hn,q⟩=>by
 subst e
 refine W3.wh (decide_eq_true ⟨by omega,by omega⟩) (W3.ok ?_)
 rw[Int.toNat_natCast];exact q)
theorem uW{f:FX}(h:W3 (f δ S) fun v S1=>∃ds,v= .d (.lst ds)∧QA (ds.map .d) S1):W3 (yc f δ S) QA:=W3.bind (h.mono fun _ _ ⟨n,e,q⟩=>by subst e;exact W3.ok q)
theorem C6{f:FX}(h:W3 (f δ S) fun v S1=>∃vs,v= .lst vs∧QA vs S1):W3 (yc f δ S) QA:=W3.bind (h.mono fun _ _ ⟨n,e,q⟩=>by subst e;exact W3.ok q)
theorem gR{it:FA}{t:FG}{F:FZ}(h:W3 (it δ S) fun vs S1=>W3 (kT t F vs δ S1) QO):W3 (jR it t F δ S) QO:=W3.bind h
theorem j7{i k:Nat}{f:FX}(hk:δ[i]? =some (some (.loc k)))(h0:∃ds,S[k]? =some (.lst ds))(h:W3 (f δ S) fun v S1=>∃d ds,v= .d d∧S1[k]? =some (.lst ds)∧ds.length < sizeLine∧QO (.nx δ) (S1.set k (.lst (ds++[d])))):W3 (jP i f δ S) QO:=by
 obtain⟨es,h0⟩:=h0
 unfold jP
 have e1:gI δ i=some k:=by unfold gI;rw [hk]
 have e2:cJ S k=some es:=by unfold cJ;simp only[h0]
 rw[e1];show W3 (match cJ S k with | none=>_ | some _=>_) _
 rw[e2]
 refine W3.bind (h.mono fun v S1 ⟨d,ds,e,h1,hl,q⟩=>?_)
 subst e
 have e3:cJ S1 k=some ds:=by unfold cJ;simp only[h1]
 show W3 (match cJ S1 k with | some ds=>_ | none=>_) _
 rw[e3]
 exact W3.wh (decide_eq_true hl) (W3.ok q)
theorem EV{fo fi fe:FX}(h:W3 (fe δ S) fun v S1=>W3 (fo δ S1) fun o S2=>W3 (fi δ S2) fun j S3=>∃d k n ds m,v= .d d∧o= .loc k∧j= .d (.int n)∧S3[k]? =some (.lst ds)∧sv ds.length n=some m∧QO (.nx δ) (S3.set k (.lst (ds.set m d)))):W3 (CW fo fi fe δ S) QO:=
 W3.bind (h.mono fun _ _ h=>W3.bind (h.mono fun _ _ h=>W3.bind (h.mono fun _ S3 ⟨d,k,n,ds,m,e1,e2,e3,h1,h2,q⟩=>by
  subst e1 e2 e3
  have e3:cJ S3 k=some ds:=by unfold cJ;simp only[h1]
  show W3 (match cJ S3 k with | some ds=>_ | none=>_) _
  rw[e3]
  show W3 (match sv ds.length n with | some m=>_ | none=>_) _
  rw[h2]
  exact W3.ok q)))
theorem qA{t:FG}{body:FZ}:∀(vs:List V3) (n:Nat) (P:Nat→DE→aN→Prop) {δ:DE} {S:aN},P n δ S→
 (∀i v δ S,vs[i]? =some v→P (n+i) δ S→∃δ1,t v δ=some δ1∧W3 (body δ1 S) fun o S1=>∃δ2,o= .nx δ2∧P (n+i+1) δ2 S1)→W3 (kT t body vs δ S) fun o S1=>∃δ2,o= .nx δ2∧P (n+vs.length) δ2 S1
 | [],n,P,δ,S,h0,_=>W3.ok ⟨δ,rfl,h0⟩
 | v ::vs,n,P,δ,S,h0,hs=>by
   obtain⟨δ1,e1,o,S1,e2,δ2,rfl,p2⟩:=hs 0 v δ S rfl h0
   have ih:=qA vs (n+1) P p2 (fun i v' δ' S' hi hp=>by
    have:=hs (i+1) v' δ' S' (by simpa using hi) (by rw[show n+(i+1)=n+1+i by omega];exact hp)
    rw[show n+(i+1)+1=n+1+i+1 by omega] at this
    exact this)
   rw[show n+1+vs.length=n+(v ::vs).length by rw[List.length_cons];omega] at ih
   unfold kT
   rw[e1]
   refine W3.bind ⟨_,_,e2,?_⟩
   exact ih
theorem b_{t:FG}{body:FZ}{vs:List V3}(P:Nat→DE→aN→Prop){δ:DE}{S:aN}(h0:P 0 δ S)
 (hs:∀i v δ S,vs[i]? =some v→P i δ S→∃δ1,t v δ=some δ1∧W3 (body δ1 S) fun o S1=>∃δ2,o= .nx δ2∧P (i+1) δ2 S1):W3 (kT t body vs δ S) fun o S1=>∃δ2,o= .nx δ2∧P vs.length δ2 S1:=by
 have:=qA (t:=t) (body:=body) vs 0 P h0 (fun i v δ S hi hp=>by simpa using hs i v δ S hi (by simpa using hp))
 simpa using this
theorem q_{t:FG}{c:FB}{f:FX}{δ:DE}:∀(vs:List V3) (n:Nat) (P:Nat→List V3→aN→Prop) {ys:List V3} {S:aN},P n ys S→
 (∀i v ys S,vs[i]? =some v→P (n+i) ys S→∃δ1,t v δ=some δ1∧W3 (c δ1 S) fun b S1=>if b then W3 (f δ1 S1) fun y S2=>P (n+i+1) (ys++[y]) S2 else P (n+i+1) ys S1)→W3 (lR t c f δ vs S) fun zs S1=>P (n+vs.length) (ys++zs) S1
 | [],n,P,ys,S,h0,_=>W3.ok (by rw[List.append_nil];exact h0)
 | v ::vs,n,P,ys,S,h0,hs=>by
   obtain⟨δ1,e1,b,S1,e2,h2⟩:=hs 0 v ys S rfl h0
   have ih:∀{ys' S'},P (n+1) ys' S'→W3 (lR t c f δ vs S') fun zs S1=>P (n+(v ::vs).length) (ys'++zs) S1:=fun {ys' S'} p=>by
    have:=q_ (t:=t) (c:=c) (f:=f) (δ:=δ) vs (n+1) P p (fun i v' ys' S' hi hp=>by
     have:=hs (i+1) v' ys' S' (by simpa using hi) (by rw[show n+(i+1)=n+1+i by omega];exact hp)
     rw[show n+(i+1)+1=n+1+i+1 by omega] at this
     exact this)
    rw[show n+1+vs.length=n+(v ::vs).length by rw[List.length_cons];omega] at this
    exact this
   unfold lR
   rw[e1]
   refine W3.bind ⟨b,S1,e2,?_⟩
   cases b with
   | true=>
     rw[if_pos rfl] at h2 ⊢
     exact W3.bind (h2.mono fun y S2 p=>W3.bind ((ih p).mono fun zs S3 q=>W3.ok (by rw[List.append_assoc] at q;exact q)))
   | false=>rw [if_neg (by decide)] at h2 ⊢;exact ih h2
theorem sS{t:FG}{c:FB}{f:FX}{δ:DE}{vs:List V3}(P:Nat→List V3→aN→Prop){S:aN}(h0:P 0 [] S)
 (hs:∀i v ys S,vs[i]? =some v→P i ys S→∃δ1,t v δ=some δ1∧W3 (c δ1 S) fun b S1=>if b then W3 (f δ1 S1) fun y S2=>P (i+1) (ys++[y]) S2 else P (i+1) ys S1):W3 (lR t c f δ vs S) fun zs S1=>P vs.length zs S1:=by
 have:=q_ (t:=t) (c:=c) (f:=f) (δ:=δ) vs 0 P h0 (fun i v ys S hi hp=>by simpa using hs i v ys S hi (by simpa using hp))
 simpa using this
theorem tJ{QB:Bool→aN→Prop}(h:QB true S):W3 (sH δ S) QB:=W3.ok h
theorem sQ{N:List Str}{F:FZ}{vs:List V3}{δ:DE}(e:bS N vs=δ)(h:W3 (F δ S) fun o S1=>∃v,o= .rt v∧QV v S1):W3 (mr N F vs S) QV:=by
 subst e
 exact W3.bind (h.mono fun _ _ ⟨_,e,q⟩=>by subst e;exact W3.ok q)
noncomputable def Le(S:aN):Prop:=∀o∈S,∃ds,o=SO.lst ds
end
end L3
namespace L3
open PySem PySem.Spec PyProof.Rows L2
section
variable {S:aN} {δ:DE} {QV:V3→aN→Prop}
theorem md{it:FA}{t:FG}{c:FB}{f:FX}{own:List Str}{kp:List Nat}(P:Nat→List D→aN→Prop)(h:W3 (it δ S) fun vs S1=>vs.length≤sizeLine∧P 0 [] S1∧
 (∀i v ds S2,vs[i]? =some v→P i ds S2→∃δ1,t v (f9 own kp δ)=some δ1∧W3 (c δ1 S2) fun b S3=>if b then W3 (f δ1 S3) fun y S4=>∃d,y= .d d∧P (i+1) (ds++[d]) S4 else P (i+1) ds S3)∧
 ∀ds S2,P vs.length ds S2→QV (.d (.lst ds)) S2):W3 (jm it t c f own kp δ S) QV:=by
 refine A3 (h.mono fun vs S1 ⟨hl,h0,hs,hq⟩=>⟨hl,?_⟩)
 refine(sS (fun i ys S=>∃ds,ys=ds.map V3.d∧P i ds S) ⟨[],rfl,h0⟩ ?_).mono fun zs S2 ⟨ds,e,p⟩=>?_
 ·rintro i v ys S2 hv ⟨ds,rfl,p⟩
  obtain⟨δ1,e1,h1⟩:=hs i v ds S2 hv p
  refine⟨δ1,e1,h1.mono fun b S3 h3=>?_⟩
  cases b with
  | true=>
    rw[if_pos rfl] at h3 ⊢
    exact h3.mono fun y S4 ⟨d,e,p⟩=>by subst e;exact⟨ds++[d],by simp,p⟩
  | false=>rw [if_neg (by decide)] at h3 ⊢;exact⟨ds,rfl,h3⟩
 ·subst e
  unfold jt
  rw[qP]
  exact hq ds S2 p
structure dY (n:Nat) (d:D):Prop where
 pl:eT d=true
 ly:(toPy d).canLay0=true
 dp:(toPy d).depth≤n
theorem dY.int(i:Int):dY 0 (.int i):=⟨by unfold eT;rfl,by unfold toPy PyData.canLay0;rfl,by unfold toPy PyData.depth;omega⟩
theorem dY.bl(b:Bool):dY 0 (.bl b):=⟨by unfold eT;rfl,by unfold toPy PyData.canLay0;rfl,by unfold toPy PyData.depth;omega⟩
theorem dY.str{s:Str}(h:(PyData.str s).canLay0=true):dY 0 (.str s):=⟨by unfold eT;rfl,by unfold toPy;exact h,by unfold toPy PyData.depth;omega⟩
theorem dY.mono{n m:Nat}{d:D}(h:dY n d)(hm:n≤m):dY m d:=⟨h.pl,h.ly,Nat.le_trans h.dp hm⟩
theorem dY.all{n:Nat}:∀{ds:List D},(∀d∈ds,dY n d)→jI ds=true∧PyData.canLayAll0 (kR ds)=true∧PyData.depthAll (kR ds)≤n
 | [],_=>⟨by unfold jI;rfl,by unfold kR PyData.canLayAll0;rfl,by unfold kR PyData.depthAll;omega⟩
 | d ::ds,h=>by
   obtain⟨h1,h2,h3⟩:=dY.all (ds:=ds) fun x hx=>h x (List.mem_cons_of_mem _ hx)
   have f:=h d List.mem_cons_self
   refine⟨by unfold jI;rw [f.pl,h1];rfl,by unfold kR PyData.canLayAll0;rw [f.ly,h2];rfl,?_⟩
   unfold kR PyData.depthAll
   have:=f.dp
   omega
theorem dY.lst{n:Nat}{ds:List D}(h:∀d∈ds,dY n d):dY (n+1) (.lst ds):=by
 obtain⟨h1,h2,h3⟩:=dY.all h
 exact⟨by unfold eT;exact h1,by unfold toPy PyData.canLay0;exact h2,by unfold toPy PyData.depth;omega⟩
theorem dY.tup{n:Nat}{ds:List D}(h:∀d∈ds,dY n d):dY (n+1) (.tup ds):=by
 obtain⟨h1,h2,h3⟩:=dY.all h
 exact⟨by unfold eT;exact h1,by unfold toPy PyData.canLay0;exact h2,by unfold toPy PyData.depth;omega⟩
theorem dY.sh{n:Nat}{d:D}(h:dY n d)(hn:n≤64):SeqAt.shaped (toPy d)=true:=by
 unfold SeqAt.shaped
 rw[h.ly,decide_eq_true (Nat.le_trans h.dp hn)]
 rfl
theorem uS{d e:List D}:zg (.lst d) (.lst e)=R.bV (eT (.lst d) && eT (.lst e) && SeqAt.shaped (toPy (.lst d)) && SeqAt.shaped (toPy (.lst e))) (.ok (PyData.eqv (toPy (.lst d)) (toPy (.lst e)))):=rfl
theorem A_{d e:List D}:zg (.tup d) (.tup e)=R.bV (eT (.tup d) && eT (.tup e) && SeqAt.shaped (toPy (.tup d)) && SeqAt.shaped (toPy (.tup e))) (.ok (PyData.eqv (toPy (.tup d)) (toPy (.tup e)))):=rfl
theorem dY.eqT{n:Nat}{ds:List D}(h:dY n (.tup ds))(hn:n≤64):zg (.tup ds) (.tup ds)= .ok true:=by
 rw[A_,h.pl,h.sh hn,SeqAt.eqv_refl _ h.ly]
 rfl
theorem dY.Kx{n:Nat}{ds:List D}(h:dY n (.lst ds))(hn:n≤64):zg (.lst ds) (.lst ds)= .ok true:=by
 rw[uS,h.pl,h.sh hn,SeqAt.eqv_refl _ h.ly]
 rfl
end
end L3
namespace L3
open PySem PySem.Spec PyProof.Rows L2
theorem CH{α:Type}(ds:List α){n:Int}(h:0≤n):L2.cutD ds none (some n)=ds.take n.toNat:=by
 obtain⟨k,rfl⟩:=Int.eq_ofNat_of_zero_le h
 unfold L2.cutD
 rw[HT.vw,HT.y3,List.drop_zero,Nat.sub_zero,Int.toNat_natCast]
 by_cases hk:k≤ds.length
 ·rw[Nat.min_eq_left hk]
 ·rw[Nat.min_eq_right (by omega),List.take_of_length_le (Nat.le_refl _),List.take_of_length_le (by omega)]
end L3
end
section
set_option maxRecDepth 100000
set_option maxHeartbeats 4000000
namespace L2
open PySem PySem.Spec PyProof.Rows
section
variable {X:Cx}
noncomputable def Fe:D→Bool | .di=>true | _=>false
noncomputable def Mu(d e:D):R D:=match e with | .di=> .ok (.bl (Fe d)) | _=> .no
noncomputable def Md(d e:D):R D:=match e with | .di=> .ok (.bl (!Fe d)) | _=> .no
noncomputable def IM:List D→R D
 | [.str x]=>R.bV (decide (x.length≤640)) (match PySem.intText? x with | some n=> .ok (.int n) | none=> .no)
 | _=> .no
noncomputable def KW(ds:List D):R D:=match ds with | [.str _]=>IM ds | _=>cInt ds
noncomputable def Iq(f:FD):FD:=fun δ=>(f δ).bind fun d=>match d with | .int i=> .ok (.int (-i)) | _=> .no
theorem Dj{a:Expr}{f:FD}{pos:Pos}(h:QD X a f):QD X (.UnaryOp .USub a pos) (Iq f):=⟨(EX GL h.1).imp fun σ H Q ⟨Z,B,δ,d,E,hf,q⟩=>by
 obtain⟨d1,h1,h2⟩:=R.ao hf
 split at h2
 ·cases h2
  exact⟨Z,B,δ,_,E,h1,fun v H1 s1 r1=>⟨_,Rep.int.mp r1,q _ H1 s1 (Rep.int.mpr rfl)⟩⟩
 ·cases h2⟩
noncomputable def Kz(d:D)(ds:List D):R D:=match d,ds with
 | .str x,[.str y]=> .ok (.int (Txt.find x y))
 | _,_=> .no
noncomputable def L_(kvs:List (Str × Str)):D:= .dct (kvs.map fun p=>Sum.inr p.1) (kvs.map fun p=> .str p.2)
noncomputable def Mj(kvs:List (Str × Str)):List (Key × V):=kvs.map fun p=>((Sum.inr p.1:Key),V.str p.2)
noncomputable def Lj(d k:D):R D:=match d,k with
 | .dct ks ds, .str x=>(match (ks.zip ds).find? fun p=>decide (p.1=Sum.inr x) with | some p=> .ok p.2 | none=> .no)
 | _,_=> .no
end
theorem Im{P:Program}{w:World}{K:PySem.W.Frag}{mg:Str→Option Value}{base:Heap}{k n:Nat}{f:Addr}{fd:FuncData}{ps:List Str}:iY P w K mg base sC k f fd ps (BY K n fun _=> .no):=
 ⟨fun vs H Q E h=>(by obtain⟨_,_,_,_,_,_,h,_⟩:=h;cases h),fun A outer s H args us vs Q E _ _ _ _ h=>(by obtain⟨_,_,_,_,_,_,h,_⟩:=h;cases h)⟩
end L2
namespace L3
open PySem PySem.Spec PyProof.Rows L2
section
variable {X:Cx} {cl:Nat→Addr}
noncomputable def Kn(f:FX):FB:=fun δ S=>(f δ S).bind fun v S=>match v with | .d (.bl b)=> .ok b S | _=> .no
theorem Gq{f:FX}{δ:DE}{S S':aN}{b:Bool}(h:Kn f δ S= .ok b S'):f δ S= .ok (.d (.bl b)) S':=by
 obtain⟨v,S1,h1,h2⟩:=R3.ao h
 split at h2
 ·cases h2;exact h1
 ·cases h2
noncomputable def FJ(f g:FX):FX:=fun δ S=>(Kn f δ S).bind fun b S=>if b then g δ S else .ok (.d (.bl false)) S
noncomputable def Mw(f g:FX):FX:=fun δ S=>(Kn f δ S).bind fun b S=>if b then .ok (.d (.bl true)) S else g δ S
theorem F9{a:Expr}{op}{f:FX}{pos:Pos}(h:PX X cl a f):PX X cl (.BoolOp op [a] pos) f:=⟨FL h.1⟩
theorem F7{a b:Expr}{rest:List Expr}{f g:FX}{pos:Pos}(ha:PX X cl a f)(hb:PX X cl (.BoolOp .And (b ::rest) pos) g):PX X cl (.BoolOp .And (a ::b ::rest) pos) (FJ f g):=⟨(Hm ha.1 hb.1).imp fun σ H Q ⟨ρ,S,δ,k,S',E,hf,q⟩=>by
 obtain⟨c,S1,h1,h2⟩:=R3.ao hf
 refine⟨ρ,S,δ, .d (.bl c),S1,E,Gq h1,fun v ρ1 H1 p1 w1 r1=>⟨c,by unfold bf Rep at r1;exact r1,?_⟩⟩
 cases c with
 | true=>rw [if_pos rfl] at h2 ⊢;exact⟨ρ1,S1,δ,k,S',E.to p1 w1,h2,fun v ρ2 H' p2 w2 r2=>q v ρ2 H' (p1.trans p2) w2 r2⟩
 | false=>rw [if_neg (by decide)] at h2 ⊢;cases h2;exact q _ ρ1 H1 p1 w1 (by unfold bf Rep;rfl)⟩
theorem w_and{f g:FX}{δ:DE}{S:aN}{Q:V3→aN→Prop}(h:W3 (f δ S) fun v S1=>v= .d (.bl true)∧W3 (g δ S1) Q):W3 (FJ f g δ S) Q:=W3.bind (W3.bind (h.mono fun v S1 ⟨e,h2⟩=>by subst e;exact W3.ok (by rw[if_pos rfl];exact h2)))
noncomputable def zG(i:Nat)(F:FZ):FZ:=fun δ S=>match gI δ i with
 | some k=>(match cJ S k with | some ds=>F (δ.set i (some (.d (.lst ds)))) (S.set k .iH) | none=> .no)
 | none=> .no
theorem zC(i:Nat){sts:List Stmt}{F:FZ}(h:As X cl sts F):As X cl sts (zG i F):=⟨h.1.imp fun D σ H ⟨ρ,S,δ,o,S',E,hf,q⟩=>by
 unfold zG at hf
 split at hf
 ·rename_i k hk
  split at hf
  ·rename_i ds hds
   obtain⟨v,v1,v2⟩:=E.val i _ (kQ hk)
   unfold bf at v2
   obtain⟨a,a1,rfl⟩:=v2
   obtain⟨w,p,r⟩:=E.sw.iH a1 (dC hds)
   have E1:fP X.K cl ⟨ρ.r,ρ.z,a ::ρ.f⟩ H (S.set k .iH) σ (δ.set i (some (.d (.lst ds)))):=⟨by rw[List.length_set];exact E.len,w,fun j d e=>by
    by_cases h:i=j
    ·subst h
     rw[List.getElem?_set_self (by obtain⟨h1,_⟩:=List.getElem?_eq_some_iff.mp (kQ hk);exact h1)] at e
     cases e
     exact⟨_,v1,by unfold bf;exact r⟩
    ·rw[List.getElem?_set_ne h] at e
     obtain⟨u,u1,u2⟩:=E.val j d e
     exact⟨u,u1,u2.pre p⟩⟩
   exact⟨_,_,_,o,S',E1,hf,q.pre p⟩
  ·cases hf
 ·cases hf⟩
theorem E5{i k:Nat}{ds:List D}{F:FZ}{δ:DE}{S:aN}{QO:Ou→aN→Prop}(hk:δ[i]? =some (some (.loc k)))(hS:S[k]? =some (.lst ds))(h:W3 (F (δ.set i (some (.d (.lst ds)))) (S.set k .iH)) QO):W3 (zG i F δ S) QO:=by
 unfold zG
 have e1:gI δ i=some k:=by unfold gI;rw [hk]
 have e2:cJ S k=some ds:=by unfold cJ;simp only[hS]
 simp only[e1,e2]
 exact h
end
noncomputable def Flat(S:aN):Prop:=∀o∈S,∀n,mC n o=true
theorem Flat.all{S:aN}(h:Flat S)(n:Nat):(S.take n).all (mC n)=true:=List.all_eq_true.mpr fun o ho=>h o (List.mem_of_mem_take ho) n
theorem Flat.set{S:aN}(h:Flat S)(k:Nat){x:SO}(hx:∀n,mC n x=true):Flat (S.set k x):=fun o ho=>by
 rcases List.mem_or_eq_of_mem_set ho with z | z
 ·exact h o z
 ·rw[z];exact hx
theorem Flat.push{S:aN}(h:Flat S){x:SO}(hx:∀n,mC n x=true):Flat (S++[x]):=fun o ho=>by
 rcases List.mem_append.mp ho with z | z
 ·exact h o z
 ·rw[List.mem_singleton.mp z];exact hx
theorem Flat.take{S:aN}(h:Flat S)(n:Nat):Flat (S.take n):=fun o ho=>h o (List.mem_of_mem_take ho)
theorem tQ{N:List Str}{F:FZ}{vs:List V3}{S:aN}{QV:V3→aN→Prop}(h:W3 (mr N F vs S) fun v S1=>Flat S1∧gQ S.length v=true∧∃d,res S1 v=some d∧QV (.d d) (S1.take S.length)):W3 (nE N F vs S) QV:=
 W3.bind (h.mono fun v S1 ⟨hl,hg,d,e,q⟩=>by
  rw[e]
  exact W3.wh (by rw[hl.all,hg];rfl) (W3.ok q))
end L3
end
section
set_option maxRecDepth 100000
set_option maxHeartbeats 4000000
namespace PySem
open Sem (wp)
open AutoSeq1 (wpAny_loadPart')
section
variable {prog:Program} {w:World} {A:Around} {E:Value→Shared→Prop} {s:Shared}
end
end PySem
namespace L2
open PySem PySem.Spec PyProof.Rows
section
variable {X:Cx}
noncomputable def Jh(f:FD):FD:=fun δ=>(f δ).bind fun d=>match d with
 | .int j=>R.bV (decide (-(2 ^ 62)≤j∧j < 16777216)) (.ok (.tup (e_ 0 j.toNat)))
 | _=> .no
end
end L2
end
section
set_option maxRecDepth 100000
set_option maxHeartbeats 4000000
namespace PySem
open Sem (wp)
open AutoSeq1 (wpAny_loadPart')
section
variable {prog:Program} {w:World} {A:Around} {E:Value→Shared→Prop} {s:Shared}
theorem k9{it l:Addr}{i:Nat}{items:Array Value}{x:Value}{Q:Value→Shared→Prop}(hit:s.heap.IsTupleIter it l i)(hl:s.heap.IsTuple l items)(hx:items[i]? =some x)
 (hQ:∀h',h'.IsTupleIter it l (i+1)→Heap.SameBut it s.heap h'→Q x {s with heap:=h'}):wpAny (model prog w) A (Builtin.SmallTypes.nextOf (.ref it)) Q E s:=by
 obtain⟨o,ho,hc,hd⟩:=id hit;obtain⟨ol,hol,_,nl,hdl⟩:=hl
 unfold Builtin.SmallTypes.nextOf
 refine wpAny_bind (wpAny_callSpecial?_slot (name:=Str.ofString "__next__") hit.typeIs F.slot_tuple_iterator_next (wpAny_call_entry F.slot_tuple_iterator_next hit.typeIs F.entry_tuple_iterator_next ?_ (F.args_tuple_iterator_next_1 _)))
 show wpAny _ _ (field (.ref it) 0 >>=_) _ _ s;refine wpAny_bind (wpAny_field ho hd (x:= .ref l) rfl ?_)
 show wpAny _ _ (if(Value.ref l==Value.none)=true then _ else _) _ _ s;rw [if_neg (show ¬((Value.ref l==Value.none)=true) from Bool.false_ne_true)]
 show wpAny _ _ (field (.ref it) 1 >>=_) _ _ s;refine wpAny_bind (wpAny_field ho hd (x:= .int i 0) rfl ?_)
 show wpAny _ _ (seqItems? (.ref l) >>=_) _ _ s;refine wpAny_bind (wpAny_seqItems hol hdl ?_)
 simp only[Int.toNat_natCast,hx]
 refine wpAny_bind (wpAny_setField ho hd (by simp) (wpAny_pure ⟨x,rfl,wpAny_pure (hQ _ ⟨_,Heap.get?_update_self _ ho (Obj.isFreed_of_fields (Obj.data_mapFields hd _)),(Obj.cls_mapFields ..).trans hc,by rw[Obj.data_mapFields hd];simp [rawInt]⟩ (Heap.SameBut.update ..))⟩))
theorem jn{it l:Addr}{i:Nat}{items:Array Value}{Q:Value→Shared→Prop}(hh:A.handled=none)(hit:s.heap.IsTupleIter it l i)(hl:s.heap.IsTuple l items)(hx:items[i]? =none)
 (hE:∀h' e,Heap.ExtBut it s.heap h'→(∃o,h'.get? e=some o∧o.cls= .type "StopIteration")→E (.ref e) {s with heap:=h'}):wpAny (model prog w) A (Builtin.SmallTypes.nextOf (.ref it)) Q E s:=by
 obtain⟨o,ho,hc,hd⟩:=id hit;obtain⟨ol,hol,_,nl,hdl⟩:=hl
 unfold Builtin.SmallTypes.nextOf
 refine wpAny_bind (wpAny_callSpecial?_slot (name:=Str.ofString "__next__") hit.typeIs F.slot_tuple_iterator_next (wpAny_call_entry F.slot_tuple_iterator_next hit.typeIs F.entry_tuple_iterator_next ?_ (F.args_tuple_iterator_next_1 _)))
 show wpAny _ _ (field (.ref it) 0 >>=_) _ _ s;refine wpAny_bind (wpAny_field ho hd (x:= .ref l) rfl ?_)
 show wpAny _ _ (if(Value.ref l==Value.none)=true then _ else _) _ _ s;rw [if_neg (show ¬((Value.ref l==Value.none)=true) from Bool.false_ne_true)]
 show wpAny _ _ (field (.ref it) 1 >>=_) _ _ s;refine wpAny_bind (wpAny_field ho hd (x:= .int i 0) rfl ?_)
 show wpAny _ _ (seqItems? (.ref l) >>=_) _ _ s;refine wpAny_bind (wpAny_seqItems hol hdl ?_)
 simp only[Int.toNat_natCast,hx]
 refine wpAny_bind (wpAny_rule (wpAny_bind (wpAny_setField ho hd (by simp) ?_)))
 show wpAny _ _ (newExc (.type "StopIteration") [] >>=_) _ _ _;refine wpAny_bind ?_;simp only[newExc,newTuple]
 refine wpAny_bind (wpAny_newObj_type ?_ (by size_fits))
 refine wpAny_bind (m:=firstArgMember _ _) (wpAny_of_eq (a:=Value.none) (by first | rfl | (simp only[firstArgMember];rfl)) ?_);refine wpAny_newObj_type ?_ (by size_fits)
 simp only[raiseNew];refine wpAny_bind (wpAny_handled ?_)
 first | rw[show A.in1.handled=none from hh] | rw[hh]
 exact wpAny_bind (wpAny_pure (wpAny_throw (hE _ _ (((Heap.SameBut.update ..).extBut.push _).push _) ⟨_,Heap.get?_push_size _ rfl,rfl⟩)))
end
theorem Ap{prog:Program}{w:World}{A:Around}(hh:A.handled=none)(it l:Addr)(hne:l≠it)(items:Array Value) :
 Draws prog w A it [it,l] items.size (fun i v=>items[i]? =some v) (fun i h=>h.IsTupleIter it l i∧h.IsTuple l items) where
 live:=fun _ _ st=>let⟨o,ho,_⟩:=st.1;⟨o,ho⟩
 frame:=fun _ _ _ st hk=>⟨st.1.at fun o e=>hk it (by simp) o e,Heap.IsTuple.at st.2 fun o e=>hk l (by simp) o e⟩
 item:=fun i s Q E hi st hQ=>k9 st.1 st.2 (x:=items[i]) (by simp [hi]) fun h' hit' hs'=>hQ _ h' s.toks (by simp [hi]) ⟨hit',st.2.extBut hs'.extBut hne⟩ hs'
 done:=fun s Q E st hE=>jn hh st.1 st.2 (by simp) hE
theorem pZ(l:Addr)(items:Array Value)(o:Obj)(n:Nat)(hc:o.cls= .type "tuple")(hd:o.data= .seq items n) :
 Meets (Builtin.«enumerate.__new__» ⟨[.type "enumerate", .ref l],[]⟩) (fun _ R s=>s.heap.get? l=some o∧
  R (.ok (.ret (.ref (s.heap.push {cls:= .type "tuple_iterator",data:= .fields #[.ref l, .int 0 0]}).objs.size)))
   {s with heap:=(s.heap.push {cls:= .type "tuple_iterator",data:= .fields #[.ref l, .int 0 0]}).push {cls:= .type "enumerate",data:= .fields #[.none, .bool false, .ref s.heap.objs.size,rawInt 0, .none, .none]}}):=
 .of_wp fun prog w A R s h=>by
  obtain⟨hp,g,d,tk,os⟩:=s;obtain⟨hl,h⟩:=h
  have hsub:=sub_enumerate
  have hL:Heap.IsTuple (Shared.heap ⟨hp,g,d,tk,os⟩) l items:=⟨_,hl,hc,n,hd⟩
  wp_walk using wpAny_loadPart' hl
  refine wpAny_stack_any fun st=>wpAny_pure ?_
  split
  ·rename_i c _ _ _ _ _
   cases(c==Value.type "enumerate") <;> (wp_walk using wpAny_loadPart' hl,wpAny_pyIter_tuple hL;exact⟨_,rfl,h⟩)
  ·wp_walk using wpAny_loadPart' hl,wpAny_pyIter_tuple hL
   exact⟨_,rfl,h⟩
theorem xV{prog:Program}{w:World}{A:Around}{E:Value→Shared→Prop}{s:Shared}{l:Addr}{items:Array Value}{Q:Value→Shared→Prop}(hL:s.heap.IsTuple l items)
 (h:∀h':Heap,IsEnum h' (s.heap.objs.size+1) s.heap.objs.size 0 .none→h'.IsTupleIter s.heap.objs.size l 0→(∀b o,s.heap.get? b=some o→h'.get? b=some o)→Q (.ref (s.heap.objs.size+1)) {s with heap:=h'}) :
 wpAny (model prog w) A (call (.type "enumerate") [.ref l]) Q E s:=by
 obtain⟨o,hl,hc,n,hd⟩:=hL
 refine callType_new F.called_enumerate (by decide) (F.typeCall_enumerate_1 _) (F.newCall_enumerate_1 _) (fun obj=>F.args_object_init_2 obj _) F.entry_enumerate_new (pZ l items o n hc hd) ⟨hl,?_⟩
 have hz:(s.heap.push {cls:= .type "tuple_iterator",data:= .fields #[.ref l, .int 0 0]}).objs.size=s.heap.objs.size+1:=Heap.size_push ..
 show _∧_;rw [hz]
 have he:IsEnum ((s.heap.push {cls:= .type "tuple_iterator",data:= .fields #[.ref l, .int 0 0]}).push {cls:= .type "enumerate",data:= .fields #[.none, .bool false, .ref s.heap.objs.size,rawInt 0, .none, .none]}) (s.heap.objs.size+1) s.heap.objs.size 0 .none:=by
  have:=Heap.get?_push_size (s.heap.push {cls:= .type "tuple_iterator",data:= .fields #[.ref l, .int 0 0]}) (o:={cls:= .type "enumerate",data:= .fields #[.none, .bool false, .ref s.heap.objs.size,rawInt 0, .none, .none]}) rfl
  rw[hz] at this;exact this
 exact⟨⟨_,he,rfl⟩,h _ he ⟨_,Heap.get?_push_of_some _ (Heap.get?_push_size _ rfl),rfl,rfl⟩ fun b o x=>Heap.get?_push_of_some _ (Heap.get?_push_of_some _ x)⟩
end PySem
namespace L2
open PySem PySem.Spec PyProof.Rows
noncomputable def JG(K:PySem.W.Frag)(a:Addr):It:=
 ⟨fun i H=>∃xs x,pE K H a xs∧xs[i]? =some x,fun i H v H'=>∃p x,H p=none∧v= .ref p∧(∀xs,pE K H a xs→xs[i]? =some x)∧H'=upd H p (.tup [.int i,x]),fun i H=>∃xs,pE K H a xs∧xs.length≤i⟩
theorem xr{P:Program}{w:World}{K:PySem.W.Frag}{elts:List Expr}{k:Nat}{pos:Pos}(a e it:Addr)(hei:e≠it):Turn P w K (.Tuple elts k pos) (JG K a) [e,it] e (fun i h=>(∃old,IsEnum h e it ((i:Nat):Int) old)∧h.IsTupleIter it a i) where
 mem:=by simp
 obj:=fun i h st b hb=>by
  obtain⟨⟨old,he⟩,o,ho,c,d⟩:=st
  rcases List.mem_cons.mp hb with rfl | hb
  ·exact⟨_,he,fun v z=>by cases z⟩
  ·have e:b=it:=by simpa using hb
   subst e
   exact⟨o,ho,fun v z=>by rw[d] at z;cases z⟩
 keep:=fun i h h' st k=>by
  obtain⟨⟨old,he⟩,hi⟩:=st
  exact⟨⟨old,k e (by simp) _ he⟩,hi.at fun o x=>k it (by simp) o x⟩
 item:=by
  intro X hP hw hK hc i pins s σ H E I hf st hg
  subst hP hw hK
  obtain⟨xs,x,hq,hx⟩:=hg
  obtain⟨its,rv,p,hz⟩:=I.tuple hq
  have p':s.heap.IsTuple a its.toArray:=p
  obtain⟨u,hu,ru⟩:=rv.get hx
  obtain⟨⟨old,he⟩,hit⟩:=st
  obtain⟨f0,f1,f2,f3,f4,f5⟩:=hf e (by simp)
  obtain⟨g0,g1,g2,g3,g4,g5⟩:=hf it (by simp)
  have ha_it:a≠it:=fun z=>by
   obtain⟨o1,h1,c1,_⟩:=p'
   obtain⟨o2,h2,c2,_⟩:=hit
   rw[z,h2] at h1;cases h1
   rw[c2] at c1;exact absurd c1 (by decide)
  have ha_e:e ∉ [it,a]:=fun z=>by
   rcases List.mem_cons.mp z with q | q
   ·exact hei q
   ·have q:e=a:=by simpa using q
    obtain⟨o1,h1,c1,_⟩:=p'
    rw[←q,he] at h1;cases h1
    exact absurd (show Value.type "enumerate"=Value.type "tuple" from c1) (by decide)
  refine wpAny_pyNext_enum_itemD (Ap (A:=X.A.in1) (I.ok.hd hc) it a ha_it its.toArray) he ⟨hit,p'⟩ (by have:=(List.getElem?_eq_some_iff.mp hu).1;simpa using this) hei ha_e fun u2 h₁ tk hu2 heo st₁ ht₁ hz₁ hk₁=>⟨_,rfl,?_⟩
  obtain rfl:u2=u:=by
   have h1:its[i]? =some u2:=by simpa using hu2
   rw[hu] at h1;cases h1;rfl
  obtain⟨hit₁,_⟩:=st₁
  refine wpAny_letOwnedTupleGo_enum heo fun h₂ he₂ hs₂=>?_
  replace hs₂:Heap.SameBut e h₁ h₂:=hs₂
  have hel:e < s.heap.objs.size:=Heap.lt_size he
  have ht₂:h₂.get? s.heap.objs.size=some {cls:= .type "tuple",data:= .seq #[.int i tk,u2]}:=(hs₂.2 _ (Nat.ne_of_gt hel)).trans ht₁
  have kk:∀b o,b≠e→b≠it→s.heap.get? b=some o→h₂.get? b=some o:=fun b o h1 h2 q=>(hs₂.2 b h1).trans (hk₁ b o h1 h2 q)
  have hn:H s.heap.objs.size=none:=I.fresh
  have sm:a_ H (upd H s.heap.objs.size (.tup [.int i,x])):=aP hn
  have nit:∀b o,H b=some o→b≠e∧b≠it:=fun b o q=>⟨fun z=>(by rw[z,f0] at q;cases q),fun z=>(by rw[z,g0] at q;cases q)⟩
  have hok:mJ X.prog X.w (upd H s.heap.objs.size (.tup [.int i,x])) h₂:=fun b ob q=>by
   by_cases hb:b=s.heap.objs.size
   ·subst hb
    rw[aT] at q
    cases q
    exact⟨by show 2≤sizeLine;decide,[.int i tk,u2], .cons ⟨_,rfl⟩ (.cons ru .nil),⟨_,ht₂,rfl,_,rfl⟩⟩
   ·rw[bq hb] at q
    refine(I.hok b ob q).uB (fun c v hc z=>?_) (fun c z=>sm c _ z) fun c ys z=>sm c _ z
    rcases hc with rfl | hc
    ·exact kk c v (nit c _ q).1 (nit c _ q).2 z
    ·exact kk c v (nit c _ hc).1 (nit c _ hc).2 z
  have nch:∀b,b ∉ [e,it]→b≠e∧b≠it:=fun b hb=>⟨fun z=>hb (by simp [z]),fun z=>hb (by simp [z])⟩
  have I2:Inv X pins σ (upd H s.heap.objs.size (.tup [.int i,x])) {s with heap:=h₂,toks:=tk+1}:=by
   refine I.step (g':=s.gens) (d':=s.drawn) (ch:=[e,it]) (fun b hb=>?_) (fun b o _ _ hb q _=>kk b o (nch b hb).1 (nch b hb).2 q) (fun b o _ _ hb q _=>⟨o.slots,kk b o (nch b hb).1 (nch b hb).2 q⟩)
    (fun b o hb q n=>by rw[bq (Nat.ne_of_lt (Heap.lt_size q))];exact n) (fun b o hb q=>⟨o,kk b o (nch b hb).1 (nch b hb).2 q⟩) (fun b ys z=>sm b _ z) (fun b o u z=>sm b _ z) (fun b ps z=>⟨#[],by rw[sm b _ z];simp⟩) (fun m hm=>?_) hok I.bare
   ·rcases List.mem_cons.mp hb with rfl | hb
    ·exact⟨f3,f1,f4,f5⟩
    ·have z:b=it:=by simpa using hb
     subst z
     exact⟨g3,g1,g4,g5⟩
   ·obtain⟨o,es,ep,ho,r⟩:=hm
    exact⟨o,es,ep,kk _ o (Ne.symm f1) (Ne.symm g1) ho,r⟩
  refine⟨.ref s.heap.objs.size,_,I2,rfl,⟨s.heap.objs.size,x,hn,rfl,fun ys hy=>(by rw[I.oQ hy hq];exact hx),rfl⟩,⟨⟨_,by simpa using he₂⟩,hit₁.at fun o q=>(hs₂.2 it (Ne.symm hei)).trans q⟩,fun b hb=>?_⟩
  rcases List.mem_cons.mp hb with rfl | hb
  ·rw[bq (Nat.ne_of_lt hel)];exact f0
  ·have z:b=it:=by simpa using hb
   subst z
   obtain⟨o,ho,_⟩:=hit
   rw[bq (Nat.ne_of_lt (Heap.lt_size ho))];exact g0
 done:=by
  intro X hP hw hK hc i pins s σ H E I hf st hg
  subst hP hw hK
  obtain⟨xs,hq,hx⟩:=hg
  obtain⟨its,rv,p,hz⟩:=I.tuple hq
  have p':s.heap.IsTuple a its.toArray:=p
  obtain⟨⟨old,he⟩,hit⟩:=st
  obtain⟨g0,g1,g2,g3,g4,g5⟩:=hf it (by simp)
  have hl:=rv.length
  have hT:s.TypeIs (.ref e) "enumerate":=⟨_,he,rfl⟩
  unfold pyNext
  refine wpAny_bind (wpAny_attempt (wpAny_callSpecial?_slot (name:=Str.ofString "__next__") hT F.slot_enumerate_next (wpAny_call_entry F.slot_enumerate_next hT F.entry_enumerate_next ?_ (F.args_enumerate_next_1 _))))
  show wpAny _ _ (field (.ref e) 2 >>=_) _ _ _;refine wpAny_bind (wpAny_field he rfl (x:= .ref it) rfl ?_)
  refine wpAny_bind (jn (A:=X.A.in1) (I.ok.hd hc) hit p' (by simp;omega) fun h' x he' hx'=>?_)
  obtain⟨o,ho,hcl⟩:=hx'
  refine wpAny_bind (wpAny_isInstance (T:="StopIteration") (b:=true) ⟨o,ho,hcl⟩ isSubtype_stop ?_)
  exact wpAny_pure ⟨rfl,I.turned (t':=s.toks) (fun b o hb q=>he' b o hb q) g0 g1 g3 g4 g5⟩
 self:=fun A i s Q E st h=>let⟨⟨_,he⟩,_⟩:=st;wpAny_pyIter_enum he h
section
variable {X:Cx}
noncomputable def um(f:FD):ax→R (List D):=fun δ=>(f δ).bind fun d=>match d with | .tup ds=> .ok (cG ds) | _=> .no
theorem xE{elts:List Expr}{k:Nat}{tpos:Pos}{a:Expr}{f:FD}{p pos:Pos}(h:QD X a f)(hg:Gl X "enumerate")(hm:X.mg "enumerate"=none)(hs:starEach [a] X.env=[(false,eval a X.env)]:=by rfl):wZ X (.Tuple elts k tpos) (.Call (.Name "enumerate" p) [a] [] pos) (um f):=by
 refine⟨?_⟩
 intro pins s σ H RR I ⟨Z,B,δ,ds,E,hf,q⟩
 obtain⟨d,h1,h2⟩:=R.ao hf
 have hA:=dJ h.1 gu hs pos pins s σ H (fun vs H1=>a_ H H1∧∃v,vs=[v]∧Rep X.K B H1 d v) I ⟨Z,B,δ,d,E,h1,fun v H1 s1 r1=>⟨s1,v,rfl,r1⟩⟩
 refine Call_ (ko I hg hm boot_enumerate (PyProof.Rows.callWith_type1 (eg hA fun us s1 ⟨vs,H1,I1,r1,ss,v,ev,rr⟩=>?_) hs rfl))
 subst ev
 obtain⟨u,rfl,ru⟩:=vals1 r1
 cases d with
 | tup es=>
   cases h2
   obtain⟨b,xs,rfl,l,rs⟩:=Rep.tup.mp rr
   cases ru
   obtain⟨its,rv,pt,hz⟩:=I1.tuple l.sq
   refine xV (items:=its.toArray) pt fun h' he hit kk=>wpAny_pyIter_enum he ?_
   have I2:Inv X pins σ H1 {s1 with heap:=h'}:=I1.kept (t':=s1.toks) kk
   refine⟨s1.heap.objs.size+1,[s1.heap.objs.size+1,s1.heap.objs.size],_,_,H1,rfl,I2,xr b (s1.heap.objs.size+1) s1.heap.objs.size (Nat.succ_ne_self _),⟨⟨_,he⟩,hit⟩,fun c hc=>?_,q _ H1 ss fun B' H' pr=>?_⟩
   ·have hle:s1.heap.objs.size≤c:=by
     rcases List.mem_cons.mp hc with z | hc
     ·rw[z];exact Nat.le_succ _
     ·have z:c=s1.heap.objs.size:=by simpa using hc
      rw[z];exact Nat.le_refl _
    exact I1.qI hle (I1.hok.fresh hle)
   ·have l':tq X.K B' H' b xs:=l.elim (fun z=> .inl ⟨(pr.rd z.2 z.1).2,(pr.rd z.2 z.1).1⟩) .inr
    have rs':=rs.bt pr
    refine⟨fun i d hd=>?_,⟨xs,l'.sq,by rw[←rs.length];unfold cG;simp⟩⟩
    unfold cG at hd
    rw[List.getElem?_map,List.getElem?_zipIdx] at hd
    cases e:es[i]? with
    | none=>rw [e] at hd;cases hd
    | some d0=>
      rw[e] at hd
      have hd:D.tup [.int ((0+i:Nat):Int),d0]=d:=Option.some.inj hd
      rw[Nat.zero_add] at hd
      obtain⟨x,hx,rx⟩:=rs'.get e
      refine⟨⟨xs,x,l'.sq,hx⟩,fun v H'' y hB'=>?_⟩
      obtain⟨p,y,hp,rfl,hy,rfl⟩:=y
      refine⟨aP hp,?_⟩
      subst hd
      have hy2:=hy xs l'.sq
      rw[hx] at hy2
      cases hy2
      refine Rep.tup.mpr ⟨p,_,rfl, .inl ⟨fun ha=>?_, .inl aT⟩,aH.cons (Rep.int.mpr rfl) (aH.cons (rx.same (aP hp)) aH.nil)⟩
      obtain⟨o,ho⟩:=hB' p ha
      rw[hp] at ho;cases ho
 | _=>cases h2
end
end L2
end
section
set_option maxRecDepth 100000
set_option maxHeartbeats 4000000
namespace L2
open PySem PySem.Spec PyProof.Rows
section
variable {X:Cx}
noncomputable abbrev KC:D→D→R D:=vn (fun _ j=>decide (0 < j∧j.natAbs.log2 < 9000)) fun i j=>i / j
theorem wj{K:PySem.W.Frag}{B:List Addr}{H:Hp}{ds:List D}{xs:List V}(r:aH K B H ds xs):∀n:Nat,aH K B H (List.replicate n ds).flatten (List.replicate n xs).flatten
 | 0=>aH.nil
 | n+1=>by rw[List.replicate_succ,List.replicate_succ,List.flatten_cons,List.flatten_cons];exact r.append (wj r n)
noncomputable def Ct(f:ax→R (List D))(g:FD):ax→R (List D):=fun δ=>(f δ).bind fun ds=>(g δ).bind fun d=>match d with
 | .int k=>R.bV (decide (0≤k∧k < 1000000∧ds.length*k.toNat≤sizeLine)) (.ok (List.replicate k.toNat ds).flatten)
 | _=> .no
theorem zA{a b:Expr}{f:ax→R (List D)}{g:FD}{pos:Pos}(ha:QN X a f)(hb:QD X b g):QN X (.BinOp a .Mult b pos) (Ct f g):=by
 refine⟨(yF GB ha.1 hb.1).imp fun σ H Q ⟨Z,B,δ,es,E,hf,q⟩=>?_⟩
 obtain⟨ds,h1,h2⟩:=R.ao hf
 obtain⟨d,h3,h4⟩:=R.ao h2
 split at h4
 ·rename_i k
  obtain⟨h5,h6⟩:=R.bo h4
  cases h6
  obtain⟨k0,k1,k2⟩:=of_decide_eq_true h5
  refine⟨Z,B,δ,ds,E,h1,fun a xs H1 s1 n1 e1 r1=>⟨Z,B,δ, .int k,E.same s1,h3,fun v H2 s2 r2=>⟨a,k,xs,rfl,Rep.int.mp r2,s2 a _ e1,by omega,by omega,by rw[←r1.length];exact k2,fun p hp=>?_⟩⟩⟩
  refine q p _ _ (s1.trans (s2.trans (aP hp))) ((s1.trans s2).free hp) aT ?_
  refine(wj r1 k.toNat).bt fun b o e nb=>⟨(s2.trans (aP hp)) b o e,fun hm=>?_⟩
  rcases List.mem_cons.mp hm with z | z
  ·rw[z] at e;rw [s2 p _ e] at hp;cases hp
  ·exact nb (List.mem_cons_of_mem _ z)
 ·cases h4
noncomputable def ID(ns:List Int):List Int:=ns.mergeSort fun a b=>decide (a≤b)
noncomputable def Jp:List D→R D
 | [.lst ds]=>(match ints? ds with | some ns=>R.bV (decide (ns.length < 64)) (.ok (.lst ((ID ns).map .int))) | none=> .no)
 | _=> .no
theorem getD_in{l:List Int}{i:Nat}(h:i < l.length):l.getD i 0∈l:=by
 have e:l.getD i 0=l[i]:=by simp [h]
 rw[e];exact List.getElem_mem h
theorem fold_min:∀(ns:List Int) (n:Int),ns.foldl min n∈n ::ns∧∀a∈n ::ns,ns.foldl min n≤a
 | [],n=>⟨by simp,fun a ha=>by simp at ha;subst ha;exact Int.le_refl _⟩
 | x ::ns,n=>by
   obtain⟨h1,h2⟩:=fold_min ns (min n x)
   rw[List.foldl_cons]
   refine⟨?_,fun a ha=>?_⟩
   ·rcases List.mem_cons.mp h1 with z | z
    ·rw[z];by_cases hc:n≤x
     ·rw[Int.min_eq_left hc];simp
     ·rw[Int.min_eq_right (by omega)];simp
    ·exact List.mem_cons_of_mem _ (List.mem_cons_of_mem _ z)
   ·have hm:=h2 _ List.mem_cons_self
    rcases List.mem_cons.mp ha with z | z
    ·subst z;omega
    ·rcases List.mem_cons.mp z with z | z
     ·subst z;omega
     ·exact h2 a (List.mem_cons_of_mem _ z)
noncomputable def tK:List D→R D
 | [.lst ds]=>(match ints? ds with | some (n ::ns)=> .ok (.int (ns.foldl min n)) | _=> .no)
 | ds=>se ds
noncomputable def K8:List D→R D
 | [.lst ds]=>(match ints? ds with | some (n ::ns)=> .ok (.int (ns.foldl max n)) | _=> .no)
 | ds=>Km ds
theorem Ca(hc:X.calm=true):gd X (.builtin "min") tK:=by
 intro pins s σ H B ds d xs us I hb rx rs hg
 unfold tK at hg
 split at hg
 ·split at hg
  ·rename_i es n ns e
   cases hg
   obtain⟨x,rfl,r⟩:=rs.one
   obtain⟨a,ys,rfl,l,r⟩:=Rep.lst.mp r
   obtain⟨u,rfl,ru⟩:=vals1 rx
   cases ru
   obtain⟨its,k,rv,e1,hz⟩:=I.Ff l
   rw[iZ r e] at rv
   obtain⟨ps,rfl,hps⟩:=mU rv
   have hl:s.heap.IsList a (intItems ps.toArray):=⟨_,e1,rfl,k,by simp [intItems]⟩
   have hlp:ps.length=ns.length+1:=by have:=congrArg List.length hps;simpa using this
   refine min_intList (I.ok.hd hc) hl (by simp;omega) fun v h' tk hv hk=>?_
   obtain⟨t,rfl⟩:=intItems_at hv
   obtain⟨b1,b2⟩:=argBest_lt (numAt ps.toArray) (ps.toArray.size - 1)
   refine⟨.int _,H,I.kept hk,⟨t,rfl⟩,a_.refl H,Rep.int.mpr ?_⟩
   obtain⟨m1,m2⟩:=fold_min ns n
   have hge:∀j,j < ps.length→numAt ps.toArray j=(n ::ns).getD j 0:=fun j hj=>by rw[numAt_eq,←hps]
   have hin:numAt ps.toArray (argBest (fun i j=>decide (numAt ps.toArray i < numAt ps.toArray j)) (ps.toArray.size - 1))∈n ::ns:=by
    rw[hge _ (by simp at b1 ⊢;omega)];exact getD_in (by simp at b1 ⊢;omega)
   have hle:=m2 _ hin
   obtain⟨j,hj,ej⟩:=List.getElem_of_mem m1
   have hj':j < ns.length+1:=by simpa using hj
   have h3:=b2 j (by simp;omega)
   rw[hge j (by omega)] at h3
   have h4:(n ::ns).getD j 0=ns.foldl min n:=by rw[←ej,List.getD_eq_getElem?_getD,List.getElem?_eq_getElem hj];rfl
   rw[h4] at h3
   congr 1
   omega
  ·cases hg
 ·exact IX hc pins s σ H B _ d xs us I hb rx rs hg
end
end L2
namespace L3
open PySem PySem.Spec PyProof.Rows L2
noncomputable def vY(S:aN):V3→Option (List D)
 | .d (.lst ds)=>some ds
 | .loc k=>cJ S k
 | _=>none
theorem AZ{K:PySem.W.Frag}{cl:Nat→Addr}{ρ:P3}{H:Hp}{S:aN}{v:V3}{x:V}{ds:List D}(w:SW K cl ρ H S)(h:vY S v=some ds)(r:bf K ρ H v x):∃a xs,x= .ref a∧qZ K [] H a xs∧aH K ρ.b H ds xs:=by
 unfold vY at h
 split at h
 ·cases h
  unfold bf Rep at r
  obtain⟨a,xs,e,l,rs⟩:=r
  exact⟨a,xs,e,l.bt (fun b o e _=>⟨e,by simp⟩),rs⟩
 ·unfold bf at r
  obtain⟨a,a1,rfl⟩:=r
  obtain⟨xs,e,rs⟩:=w.ob _ a _ a1 (dC h)
  exact⟨a,xs,rfl, .inl ⟨by simp, .inl e⟩,rs⟩
 ·cases h
section
variable {X:Cx} {cl:Nat→Addr}
noncomputable def FV(fa fb:FX):FX:=fun δ S=>(fa δ S).bind fun a S1=>(fb δ S1).bind fun b S2=>match vY S2 a,vY S2 b with
 | some ds,some es=>R3.bV (decide (ds.length+es.length≤sizeLine)) (.ok (.loc S2.length) (S2++[.lst (ds++es)]))
 | _,_=> .no
theorem GQ{a b:Expr}{fa fb:FX}{pos:Pos}(ha:PX X cl a fa)(hb:PX X cl b fb):PX X cl (.BinOp a .Add b pos) (FV fa fb):=⟨(yF yA ha.1 hb.1).imp fun σ H Q ⟨ρ,S,δ,v,S',E,hf,q⟩=>by
 obtain⟨a,S1,h1,h2⟩:=R3.ao hf
 obtain⟨b,S2,h3,h4⟩:=R3.ao h2
 split at h4
 ·rename_i ds es e1 e2'
  obtain⟨hl,h5⟩:=R3.bo h4
  cases h5
  refine⟨ρ,S,δ,a,S1,E,h1,fun u1 ρ1 H1 p1 w1 r1=>⟨ρ1,S1,δ,b,S2,E.to p1 w1,h3,fun u2 ρ2 H2 p2 w2 r2=>?_⟩⟩
  obtain⟨la,xs,rfl,l1,rs1⟩:=AZ w2 e1 (r1.pre p2)
  obtain⟨lb,ys,rfl,l2,rs2⟩:=AZ w2 e2' r2
  refine⟨[],la,lb,xs,ys,rfl,rfl,l1,l2,by rw[←rs1.length,←rs2.length];exact of_decide_eq_true hl,fun p hp=>?_⟩
  obtain⟨w3,p3⟩:=w2.new (a:=p) (o:= .lst (ds++es)) (aP (o:= .lst (xs++ys)) hp) hp ⟨xs++ys,aT,(rs1.append rs2).bt (fun b o e nb=>⟨by rw[bq (cn e hp)];exact e,fun hb=>by
   rcases P3.mem_push hb with z | z
   ·exact nb z
   ·exact cn e hp z⟩)⟩
  exact q _ _ _ (p1.trans (p2.trans p3)) w3 (by unfold bf;exact⟨p,by show(ρ2.r++[p])[_]? =_;rw [←w2.len,List.getElem?_append_right (Nat.le_refl _),Nat.sub_self];rfl,rfl⟩)
 ·cases h4⟩
theorem IE{fa fb:FX}{δ:DE}{S:aN}{Q:V3→aN→Prop}(h:W3 (fa δ S) fun a S1=>W3 (fb δ S1) fun b S2=>∃ds es,vY S2 a=some ds∧vY S2 b=some es∧ds.length+es.length≤sizeLine∧Q (.loc S2.length) (S2++[.lst (ds++es)])):W3 (FV fa fb δ S) Q:=
 W3.bind (h.mono fun _ _ h=>W3.bind (h.mono fun _ _ ⟨ds,es,e1,e2',hl,q⟩=>by
  simp only[e1,e2']
  exact W3.wh (decide_eq_true hl) (W3.ok q)))
noncomputable def Ma(i:Nat):FZ:=fun δ S=>match gI δ i with
 | none=> .no
 | some k=>(match cJ S k with | some _=> .ok (.nx δ) (S.set k (.lst [])) | none=> .no)
end
end L3
end
section
set_option maxRecDepth 100000
set_option maxHeartbeats 4000000
namespace L3
open PySem PySem.Spec PyProof.Rows L2
noncomputable def l4(S:aN)(c k:Nat):Option (List (Str × V3)):=match S[k]? with | some (.ins c' fs)=>(if c'=c then some fs else none) | _=>none
theorem kL{S:aN}{c k:Nat}{fs:List (Str × V3)}(h:l4 S c k=some fs):S[k]? =some (.ins c fs):=by
 unfold l4 at h
 split at h
 ·rename_i c' fs' e
  split at h
  ·rename_i hc;cases h;rw [e,hc]
  ·cases h
 ·cases h
theorem yx{K:PySem.W.Frag}{ρ:P3}{H:Hp}{f:Str}{v:V3}:∀{fs:List (Str × V3)} {ys:List (Str × V)},ys.map (·.1)=fs.map (·.1)→aK K ρ H (fs.map (·.2)) (ys.map (·.2))→fs.lookup f=some v→∃x,ys.lookup f=some x∧bf K ρ H v x
 | [],ys,_,_,h=>by simp at h
 | (g,w) ::fs,[],e,_,_=>by simp at e
 | (g,w) ::fs,(g',y) ::ys,e,r,h=>by
   obtain⟨e1,e2'⟩:=List.cons.inj e
   have e1:g'=g:=e1
   subst e1
   obtain⟨x,xs,ex,r1,r2⟩:=r.cw
   cases ex
   rw[List.lookup_cons] at h ⊢
   cases hq:f==g' with
   | true=>rw [hq] at h;cases h;exact⟨y,rfl,r1⟩
   | false=>rw [hq] at h;exact yx e2' r2 h
theorem vt{f:Str}:∀{fs:List (Str × V3)} {ys:List (Str × V)},ys.map (·.1)=fs.map (·.1)→fs.lookup f=none→ys.lookup f=none
 | [],[],_,_=>rfl
 | [],_ ::_,e,_=>by simp at e
 | _ ::_,[],e,_=>by simp at e
 | (g,w) ::fs,(g',y) ::ys,e,h=>by
   obtain⟨e1,e2'⟩:=List.cons.inj e
   have e1:g'=g:=e1
   subst e1
   rw[List.lookup_cons] at h ⊢
   cases hq:f==g' with
   | true=>rw [hq] at h;cases h
   | false=>rw [hq] at h;exact vt e2' h
noncomputable def wy(f:Str)(v:V3):List (Str × V3)→List (Str × V3)
 | []=>[(f,v)]
 | (g,x) ::r=>if g=f then(g,v) ::r else(g,x) ::wy f v r
theorem yP{K:PySem.W.Frag}{ρ:P3}{H:Hp}{f:Str}{v:V3}{u:V}(rv:bf K ρ H v u):∀{fs:List (Str × V3)} {ys:List (Str × V)},ys.map (·.1)=fs.map (·.1)→aK K ρ H (fs.map (·.2)) (ys.map (·.2))→
 (jQ f u ys).map (·.1)=(wy f v fs).map (·.1)∧aK K ρ H ((wy f v fs).map (·.2)) ((jQ f u ys).map (·.2))
 | [],[],_,_=>⟨rfl,aK.cons rv aK.nil⟩
 | [],_ ::_,e,_=>by simp at e
 | _ ::_,[],e,_=>by simp at e
 | (g,w) ::fs,(g',y) ::ys,e,r=>by
   obtain⟨e1,e2'⟩:=List.cons.inj e
   have e1:g'=g:=e1
   subst e1
   obtain⟨x,xs,ex,r1,r2⟩:=r.cw
   cases ex
   unfold wy jQ
   by_cases hg:g'=f
   ·rw[if_pos hg,if_pos hg]
    exact⟨by rw[List.map_cons,List.map_cons,e2'],aK.cons rv r2⟩
   ·rw[if_neg hg,if_neg hg]
    obtain⟨h1,h2⟩:=yP rv e2' r2
    exact⟨by rw[List.map_cons,List.map_cons,h1],aK.cons r1 h2⟩
section
variable {X:Cx} {cl:Nat→Addr}
noncomputable def q8(c:Nat)(f:Str)(g:FX):FX:=fun δ S=>(g δ S).bind fun v S1=>match v with
 | .loc k=>(match l4 S1 c k with | some fs=>(match fs.lookup f with | some v=> .ok v S1 | none=> .no) | none=> .no)
 | _=> .no
theorem kO{c:Nat}{e:Expr}{f:Str}{g:FX}{pos:Pos}(hC:u6 X.K (cl c))(hn:dg X.K (cl c) f)(he:PX X cl e g)(hb:attributeBase e f X.env (eval e X.env)=eval e X.env:=by rfl):PX X cl (.Attribute e f pos) (q8 c f g):=⟨(Hz he.1 hb).imp fun σ H Q ⟨ρ,S,δ,v,S',E,hf,q⟩=>by
 obtain⟨o,S1,h1,h2⟩:=R3.ao hf
 split at h2
 ·rename_i k
  split at h2
  ·rename_i fs e1
   split at h2
   ·rename_i w e2'
    cases h2
    refine⟨ρ,S,δ, .loc k,_,E,h1,fun u ρ1 H1 p1 w1 r1=>?_⟩
    unfold bf at r1
    obtain⟨a,a1,rfl⟩:=r1
    obtain⟨dx,ys,ey,ek,rs⟩:=w1.ob k a _ a1 (kL e1)
    obtain⟨x,hx,rx⟩:=yx ek rs e2'
    exact⟨a,cl c,dx,ys,x,rfl,ey,hC,hn,hx,q x ρ1 H1 p1 w1 rx⟩
   ·cases h2
  ·cases h2
 ·cases h2⟩
theorem w_fld{c k:Nat}{f:Str}{g:FX}{δ:DE}{S:aN}{Q:V3→aN→Prop}(h:W3 (g δ S) fun v S1=>∃fs w,v= .loc k∧S1[k]? =some (.ins c fs)∧fs.lookup f=some w∧Q w S1):W3 (q8 c f g δ S) Q:=
 W3.bind (h.mono fun v S1 ⟨fs,w,e1,e2',e3,q⟩=>by
  subst e1
  have e4:l4 S1 c k=some fs:=by unfold l4;simp only[e2',if_true]
  simp only[e4,e3]
  exact W3.ok q)
noncomputable def ip(P:Program)(w:World)(K:PySem.W.Frag)(mg:Str→Option Value)(base:Heap)(cl:Nat→Addr)(k c:Nat)(m:Str)(n:Nat)(g:List V3→aN→R3 V3):Prop:=
 ∃(f:Addr) (fd:FuncData) (ps:List Str),u6 K (cl c)∧Meth K (cl c) m f∧iY P w K mg base sC k f fd ps (Bw K cl (n+1) g)∧Binds K fd ps []
noncomputable def sY(c:Nat)(m:Str)(g:List V3→aN→R3 V3)(fo:FX)(fs:FA):FX:=fun δ S=>(fo δ S).bind fun o S1=>match o with
 | .loc k=>(match l4 S1 c k with | some ys=>(match ys.lookup m with | none=>(fs δ S1).bind fun vs S2=>g (.loc k ::vs) S2 | some _=> .no) | none=> .no)
 | _=> .no
theorem qi{g:List V3→aN→R3 V3}{k j n c:Nat}{m:Str}{o e:Expr}{es:List Expr}{fo:FX}{fs:FA}{apos pos:Pos}{pl:Sem Bool}(M:ip X.prog X.w X.K X.mg X.base cl k c m n g)(hr:eS j X.A)(hkj:k≤j)(ho:PX X cl o fo)(ha:CP X cl (e ::es) fs)(hn:∀δ S ds S',fs δ S= .ok ds S'→ds.length=n)
 (hst:starEach (e ::es) X.env=(false,eval e X.env) ::starEach es X.env:=by rfl) (hpl:(backTo pos (starEach es X.env)).any (·.1)=false:=by rfl)
 (ht:eval (.Call (.Attribute o m apos) (e ::es) [] pos) X.env=(do
   let ov ←eval o X.env
   standAt apos.atName
   let(f,first) ←holding [ov] (getMethod ov m pl)
   callWith pos f first (backTo pos (starEach (e ::es) X.env)) (backToKw pos (keywordEach [] X.env))):=by rfl) :
 PX X cl (.Call (.Attribute o m apos) (e ::es) [] pos) (sY c m g fo fs):=by
 obtain⟨f,fd,ps,hC,hm,F,hb⟩:=M
 refine⟨(EC ho.1 hC hm F (hr.mono hkj) hb .nil we ha.1 hst hpl ht).imp fun σ H Q ⟨ρ,S,δ,v,S',E,hf,q⟩=>?_⟩
 obtain⟨ov,S1,h1,h2⟩:=R3.ao hf
 split at h2
 ·rename_i kk
  split at h2
  ·rename_i ys e1
   split at h2
   ·rename_i e2'
    obtain⟨vs,S2,h3,h4⟩:=R3.ao h2
    refine⟨ρ,S,δ, .loc kk,S1,E,h1,fun u ρ1 H1 p1 w1 r1=>?_⟩
    have r1':=r1
    unfold bf at r1
    obtain⟨a,a1,rfl⟩:=r1
    obtain⟨dx,zs,ey,ek,rs⟩:=w1.ob kk a _ a1 (kL e1)
    refine⟨a,dx,zs,rfl,ey,vt ek e2',ρ1,S1,δ,vs,S2,E.to p1 w1,h3,fun us ρ2 H2 p2 w2 r2=>?_⟩
    show Bw X.K cl (n+1) g (V.ref a ::(us++[])) H2 Q E0
    rw[List.append_nil]
    exact⟨by rw[List.length_cons,←r2.length,hn δ S1 vs S2 h3],ρ2,S2, .loc kk ::vs,v,S',w2,aK.cons (r1'.pre p2) r2,h4,fun z ρ3 H3 p3 w3 r3=>q z ρ3 H3 (p1.trans (p2.trans p3)) w3 r3⟩
   ·cases h2
  ·cases h2
 ·cases h2
noncomputable def qX(P:Program)(w:World)(K:PySem.W.Frag)(mg:Str→Option Value)(base:Heap)(cl:Nat→Addr)(k c:Nat)(x:Str)(n:Nat)(g:List V3→aN→R3 V3):Prop:=
 ∃(f:Addr) (fd:FuncData) (ps:List Str),Mk K (cl c) f∧iY P w K mg base sC k f fd ps (Bw K cl (n+1) g)∧mg x=some (.ref (cl c))∧Binds K fd ps []
noncomputable def yG(c:Nat)(g:List V3→aN→R3 V3)(fs:FA):FX:=fun δ S=>(fs δ S).bind fun vs S1=>(g (.loc S1.length ::vs) (S1++[.ins c []])).bind fun v S2=>match v with
 | .d .di=> .ok (.loc S1.length) S2
 | _=> .no
theorem zk{g:List V3→aN→R3 V3}{k j n c:Nat}{x:Str}{p pos:Pos}{e:Expr}{es:List Expr}{fs:FA}(M:qX X.prog X.w X.K X.mg X.base cl k c x n g)(hr:eS j X.A)(hkj:k+1≤j)(hg:Gl X x)(ha:CP X cl (e ::es) fs)(hn:∀δ S ds S',fs δ S= .ok ds S'→ds.length=n)
 (hdb:(x==("__debug__":Str))=false:=by decide) (he:starEach (e ::es) X.env=(false,eval e X.env) ::starEach es X.env:=by rfl) (hpl:(backTo pos (starEach es X.env)).any (·.1)=false:=by rfl) :
 PX X cl (.Call (.Name x p) (e ::es) [] pos) (yG c g fs):=by
 obtain⟨f,fd,ps,M,F,hm,hb⟩:=M
 refine⟨(DY M F (hr.mono hkj) hg hm hb .nil we ha.1 hdb he hpl).imp fun σ H Q ⟨ρ,S,δ,v,S',E,hf,q⟩=>?_⟩
 obtain⟨vs,S1,h1,h2⟩:=R3.ao hf
 obtain⟨v0,S2,h3,h4⟩:=R3.ao h2
 split at h4
 ·cases h4
  refine⟨ρ,S,δ,vs,S1,E,h1,fun us ρ1 H1 p1 w1 r1 xa dx hx hdx hne=>?_⟩
  have hx1:upd H1 dx (.own xa) xa=none:=by rw[bq (fun z=>hne z.symm)];exact hx
  have sm:a_ H1 (upd (upd H1 dx (.own xa)) xa (.ins (cl c) dx [])):=(aP hdx).trans (aP hx1)
  obtain⟨w2,p2⟩:=w1.new (a:=xa) (o:= .ins c []) sm hx ⟨dx,[],aT,rfl,aK.nil⟩
  show Bw X.K cl (n+1) g (V.ref xa ::(us++[])) _ _ E0
  rw[List.append_nil]
  have rl:bf X.K (ρ1.push xa) (upd (upd H1 dx (.own xa)) xa (.ins (cl c) dx [])) (.loc S1.length) (.ref xa):=by
   unfold bf
   exact⟨xa,by show(ρ1.r++[xa])[_]? =_;rw [←w1.len,List.getElem?_append_right (Nat.le_refl _),Nat.sub_self];rfl,rfl⟩
  exact⟨by rw[List.length_cons,←r1.length,hn δ S vs S1 h1],_,_, .loc S1.length ::vs, .d .di,_,w2,aK.cons rl (r1.pre p2),h3,fun z ρ3 H3 p3 w3 r3=>⟨by unfold bf Rep at r3;exact r3,q _ ρ3 H3 (p1.trans (p2.trans p3)) w3 (rl.pre p3)⟩⟩
 ·cases h4
noncomputable def uZ(c:Nat)(f:Str)(fo fe:FX):FZ:=fun δ S=>(fe δ S).bind fun v S1=>(fo δ S1).bind fun o S2=>match o with
 | .loc k=>(match l4 S2 c k with | some fs=>R3.bV (decide (fs.length < 1000)) (.ok (.nx δ) (S2.set k (.ins c (wy f v fs)))) | none=> .no)
 | _=> .no
theorem m4{c:Nat}{o value:Expr}{f:Str}{fo fe:FX}{pos pos':Pos}(hC:u6 X.K (cl c))(hn:dg X.K (cl c) f)(ho:PX X cl o fo)(he:PX X cl value fe)(hs:swapsWith value (some (.Attribute o f pos')) pos.line X.env=pure false:=by rfl) :
 PZ X cl (.Assign [.Attribute o f pos'] value pos) (uZ c f fo fe):=⟨(GK ho.1 he.1 hs).imp fun D σ H ⟨ρ,S,δ,ou,S',E,hf,q⟩=>by
 obtain⟨v,S1,h1,h2⟩:=R3.ao hf
 obtain⟨vo,S2,h3,h4⟩:=R3.ao h2
 split at h4
 ·rename_i k
  split at h4
  ·rename_i fs e1
   obtain⟨hl,h5⟩:=R3.bo h4
   cases h5
   refine⟨ρ,S,δ,v,S1,E,h1,fun u ρ1 H1 p1 w1 r1=>⟨ρ1,S1,δ, .loc k,S2,E.to p1 w1,h3,fun u2 ρ2 H2 p2 w2 r2=>?_⟩⟩
   unfold bf at r2
   obtain⟨a,a1,rfl⟩:=r2
   obtain⟨dx,ys,ey,ek,rs⟩:=w2.ob k a _ a1 (kL e1)
   have hlen:ys.length=fs.length:=by have:=congrArg List.length ek;simpa using this
   obtain⟨k1,k2⟩:=yP (f:=f) (r1.pre p2) ek rs
   obtain⟨w3,p3⟩:=w2.put (o:= .ins c (wy f v fs)) (u:= .ins (cl c) dx (jQ f u ys)) a1 (w2.fz k a a1 (by rw[kL e1];intro h;cases h)) ⟨dx,_,rfl,k1,k2⟩
   exact⟨a,cl c,dx,ys,rfl,ey,hC,hn,by rw[hlen];exact of_decide_eq_true hl,q σ ρ2 _ (p1.trans (p2.trans p3)) (E.to (p1.trans (p2.trans p3)) w3)⟩
  ·cases h4
 ·cases h4⟩
theorem jl{c k:Nat}{f:Str}{fo fe:FX}{δ:DE}{S:aN}{QO:Ou→aN→Prop}(h:W3 (fe δ S) fun v S1=>W3 (fo δ S1) fun o S2=>∃fs,o= .loc k∧S2[k]? =some (.ins c fs)∧fs.length < 1000∧QO (.nx δ) (S2.set k (.ins c (wy f v fs)))):W3 (uZ c f fo fe δ S) QO:=
 W3.bind (h.mono fun v S1 h=>W3.bind (h.mono fun o S2 ⟨fs,e1,e2',hl,q⟩=>by
  subst e1
  have e4:l4 S2 c k=some fs:=by unfold l4;simp only[e2',if_true]
  simp only[e4]
  exact W3.wh (decide_eq_true hl) (W3.ok q)))
theorem uE{c k:Nat}{m:Str}{g:List V3→aN→R3 V3}{fo:FX}{fs:FA}{δ:DE}{S:aN}{Q:V3→aN→Prop}(h:W3 (fo δ S) fun o S1=>∃ys,o= .loc k∧S1[k]? =some (.ins c ys)∧ys.lookup m=none∧W3 (fs δ S1) fun vs S2=>W3 (g (.loc k ::vs) S2) Q):W3 (sY c m g fo fs δ S) Q:=
 W3.bind (h.mono fun o S1 ⟨ys,e1,e2',e3,h⟩=>by
  subst e1
  have e4:l4 S1 c k=some ys:=by unfold l4;simp only[e2',if_true]
  simp only[e4,e3]
  exact W3.bind h)
theorem AE{c:Nat}{g:List V3→aN→R3 V3}{fs:FA}{δ:DE}{S:aN}{Q:V3→aN→Prop}(h:W3 (fs δ S) fun vs S1=>W3 (g (.loc S1.length ::vs) (S1++[.ins c []])) fun v S2=>v= .d .di∧Q (.loc S1.length) S2):W3 (yG c g fs δ S) Q:=
 W3.bind (h.mono fun vs S1 h=>W3.bind (h.mono fun v S2 ⟨e,q⟩=>by subst e;exact W3.ok q))
end
end L3
end
section
set_option maxRecDepth 100000
set_option maxHeartbeats 4000000
namespace PySem
open Sem (wp)
noncomputable def gC(t:Bool)(h:Heap)(i l:Addr)(k:Nat):Prop:=cond t (h.IsTupleIter i l k) (h.IsListIter i l k)
noncomputable def jA(t:Bool)(h:Heap)(l:Addr)(xs:Array Value):Prop:=cond t (h.IsTuple l xs) (h.IsList l xs)
noncomputable def rK(t:Bool):String:=cond t "tuple_iterator" "list_iterator"
theorem gC.at{t:Bool}{h h':Heap}{i l:Addr}{k:Nat}(x:gC t h i l k)(e:∀o,h.get? i=some o→h'.get? i=some o):gC t h' i l k:=by
 cases t with
 | true=>exact Heap.IsTupleIter.at x e
 | false=>exact Heap.IsListIter.at x e
theorem jA.at{t:Bool}{h h':Heap}{l:Addr}{xs:Array Value}(x:jA t h l xs)(e:∀o,h.get? l=some o→h'.get? l=some o):jA t h' l xs:=by
 cases t with
 | true=>exact Heap.IsTuple.at x e
 | false=>exact Heap.IsList.at x e
theorem gC.xb{t:Bool}{h h':Heap}{i l b:Addr}{k:Nat}(x:gC t h i l k)(hs:Heap.ExtBut b h h')(hab:i≠b):gC t h' i l k:=x.at fun o e=>hs i o hab e
theorem jA.xb{t:Bool}{h h':Heap}{l b:Addr}{xs:Array Value}(x:jA t h l xs)(hs:Heap.ExtBut b h h')(hab:l≠b):jA t h' l xs:=x.at fun o e=>hs l o hab e
theorem gC.ob{t:Bool}{h:Heap}{i l:Addr}{k:Nat}(x:gC t h i l k):∃o,h.get? i=some o∧∀v,o.data≠ .cell v:=by
 cases t with
 | true=>obtain⟨o,e,_,d⟩:=x;exact⟨o,e,fun v z=>by rw[d] at z;cases z⟩
 | false=>obtain⟨o,e,_,d⟩:=x;exact⟨o,e,fun v z=>by rw[d] at z;cases z⟩
theorem jA.lt{t:Bool}{h:Heap}{l:Addr}{xs:Array Value}(x:jA t h l xs):l < h.objs.size:=by
 cases t with
 | true=>obtain⟨o,e,_⟩:=x;exact Heap.lt_size e
 | false=>obtain⟨o,e,_⟩:=x;exact Heap.lt_size e
theorem gC.lt{t:Bool}{h:Heap}{i l:Addr}{k:Nat}(x:gC t h i l k):i < h.objs.size:=let⟨_,e,_⟩:=x.ob;Heap.lt_size e
section
variable {prog:Program} {w:World} {A:Around} {E:Value→Shared→Prop} {s:Shared}
theorem jy{t:Bool}{it l:Addr}{i:Nat}{items:Array Value}{x:Value}{Q:Value→Shared→Prop}(hit:gC t s.heap it l i)(hl:jA t s.heap l items)(hx:items[i]? =some x)
 (hQ:∀h',gC t h' it l (i+1)→Heap.SameBut it s.heap h'→Q x {s with heap:=h'}):wpAny (model prog w) A (Builtin.SmallTypes.nextOf (.ref it)) Q E s:=by
 cases t with
 | true=>exact k9 hit hl hx hQ
 | false=>exact wpAny_nextOf_list_item hit hl hx hQ
theorem mS{t:Bool}{it l:Addr}{i:Nat}{items:Array Value}{Q:Value→Shared→Prop}(hh:A.handled=none)(hit:gC t s.heap it l i)(hl:jA t s.heap l items)(hx:items[i]? =none)
 (hE:∀h' e,Heap.ExtBut it s.heap h'→(∃o,h'.get? e=some o∧o.cls= .type "StopIteration")→E (.ref e) {s with heap:=h'}):wpAny (model prog w) A (Builtin.SmallTypes.nextOf (.ref it)) Q E s:=by
 cases t with
 | true=>exact jn hh hit hl hx hE
 | false=>exact wpAny_nextOf_list_end hh hit hl hx hE
theorem sW{t:Bool}{l:Addr}{items:Array Value}{Q:Value→Shared→Prop}(hl:jA t s.heap l items)
 (hQ:Q (.ref s.heap.objs.size) {s with heap:=s.heap.push {cls:= .type (rK t),data:= .fields #[.ref l, .int 0 0]}}):wpAny (model prog w) A (pyIter (.ref l)) Q E s:=by
 cases t with
 | true=>exact wpAny_pyIter_tuple hl hQ
 | false=>exact wpAny_pyIter_list hl hQ
theorem zT{t u:Bool}{z TI TO i1 i2 l1 l2:Addr}{k1 k2:Nat}{xs ys:Array Value}{x y a b:Value}{Q:Value→Shared→Prop}(D:ZipApart z TI TO i1 i2 l1 l2)(hz:IsZip s.heap z TI TO .none)(hTI:IsPair s.heap TI (.ref i1) (.ref i2))
 (hTO:IsPair s.heap TO a b) (h1:gC t s.heap i1 l1 k1) (h2:gC u s.heap i2 l2 k2) (hl1:jA t s.heap l1 xs) (hl2:jA u s.heap l2 ys) (hx:xs[k1]? =some x) (hy:ys[k2]? =some y)
 (hQ:∀h',IsZip h' z TI TO (rawInt s.heap.objs.size)→IsPair h' TO x y→gC t h' i1 l1 (k1+1)→gC u h' i2 l2 (k2+1)→IsPair h' s.heap.objs.size x y→h'.objs.size=s.heap.objs.size+1→(∀c o,c≠z→c≠TO→c≠i1→c≠i2→s.heap.get? c=some o→h'.get? c=some o)→Q (.ref s.heap.objs.size) {s with heap:=h'}) :
 wpAny (model prog w) A (Builtin.«zip.__next__» ⟨[.ref z],[]⟩) (fun fin s'=>∃v,fin= .done (.ret v)∧Q v s') E s:=by
 show wpAny _ _ (field (.ref z) 2 >>=_) _ _ _;refine wpAny_bind (wpAny_field hz rfl (x:= .bool false) rfl ?_);show wpAny _ _ (field (.ref z) 3 >>=_) _ _ _
 refine wpAny_bind (wpAny_field hz rfl (x:= .ref TI) rfl ?_);refine wpAny_bind (wpAny_seqItems hTI rfl ?_);show wpAny _ _ (Builtin.SmallTypes.ownedTupleIsFree (.ref z) >>=_) _ _ _
 refine wpAny_bind ?_;unfold Builtin.SmallTypes.ownedTupleIsFree;refine wpAny_bind (wpAny_field hz rfl (x:= .none) rfl (wpAny_pure ?_));simp only[if_true]
 refine wpAny_bind (wpAny_rule ?_);refine wpAny_bind (wpAny_field hz rfl (x:= .ref TO) rfl ?_);refine wpAny_bind (wpAny_setField_rec hz (by simp) fun h₁ hz₁ hs₁=>?_)
 replace hz₁:IsZip h₁ z TI TO .ellipsis:=hz₁;refine wpAny_bind ?_;simp only[List.zipIdx_cons,List.zipIdx_nil,List.forIn_cons,List.forIn_nil]
 refine wpAny_bind (wpAny_bind (wpAny_onRaise ?_));show wpAny _ _ (Builtin.SmallTypes.nextOf (.ref i1) >>=_) _ _ _
 refine wpAny_bind (jy (h1.xb hs₁.extBut D.i1z) (hl1.xb hs₁.extBut D.l1z) hx fun h₂ h1₂ hs₂=>wpAny_pure ?_)
 have hTO₂:IsPair h₂ TO a b:=hs₂.extBut _ _ D.TOi1 (hs₁.extBut _ _ D.TOz hTO);refine wpAny_bind (wpAny_seqItems hTO₂ rfl ?_);refine wpAny_bind (wpAny_updateSeq_pair hTO₂ fun h₃ hTO₃ hs₃=>?_)
 replace hTO₃:IsPair h₃ TO x b:=hTO₃;refine wpAny_bind (wpAny_letGo (wpAny_pure ?_));refine wpAny_bind (wpAny_bind (wpAny_onRaise ?_));show wpAny _ _ (Builtin.SmallTypes.nextOf (.ref i2) >>=_) _ _ _
 refine wpAny_bind (jy (((h2.xb hs₁.extBut D.i2z).xb hs₂.extBut D.i12.symm).xb hs₃.extBut D.TOi2.symm) (((hl2.xb hs₁.extBut D.l2z).xb hs₂.extBut D.l2i1).xb hs₃.extBut D.l2TO) hy fun h₄ h2₄ hs₄=>wpAny_pure ?_)
 have hTO₄:IsPair h₄ TO x b:=hs₄.extBut _ _ D.TOi2 hTO₃;refine wpAny_bind (wpAny_seqItems hTO₄ rfl ?_);refine wpAny_bind (wpAny_updateSeq_pair hTO₄ fun h₅ hTO₅ hs₅=>?_)
 replace hTO₅:IsPair h₅ TO x y:=hTO₅;refine wpAny_bind (wpAny_letGo (wpAny_pure (wpAny_pure ?_)));refine wpAny_bind (wpAny_seqItems hTO₅ rfl ?_);refine wpAny_bind (wpAny_newTuple ?_)
 have hsz:h₅.objs.size=s.heap.objs.size:=(hs₅.1.trans (hs₄.1.trans (hs₃.1.trans (hs₂.1.trans hs₁.1))))
 have hz₅:IsZip h₅ z TI TO .ellipsis:=hs₅.extBut _ _ D.TOz.symm <| hs₄.extBut _ _ D.i2z.symm <| hs₃.extBut _ _ D.TOz.symm <| hs₂.extBut _ _ D.i1z.symm hz₁
 have hk₅:∀c o,c≠z→c≠TO→c≠i1→c≠i2→s.heap.get? c=some o→h₅.get? c=some o:=fun c o c1 c2 c3 c4 e=>hs₅.extBut _ _ c2 <| hs₄.extBut _ _ c4 <| hs₃.extBut _ _ c2 <| hs₂.extBut _ _ c3 <| hs₁.extBut _ _ c1 e
 have h1₅:gC t h₅ i1 l1 (k1+1):=((h1₂.xb hs₃.extBut D.TOi1.symm).xb hs₄.extBut D.i12).xb hs₅.extBut D.TOi1.symm
 have h2₅:gC u h₅ i2 l2 (k2+1):=h2₄.xb hs₅.extBut D.TOi2.symm
 have hzlt:=Heap.lt_size hz₅
 show wpAny _ _ (Builtin.SmallTypes.ownedTupleHandOut (.ref z) (.ref h₅.objs.size) >>=_) _ _ _;refine wpAny_bind ?_;unfold Builtin.SmallTypes.ownedTupleHandOut
 have hz₆:IsZip (h₅.push {cls:= .type "tuple",data:= .seq #[x,y]}) z TI TO .ellipsis:=Heap.get?_push_of_some _ hz₅;refine wpAny_bind (wpAny_setField_rec hz₆ (by simp) fun h₇ hz₇ hs₇=>?_)
 replace hz₇:IsZip h₇ z TI TO (rawInt h₅.objs.size):=hz₇;refine wpAny_setField_rec hz₇ (by simp) fun h₈ hz₈ hs₈=>?_;replace hz₈:IsZip h₈ z TI TO (rawInt h₅.objs.size):=hz₈
 have up:∀c o,c≠z→h₅.get? c=some o→h₈.get? c=some o:=fun c o c1 e=>hs₈.extBut _ _ c1 <| hs₇.extBut _ _ c1 (Heap.get?_push_of_some _ e)
 have hT₈:IsPair h₈ h₅.objs.size x y:=hs₈.extBut _ _ (Nat.ne_of_gt hzlt) <| hs₇.extBut _ _ (Nat.ne_of_gt hzlt) (Heap.get?_push_size _ rfl)
 have hz8:h₈.objs.size=h₅.objs.size+1:=(hs₈.1.trans hs₇.1).trans (Heap.size_push ..)
 rw[hsz] at hz₈ hT₈ hz8;refine wpAny_pure ⟨_,rfl,?_⟩;show Q (.ref h₅.objs.size) _;rw [hsz]
 exact hQ h₈ hz₈ (up _ _ D.TOz hTO₅) (h1₅.at fun o e=>up _ o D.i1z e) (h2₅.at fun o e=>up _ o D.i2z e) hT₈ hz8 fun c o c1 c2 c3 c4 e=>up c o c1 (hk₅ c o c1 c2 c3 c4 e)
theorem Ay{t u:Bool}{z TI TO i1 i2 l1 l2:Addr}{k1 k2:Nat}{xs ys:Array Value}{a b:Value}{Q:Fin→Shared→Prop}(hh:A.handled=none)(D:ZipApart z TI TO i1 i2 l1 l2)(hz:IsZip s.heap z TI TO .none)
 (hTI:IsPair s.heap TI (.ref i1) (.ref i2)) (hTO:IsPair s.heap TO a b) (h1:gC t s.heap i1 l1 k1) (h2:gC u s.heap i2 l2 k2) (hl1:jA t s.heap l1 xs) (hl2:jA u s.heap l2 ys) (hend:xs[k1]? =none∨ys[k2]? =none)
 (hE:∀h' e,(∀c o,c≠z→c≠TO→c≠i1→c≠i2→s.heap.get? c=some o→h'.get? c=some o)→(∃o,h'.get? e=some o∧o.cls= .type "StopIteration")→E (.ref e) {s with heap:=h'}):wpAny (model prog w) A (Builtin.«zip.__next__» ⟨[.ref z],[]⟩) Q E s:=by
 show wpAny _ _ (field (.ref z) 2 >>=_) _ _ _;refine wpAny_bind (wpAny_field hz rfl (x:= .bool false) rfl ?_);show wpAny _ _ (field (.ref z) 3 >>=_) _ _ _
 refine wpAny_bind (wpAny_field hz rfl (x:= .ref TI) rfl ?_);refine wpAny_bind (wpAny_seqItems hTI rfl ?_);show wpAny _ _ (Builtin.SmallTypes.ownedTupleIsFree (.ref z) >>=_) _ _ _
 refine wpAny_bind ?_;unfold Builtin.SmallTypes.ownedTupleIsFree;refine wpAny_bind (wpAny_field hz rfl (x:= .none) rfl (wpAny_pure ?_));simp only[if_true]
 refine wpAny_bind (wpAny_rule ?_);refine wpAny_bind (wpAny_field hz rfl (x:= .ref TO) rfl ?_);refine wpAny_bind (wpAny_setField_rec hz (by simp) fun h₁ hz₁ hs₁=>?_)
 replace hz₁:IsZip h₁ z TI TO .ellipsis:=hz₁;refine wpAny_bind ?_;simp only[List.zipIdx_cons,List.zipIdx_nil,List.forIn_cons,List.forIn_nil]
 refine wpAny_bind (wpAny_bind (wpAny_onRaise ?_));show wpAny _ _ (Builtin.SmallTypes.nextOf (.ref i1) >>=_) _ _ _
 cases hx:xs[k1]? with
 | none=>
   refine wpAny_bind (mS hh (h1.xb hs₁.extBut D.i1z) (hl1.xb hs₁.extBut D.l1z) hx fun h₂ e hs₂ he=>?_)
   obtain⟨oe,hoe,hce⟩:=he;have hz₂:IsZip h₂ z TI TO .ellipsis:=hs₂ _ _ D.i1z.symm hz₁
   have hez:e≠z:=fun x=>by {subst x;rw [hz₂] at hoe;cases hoe;simp at hce}
   exact wpAny_setField_rec hz₂ (by simp) fun h₃ _ hs₃=>hE h₃ e (fun c o c1 _ c3 _ x=>hs₃.extBut _ _ c1 <| hs₂ _ _ c3 <| hs₁.extBut _ _ c1 x) ⟨oe,hs₃.extBut _ _ hez hoe,hce⟩
 | some x=>
   have hy:ys[k2]? =none:=hend.resolve_left fun h=>by {rw [hx] at h;cases h}
   refine wpAny_bind (jy (h1.xb hs₁.extBut D.i1z) (hl1.xb hs₁.extBut D.l1z) hx fun h₂ h1₂ hs₂=>wpAny_pure ?_)
   have hTO₂:IsPair h₂ TO a b:=hs₂.extBut _ _ D.TOi1 (hs₁.extBut _ _ D.TOz hTO);refine wpAny_bind (wpAny_seqItems hTO₂ rfl ?_);refine wpAny_bind (wpAny_updateSeq_pair hTO₂ fun h₃ hTO₃ hs₃=>?_)
   refine wpAny_bind (wpAny_letGo (wpAny_pure ?_));refine wpAny_bind (wpAny_bind (wpAny_onRaise ?_));show wpAny _ _ (Builtin.SmallTypes.nextOf (.ref i2) >>=_) _ _ _
   refine wpAny_bind (mS hh (((h2.xb hs₁.extBut D.i2z).xb hs₂.extBut D.i12.symm).xb hs₃.extBut D.TOi2.symm) (((hl2.xb hs₁.extBut D.l2z).xb hs₂.extBut D.l2i1).xb hs₃.extBut D.l2TO) hy fun h₄ e hs₄ he=>?_)
   obtain⟨oe,hoe,hce⟩:=he;have hz₄:IsZip h₄ z TI TO .ellipsis:=hs₄ _ _ D.i2z.symm <| hs₃.extBut _ _ D.TOz.symm <| hs₂.extBut _ _ D.i1z.symm hz₁
   have hez:e≠z:=fun x=>by {subst x;rw [hz₄] at hoe;cases hoe;simp at hce}
   exact wpAny_setField_rec hz₄ (by simp) fun h₅ _ hs₅=>hE h₅ e (fun c o c1 c2 c3 c4 x=>hs₅.extBut _ _ c1 <| hs₄ _ _ c4 <| hs₃.extBut _ _ c2 <| hs₂.extBut _ _ c3 <| hs₁.extBut _ _ c1 x) ⟨oe,hs₅.extBut _ _ hez hoe,hce⟩
end
noncomputable abbrev Jt(t:Bool)(h:Heap)(l1:Addr):Heap:=h.push {cls:= .type (rK t),data:= .fields #[.ref l1, .int 0 0]}
noncomputable abbrev Ji(t u:Bool)(h:Heap)(l1 l2:Addr):Heap:=(Jt t h l1).push {cls:= .type (rK u),data:= .fields #[.ref l2, .int 0 0]}
noncomputable abbrev Jm(t u:Bool)(h:Heap)(l1 l2:Addr):Heap:=(Ji t u h l1 l2).push {cls:= .type "tuple",data:= .seq #[.ref h.objs.size, .ref (Jt t h l1).objs.size]}
noncomputable abbrev Ju(t u:Bool)(h:Heap)(l1 l2:Addr):Heap:=(Jm t u h l1 l2).push {cls:= .type "tuple",data:= .seq #[.none, .none]}
noncomputable abbrev HD(t u:Bool)(h:Heap)(l1 l2:Addr):Heap:=(Ju t u h l1 l2).push {cls:= .type "zip",data:= .fields #[.none, .bool false, .bool false, .ref (Ji t u h l1 l2).objs.size, .ref (Jm t u h l1 l2).objs.size]}
theorem xH(t u:Bool)(l1 l2:Addr)(xs ys:Array Value):Meets (Builtin.«zip.__new__» ⟨[.type "zip", .ref l1, .ref l2],[]⟩) (fun _ R s=>jA t s.heap l1 xs∧jA u s.heap l2 ys∧R (.ok (.ret (.ref (Ju t u s.heap l1 l2).objs.size))) {s with heap:=HD t u s.heap l1 l2}):=
 .of_wp fun prog w A R s h=>by
  obtain⟨hp,g,d,tk,os⟩:=s
  obtain⟨hl1,hl2,h⟩:=h;have hsub:=sub_zip
  have hL1:jA t (Shared.heap ⟨hp,g,d,tk,os⟩) l1 xs:=hl1
  have hL2:jA u (Shared.heap ⟨hp.push {cls:= .type (rK t),data:= .fields #[.ref l1, .int 0 0]},g,d,tk,os⟩) l2 ys:=hl2.at fun o e=>Heap.get?_push_of_some _ e
  wp_walk using sW hL1,sW hL2
  exact⟨_,rfl,h⟩
theorem gC.new{t:Bool}{h:Heap}{i l:Addr}(e:h.get? i=some {cls:= .type (rK t),data:= .fields #[.ref l, .int 0 0]}):gC t h i l 0:=by
 cases t with
 | true=>exact⟨_,e,rfl,rfl⟩
 | false=>exact⟨_,e,rfl,rfl⟩
theorem t4{prog:Program}{w:World}{A:Around}{E:Value→Shared→Prop}{s:Shared}{t u:Bool}{l1 l2:Addr}{xs ys:Array Value}{Q:Value→Shared→Prop}(hl1:jA t s.heap l1 xs)(hl2:jA u s.heap l2 ys)
 (h:∀h',IsZip h' (s.heap.objs.size+4) (s.heap.objs.size+2) (s.heap.objs.size+3) .none→IsPair h' (s.heap.objs.size+2) (.ref s.heap.objs.size) (.ref (s.heap.objs.size+1))→IsPair h' (s.heap.objs.size+3) .none .none→
   gC t h' s.heap.objs.size l1 0→gC u h' (s.heap.objs.size+1) l2 0→(∀c o,s.heap.get? c=some o→h'.get? c=some o)→Q (.ref (s.heap.objs.size+4)) {s with heap:=h'}):wpAny (model prog w) A (call (.type "zip") [.ref l1, .ref l2]) Q E s:=by
 refine callType_new F.called_zip (by decide) (F.typeCall_zip_2 _ _) (F.newCall_zip_2 _ _) (fun obj=>F.args_object_init_3 obj _ _) F.entry_zip_new (xH t u l1 l2 xs ys) ⟨hl1,hl2,?_⟩
 have z1:(Jt t s.heap l1).objs.size=s.heap.objs.size+1:=Heap.size_push ..
 have z2:(Ji t u s.heap l1 l2).objs.size=s.heap.objs.size+2:=(Heap.size_push ..).trans (congrArg (·+1) z1)
 have z3:(Jm t u s.heap l1 l2).objs.size=s.heap.objs.size+3:=(Heap.size_push ..).trans (congrArg (·+1) z2)
 have z4:(Ju t u s.heap l1 l2).objs.size=s.heap.objs.size+4:=(Heap.size_push ..).trans (congrArg (·+1) z3)
 have g5:(HD t u s.heap l1 l2).get? (Ju t u s.heap l1 l2).objs.size=some _:=Heap.get?_push_size _ rfl
 have g4:(HD t u s.heap l1 l2).get? (Jm t u s.heap l1 l2).objs.size=some _:=Heap.get?_push_of_some _ (Heap.get?_push_size _ rfl)
 have g3:(HD t u s.heap l1 l2).get? (Ji t u s.heap l1 l2).objs.size=some _:=Heap.get?_push_of_some _ <| Heap.get?_push_of_some _ (Heap.get?_push_size _ rfl)
 have g2:(HD t u s.heap l1 l2).get? (Jt t s.heap l1).objs.size=some _:=Heap.get?_push_of_some _ <| Heap.get?_push_of_some _ <| Heap.get?_push_of_some _ (Heap.get?_push_size _ rfl)
 have g1:(HD t u s.heap l1 l2).get? s.heap.objs.size=some _:=Heap.get?_push_of_some _ <| Heap.get?_push_of_some _ <| Heap.get?_push_of_some _ <| Heap.get?_push_of_some _ (Heap.get?_push_size _ rfl)
 show _∧_
 rw[z2,z3,z4] at g5;rw [z1,z2] at g3;rw [z3] at g4;rw [z1] at g2;rw [z4]
 exact⟨⟨_,g5,rfl⟩,h _ g5 g3 g4 (gC.new g1) (gC.new g2) fun c o x=>Heap.get?_push_of_some _ <| Heap.get?_push_of_some _ <| Heap.get?_push_of_some _ <| Heap.get?_push_of_some _ <| Heap.get?_push_of_some _ x⟩
end PySem
namespace L2
open PySem PySem.Spec PyProof.Rows
noncomputable def CS(t:Bool)(K:PySem.W.Frag)(H:Hp)(a:Addr)(xs:List V):Prop:=cond t (pE K H a xs) (mH K H a xs)
theorem Inv.zH{X:Cx}{pins:List (Addr × Obj)}{σ:L2.St}{H:Hp}{s:Shared}{t:Bool}{a:Addr}{xs:List V}(I:Inv X pins σ H s)(h:CS t X.K H a xs):∃its:List Value,Vals xs its∧jA t s.heap a its.toArray:=by
 cases t with
 | true=>obtain⟨its,r,p,_⟩:=I.tuple h;exact⟨its,r,p⟩
 | false=>obtain⟨its,r,p,_⟩:=I.list h;exact⟨its,r,p.isList⟩
theorem Inv.yL{X:Cx}{pins:List (Addr × Obj)}{σ:L2.St}{H:Hp}{s:Shared}{t:Bool}{a:Addr}{xs ys:List V}(I:Inv X pins σ H s)(h:CS t X.K H a xs)(h':CS t X.K H a ys):xs=ys:=by
 cases t with
 | true=>exact I.oQ h h'
 | false=>exact I.oC h h'
noncomputable def LX(K:PySem.W.Frag)(t u:Bool)(a b:Addr):It:=
 ⟨fun i H=>∃xs ys x y,CS t K H a xs∧CS u K H b ys∧xs[i]? =some x∧ys[i]? =some y,
  fun i H v H'=>∃p x y,H p=none∧v= .ref p∧(∀xs,CS t K H a xs→xs[i]? =some x)∧(∀ys,CS u K H b ys→ys[i]? =some y)∧H'=upd H p (.tup [x,y]),
  fun i H=>∃xs ys,CS t K H a xs∧CS u K H b ys∧(xs.length≤i∨ys.length≤i)⟩
theorem wC{P:Program}{w:World}{K:PySem.W.Frag}{elts:List Expr}{k:Nat}{pos:Pos}{t u:Bool}{z TI TO i1 i2 a b:Addr}(D:ZipApart z TI TO i1 i2 a b):Turn P w K (.Tuple elts k pos) (LX K t u a b) [z,TI,TO,i1,i2] z
 (fun i h=>IsZip h z TI TO .none∧IsPair h TI (.ref i1) (.ref i2)∧(∃x y,IsPair h TO x y)∧gC t h i1 a i∧gC u h i2 b i) where
 mem:=by simp
 obj:=fun i h st c hc=>by
  obtain⟨hz,hTI,⟨x,y,hTO⟩,h1,h2⟩:=st
  simp only[List.mem_cons,List.not_mem_nil,or_false] at hc
  rcases hc with rfl | rfl | rfl | rfl | rfl
  ·exact⟨_,hz,fun v z=>by cases z⟩
  ·exact⟨_,hTI,fun v z=>by cases z⟩
  ·exact⟨_,hTO,fun v z=>by cases z⟩
  ·exact h1.ob
  ·exact h2.ob
 keep:=fun i h h' st k=>by
  obtain⟨hz,hTI,⟨x,y,hTO⟩,h1,h2⟩:=st
  exact⟨k z (by simp) _ hz,k TI (by simp) _ hTI,⟨x,y,k TO (by simp) _ hTO⟩,h1.at fun o e=>k i1 (by simp) o e,h2.at fun o e=>k i2 (by simp) o e⟩
 item:=by
  intro X hP hw hK hc i pins s σ H E I hf st hg
  subst hP hw hK
  obtain⟨xs,ys,x,y,hq,hr,hx,hy⟩:=hg
  obtain⟨its,rv,p⟩:=I.zH hq
  obtain⟨jts,rw',p'⟩:=I.zH hr
  obtain⟨ux,hu,ru⟩:=rv.get hx
  obtain⟨uy,hu',ru'⟩:=rw'.get hy
  obtain⟨hz,hTI,⟨a0,b0,hTO⟩,h1,h2⟩:=st
  have hT:s.TypeIs (.ref z) "zip":=⟨_,hz,rfl⟩
  unfold pyNext
  refine wpAny_bind (wpAny_attempt (wpAny_callSpecial?_slot (name:=Str.ofString "__next__") hT F.slot_zip_next (wpAny_call_entry F.slot_zip_next hT F.entry_zip_next (zT D hz hTI hTO h1 h2 p p' (x:=ux) (y:=uy) (by simpa using hu) (by simpa using hu') fun h₁ a1 a2 a3 a4 a5 a6 hk₁=>wpAny_pure ?_) (F.args_zip_next_1 _))))
  refine⟨_,rfl,wpAny_letOwnedTupleGo_zip a1 fun h₂ hz₂ hs₂=>?_⟩
  replace hs₂:Heap.SameBut z h₁ h₂:=hs₂
  have hzl:z < s.heap.objs.size:=Heap.lt_size hz
  have ht₂:h₂.get? s.heap.objs.size=some {cls:= .type "tuple",data:= .seq #[ux,uy]}:=(hs₂.2 _ (Nat.ne_of_gt hzl)).trans a5
  have kk:∀b o,b≠z→b≠TO→b≠i1→b≠i2→s.heap.get? b=some o→h₂.get? b=some o:=fun b o c1 c2 c3 c4 q=>(hs₂.2 b c1).trans (hk₁ b o c1 c2 c3 c4 q)
  have hn:H s.heap.objs.size=none:=I.fresh
  have sm:a_ H (upd H s.heap.objs.size (.tup [x,y])):=aP hn
  have f0:∀c∈[z,TI,TO,i1,i2],H c=none:=fun c hc=>(hf c hc).1
  have nit:∀b o,H b=some o→b≠z∧b≠TO∧b≠i1∧b≠i2:=fun b o q=>by
   refine⟨fun e=>?_,fun e=>?_,fun e=>?_,fun e=>?_⟩
   ·rw[e,f0 z (by simp)] at q;cases q
   ·rw[e,f0 TO (by simp)] at q;cases q
   ·rw[e,f0 i1 (by simp)] at q;cases q
   ·rw[e,f0 i2 (by simp)] at q;cases q
  have kH:∀b o q,H b=some q→s.heap.get? b=some o→h₂.get? b=some o:=fun b o q hb e=>let⟨c1,c2,c3,c4⟩:=nit b q hb;kk b o c1 c2 c3 c4 e
  have hok:mJ X.prog X.w (upd H s.heap.objs.size (.tup [x,y])) h₂:=fun b ob q=>by
   by_cases hb:b=s.heap.objs.size
   ·subst hb
    rw[aT] at q
    cases q
    exact⟨by show 2≤sizeLine;decide,[ux,uy], .cons ru (.cons ru' .nil),⟨_,ht₂,rfl,_,rfl⟩⟩
   ·rw[bq hb] at q
    refine(I.hok b ob q).uB (fun c v hc e=>?_) (fun c e=>sm c _ e) fun c ys e=>sm c _ e
    rcases hc with rfl | hc
    ·exact kH c v _ q e
    ·exact kH c v _ hc e
  have nch:∀b,b ∉ [z,TI,TO,i1,i2]→b≠z∧b≠TO∧b≠i1∧b≠i2:=fun b hb=>⟨fun e=>hb (by simp [e]),fun e=>hb (by simp [e]),fun e=>hb (by simp [e]),fun e=>hb (by simp [e])⟩
  have kc:∀b o,b ∉ [z,TI,TO,i1,i2]→s.heap.get? b=some o→h₂.get? b=some o:=fun b o hb e=>let⟨c1,c2,c3,c4⟩:=nch b hb;kk b o c1 c2 c3 c4 e
  have I2:Inv X pins σ (upd H s.heap.objs.size (.tup [x,y])) {s with heap:=h₂,toks:=s.toks}:=by
   refine I.step (g':=s.gens) (d':=s.drawn) (ch:=[z,TI,TO,i1,i2]) (fun b hb=>?_) (fun b o _ _ hb q _=>kc b o hb q) (fun b o _ _ hb q _=>⟨o.slots,kc b o hb q⟩)
    (fun b o hb q n=>by rw[bq (Nat.ne_of_lt (Heap.lt_size q))];exact n) (fun b o hb q=>⟨o,kc b o hb q⟩) (fun b ys e=>sm b _ e) (fun b o u e=>sm b _ e) (fun b ps e=>⟨#[],by rw[sm b _ e];simp⟩) (fun m hm=>?_) hok I.bare
   ·obtain⟨g0,g1,g2,g3,g4,g5⟩:=hf b hb
    exact⟨g3,g1,g4,g5⟩
   ·obtain⟨o,es,ep,ho,r⟩:=hm
    refine⟨o,es,ep,kc _ o (fun hb=>?_) ho,r⟩
    exact(hf _ hb).2.1 rfl
  have up:∀c,c≠z→∀o,h₁.get? c=some o→h₂.get? c=some o:=fun c hc o e=>(hs₂.2 c hc).trans e
  refine⟨.ref s.heap.objs.size,_,I2,rfl,⟨s.heap.objs.size,x,y,hn,rfl,fun zs hy'=>(by rw[I.yL hy' hq];exact hx),fun zs hy'=>(by rw[I.yL hy' hr];exact hy),rfl⟩,
   ⟨hz₂,up _ D.TIz _ (hk₁ TI _ D.TIz D.TITO D.TIi1 D.TIi2 hTI),⟨_,_,up _ D.TOz _ a2⟩,a3.at fun o e=>up _ D.i1z o e,a4.at fun o e=>up _ D.i2z o e⟩,fun c hc=>?_⟩
  have hlt:c < s.heap.objs.size:=by
   simp only[List.mem_cons,List.not_mem_nil,or_false] at hc
   rcases hc with rfl | rfl | rfl | rfl | rfl
   ·exact hzl
   ·exact Heap.lt_size hTI
   ·exact Heap.lt_size hTO
   ·exact h1.lt
   ·exact h2.lt
  rw[bq (Nat.ne_of_lt hlt)]
  exact f0 c hc
 done:=by
  intro X hP hw hK hc i pins s σ H E I hf st hg
  subst hP hw hK
  obtain⟨xs,ys,hq,hr,hl⟩:=hg
  obtain⟨its,rv,p⟩:=I.zH hq
  obtain⟨jts,rw',p'⟩:=I.zH hr
  obtain⟨hz,hTI,⟨a0,b0,hTO⟩,h1,h2⟩:=st
  have hT:s.TypeIs (.ref z) "zip":=⟨_,hz,rfl⟩
  have l1:=rv.length
  have l2:=rw'.length
  unfold pyNext
  refine wpAny_bind (wpAny_attempt (wpAny_callSpecial?_slot (name:=Str.ofString "__next__") hT F.slot_zip_next (wpAny_call_entry F.slot_zip_next hT F.entry_zip_next (Ay (I.ok.hd hc) D hz hTI hTO h1 h2 p p' ?_ fun h' e hk he=>?_) (F.args_zip_next_1 _))))
  ·rcases hl with hl | hl
   ·exact .inl (by simp;omega)
   ·exact .inr (by simp;omega)
  obtain⟨o,ho,hcl⟩:=he
  refine wpAny_bind (wpAny_isInstance (T:="StopIteration") (b:=true) ⟨o,ho,hcl⟩ isSubtype_stop ?_)
  have nch:∀b,b ∉ [z,TI,TO,i1,i2]→b≠z∧b≠TO∧b≠i1∧b≠i2:=fun b hb=>⟨fun e=>hb (by simp [e]),fun e=>hb (by simp [e]),fun e=>hb (by simp [e]),fun e=>hb (by simp [e])⟩
  have kc:∀b o,b ∉ [z,TI,TO,i1,i2]→s.heap.get? b=some o→h'.get? b=some o:=fun b o hb e=>let⟨c1,c2,c3,c4⟩:=nch b hb;hk b o c1 c2 c3 c4 e
  have f0:∀c∈[z,TI,TO,i1,i2],H c=none:=fun c hc=>(hf c hc).1
  have kH:∀b o q,H b=some q→s.heap.get? b=some o→h'.get? b=some o:=fun b o q hb e=>kc b o (fun z=>by rw[f0 b z] at hb;cases hb) e
  refine wpAny_pure ⟨rfl,?_⟩
  refine I.step (h':=h') (H':=H) (g':=s.gens) (d':=s.drawn) (t':=s.toks) (ch:=[z,TI,TO,i1,i2]) (fun b hb=>?_) (fun b o _ _ hb q _=>kc b o hb q) (fun b o _ _ hb q _=>⟨o.slots,kc b o hb q⟩)
   (fun b o hb q n=>n) (fun b o hb q=>⟨o,kc b o hb q⟩) (fun b ys e=>e) (fun b o u e=>e) (fun b ps e=>⟨#[],by rw[e];simp⟩) (fun m hm=>?_) (fun b ob q=>?_) I.bare
  ·obtain⟨g0,g1,g2,g3,g4,g5⟩:=hf b hb
   exact⟨g3,g1,g4,g5⟩
  ·obtain⟨o,es,ep,ho,r⟩:=hm
   refine⟨o,es,ep,kc _ o (fun hb=>?_) ho,r⟩
   exact(hf _ hb).2.1 rfl
  ·refine(I.hok b ob q).uB (fun c v hc e=>?_) (fun c e=>e) fun c ys e=>e
   rcases hc with rfl | hc
   ·exact kH c v _ q e
   ·exact kH c v _ hc e
 self:=fun A i s Q E st h=>wpAny_pyIter_zip st.1 h
section
variable {X:Cx}
noncomputable def oJ(ds es:List D):List D:=(ds.zip es).map fun p=> .tup [p.1,p.2]
noncomputable def seqD?:D→Option (List D)
 | .lst ds=>some ds
 | .tup ds=>some ds
 | _=>none
noncomputable def B0(f g:FD):ax→R (List D):=fun δ=>(f δ).bind fun d=>(g δ).bind fun e=>match seqD? d,seqD? e with | some ds,some es=> .ok (oJ ds es) | _,_=> .no
theorem Rep.zH{K:PySem.W.Frag}{B:List Addr}{H:Hp}{d:D}{v:V}{ds:List D}(r:Rep K B H d v)(h:seqD? d=some ds):∃t a xs,v= .ref a∧(∀B' H',dA B H B' H'→CS t K H' a xs∧aH K B' H' ds xs):=by
 cases d with
 | lst es=>
   cases h
   obtain⟨a,xs,rfl,l,rs⟩:=Rep.lst.mp r
   exact⟨false,a,xs,rfl,fun B' H' p=>⟨(l.bt p).sq,rs.bt p⟩⟩
 | tup es=>
   cases h
   obtain⟨a,xs,rfl,l,rs⟩:=Rep.tup.mp r
   refine⟨true,a,xs,rfl,fun B' H' p=>⟨?_,rs.bt p⟩⟩
   have l':tq K B' H' a xs:=l.elim (fun z=> .inl ⟨(p.rd z.2 z.1).2,(p.rd z.2 z.1).1⟩) .inr
   exact l'.sq
 | _=>cases h
theorem Cm{elts:List Expr}{k:Nat}{tpos:Pos}{a b:Expr}{f g:FD}{p pos:Pos}(h:QD X a f)(h':QD X b g)(hg:Gl X "zip")(hm:X.mg "zip"=none)(hs:starEach [a,b] X.env=[(false,eval a X.env),(false,eval b X.env)]:=by rfl)(hs2:starEach [b] X.env=[(false,eval b X.env)]:=by rfl) :
 wZ X (.Tuple elts k tpos) (.Call (.Name "zip" p) [a,b] [] pos) (B0 f g):=by
 refine⟨?_⟩
 intro pins s σ H RR I ⟨Z,B,δ,ds,E,hf,q⟩
 obtain⟨d,h1,h2⟩:=R.ao hf
 obtain⟨e,h3,h4⟩:=R.ao h2
 have hA:=dJ h.1 (dJ h'.1 gu hs2) (by rw[hs,hs2]) pos pins s σ H (fun vs H1=>a_ H H1∧∃v v',vs=[v,v']∧Rep X.K B H1 d v∧Rep X.K B H1 e v') I
  ⟨Z,B,δ,d,E,h1,fun v H1 s1 r1=>⟨Z,B,δ,e,E.same s1,h3,fun v' H2 s2 r2=>⟨s1.trans s2,v,v',rfl,r1.same s2,r2⟩⟩⟩
 refine Call_ (ko I hg hm boot_zip (PyProof.Rows.callWith_type1 (eg hA fun us s1 ⟨vs,H1,I1,r1,ss,v,v',ev,rr,rr'⟩=>?_) (by rw[hs,hs2]) (by rw[hs2];rfl)))
 subst ev
 obtain⟨u,u',rfl,ru,ru'⟩:=vals2 r1
 cases e1:seqD? d with
 | none=>rw [e1] at h4;cases h4
 | some ls=>
   cases e2:seqD? e with
   | none=>rw [e1,e2] at h4;cases h4
   | some ms=>
     rw[e1,e2] at h4
     cases h4
     obtain⟨t,a,xs,rfl,k1⟩:=rr.zH e1
     obtain⟨w,b,ys,rfl,k2⟩:=rr'.zH e2
     cases ru
     cases ru'
     obtain⟨its,rv,pp⟩:=I1.zH (k1 B H1 (dA.refl B H1)).1
     obtain⟨jts,rw',pp'⟩:=I1.zH (k2 B H1 (dA.refl B H1)).1
     have la:=pp.lt
     have lb:=pp'.lt
     refine t4 pp pp' fun h₂ hz hTI hTO hi1 hi2 kk=>wpAny_pyIter_zip hz ?_
     have I2:Inv X pins σ H1 {s1 with heap:=h₂}:=I1.kept (t':=s1.toks) kk
     refine⟨s1.heap.objs.size+4,[s1.heap.objs.size+4,s1.heap.objs.size+2,s1.heap.objs.size+3,s1.heap.objs.size,s1.heap.objs.size+1],_,_,H1,rfl,I2,wC (t:=t) (u:=w) (zipApart_new la lb),⟨hz,hTI,⟨_,_,hTO⟩,hi1,hi2⟩,fun c hc=>?_,q _ H1 ss fun B' H' pr=>?_⟩
     ·have hle:s1.heap.objs.size≤c:=by
       simp only[List.mem_cons,List.not_mem_nil,or_false] at hc
       rcases hc with rfl | rfl | rfl | rfl | rfl <;> omega
      exact I1.qI hle (I1.hok.fresh hle)
     ·obtain⟨l1,rs1⟩:=k1 B' H' pr
      obtain⟨l2,rs2⟩:=k2 B' H' pr
      refine⟨fun i d hd=>?_,⟨xs,ys,l1,l2,?_⟩⟩
      ·unfold oJ at hd
       rw[List.getElem?_map] at hd
       cases ez:(ls.zip ms)[i]? with
       | none=>rw [ez] at hd;cases hd
       | some pr'=>
         rw[ez] at hd
         have hd:D.tup [pr'.1,pr'.2]=d:=Option.some.inj hd
         obtain⟨ea,eb⟩:=List.getElem?_zip_eq_some.mp ez
         obtain⟨x,hx,rx⟩:=rs1.get ea
         obtain⟨y,hy,ry⟩:=rs2.get eb
         refine⟨⟨xs,ys,x,y,l1,l2,hx,hy⟩,fun v H'' yl hB'=>?_⟩
         obtain⟨p,x2,y2,hp,rfl,hx2,hy2,rfl⟩:=yl
         refine⟨aP hp,?_⟩
         subst hd
         have hx2:=hx2 xs l1
         have hy2:=hy2 ys l2
         rw[hx] at hx2;cases hx2
         rw[hy] at hy2;cases hy2
         refine Rep.tup.mpr ⟨p,_,rfl, .inl ⟨fun ha=>?_, .inl aT⟩,aH.cons (rx.same (aP hp)) (aH.cons (ry.same (aP hp)) aH.nil)⟩
         obtain⟨o,ho⟩:=hB' p ha
         rw[hp] at ho;cases ho
      ·rw[←rs1.length,←rs2.length]
       unfold oJ
       rw[List.length_map,List.length_zip]
       omega
noncomputable def K5(T U:String)(f:FD):FD:=fun δ=>(f δ).bind fun d=>match d with | .dct _ _=> .no | _=> .ok (.bl (nT (tyName d) T || nT (tyName d) U))
noncomputable def Mh(lo:Int)(n:Nat):It:=⟨fun i _=>i < n,fun i H x H'=>H'=H∧x= .int (lo - i),fun i _=>n≤i⟩
noncomputable def JA(lo:Int)(n:Nat):List D:=(List.range n).map fun(i:Nat)=>D.int (lo - i)
noncomputable def KH(f g h:FD):ax→R (List D):=fun δ=>(f δ).bind fun d=>(g δ).bind fun e=>(h δ).bind fun k=>match d,e,k with
 | .int i, .int j, .int m=>R.bV (decide (m= -1∧ -(2 ^ 60)≤i∧i < 2 ^ 60∧ -(2 ^ 60)≤j∧j < 2 ^ 60)) (.ok (JA i (i - j).toNat)) | _,_,_=> .no
noncomputable def bls?:List D→Option (List Bool)
 | []=>some []
 | .bl b ::ds=>(bls? ds).map (b ::·)
 | _ ::_=>none
theorem qK{K:PySem.W.Frag}{B:List Addr}{H:Hp}:∀{ds:List D} {xs:List V} {bs:List Bool},aH K B H ds xs→bls? ds=some bs→xs=bs.map V.bl
 | [],xs,bs,r,h=>by unfold aH at r;subst r;cases h;rfl
 | d ::ds,xs,bs,r,h=>by
   obtain⟨x,q,rfl,r1,r2⟩:=r.cw
   cases d with
   | bl b=>
     have h:(bls? ds).map (b ::·)=some bs:=h
     cases e:bls? ds with
     | none=>rw [e] at h;cases h
     | some cs=>
       rw[e] at h
       cases h
       rw[Rep.bl.mp r1,qK r2 e]
       rfl
   | _=>cases h
theorem qw:∀bs:List Bool,bls? (bs.map D.bl)=some bs
 | []=>rfl
 | b ::bs=>by show(bls? (bs.map D.bl)).map (b ::·)=_;rw [qw bs];rfl
theorem nB:∀{bs:List Bool} {us:List Value},Vals (bs.map V.bl) us→us=bs.map Value.bool
 | [],us,h=>by cases h;rfl
 | b ::bs,us,h=>by
   cases h with
   | cons r t=>rw [nB t,show _=Value.bool b from r];rfl
theorem range_all(bs:List Bool):(List.range bs.length).all (fun i=>bs.getD i false)=bs.all id:=by
 rw[Bool.eq_iff_iff]
 simp only[List.all_eq_true,List.mem_range,id]
 constructor
 ·intro h b hb
  obtain⟨i,hi,rfl⟩:=List.getElem_of_mem hb
  have:=h i hi
  rw[List.getD_eq_getElem?_getD,List.getElem?_eq_getElem hi] at this
  exact this
 ·intro h i hi
  rw[List.getD_eq_getElem?_getD,List.getElem?_eq_getElem hi]
  exact h _ (List.getElem_mem hi)
theorem range_any(bs:List Bool):(List.range bs.length).any (fun i=>bs.getD i false)=bs.any id:=by
 rw[Bool.eq_iff_iff]
 simp only[List.any_eq_true,List.mem_range,id]
 constructor
 ·rintro⟨i,hi,h⟩
  rw[List.getD_eq_getElem?_getD,List.getElem?_eq_getElem hi] at h
  exact⟨_,List.getElem_mem hi,h⟩
 ·rintro⟨b,hb,h⟩
  obtain⟨i,hi,rfl⟩:=List.getElem_of_mem hb
  exact⟨i,hi,by rw[List.getD_eq_getElem?_getD,List.getElem?_eq_getElem hi];exact h⟩
noncomputable def BH:List D→R D
 | [.lst ds]=>(match bls? ds with | some bs=> .ok (.bl (bs.all id)) | none=> .no)
 | _=> .no
noncomputable def DH:List D→R D
 | [.lst ds]=>(match bls? ds with | some bs=> .ok (.bl (bs.any id)) | none=> .no)
 | _=> .no
theorem EN{bs:List Bool}{i:Nat}{v:Value}(h:((bs.map Value.bool).toArray)[i]? =some v):v= .bool (bs.getD i false):=by
 rw[List.getElem?_toArray,List.getElem?_map] at h
 rw[List.getD_eq_getElem?_getD]
 cases e:bs[i]? with
 | none=>rw [e] at h;cases h
 | some b=>rw [e] at h;cases h;rfl
theorem EU(hc:X.calm=true):gd X (.builtin "all") BH:=by
 intro pins s σ H B ds d xs us I hb rx rs hg
 unfold BH at hg
 split at hg
 ·split at hg
  ·rename_i es bs e
   cases hg
   obtain⟨x,rfl,r⟩:=rs.one
   obtain⟨a,ys,rfl,l,r⟩:=Rep.lst.mp r
   obtain⟨u,rfl,ru⟩:=vals1 rx
   cases ru
   obtain⟨its,n,rv,e1,hz⟩:=I.Ff l
   rw[qK r e] at rv
   obtain rfl:=nB rv
   have hl:s.heap.IsList a (bs.map Value.bool).toArray:=⟨_,e1,rfl,n,rfl⟩
   have hlt:a < s.heap.objs.size:=Heap.lt_size e1
   refine call_all_walk (wpAny_pyIter_list hl ?_)
   refine⟨_,_,_,_,_,_,fun i=>bs.getD i false,rfl,Walks.list (A:=X.A.in1) (I.ok.hd hc) _ a (Nat.ne_of_lt hlt) _,⟨⟨_,Heap.get?_push_size _ rfl,rfl,rfl⟩,hl.push _⟩,?_,fun h' tk hk=>?_⟩
   ·intro i v s Q E hP hQ
    rw[EN hP]
    exact wpAny_truthy_bool hQ
   ·refine⟨.bl (bs.all id),H,I.kept (old_kept hk),?_,a_.refl H,Rep.bl.mpr rfl⟩
    show Value.bool _=Value.bool _
    rw[←range_all]
    simp
  ·cases hg
 ·cases hg
theorem HP(hc:X.calm=true):gd X (.builtin "any") DH:=by
 intro pins s σ H B ds d xs us I hb rx rs hg
 unfold DH at hg
 split at hg
 ·split at hg
  ·rename_i es bs e
   cases hg
   obtain⟨x,rfl,r⟩:=rs.one
   obtain⟨a,ys,rfl,l,r⟩:=Rep.lst.mp r
   obtain⟨u,rfl,ru⟩:=vals1 rx
   cases ru
   obtain⟨its,n,rv,e1,hz⟩:=I.Ff l
   rw[qK r e] at rv
   obtain rfl:=nB rv
   have hl:s.heap.IsList a (bs.map Value.bool).toArray:=⟨_,e1,rfl,n,rfl⟩
   have hlt:a < s.heap.objs.size:=Heap.lt_size e1
   refine call_any_walk (wpAny_pyIter_list hl ?_)
   refine⟨_,_,_,_,_,_,fun i=>bs.getD i false,rfl,Walks.list (A:=X.A.in1) (I.ok.hd hc) _ a (Nat.ne_of_lt hlt) _,⟨⟨_,Heap.get?_push_size _ rfl,rfl,rfl⟩,hl.push _⟩,?_,fun h' tk hk=>?_⟩
   ·intro i v s Q E hP hQ
    rw[EN hP]
    exact wpAny_truthy_bool hQ
   ·refine⟨.bl (bs.any id),H,I.kept (old_kept hk),?_,a_.refl H,Rep.bl.mpr rfl⟩
    show Value.bool _=Value.bool _
    rw[←range_any]
    simp
  ·cases hg
 ·cases hg
end
end L2
end
section
set_option maxRecDepth 100000
set_option maxHeartbeats 4000000
namespace L2
open PySem PySem.Spec PyProof.Rows
section
variable {X:Cx}
noncomputable def Mr:FS:=fun _=> .no
noncomputable def KU(f:FD):FS:=fun δ=>(f δ).bind fun _=> .ok (.nx δ)
end
end L2
namespace L3
open PySem PySem.Spec PyProof.Rows L2
section
variable {X:Cx} {cl:Nat→Addr}
noncomputable def Mg:FZ:=fun _ _=> .no
noncomputable def yV(f:ax→R (List D)):FX:=fun δ S=>(R3.of (f (cM S δ)) S).bind fun ds S=>R3.bV (jK ds) (.ok (.loc S.length) (S++[.lst ds]))
theorem Em{K:PySem.W.Frag}{f:ax→R (List D)}{σ:L2.St}{H:Hp}{Q:V→Hp→Prop}(h:tX K cl (yV f) σ H Q):tN K f σ H Q:=by
 obtain⟨ρ,S,δ,v,S',E,hf,q⟩:=h
 obtain⟨ds,S1,h1,h2⟩:=R3.ao hf
 obtain⟨h3,e3⟩:=R3.of_ok h1
 obtain⟨ht,h4⟩:=R3.bo h2
 cases h4
 subst e3
 refine⟨[],[],cM _ δ,ds,E.cM,h3,fun a xs H' s n e r=>?_⟩
 have r0:aH K [] H' ds xs:=r.bt fun b o e nb=>⟨e,by simp⟩
 have r':aH K (ρ.push a).b H' ds xs:=aH.tG (fun b hb ys hr=>by
  rcases P3.mem_push hb with z | z
  ·exact(E.sw.same s).nt b z ys hr
  ·subst z
   rcases hr with y | ⟨ob,y⟩
   ·rw[e] at y;cases y
   ·rw[e] at y;cases y) ht r0
 obtain⟨w,p⟩:=E.sw.new (o:= .lst ds) s n ⟨xs,e,r'⟩
 exact q _ _ H' p w (by unfold bf;exact⟨a,by show(ρ.r++[a])[_]? =_;rw [←E.sw.len,List.getElem?_append_right (by omega),Nat.sub_self];rfl,rfl⟩)
theorem wz{i:Nat}{x:Str}{pos' spos:Pos}{scope:Scope}{own:List Str}{kp:List Nat}{kn:List Str}{tg iter elt:Expr}{ifs:List Expr}{it:ax→R (List D)}{t:FT}{c:ax→R Bool}{f:FD}{pos:Pos}(hc:X.calm=true)
 (hN:X.N.Nodup) (hx:X.N[i]? =some x) (hxl:X.env.scope.names.lookup x=some .local) (C:b9 X scope own kp kn) (hi:wZ X tg iter it)
 (hg:∀fp s H,GZ (bJ X scope (own++kn) fp s H) tg t) (hif:∀fp s H,EE (bJ X scope (own++kn) fp s H) ifs c) (he:∀fp s H,QD (bJ X scope (own++kn) fp s H) elt f)
 (hsw:swapsWith (.ListComp elt [⟨tg,iter,ifs,0⟩] scope pos) (some (.Name x pos')) spos.line X.env=pure true:=by rfl)
 (hs:∀x,foldedSetIterable iter X.env x=pure x:=by intro _;rfl):PZ X cl (.Assign [.Name x pos'] (.ListComp elt [⟨tg,iter,ifs,0⟩] scope pos) spos) (bL i (yV (eH it t c f own kp))):=
 ⟨(qL hc hN hx hxl C hi.1 (fun fp s H=>(hg fp s H).1) (fun fp s H=>(hif fp s H).1) (fun fp s H=>(he fp s H).1) hsw hs).imp fun D σ H h=>ze (Em (A8 h))⟩
theorem Hr{f:ax→R (List D)}{ds:List D}{δ:DE}{S:aN}{QV:V3→aN→Prop}(e:f (cM S δ)= .ok ds)(ht:jK ds=true)(h:QV (.loc S.length) (S++[.lst ds])):W3 (yV f δ S) QV:=W3.bind (W3.of e (W3.wh ht (W3.ok h)))
noncomputable def An(i:Nat)(f:FX):FZ:=fun δ S=>match gI δ i with
 | none=> .no
 | some k=>match cJ S k with
   | none=> .no
   | some _=>(f δ S).bind fun v S1=>match v with
     | .d (.lst es)=>(match cJ S1 k with
       | some ds=>R3.bV (decide (ds.length+es.length≤sizeLine)) (.ok (.nx δ) (S1.set k (.lst (ds++es))))
       | none=> .no)
     | _=> .no
theorem CG{i:Nat}{x:Str}{e:Expr}{f:FX}{npos apos cpos pos:Pos}(hN:X.N[i]? =some x)(hv:BP X.env.scope x)(he:PX X cl e f)
 (hd:(x==("__debug__":Str))=false:=by decide) (hcd:(x==("__classdict__":Str))=false:=by decide)
 (hs:starEach [e] X.env=(false,eval e X.env) ::starEach [] X.env:=by rfl) (hline:(apos.endLine==cpos.line)=true:=by rfl)
 (hfew:((backTo cpos (starEach [e] X.env)).all (fun x=>!x.1) && (backToKw cpos (keywordEach [] X.env)).all (fun x=>x.1.isSome)
   && decide (([e]:List Expr).length+([]:List Keyword).length+(if([]:List Keyword).isEmpty then 0 else 1) < 30))=true:=by rfl)
 (hsw:swapsWith (.Call (.Attribute (.Name x npos) "extend" apos) [e] [] cpos) none pos.line X.env=pure false:=by rfl)
 (hbase:attributeBase (.Name x npos) "extend" X.env (eval (.Name x npos) X.env)=eval (.Name x npos) X.env:=by rfl) :
 PZ X cl (.Expr (.Call (.Attribute (.Name x npos) "extend" apos) [e] [] cpos) pos) (An i f):=by
 refine⟨(qh (zp (X:=X) PySem.F.plainAttrs_list PySem.F.slot_list_extend PySem.F.type_list_extend x_ (o7 hN hv hd hcd) (dJ he.1 gu hs) hbase hfew hline hs) hsw).imp fun D σ H ⟨ρ,S,δ,o,S',E,hf,q⟩=>?_⟩
 unfold An at hf
 split at hf
 ·cases hf
 ·rename_i k hk
  split at hf
  ·cases hf
  ·rename_i ds0 h0
   obtain⟨v,S1,h1,h2⟩:=R3.ao hf
   split at h2
   ·rename_i es
    split at h2
    ·rename_i ds h3
     obtain⟨hl,h4⟩:=R3.bo h2
     cases h4
     obtain⟨u,u1,u2⟩:=E.val i _ (kQ hk)
     unfold bf at u2
     obtain⟨a,a1,rfl⟩:=u2
     obtain⟨xs0,x0,_⟩:=E.sw.ob k a _ a1 (dC h0)
     refine⟨.ref a,u1, .inl ⟨rfl,xs0,mH.of x0⟩,⟨ρ,S,δ, .d (.lst es),S1,E,h1,fun y ρ1 H1 p1 w1 r1=>?_⟩⟩
     have b1:=p1.ext k a a1
     obtain⟨xs,x1,x2⟩:=w1.ob k a _ b1 (dC h3)
     unfold bf at r1
     obtain⟨b,ys,rfl,l,r'⟩:=Rep.lst.mp r1
     refine⟨a,b,xs,ys,rfl,rfl,x1,⟨_,l⟩,by rw[←x2.length,←r'.length];exact of_decide_eq_true hl,?_⟩
     obtain⟨w2,p2⟩:=w1.put (o:= .lst (ds++es)) (u:= .lst (xs++ys)) b1 (w1.fz k a b1 (by rw[dC h3];intro h;cases h)) ⟨xs++ys,rfl,x2.append r'⟩
     exact q σ ρ1 _ (p1.trans p2) (E.to (p1.trans p2) w2)
    ·cases h2
   ·cases h2
theorem Fj{i k:Nat}{f:FX}{δ:DE}{S:aN}{QO:Ou→aN→Prop}(hk:δ[i]? =some (some (.loc k)))(h0:∃ds,S[k]? =some (.lst ds))(h:W3 (f δ S) fun v S1=>∃es ds,v= .d (.lst es)∧S1[k]? =some (.lst ds)∧ds.length+es.length≤sizeLine∧QO (.nx δ) (S1.set k (.lst (ds++es)))):W3 (An i f δ S) QO:=by
 obtain⟨es,h0⟩:=h0
 unfold An
 have e1:gI δ i=some k:=by unfold gI;rw [hk]
 have e2:cJ S k=some es:=by unfold cJ;simp only[h0]
 rw[e1];show W3 (match cJ S k with | none=>_ | some _=>_) _
 rw[e2]
 refine W3.bind (h.mono fun v S1 ⟨d,ds,e,h1,hl,q⟩=>?_)
 subst e
 have e3:cJ S1 k=some ds:=by unfold cJ;simp only[h1]
 show W3 (match cJ S1 k with | some ds=>_ | none=>_) _
 rw[e3]
 exact W3.wh (decide_eq_true hl) (W3.ok q)
end
end L3
end
section
set_option maxRecDepth 100000
set_option maxHeartbeats 4000000
namespace L2
open PySem PySem.Spec PyProof.Rows
section
variable {X:Cx}
theorem CJ{prog:Program}{w:World}{A:Around}{E:Value→Shared→Prop}{s:Shared}{t b:Addr}{vs ws:List Value}{Q:Value→Shared→Prop}(ht:IsTup s.heap t vs.toArray)(hb:IsTup s.heap b ws.toArray)
 (h0:vs=[]→Q (.ref b) s) (h1:vs≠[]→ws=[]→Q (.ref t) s) (h2:vs≠[]→ws≠[]→Q (.ref s.heap.objs.size) {s with heap:=s.heap.push {cls:= .type "tuple",data:= .seq (vs++ws).toArray}})
 (hsz:vs.length+ws.length≤sizeLine):wpAny (model prog w) A (binaryOp .Add (.ref t) (.ref b)) Q E s:=by
 by_cases hv:vs=[]
 ·obtain⟨⟨cls,dd,data,sl⟩,ho,hc,n,hd⟩:=id ht;obtain⟨⟨cls2,dd2,data2,sl2⟩,ho2,hc2,n2,hd2⟩:=id hb
  simp only at hc hd hc2 hd2;subst hc hd hc2 hd2
  exact concat_meets ⟨_,ho,rfl⟩ ⟨_,ho2,rfl⟩ noFill_tuple_add seq_tuple_add PySem.F.slot_tuple_add PySem.F.entry_tuple_add (PySem.F.args_tuple_add_2 _ _) (tuple_addW0 t b vs.toArray ws.toArray n n2 dd dd2 sl sl2 (by simp [hv])) ⟨ho,ho2,h0 hv⟩
 ·exact HT.Dx ht hb hv (h1 hv) (h2 hv) hsz
noncomputable def mK(d e:D):R D:=match d,e with
 | .tup a, .tup b=>R.bV (decide (a.length+b.length≤sizeLine)) (.ok (.tup (a++b)))
 | d,e=>iL d e
theorem tq.fresh{K:PySem.W.Frag}{B:List Addr}{H:Hp}{p:Addr}{xs:List V}(hb:∀a∈B,∃o,H a=some o)(hp:H p=none):tq K B (upd H p (.tup xs)) p xs:= .inl ⟨fun ha=>(by obtain⟨o,ho⟩:=hb p ha;rw [hp] at ho;cases ho), .inl aT⟩
theorem qC:k_ X (binaryOp .Add) mK:=by
 intro pins s σ H B da db d x y v u I hb rx ry ra rb hg
 by_cases ht:∃a b,da= .tup a∧db= .tup b
 ·obtain⟨a,b,rfl,rfl⟩:=ht
  have hg:R.bV (decide (a.length+b.length≤sizeLine)) (.ok (.tup (a++b)))= .ok d:=hg
  obtain⟨h1,h2⟩:=R.bo hg
  cases h2
  have h1:=of_decide_eq_true h1
  have ra':=ra
  have rb':=rb
  obtain⟨a1,xs1,rfl,l1,r1⟩:=Rep.tup.mp ra
  obtain⟨a2,xs2,rfl,l2,r2⟩:=Rep.tup.mp rb
  cases rx
  cases ry
  obtain⟨its,rv1,p1,_⟩:=I.tuple l1.sq
  obtain⟨its2,rv2,p2,_⟩:=I.tuple l2.sq
  have e1:=rv1.length
  have e2:=rv2.length
  have e3:=r1.length
  have e4:=r2.length
  refine CJ p1 p2 (fun z=>⟨.ref a2,H,I,rfl,a_.refl H,?_⟩) (fun _ z=>⟨.ref a1,H,I,rfl,a_.refl H,?_⟩) (fun _ _=>?_) (by omega)
  ·obtain rfl:a=[]:=List.eq_nil_of_length_eq_zero (by rw[e3,e1,z];rfl)
   exact rb'
  ·obtain rfl:b=[]:=List.eq_nil_of_length_eq_zero (by rw[e4,e2,z];rfl)
   rw[List.append_nil];exact ra'
  ·have hp:H s.heap.objs.size=none:=I.hok.fresh (Nat.le_refl _)
   refine⟨.ref s.heap.objs.size,_,I.laid (t':=s.toks) (o:= .tup (xs1++xs2)) (fun b ob q=>Heap.get?_push_of_some _ q) (Nat.le_refl _) ⟨by rw[List.length_append];omega,_,rv1.append rv2,IsTup.new _ _⟩,rfl,aP hp,Rep.tup.mpr ⟨_,_,rfl,tq.fresh hb hp,(r1.append r2).same (aP hp)⟩⟩
 ·have hg:iL da db= .ok d:=by
   unfold mK at hg
   split at hg
   ·exact absurd ⟨_,_,rfl,rfl⟩ ht
   ·exact hg
  exact jh pins s σ H B da db d x y v u I hb rx ry ra rb hg
theorem wZ.or{tg e:Expr}{F F1 F2:ax→R (List D)}(h1:wZ X tg e F1)(h2:wZ X tg e F2)(h:∀δ ds,F δ= .ok ds→F1 δ= .ok ds∨F2 δ= .ok ds):wZ X tg e F:=
 ⟨fun pins s σ H R I ⟨Z,B,δ,ds,E,hf,q⟩=>(h δ ds hf).elim (fun z=>h1.1 pins s σ H R I ⟨Z,B,δ,ds,E,z,q⟩) fun z=>h2.1 pins s σ H R I ⟨Z,B,δ,ds,E,z,q⟩⟩
noncomputable def zo(f:FD):ax→R (List D):=fun δ=>(f δ).bind fun d=>match d with | .lst ds=> .ok (cG ds) | .tup ds=> .ok (cG ds) | _=> .no
theorem yh{elts:List Expr}{k:Nat}{tpos:Pos}{a:Expr}{f:FD}{p pos:Pos}(h:QD X a f)(hg:Gl X "enumerate")(hm:X.mg "enumerate"=none)(hs:starEach [a] X.env=[(false,eval a X.env)]:=by rfl):wZ X (.Tuple elts k tpos) (.Call (.Name "enumerate" p) [a] [] pos) (zo f):=
 wZ.or (F1:=eO f) (F2:=um f) ⟨vf h.1 hg hm hs⟩ (xE h hg hm hs) fun δ ds hf=>by
  obtain⟨d,h1,h2⟩:=R.ao hf
  cases d with
  | lst es=>cases h2;exact .inl (by unfold eO;rw [h1];rfl)
  | tup es=>cases h2;exact .inr (by unfold um;rw [h1];rfl)
  | _=>cases h2
noncomputable def Mb(K:PySem.W.Frag)(a:Addr)(n:Nat):It:=
 ⟨fun i H=>∃xs x,mH K H a xs∧xs.length=n∧i < n∧xs[n - 1 - i]? =some x,fun i H v H'=>H'=H∧∀xs,mH K H a xs→xs[n - 1 - i]? =some v,fun i H=>(∃xs,mH K H a xs)∧i=n⟩
theorem Cz{P:Program}{w:World}{K:PySem.W.Frag}{tg:Expr}(a it:Addr)(n:Nat):Turn P w K tg (Mb K a n) [it] it (fun i h=>h.IsRevIter it a ((n:Int) - 1 - (i:Int))) where
 mem:=by simp
 obj:=fun i h st b hb=>by
  have e:b=it:=by simpa using hb
  subst e
  obtain⟨o,e,c,d⟩:=st
  exact⟨o,e,fun v z=>by rw[d] at z;cases z⟩
 keep:=fun i h h' st k=>st.at fun o e=>k it (by simp) o e
 item:=by
  intro X hP hw hK hc i pins s σ H E I hf st hg
  subst hP hw hK
  obtain⟨xs,x,hq,hn,hi,hx⟩:=hg
  obtain⟨its,rv,p,hz⟩:=I.list hq
  obtain⟨u,hu,ru⟩:=rv.get hx
  obtain⟨f0,f1,f2,f3,f4,f5⟩:=hf it (by simp)
  have e0:(n:Int) - 1 - (i:Int)=((n - 1 - i:Nat):Int):=by omega
  rw[e0] at st
  refine wpAny_pyNext_rev_item st p.isList (x:=u) (by simpa using hu) fun h' st' sb=>?_
  have I1:Inv X pins σ H {s with heap:=h'}:=I.turned (t':=s.toks) (fun b o hb e=>(sb.2 b hb).trans e) f0 f1 f3 f4 f5
  have st2:h'.IsRevIter it a ((n:Int) - 1 - ((i+1:Nat):Int)):=by
   rw[show((n - 1 - i:Nat):Int) - 1=(n:Int) - 1 - ((i+1:Nat):Int) by omega] at st';exact st'
  obtain⟨o,e,c,d⟩:=id st2
  exact⟨u,rfl,yR (s:={s with heap:=h'}) e c d (by decide) ⟨x,H,I1,ru,⟨rfl,fun ys hy=>by rw[I.oC hy hq];exact hx⟩,st2,fun b hb=>(hf b hb).1⟩⟩
 done:=by
  intro X hP hw hK hc i pins s σ H E I hf st hg
  subst hP hw hK
  obtain⟨_,rfl⟩:=hg
  obtain⟨f0,f1,f2,f3,f4,f5⟩:=hf it (by simp)
  rw[show(i:Int) - 1 - (i:Int)= -1 by omega] at st
  exact wpAny_pyNext_rev_end (I.ok.hd hc) st fun h' eb=>⟨rfl,I.turned (t':=s.toks) (fun b o hb e=>eb b o hb e) f0 f1 f3 f4 f5⟩
 self:=fun _ _ _ _ _ st h=>wpAny_pyIter_revIter st h
noncomputable def E9(f:FD):ax→R (List D):=fun δ=>(f δ).bind fun d=>match d with | .lst ds=> .ok ds.reverse | _=> .no
theorem BG{tg a:Expr}{f:FD}{p pos:Pos}(h:QD X a f)(hg:Gl X "reversed")(hm:X.mg "reversed"=none)(hs:starEach [a] X.env=[(false,eval a X.env)]:=by rfl):wZ X tg (.Call (.Name "reversed" p) [a] [] pos) (E9 f):=by
 refine⟨?_⟩
 intro pins s σ H RR I ⟨Z,B,δ,ds,E,hf,q⟩
 obtain⟨d,h1,h2⟩:=R.ao hf
 have hA:=dJ h.1 gu hs pos pins s σ H (fun vs H1=>a_ H H1∧∃v,vs=[v]∧Rep X.K B H1 d v) I ⟨Z,B,δ,d,E,h1,fun v H1 s1 r1=>⟨s1,v,rfl,r1⟩⟩
 refine Call_ (ko I hg hm boot_reversed (PyProof.Rows.callWith_type1 (eg hA fun us s1 ⟨vs,H1,I1,r1,ss,v,ev,rr⟩=>?_) hs rfl))
 subst ev
 obtain⟨u,rfl,ru⟩:=vals1 r1
 cases d with
 | lst es=>
   cases h2
   obtain⟨b,xs,rfl,l,rs⟩:=Rep.lst.mp rr
   cases ru
   obtain⟨its,rv,pl,hz⟩:=I1.list l.sq
   have e1:=rv.length
   have e2:=rs.length
   refine call_reversed_list pl.isList (wpAny_pyIter_revIter (i:=(its.toArray.size:Int) - 1) ⟨_,Heap.get?_push_size _ rfl,rfl,rfl⟩ ?_)
   refine⟨s1.heap.objs.size,[s1.heap.objs.size],_,_,H1,rfl,I1.kept (t':=s1.toks) fun b o e=>Heap.get?_push_of_some _ e,Cz b _ es.length,?_,fun c hc=>?_,q _ H1 ss fun B' H' pr=>?_⟩
   ·refine⟨_,Heap.get?_push_size _ rfl,rfl,?_⟩
    show Data.fields #[.ref b,rawInt ((its.toArray.size:Int) - 1)]=Data.fields #[.ref b,rawInt ((es.length:Int) - 1 - ((0:Nat):Int))]
    rw[List.size_toArray,←e1,←e2,show((es.length:Nat):Int) - 1 - ((0:Nat):Int)=(es.length:Int) - 1 by omega]
   ·have e:c=s1.heap.objs.size:=by simpa using hc
    subst e
    exact I1.qI (Nat.le_refl _) (I1.hok.fresh (Nat.le_refl _))
   ·have l':qZ X.K B' H' b xs:=l.bt pr
    have rs':=rs.bt pr
    refine⟨fun i d hd=>?_,⟨xs,l'.sq⟩,by rw[List.length_reverse]⟩
    have hi:i < es.length:=by have:=(List.getElem?_eq_some_iff.mp hd).1;rwa [List.length_reverse] at this
    rw[List.getElem?_reverse hi] at hd
    obtain⟨x,hx,rx⟩:=rs'.get hd
    refine⟨⟨xs,x,l'.sq,e2.symm,hi,hx⟩,fun v H'' yl hB'=>?_⟩
    obtain⟨rfl,hy⟩:=yl
    have hy2:=hy xs l'.sq
    rw[hx] at hy2
    cases hy2
    exact⟨a_.refl _,rx⟩
 | _=>cases h2
noncomputable def uh(K:PySem.W.Frag)(C:Addr)(m qual:Str)(st:Stmt):Prop:=∃f fd,y6 K m qual st f fd∧Meth K C m f
noncomputable def Ai(K:PySem.W.Frag)(C:Addr)(m qual:Str)(st:Stmt):Prop:=∃f fd,y6 K m qual st f fd∧Mk K C f
end
end L2
namespace L3
open PySem PySem.Spec PyProof.Rows L2
section
variable {X:Cx} {cl:Nat→Addr}
theorem ip.p{P:Program}{w:World}{K:PySem.W.Frag}{mg:Str→Option Value}{base:Heap}{cl:Nat→Addr}{k c:Nat}{m:Str}{n:Nat}{N:List Str}{F:FZ}(C:ip P w K mg base cl k c m n (mr N F)):ip P w K mg base cl k c m n (nE N F):=
 let⟨f,fd,ps,c1,c2,F,h⟩:=C;⟨f,fd,ps,c1,c2,F.imp fun _ _ _ _ h=>xo h,h⟩
end
end L3
end
section
set_option maxRecDepth 100000
set_option maxHeartbeats 4000000
namespace L2
open PySem PySem.Spec PyProof.Rows
section
variable {X:Cx}
noncomputable def LD(f:FD):ax→R (List D):=fun δ=>(f δ).bind fun d=>match d with | .int j=>R.bV (decide (-(2 ^ 62)≤j∧j < 16777216)) (.ok (e_ 0 j.toNat)) | _=> .no
noncomputable def L1(f:FD):FD:=fun δ=>(f δ).bind fun d=>match d with | .lst ds=> .ok (.lst ds.reverse) | _=> .no
end
end L2
end
section
set_option maxRecDepth 100000
set_option maxHeartbeats 4000000
namespace L2
open PySem PySem.Spec PyProof.Rows
section
variable {X:Cx}
noncomputable def L9(K:PySem.W.Frag)(n:Nat)(t:BC):TG:=fun v σ H Q=>∃a xs,v= .ref a∧mH K H a xs∧xs.length=n∧t xs σ H Q
end
end L2
namespace L3
open PySem PySem.Spec PyProof.Rows L2
section
variable {X:Cx} {cl:Nat→Addr}
noncomputable def Mi(n:Nat)(t:Ez):FG:=fun d δ=>match d with
 | .d (.lst ds)=>if ds.length=n then t (ds.map .d) δ else none
 | .lst vs=>if vs.length=n then t vs δ else none
 | _=>none
noncomputable def G1(f g:FX):FA:=fun δ S=>(ay f (ay g cq) δ S).bind fun vs S1=>match vs with
 | [.d d, .d e]=>(match seqD? d,seqD? e with | some ds,some es=> .ok ((oJ ds es).map .d) S1 | _,_=> .no)
 | _=> .no
theorem Di{elts:List Expr}{k:Nat}{tpos:Pos}{a b:Expr}{f g:FX}{p pos:Pos}(h:PX X cl a f)(h':PX X cl b g)(hg:Gl X "zip")(hm:X.mg "zip"=none)(hs:starEach [a,b] X.env=[(false,eval a X.env),(false,eval b X.env)]:=by rfl)(hs2:starEach [b] X.env=[(false,eval b X.env)]:=by rfl) :
 E6 X cl (.Tuple elts k tpos) (.Call (.Name "zip" p) [a,b] [] pos) (G1 f g):=by
 refine⟨?_⟩
 intro pins s σ H RR I ⟨ρ,S,δ,vs,S',E,hf,q⟩
 obtain⟨ws,S1,h1,h2⟩:=R3.ao hf
 have hA:=(ag h (ag h' aM hs2) (by rw[hs,hs2])).1 pos pins s σ H (fun us H1=>∃ρ1,Pre ρ H ρ1 H1∧SW X.K cl ρ1 H1 S1∧aK X.K ρ1 H1 ws us) I
  ⟨ρ,S,δ,ws,S1,E,h1,fun us ρ1 H1 p1 w1 r1=>⟨ρ1,p1,w1,r1⟩⟩
 refine Call_ (ko I hg hm boot_zip (PyProof.Rows.callWith_type1 (eg hA fun us s1 ⟨xs,H1,I1,r1,ρ1,p1,w1,rr⟩=>?_) (by rw[hs,hs2]) (by rw[hs2];rfl)))
 rcases hsh:ws with _ | ⟨w0,_ | ⟨w2,_ | ⟨w3,wr⟩⟩⟩ <;> subst hsh
 ·cases h2
 ·cases w0 <;> cases h2
 ·rcases w0 with d | _ | _ | _ <;> rcases w2 with e | _ | _ | _ <;> try (cases h2;done)
  have h2:(match seqD? d,seqD? e with | some ds,some es=>R3.ok ((oJ ds es).map V3.d) S1 | _,_=> .no)= .ok vs S':=h2
  cases e1:seqD? d with
  | none=>rw [e1] at h2;cases h2
  | some ls=>
    cases e2:seqD? e with
    | none=>rw [e1,e2] at h2;cases h2
    | some ms=>
      rw[e1,e2] at h2
      cases h2
      obtain⟨v,ys,ev,ra,rr⟩:=rr.cw
      obtain⟨v',zs,ev',rb,rr⟩:=rr.cw
      unfold aK at rr
      subst rr ev' ev
      obtain⟨u,u',rfl,ru,ru'⟩:=vals2 r1
      unfold bf at ra rb
      obtain⟨t,a,xs,rfl,k1⟩:=ra.zH e1
      obtain⟨w,b,ys,rfl,k2⟩:=rb.zH e2
      cases ru
      cases ru'
      obtain⟨its,rv,pp⟩:=I1.zH (k1 ρ1.b H1 (dA.refl _ H1)).1
      obtain⟨jts,rw',pp'⟩:=I1.zH (k2 ρ1.b H1 (dA.refl _ H1)).1
      have la:=pp.lt
      have lb:=pp'.lt
      refine t4 pp pp' fun h₂ hz hTI hTO hi1 hi2 kk=>wpAny_pyIter_zip hz ?_
      have I2:Inv X pins σ H1 {s1 with heap:=h₂}:=I1.kept (t':=s1.toks) kk
      refine⟨s1.heap.objs.size+4,[s1.heap.objs.size+4,s1.heap.objs.size+2,s1.heap.objs.size+3,s1.heap.objs.size,s1.heap.objs.size+1],_,_,H1,rfl,I2,wC (t:=t) (u:=w) (zipApart_new la lb),⟨hz,hTI,⟨_,_,hTO⟩,hi1,hi2⟩,fun c hc=>?_,q _ ρ1 H1 p1 w1 (HE.of fun B' H' pr=>?_)⟩
      ·have hle:s1.heap.objs.size≤c:=by
        simp only[List.mem_cons,List.not_mem_nil,or_false] at hc
        rcases hc with rfl | rfl | rfl | rfl | rfl <;> omega
       exact I1.qI hle (I1.hok.fresh hle)
      ·obtain⟨l1,rs1⟩:=k1 B' H' pr
       obtain⟨l2,rs2⟩:=k2 B' H' pr
       refine⟨fun i d hd=>?_,⟨xs,ys,l1,l2,?_⟩⟩
       ·unfold oJ at hd
        rw[List.getElem?_map] at hd
        cases ez:(ls.zip ms)[i]? with
        | none=>rw [ez] at hd;cases hd
        | some pr'=>
          rw[ez] at hd
          have hd:D.tup [pr'.1,pr'.2]=d:=Option.some.inj hd
          obtain⟨ea,eb⟩:=List.getElem?_zip_eq_some.mp ez
          obtain⟨x,hx,rx⟩:=rs1.get ea
          obtain⟨y,hy,ry⟩:=rs2.get eb
          refine⟨⟨xs,ys,x,y,l1,l2,hx,hy⟩,fun v H'' yl hB'=>?_⟩
          obtain⟨p,x2,y2,hp,rfl,hx2,hy2,rfl⟩:=yl
          refine⟨aP hp,?_⟩
          subst hd
          have hx2:=hx2 xs l1
          have hy2:=hy2 ys l2
          rw[hx] at hx2;cases hx2
          rw[hy] at hy2;cases hy2
          refine Rep.tup.mpr ⟨p,_,rfl, .inl ⟨fun ha=>?_, .inl aT⟩,aH.cons (rx.same (aP hp)) (aH.cons (ry.same (aP hp)) aH.nil)⟩
          obtain⟨o,ho⟩:=hB' p ha
          rw[hp] at ho;cases ho
       ·rw[←rs1.length,←rs2.length]
        unfold oJ
        rw[List.length_map,List.length_zip]
        omega
 ·cases w0 <;> cases w2 <;> cases h2
theorem IB{f g:FX}{δ:DE}{S:aN}{Q:List V3→aN→Prop}(h:W3 (f δ S) fun v S1=>W3 (g δ S1) fun w S2=>∃d e ds es,v= .d d∧w= .d e∧seqD? d=some ds∧seqD? e=some es∧Q ((oJ ds es).map .d) S2):W3 (G1 f g δ S) Q:=
 W3.bind (W3.bind (h.mono fun v S1 h2=>W3.bind (W3.bind (h2.mono fun w S2 ⟨d,e,ds,es,e1,e2',e3,e4,q⟩=>by
  subst e1 e2'
  exact W3.bind (W3.ok (W3.ok (W3.ok (by simp only[e3,e4];exact W3.ok q))))))))
noncomputable def ll(S:aN):Prop:=∀o∈S,mC S.length o=true
theorem Flat.LQ{S:aN}(h:Flat S):ll S:=fun o ho=>h o ho _
theorem ET{N:List Str}{F:FZ}{vs:List V3}{S:aN}{QV:V3→aN→Prop}(h:W3 (mr N F vs S) fun v S1=>(∀o∈S1.take S.length,mC S.length o=true)∧gQ S.length v=true∧∃d,res S1 v=some d∧QV (.d d) (S1.take S.length)):W3 (nE N F vs S) QV:=
 W3.bind (h.mono fun v S1 ⟨hl,hg,d,e,q⟩=>by
  rw[e]
  exact W3.wh (by rw[List.all_eq_true.mpr hl,hg];rfl) (W3.ok q))
theorem lQ{N:List Str}{F:FZ}{vs:List V3}{S:aN}{QV:V3→aN→Prop}(hS:ll S)(h:W3 (mr N F vs S) fun v S1=>gQ S.length v=true∧(∃T,S1=S++T)∧∃d,res S1 v=some d∧QV (.d d) S):W3 (nE N F vs S) QV:=
 ET (h.mono fun v S1 ⟨hg,⟨T,e1⟩,d,e,q⟩=>by
  subst e1
  rw[List.take_append_of_le_length (Nat.le_refl _),List.take_length]
  exact⟨hS,hg,d,e,q⟩)
end
end L3
end
section
set_option maxRecDepth 100000
set_option maxHeartbeats 4000000
namespace L2
open PySem PySem.Spec PyProof.Rows
section
variable {X:Cx}
noncomputable def ois?:List D→Option (List (Option Int))
 | []=>some []
 | .int i ::ds=>(ois? ds).map (some i ::·)
 | .di ::ds=>(ois? ds).map (none ::·)
 | _ ::_=>none
noncomputable def Mt:Option Int→V | some i=> .int i | none=> .di
noncomputable def LY(d e:D):R Bool:=match d,e with
 | .di, .lst ds=>(match ois? ds with | some ss=> .ok (ss.any (·.isNone)) | none=> .no)
 | _,_=> .no
noncomputable def LS(d e:D):R D:=(LY d e).bind fun b=> .ok (.bl b)
end
end L2
end
section
set_option maxRecDepth 100000
set_option maxHeartbeats 4000000
namespace L2
open PySem PySem.Spec PyProof.Rows
section
variable {X:Cx}
noncomputable def Jy(d:D)(ds:List D):R D:=match d,ds with
 | .lst es,[.int k]=>(match ints? es with | some ss=> .ok (.int (ss.count k:Nat)) | none=> .no)
 | _,_=> .no
end
end L2
end
section
set_option maxRecDepth 100000
set_option maxHeartbeats 4000000
namespace L2
open PySem PySem.Spec PyProof.Rows
section
variable {X:Cx}
noncomputable abbrev zO:D→D→R D:=vn (fun i j=>decide (0≤j∧j < 1000∧ -1000 < i∧i < 1000)) fun i j=>i*2 ^ j.toNat
theorem zx:k_ X (binaryOp .LShift) zO:=wL FE fun i j h=>by
 have:=of_decide_eq_true h
 exact⟨this.1,by omega,by omega⟩
noncomputable def KJ(d e:D):R D:=match d,e with | .bl a, .bl b=> .ok (.bl (a !=b)) | _,_=> .no
end
end L2
namespace L3
open PySem PySem.Spec PyProof.Rows L2
section
variable {X:Cx} {cl:Nat→Addr}
noncomputable def K9(fo f:FX):FZ:=fun δ S=>(fo δ S).bind fun o S0=>match o with
 | .loc k=>(match cJ S0 k with
   | none=> .no
   | some _=>(f δ S0).bind fun v S1=>match v with
     | .d d=>(match cJ S1 k with | some ds=>R3.bV (decide (ds.length < sizeLine)) (.ok (.nx δ) (S1.set k (.lst (ds++[d])))) | none=> .no)
     | _=> .no)
 | _=> .no
noncomputable def Ky(f:FX):FA:=fun δ S=>(ay f cq δ S).bind fun vs S1=>match vs with
 | [.d (.lst ds)]=> .ok ((cG ds).map .d) S1
 | _=> .no
end
end L3
end
section
set_option maxRecDepth 100000
set_option maxHeartbeats 4000000
namespace L2
open PySem PySem.Spec PyProof.Rows
section
variable {X:Cx}
end
end L2
end
section
set_option maxRecDepth 100000
set_option maxHeartbeats 4000000
namespace L3
open PySem PySem.Spec PyProof.Rows L2
section
variable {cl:Nat→Addr}
noncomputable def J2(it:FA)(t:FG)(c:FB)(f:FX)(own:List Str)(kp:List Nat):FX:=fun δ S=>(it δ S).bind fun vs S1=>R3.bV (decide (vs.length≤sizeLine)) ((lR t c f (f9 own kp δ) vs S1).bind fun ys S2=>match km ys with | some ds=> .ok (.loc S2.length) (S2++[.lst ds]) | none=> .no)
end
section
variable {X:Cx} {cl:Nat→Addr}
end
end L3
end
section
set_option maxRecDepth 100000
set_option maxHeartbeats 4000000
namespace L3
open PySem PySem.Spec PyProof.Rows L2
section
variable {X:Cx} {cl:Nat→Addr}
noncomputable def JX(g:List D→R D)(fs:FA):FX:=fun δ S=>(fs δ S).bind fun vs S1=>match mW S1 vs with
 | some ds=>(R3.of (g ds) S1).bind fun d S=>R3.bV (ox d) (.ok (.d d) S)
 | none=> .no
end
end L3
end
section
set_option maxRecDepth 100000
set_option maxHeartbeats 4000000
namespace L2
open PySem PySem.Spec PyProof.Rows
section
variable {X:Cx}
noncomputable def Hf(f:FD):FD:=fun δ=>(f δ).bind fun d=>match d with | .int i=> .ok (.int (-i - 1)) | _=> .no
theorem DK{a:Expr}{f:FD}{pos:Pos}(h:QD X a f):QD X (.UnaryOp .Invert a pos) (Hf f):=⟨(EX GU h.1).imp fun σ H Q ⟨Z,B,δ,d,E,hf,q⟩=>by
 obtain⟨d1,h1,h2⟩:=R.ao hf
 match d1,h1,h2 with
 | .int i,h1,h2=>
   cases h2
   exact⟨Z,B,δ, .int i,E,h1,fun v H1 s1 r1=>⟨i,Rep.int.mp r1,q _ H1 s1 (Rep.int.mpr rfl)⟩⟩
 | .di,_,h2=>cases h2
 | .bl _,_,h2=>cases h2
 | .str _,_,h2=>cases h2
 | .lst _,_,h2=>cases h2
 | .tup _,_,h2=>cases h2
 | .dct _ _,_,h2=>cases h2⟩
noncomputable def JI(d:D)(lo hi:Option Int):R D:=match d with
 | .tup ds=>R.bV (decide (¬(HT.gM ds.length 0 lo=0∧HT.gM ds.length ds.length hi=ds.length))) (.ok (.tup (cutD ds lo hi)))
 | _=> .no
noncomputable def D2(f:FD)(fl fh:FO):FD:=fun δ=>(f δ).bind fun d=>(fl δ).bind fun lo=>(fh δ).bind fun hi=>JI d lo hi
theorem Df{e:Expr}{lo hi:Option Expr}{f:FD}{fl fh:FO}{p2 pos:Pos}(he:QD X e f)(hl:QP X lo fl)(hh:QP X hi fh):QD X (.Subscript e (.Slice lo hi none p2) pos) (D2 f fl fh):=by
 refine⟨(wu G7 he.1 hl.1 hh.1).imp fun σ H Q ⟨Z,B,δ,d,E,hf,q⟩=>?_⟩
 obtain⟨d1,h1,h2⟩:=R.ao hf
 obtain⟨l,h3,h4⟩:=R.ao h2
 obtain⟨h,h5,h6⟩:=R.ao h4
 refine⟨Z,B,δ,d1,E,h1,fun v1 H1 s1 r1=>⟨Z,B,δ,l,E.same s1,h3,fun H2 s2=>⟨Z,B,δ,h,(E.same s1).same s2,h5,fun H3 s3=>?_⟩⟩⟩
 have sA:a_ H H3:=s1.trans (s2.trans s3)
 have r1':=r1.same (s2.trans s3)
 unfold JI at h6
 split at h6
 ·obtain⟨hz,h7⟩:=R.bo h6
  cases h7
  obtain⟨a,xs,rfl,ls,rs⟩:=Rep.tup.mp r1'
  have hz:=of_decide_eq_true hz
  rw[rs.length] at hz
  refine⟨a,xs,rfl,ls.sq,hz,fun p hp=>q _ _ (sA.trans (aP hp)) (Rep.tup.mpr ⟨p,_,rfl, .inl ⟨fun ha=>?_,?_⟩,(vb rs l h).same (aP hp)⟩)⟩
  ·obtain⟨o,ho⟩:=(E.same sA).bs p ha
   rw[hp] at ho;cases ho
  ·exact .of aT
 ·cases h6
end
end L2
namespace L3
open PySem PySem.Spec PyProof.Rows L2
section
variable {X:Cx} {cl:Nat→Addr}
structure Jj (X:Cx) (cl:Nat→Addr) (st:List Stmt) (F:FZ):Prop where
 go:u7 X st (fun D σ H=>D.ct=D.nx∧sX X.K cl F D σ H)
theorem Hk{st:List Stmt}{F:FZ}(h:As X cl st F):Jj X cl st F:=⟨h.1.imp fun D σ H z=>z.2⟩
theorem Cc{c:Expr}{rest:List Stmt}{fc:FB}{G:FZ}{pos pos2:Pos}(hc:Aq X cl c fc)(h2:Jj X cl rest G):Jj X cl (.If c [.Continue pos2] [] pos ::rest) (mX fc gS G):=
 ⟨(rD (AN hc.1 (uu ve) ua) h2.1).imp fun D σ H ⟨ec,ρ,S,δ,o,S',E,hf,q⟩=>by
   obtain⟨k,S1,h1,h2⟩:=R3.ao hf
   refine⟨ρ,S,δ,k,S1,E,h1,fun ρ1 H1 p1 w1=>?_⟩
   cases k with
   | true=>
     rw[if_pos rfl] at h2
     cases h2
     refine Cn ?_
     show D.ct σ H1
     rw[ec]
     exact q σ ρ1 H1 p1 (E.to p1 w1)
   | false=>rw [if_neg (by decide)] at h2;exact BE ⟨ec,ρ1,S1,δ,o,S',E.to p1 w1,h2,q.pre p1⟩⟩
theorem C8{tg iter:Expr}{body:List Stmt}{it:FA}{t:FG}{F:FZ}{pos:Pos}(hp:PassesOwn (model X.prog X.w) X.A X.env X.xe)(hc:X.calm=true)(hi:E6 X cl tg iter it)(hg:Fb X cl tg t)(hb:Jj X cl body F)
 (hs:∀x,foldedSetIterable iter X.env x=pure x:=by intro _;rfl):PZ X cl (.For tg iter body [] pos) (jR it t F):=⟨(yn hp hc hi.1 hg.1 hb.1 hs).imp fun D σ H ⟨ρ,S,δ,o,S',E,hf,q⟩=>by
 obtain⟨ds,S0,h1,h2⟩:=R3.ao hf
 refine⟨ρ,S,δ,ds,S0,E,h1,fun J ρ1 H1 p1 w1 ir=>?_⟩
 refine⟨fun i m σ' H'=>m=ds.length - i∧i≤ds.length∧∃ρ' S1 δ',Pre ρ1 H1 ρ' H'∧fP X.K cl ρ' H' S1 σ' δ'∧kT t F (ds.drop i) δ' S1= .ok o S',⟨ds.length,rfl,Nat.zero_le _,ρ1,S0,δ,Pre.refl ρ1 H1,E.to p1 w1,by simpa using h2⟩,?_⟩
 rintro i m σ' H' ⟨rfl,hi,ρ',S1,δ',pv,E',hl⟩
 obtain⟨go,stop⟩:=ir ρ' H' pv.pw E'.sw.bs
 by_cases hlt:i < ds.length
 ·have hd:ds[i]? =some ds[i]:=List.getElem?_eq_getElem hlt
  have hdrop:ds.drop i=ds[i] ::ds.drop (i+1):=List.drop_eq_getElem_cons hlt
  rw[hdrop] at hl
  unfold kT at hl
  split at hl
  ·cases hl
  ·rename_i δ1 h3
   obtain⟨o1,S2,h5,h6⟩:=R3.ao hl
   obtain⟨g1,g2⟩:=go i _ hd
   refine .inr ⟨g1,fun σ2 H2=>∃ρ2 S2 δ2,Pre ρ1 H1 ρ2 H2∧fP X.K cl ρ2 H2 S2 σ2 δ2∧kT t F (ds.drop (i+1)) δ2 S2= .ok o S',fun σ2 H2 n=>⟨ds.length - (i+1),by omega,rfl,hlt,n⟩,fun x H'' y=>?_⟩
   obtain⟨ss,rr⟩:=g2 x H'' y
   refine⟨ρ',S1,δ',ds[i],δ1,E'.same ss,rr,h3,fun σ2 H2 s2 E2=>⟨rfl,ρ',S1,δ1,o1,S2,E2,h5,?_⟩⟩
   have pv2:Pre ρ1 H1 ρ' H2:=pv.trans (Pre.same (ss.trans s2))
   cases o1 with
   | nx δ2=>exact fun σ3 ρ3 H3 p3 E3=>⟨ρ3,S2,δ2,pv2.trans p3,E3,h6⟩
   | rt d=>
     cases h6
     exact fun v ρ3 H3 p3 w r=>q v ρ3 H3 (p1.trans (pv2.trans p3)) w r
 ·have e:i=ds.length:=by omega
  subst e
  rw[List.drop_length] at hl
  cases hl
  exact .inl ⟨stop,q σ' ρ' H' (p1.trans pv) E'⟩⟩
end
end L3
end
section
set_option maxRecDepth 100000
set_option maxHeartbeats 4000000
namespace NT
noncomputable def mx(f:Nat→Nat)(w:List Nat):Nat:=(w.map f).foldl max 0
structure BA (f:Nat→Nat) (M:Nat) (bs:List Int):Prop where
 a:∀(z:Nat) (v:Int),bs[z]? =some v→v= -1∨(0≤v∧v+f z≤M)
noncomputable def BB(f:Nat→Nat)(M:Nat)(bs:List Int)(n:Nat):Prop:=∃(z:Nat) (v:Int),z < n∧bs[z]? =some v∧0≤v∧(M:Int)≤v+f z
noncomputable def Up(bs bs':List Int):Prop:=bs'.length=bs.length∧∀(z:Nat) (v:Int),bs[z]? =some v→∃v',bs'[z]? =some v'∧v≤v'
end NT
namespace NT
open PySem PySem.Spec PyProof.Rows L2 L3
structure Gt where
 k:Str
 w:List Nat
 s:Bool
noncomputable def nN(z:Nat):D:= .int z
noncomputable def wN(w:List Nat):D:= .tup (w.map nN)
noncomputable def gN(g:Gt):D:= .tup [.str g.k,wN g.w, .bl g.s]
noncomputable def iN(x:Str × Nat):D:= .tup [.str x.1, .int x.2]
noncomputable def oN(x:Str × List Nat):D:= .tup [.str x.1,wN x.2]
structure Net where
 i:List (Str × Nat)
 g:List Gt
 o:List (Str × List Nat)
noncomputable def Net.d(n:Net):D:= .tup [.lst (n.i.map iN), .lst (n.g.map gN), .lst (n.o.map oN)]
noncomputable def Net.first(n:Net):Nat:=(n.i.map (·.2)).sum
structure KS (n:Nat) (w:List Nat):Prop where
 ne:w≠[]
 le:w.length≤3
 lt:∀z∈w,z < n
structure Net.Ok (n:Net):Prop where
 i1:1≤n.i.length
 i6:n.i.length≤6
 iw:∀x∈n.i,1≤x.2∧x.2≤3
 is:∀x∈n.i,dY 0 (.str x.1)
 g60:n.g.length≤60
 gw:∀(p:Nat) (g:Gt),n.g[p]? =some g→KS (n.first+p) g.w
 gs:∀g∈n.g,dY 0 (.str g.k)
 o1:1≤n.o.length
 o6:n.o.length≤6
 ow:∀x∈n.o,KS (n.first+n.g.length) x.2
 os:∀x∈n.o,dY 0 (.str x.1)
theorem CK:∀{l:List (Str × Nat)},(∀x∈l,1≤x.2∧x.2≤3)→l.length≤(l.map (·.2)).sum∧(l.map (·.2)).sum≤3*l.length
 | [],_=>by simp
 | x ::l,h=>by
   have ih:=CK (l:=l) fun y hy=>h y (List.mem_cons_of_mem _ hy)
   have:=h x List.mem_cons_self
   rw[List.map_cons,List.sum_cons,List.length_cons]
   omega
theorem eq_self{n:Nat}{ds:List D}(h:dY n (.tup ds))(hn:n≤64):gO (.tup ds) (.tup ds)= .ok (.bl true):=by unfold gO;rw [h.eqT hn];rfl
inductive Sm:Nat→D→Prop where
 | int (n:Nat) (i:Int):Sm n (.int i)
 | bl (n:Nat) (b:Bool):Sm n (.bl b)
 | str (n:Nat) (s:Str):Sm n (.str s)
 | lst {n:Nat} {ds:List D} (h:∀d∈ds,Sm n d) (hl:ds.length≤1000000):Sm (n+1) (.lst ds)
 | tup {n:Nat} {ds:List D} (h:∀d∈ds,Sm n d) (hl:ds.length≤1000000):Sm (n+1) (.tup ds)
theorem mj{F G:FS}{δ:ax}{d:D}(h:F δ= .ok (.rt d)):fB F G δ= .ok (.rt d):=by unfold fB;rw [h];rfl
theorem ky{m i:Nat}{v:V3}(h:((e_ 0 m).map V3.d)[i]? =some v):i < m∧v= .d (.int i):=by
 rw[List.getElem?_map,e_,List.getElem?_map] at h
 cases q:(List.range m)[i]? with
 | none=>rw [q] at h;cases h
 | some j=>
   rw[q] at h;cases h
   obtain⟨q1,q2⟩:=List.getElem?_eq_some_iff.mp q
   rw[List.getElem_range] at q2
   rw[List.length_range] at q1
   subst q2
   exact⟨q1,by simp⟩
theorem yW(lo:Int)(m:Nat):(e_ lo m).length=m:=by rw[e_,List.length_map,List.length_range]
theorem je(lo:Int)(m:Nat):((e_ lo m).map V3.d).length=m:=by rw[List.length_map,yW]
theorem jV{α:Type}{l:List α}{f:α→D}{i:Nat}{v:V3}(h:((l.map f).map V3.d)[i]? =some v):∃x,l[i]? =some x∧v= .d (f x):=by
 rw[List.getElem?_map,List.getElem?_map] at h
 cases q:l[i]? with
 | none=>rw [q] at h;cases h
 | some x=>rw [q] at h;cases h;exact⟨x,rfl,rfl⟩
theorem ma{α:Type}{l:List α}{f:α→D}{i:Nat}{v:D}(h:(l.map f)[i]? =some v):∃x,l[i]? =some x∧v=f x:=by
 rw[List.getElem?_map] at h
 cases q:l[i]? with
 | none=>rw [q] at h;cases h
 | some x=>rw [q] at h;cases h;exact⟨x,rfl,rfl⟩
theorem er{α:Type}{t:FT}{c:ax→R Bool}{f:FD}{δ:ax}(a b:α→D):∀{xs:List α},(∀x∈xs,∃δ1,t (a x) δ= .ok δ1∧c δ1= .ok true∧f δ1= .ok (b x))→oa t c f δ (xs.map a)= .ok (xs.map b)
 | [],_=>rfl
 | x ::xs,h=>by
   obtain⟨δ1,h1,h2,h3⟩:=h x List.mem_cons_self
   have ih:=er (t:=t) (c:=c) (f:=f) (δ:=δ) a b (xs:=xs) fun y hy=>h y (List.mem_cons_of_mem _ hy)
   rw[List.map_cons]
   unfold oa
   rw[h1,R.aY,h2,R.aY,if_pos rfl,h3,R.aY,ih]
   rfl
theorem ic{α:Type}{t:FT}{c:ax→R Bool}{f:FD}{δ:ax}(p:α→Bool)(a b:α→D):∀{xs:List α},(∀x∈xs,∃δ1,t (a x) δ= .ok δ1∧c δ1= .ok (p x)∧(p x=true→f δ1= .ok (b x)))→oa t c f δ (xs.map a)= .ok ((xs.filter p).map b)
 | [],_=>rfl
 | x ::xs,h=>by
   obtain⟨δ1,h1,h2,h3⟩:=h x List.mem_cons_self
   have ih:=ic (t:=t) (c:=c) (f:=f) (δ:=δ) p a b (xs:=xs) fun y hy=>h y (List.mem_cons_of_mem _ hy)
   rw[List.map_cons]
   unfold oa
   rw[h1,R.aY,h2,R.aY]
   cases e:p x with
   | true=>rw [if_pos rfl,h3 e,R.aY,ih,List.filter_cons,if_pos e];rfl
   | false=>rw [if_neg (by decide),ih,List.filter_cons,if_neg (by rw[e];decide)]
theorem Dv{n z:Nat}(h:z < n):sv n (z:Int)=some z:=by
 unfold sv
 rw[if_pos (by omega),if_pos (by omega)]
 simp
theorem CI{α:Type}{xs:List α}{z:Nat}{x:α}(h:xs[z]? =some x):pG xs (z:Int)=some x:=by
 have hl:=(List.getElem?_eq_some_iff.mp h).1
 unfold pG
 rw[Dv hl]
 exact h
theorem jF{ds:List D}{z:Nat}{x:D}(h:ds[z]? =some x):bZ (.lst ds) (.int z)= .ok x:=uq (CI h)
end NT
end
section
set_option maxRecDepth 100000
set_option maxHeartbeats 4000000
namespace MT
open PySem PySem.Spec PyProof.Rows L2 L3
noncomputable abbrev M:=Nat→Bool
theorem IH{N:List Str}{F:FZ}{vs:List V3}{δ:DE}{S:aN}{QV:V3→aN→Prop}(e:bS N vs=δ)(h:W3 (F δ S) fun o S1=>∃δ',o= .nx δ'∧QV (.d .di) S1):W3 (mr N F vs S) QV:=by
 subst e
 exact W3.bind (h.mono fun _ _ ⟨_,e,q⟩=>by subst e;exact W3.ok q)
noncomputable def eN:Nat→M→Nat
 | 0,_=>0
 | N+1,f=>(if f 0 then 1 else 0)+2*eN N (fun i=>f (i+1))
theorem iV:∀(N:Nat) (f:M) (i:Nat),(eN N f).testBit i=(decide (i < N) && f i)
 | 0,f,i=>by unfold eN;simp
 | N+1,f,0=>by
   unfold eN
   rw[Nat.testBit_zero]
   cases f 0 <;> simp <;> omega
 | N+1,f,i+1=>by
   unfold eN
   rw[Nat.testBit_succ]
   have:((if f 0=true then 1 else 0)+2*eN N fun i=>f (i+1)) / 2=eN N fun i=>f (i+1):=by split <;> omega
   rw[this,iV N _ i]
   simp
theorem ml:∀{N:Nat} {f g:M},(∀i,i < N→f i=g i)→eN N f=eN N g
 | 0,_,_,_=>rfl
 | N+1,f,g,h=>by
   unfold eN
   rw[h 0 (by omega),ml (N:=N) fun i hi=>h (i+1) (by omega)]
theorem ub(N:Nat)(f g:M):eN N f &&& eN N g=eN N fun i=>f i && g i:=by
 refine Nat.eq_of_testBit_eq fun i=>?_
 rw[Nat.testBit_and,iV,iV,iV]
 cases decide (i < N) <;> simp
theorem BN(N:Nat)(f g:M):eN N f ||| eN N g=eN N fun i=>f i || g i:=by
 refine Nat.eq_of_testBit_eq fun i=>?_
 rw[Nat.testBit_or,iV,iV,iV]
 cases decide (i < N) <;> simp
theorem yT:∀(N:Nat) (f g:M),((eN N fun i=>f i || g i:Nat):Int) - (eN N fun i=>f i && g i:Nat)=(eN N fun i=>f i !=g i:Nat)
 | 0,f,g=>rfl
 | N+1,f,g=>by
   have ih:=yT N (fun i=>f (i+1)) (fun i=>g (i+1))
   have e:∀h:M,eN (N+1) h=(if h 0 then 1 else 0)+2*eN N (fun i=>h (i+1)):=fun _=>rfl
   rw[e,e,e]
   generalize eN N (fun i=>f (i+1) || g (i+1))=a at ih ⊢
   generalize eN N (fun i=>f (i+1) && g (i+1))=b at ih ⊢
   generalize eN N (fun i=>f (i+1) !=g (i+1))=c at ih ⊢
   show(((if(f 0 || g 0) then 1 else 0)+2*a:Nat):Int) - ((if(f 0 && g 0) then 1 else 0)+2*b:Nat)=((if(f 0 !=g 0) then 1 else 0)+2*c:Nat)
   cases f 0 <;> cases g 0 <;> simp <;> omega
theorem rW(x y:Nat):Builtin.bitAnd (x:Int) (y:Int)=((x &&& y:Nat):Int):=by
 unfold Builtin.bitAnd
 rw[decide_eq_true (by omega:(0:Int)≤x),decide_eq_true (by omega:(0:Int)≤y)]
 simp
theorem yO(x y:Nat):Builtin.bitOr (x:Int) (y:Int)=((x ||| y:Nat):Int):=by
 unfold Builtin.bitOr Builtin.bitAnd Builtin.bitNot
 rw[decide_eq_false (by omega:¬(0:Int)≤ -(x:Int) - 1),decide_eq_false (by omega:¬(0:Int)≤ -(y:Int) - 1)]
 show -(-(((-(-(x:Int) - 1) - 1).toNat ||| (-(-(y:Int) - 1) - 1).toNat:Nat):Int) - 1) - 1=_
 rw[show(-(-(x:Int) - 1) - 1).toNat=x by omega,show(-(-(y:Int) - 1) - 1).toNat=y by omega]
 omega
noncomputable def mI(N:Nat)(f:M):D:= .int (eN N f:Nat)
theorem fg{N:Nat}{f g:M}(h:∀i,i < N→f i=g i):mI N f=mI N g:=by unfold mI;rw [ml h]
theorem jj(N:Nat)(f g:M):qp (mI N f) (mI N g)= .ok (mI N fun i=>f i && g i):=by
 show R.ok (D.int (Builtin.bitAnd (eN N f:Int) (eN N g:Int)))=_
 rw[rW,ub];rfl
theorem mD(N:Nat)(f g:M):r_ (mI N f) (mI N g)= .ok (mI N fun i=>f i || g i):=by
 show R.ok (D.int (Builtin.bitOr (eN N f:Int) (eN N g:Int)))=_
 rw[yO,BN];rfl
theorem pB(N:Nat)(f g:M):tw (mI N f) (mI N g)= .ok (mI N fun i=>f i !=g i):=by
 show R.ok (D.int (Builtin.bitOr (eN N f:Int) (eN N g:Int) - Builtin.bitAnd (eN N f:Int) (eN N g:Int)))=_
 rw[yO,rW,BN,ub,yT];rfl
noncomputable def one:M:=fun _=>true
theorem t5(N:Nat)(f:M):tw (mI N one) (mI N f)= .ok (mI N fun i=>!f i):=by
 rw[pB]
 have:(fun i=>one i !=f i)=fun i=>!f i:=by funext i;unfold one;simp
 rw[this]
theorem xl(N:Nat)(f:M)(c:Bool):(if c then tw (mI N one) (mI N f) else .ok (mI N f))= .ok (mI N fun i=>f i !=c):=by
 cases c with
 | true=>
   rw[if_pos rfl,t5]
   have:(fun i=>!f i)=fun i=>f i !=true:=by funext i;cases f i <;> rfl
   rw[this]
 | false=>
   rw[if_neg (by decide)]
   have:f=fun i=>f i !=false:=by funext i;cases f i <;> rfl
   rw[←this]
theorem vJ{N:Nat}{f:M}:eN N f=0↔∀i,i < N→f i=false:=by
 constructor
 ·intro h i hi
  have:=iV N f i
  rw[h,Nat.zero_testBit,decide_eq_true hi,Bool.true_and] at this
  exact this.symm
 ·intro h
  refine Nat.eq_of_testBit_eq fun i=>?_
  rw[iV,Nat.zero_testBit]
  by_cases q:i < N
  ·rw[h i q];simp
  ·rw[decide_eq_false q];rfl
noncomputable def bI(b:Bool):D:= .int (if b then 1 else 0)
noncomputable def CT:List Bool→Nat
 | []=>0
 | b ::bs=>(if b then 1 else 0)+2*CT bs
theorem By:∀bs:List Bool,CT bs=eN bs.length fun i=>bs.getD i false
 | []=>rfl
 | b ::bs=>by
   unfold CT
   rw[By bs]
   rfl
noncomputable def nI(n:Nat):D:= .int (n:Int)
noncomputable def kS:Nat→Str | 0=>Str.ofString "not" | 1=>Str.ofString "and" | 2=>Str.ofString "or" | 3=>Str.ofString "xor" | _=>Str.ofString "vote"
noncomputable def ar:Nat→Nat | 0=>1 | 4=>3 | _=>2
theorem yD(k:Nat):ar k≤3:=by unfold ar;split <;> omega
noncomputable def gv:Nat→List Bool→Bool
 | 0,[a]=>!a
 | 1,[a,b]=>a && b
 | 2,[a,b]=>a || b
 | 3,[a,b]=>a !=b
 | 4,[a,b,c]=>(a && b) || (a && c) || (b && c)
 | _,_=>false
noncomputable def cS(ws:List M)(n:Nat):M:=ws.getD n fun _=>false
theorem uF{ws:List M}{b:M}{n:Nat}(h:n < ws.length):cS (ws++[b]) n=cS ws n:=by
 unfold cS
 rw[List.getD_eq_getElem?_getD,List.getElem?_append_left h,List.getD_eq_getElem?_getD]
theorem vZ(ws:List M)(b:M):cS (ws++[b]) ws.length=b:=by
 unfold cS
 rw[List.getD_eq_getElem?_getD,List.getElem?_append_right (Nat.le_refl _),Nat.sub_self]
 rfl
noncomputable abbrev Gt:=Nat × List Nat × Bool
noncomputable def kl(g:Gt):D:= .tup [.str (kS g.1), .tup (g.2.1.map nI), .bl g.2.2]
noncomputable def vx(n:Nat)(g:Gt):Prop:=g.1≤4∧g.2.1.length=ar g.1∧∀w∈g.2.1,w < n
noncomputable def inD(x:Str × Nat):D:= .tup [.str x.1,nI x.2]
noncomputable def wY(x:Str × List Nat):D:= .tup [.str x.1, .tup (x.2.map nI)]
noncomputable def bM(ins:List (Str × Nat))(gs:List Gt)(os:List (Str × List Nat)):D:= .tup [.lst (ins.map inD), .lst (gs.map kl), .lst (os.map wY)]
noncomputable def g9(ins:List (Str × Nat)):Nat:=(ins.map (·.2)).sum
noncomputable def gF(g:Gt)(ws:List M):M:=fun p=>gv g.1 (g.2.1.map fun n=>cS ws n p)
noncomputable def gx(bad:List Int)(b:M):Nat→List M→List M
 | 0,ws=>ws
 | n+1,ws=>gx bad b n ws++[fun p=>b p !=bad.contains ((gx bad b n ws).length:Int)]
theorem gT(bad:List Int)(b:M):∀n ws,(gx bad b n ws).length=ws.length+n
 | 0,ws=>rfl
 | n+1,ws=>by unfold gx;rw [List.length_append,gT bad b n ws];rfl
noncomputable def cL(ins:List (Str × Nat))(bits:List M)(bad:List Int):Nat→List M
 | 0=>[]
 | i+1=>match ins[i]?,bits[i]? with | some x,some b=>gx bad b x.2 (cL ins bits bad i) | _,_=>cL ins bits bad i
theorem j3{ins:List (Str × Nat)}{bits:List M}{bad:List Int}(hb:bits.length=ins.length):∀i,i≤ins.length→(cL ins bits bad i).length=g9 (ins.take i)
 | 0,_=>rfl
 | i+1,hi=>by
   have h1:ins[i]? =some ins[i]:=List.getElem?_eq_getElem (by omega)
   have h2:bits[i]? =some bits[i]:=List.getElem?_eq_getElem (by omega)
   unfold cL
   rw[h1,h2]
   show(gx bad bits[i] ins[i].2 (cL ins bits bad i)).length=_
   rw[gT,j3 hb i (by omega),List.take_add_one,h1]
   unfold g9
   simp only[Option.toList_some,List.map_append,List.sum_append,List.map_cons,List.map_nil,List.sum_cons,List.sum_nil]
   omega
noncomputable def mF(gs:List Gt)(turned:List Int)(w0:List M):Nat→List M
 | 0=>w0
 | i+1=>match gs[i]? with | some g=>mF gs turned w0 i++[fun p=>gF g (mF gs turned w0 i) p !=turned.contains (i:Int)] | none=>mF gs turned w0 i
theorem mv{gs:List Gt}{turned:List Int}{w0:List M}:∀i,i≤gs.length→(mF gs turned w0 i).length=w0.length+i
 | 0,_=>rfl
 | i+1,hi=>by
   have h1:gs[i]? =some gs[i]:=List.getElem?_eq_getElem (by omega)
   unfold mF
   rw[h1]
   show(mF gs turned w0 i++[_]).length=_
   rw[List.length_append,mv i (by omega)]
   rfl
structure j0 (ins:List (Str × Nat)) (gs:List Gt) (os:List (Str × List Nat)):Prop where
 hi:ins.length < 100
 hw:∀x∈ins,x.2 < 100
 hg:gs.length < 1000
 g:∀(i:Nat) (x:Gt),gs[i]? =some x→vx (g9 ins+i) x
 ho:os.length < 1000
 o:∀x∈os,x.2.length < 1000∧∀w∈x.2,w < g9 ins+gs.length
noncomputable def C4(ins:List (Str × Nat))(gs:List Gt)(bits:List M)(turned bad:List Int):List M:=mF gs turned (cL ins bits bad ins.length) gs.length
theorem oT:∀{l:List (Str × Nat)},(∀x∈l,x.2 < 100)→g9 l≤100*l.length
 | [],_=>by simp [g9]
 | x ::l,h=>by
   have ih:=oT (l:=l) fun y hy=>h y (List.mem_cons_of_mem _ hy)
   have:=h x List.mem_cons_self
   unfold g9 at ih ⊢
   rw[List.map_cons,List.sum_cons,List.length_cons]
   omega
theorem wo{ins:List (Str × Nat)}{gs:List Gt}{bits:List M}{turned bad:List Int}(hb:bits.length=ins.length):(C4 ins gs bits turned bad).length=g9 ins+gs.length:=by unfold C4;rw [mv _ (Nat.le_refl _),j3 hb _ (Nat.le_refl _),List.take_length]
noncomputable def tell(ws:List M)(x:Str × List Nat):List M:=x.2.map (cS ws)
noncomputable def FI:List Bool→Bool × Bool
 | [a]=>(!a,a)
 | [a,b]=>(!(a || b),a && b)
 | [a,b,c]=>let v:=(a && b) || (a && c) || (b && c);(!v,v)
 | _=>(false,false)
noncomputable def brk(safe:Bool)(x y:Bool × Bool):Bool:=if safe then(x.1 && y.2) || (x.2 && y.1) else(x.1 !=y.1) || (x.2 !=y.2)
theorem qr(i:Int)(ps:List Int):vB (.int i) (.tup (ps.map .int))= .ok (.bl (ps.contains i)):=by
 show((match ints? (ps.map D.int) with | some ss=>R.ok (ss.contains i) | none=> .no)).bind (fun b=>R.ok (D.bl b))=_
 rw[L2.ints_map];rfl
theorem mh{ds:List D}{i:Nat}{v:V3}(h:((cG ds).map V3.d)[i]? =some v):∃d,ds[i]? =some d∧v= .d (.tup [.int i,d]):=by
 rw[List.getElem?_map,cG,List.getElem?_map,List.getElem?_zipIdx] at h
 cases q:ds[i]? with
 | none=>rw [q] at h;cases h
 | some d=>
   rw[q] at h
   simp at h
   exact⟨d,rfl,h.symm⟩
theorem ug{c:ax→R Bool}{f g:FD}{δ:ax}{b:Bool}{r:R D}(h:c δ= .ok b)(h2:(if b then f δ else g δ)=r):za c f g δ=r:=by unfold za;rw [h,R.aY];exact h2
theorem dw(S:aN)(x y:SO):(S++[x]).set S.length y=S++[y]:=by
 rw[List.set_append_right _ _ (Nat.le_refl _),Nat.sub_self];rfl
theorem bc(S:aN)(x:SO):(S++[x])[S.length]? =some x:=by rw[List.getElem?_append_right (Nat.le_refl _),Nat.sub_self];rfl
theorem xQ{N:Nat}{ws:List M}{n:Nat}(h:n < ws.length):bZ (.lst (ws.map (mI N))) (nI n)= .ok (mI N (cS ws n)):=by
 refine NT.jF ?_
 rw[List.getElem?_map,List.getElem?_eq_getElem h]
 unfold cS
 rw[List.getD_eq_getElem?_getD,List.getElem?_eq_getElem h]
 rfl
end MT
namespace MT
open PySem PySem.Spec PyProof.Rows L2 L3
noncomputable def iB:List Nat→Nat→List (List Nat)
 | _,0=>[[]]
 | ps,s+1=>(List.range ps.length).flatMap fun a=>(iB (ps.drop (a+1)) s).map (ps.getD a 0 ::·)
theorem nv:∀{s:Nat} {ps T:List Nat},T∈iB ps s→T.length=s∧∀x∈T,x∈ps
 | 0,ps,T,h=>by unfold iB at h;rw [List.mem_singleton.mp h];simp
 | s+1,ps,T,h=>by
   unfold iB at h
   obtain⟨a,ha,h⟩:=List.mem_flatMap.mp h
   obtain⟨R,hR,rfl⟩:=List.mem_map.mp h
   rw[List.mem_range] at ha
   obtain⟨h1,h2⟩:=nv hR
   refine⟨by simp [h1],fun x hx=>?_⟩
   rcases List.mem_cons.mp hx with rfl | hx
   ·rw[List.getD_eq_getElem?_getD,List.getElem?_eq_getElem ha];exact List.getElem_mem ha
   ·exact List.mem_of_mem_drop (h2 x hx)
theorem xy:∀{l:List Nat} {m:Nat},(∀x∈l,x≤m)→l.sum≤l.length*m
 | [],_,_=>by simp
 | x ::l,m,h=>by
   have:=xy (l:=l) (m:=m) fun y hy=>h y (List.mem_cons_of_mem _ hy)
   have h0:=h x List.mem_cons_self
   rw[List.sum_cons,List.length_cons,Nat.add_mul]
   omega
theorem ql:∀{s:Nat} {ps:List Nat} {n:Nat},ps.length≤n→(iB ps s).length≤n ^ s
 | 0,ps,n,_=>by unfold iB;simp
 | s+1,ps,n,h=>by
   unfold iB
   rw[List.length_flatMap,Nat.pow_succ]
   refine Nat.le_trans (xy (m:=n ^ s) fun x hx=>?_) ?_
   ·obtain⟨a,_,rfl⟩:=List.mem_map.mp hx
    rw[List.length_map]
    exact ql (by rw[List.length_drop];omega)
   ·rw[List.length_map,List.length_range,Nat.mul_comm]
    exact Nat.mul_le_mul_left _ h
end MT
end
section
set_option Elab.async false
set_option linter.all false
set_option maxRecDepth 100000
set_option maxHeartbeats 4000000
namespace K21
open PySem PySem.Spec PyProof.Rows L2 L3
noncomputable def top(i:Nat):Stmt:=PySem.Challenge.pw_bearfaults_k21_breaking_sets.main.body.getD i (.Pass ⟨0,0,0,0⟩)
structure Tp (K:PySem.W.Frag) (mg:Str→Option Value) (cl:Nat→Addr):Prop where
 z_enumerate:mg (Str.ofString "enumerate")=none
 z_range:mg (Str.ofString "range")=none
 z_len:mg (Str.ofString "len")=none
 z_tuple:mg (Str.ofString "tuple")=none
 z_reversed:mg (Str.ofString "reversed")=none
 z_all:mg (Str.ofString "all")=none
 z_zip:mg (Str.ofString "zip")=none
 z_any:mg (Str.ofString "any")=none
 z_min:mg (Str.ofString "min")=none
 z_list:mg (Str.ofString "list")=none
 z_isinstance:mg (Str.ofString "isinstance")=none
 z_bool:mg (Str.ofString "bool")=none
 z_int:mg (Str.ofString "int")=none
 C_Bench:u6 K (cl 0)
 N_Bench_net:dg K (cl 0) (Str.ofString "net")
 N_Bench_many_inputs:dg K (cl 0) (Str.ofString "many_inputs")
 N_Bench_full:dg K (cl 0) (Str.ofString "full")
 N_Bench_in_masks:dg K (cl 0) (Str.ofString "in_masks")
 M_Bench:mg (Str.ofString "Bench")=some (.ref (cl 0))
 C_Trial:u6 K (cl 1)
 N_Trial_bench:dg K (cl 1) (Str.ofString "bench")
 N_Trial_plain:dg K (cl 1) (Str.ofString "plain")
 N_Trial_unsure:dg K (cl 1) (Str.ofString "unsure")
 M_Trial:mg (Str.ofString "Trial")=some (.ref (cl 1))
noncomputable abbrev fI:Stmt:=top 2
noncomputable abbrev tO:List Str:=[(Str.ofString "masks")]
noncomputable def xS:{b:List Stmt // aq fI=b}:=by
 have e:aq fI=aq fI:=rfl
 conv at e=>rhs;whnf
 exact⟨_,e⟩
noncomputable def rJ:{b:Scope // af fI=b}:=by
 have e:af fI=af fI:=rfl
 conv at e=>rhs;whnf
 exact⟨_,e⟩
theorem z6:ba tO [(Str.ofString "masks")] rJ.1:=⟨rfl,rfl,rfl,by decide+kernel,rfl,by decide+kernel,by decide+kernel⟩
noncomputable def sO:FS:=(fZ (e2 r_ (e2 r_ (e2 qp (e2 bZ (ae 0) (eC (.int 0))) (e2 bZ (ae 0) (eC (.int 1)))) (e2 qp (e2 bZ (ae 0) (eC (.int 0))) (e2 bZ (ae 0) (eC (.int 2))))) (e2 qp (e2 bZ (ae 0) (eC (.int 1))) (e2 bZ (ae 0) (eC (.int 2))))))
noncomputable def gm:List D→R D:=oY tO sO
theorem zJ{P:Program}{w:World}{K:PySem.W.Frag}{mg:Str→Option Value}{base:Heap}{cl:Nat→Addr}(T:Tp K mg cl)(h:Def K mg (Str.ofString "vote_of") fI):Callee P w K mg base 1 (Str.ofString "vote_of") 1 gm:=by
 obtain⟨f,fd,F,hm⟩:=h
 exact⟨f,fd,_,c_ (k:=0) xS.2 rJ.2 F z6 (fun cdv A outer s H E hr=>(bF (cv (aC mz (aC mz (aC l0 (aG (aa 0) aj (fun _ _=>rfl)) (aG (aa 0) aj (fun _ _=>rfl))) (aC l0 (aG (aa 0) aj (fun _ _=>rfl)) (aG (aa 0) aj (fun _ _=>rfl)))) (aC l0 (aG (aa 0) aj (fun _ _=>rfl)) (aG (aa 0) aj (fun _ _=>rfl))))))),hm,F.kp,F.binds fun _ _ _ _ _ _ us hl=>match us,hl with | [_],_=>rfl⟩
noncomputable abbrev dk:Stmt:=top 3
noncomputable abbrev lZ:List Str:=[(Str.ofString "kind"),(Str.ofString "masks"),(Str.ofString "full")]
noncomputable def uR:{b:List Stmt // aq dk=b}:=by
 have e:aq dk=aq dk:=rfl
 conv at e=>rhs;whnf
 exact⟨_,e⟩
noncomputable def oA:{b:Scope // af dk=b}:=by
 have e:af dk=af dk:=rfl
 conv at e=>rhs;whnf
 exact⟨_,e⟩
theorem vC:ba lZ [(Str.ofString "kind"),(Str.ofString "masks"),(Str.ofString "full")] oA.1:=⟨rfl,rfl,rfl,by decide+kernel,rfl,by decide+kernel,by decide+kernel⟩
noncomputable def pH:FS:=(fB (r9 (b2 gO (ae 0) (eC (.str (Str.ofString "not")))) (fZ (e2 tw (ae 2) (e2 bZ (ae 1) (eC (.int 0))))) mE) (fB (r9 (b2 gO (ae 0) (eC (.str (Str.ofString "and")))) (fZ (e2 qp (e2 bZ (ae 1) (eC (.int 0))) (e2 bZ (ae 1) (eC (.int 1))))) mE) (fB (r9 (b2 gO (ae 0) (eC (.str (Str.ofString "or")))) (fZ (e2 r_ (e2 bZ (ae 1) (eC (.int 0))) (e2 bZ (ae 1) (eC (.int 1))))) mE) (fB (r9 (b2 gO (ae 0) (eC (.str (Str.ofString "xor")))) (fZ (e2 tw (e2 bZ (ae 1) (eC (.int 0))) (e2 bZ (ae 1) (eC (.int 1))))) mE) (fZ (br gm (az (ae 1) aW)))))))
noncomputable def gf:List D→R D:=oY lZ pH
theorem vO{P:Program}{w:World}{K:PySem.W.Frag}{mg:Str→Option Value}{base:Heap}{cl:Nat→Addr}(T:Tp K mg cl)(h:Def K mg (Str.ofString "gate_mask") dk)(C_vote_of:Callee P w K mg base 1 (Str.ofString "vote_of") 1 gm):Callee P w K mg base 2 (Str.ofString "gate_mask") 3 gf:=by
 obtain⟨f,fd,F,hm⟩:=h
 exact⟨f,fd,_,c_ (k:=1) uR.2 oA.2 F vC (fun cdv A outer s H E hr=>(bU (jJ (bH (gy hr.units) (aa 0) bG (bW _)) (bF (cv (aC nS (aa 2) (aG (aa 1) aj (fun _ _=>rfl))))) ju) (bU (jJ (bH (gy hr.units) (aa 0) bG (bW _)) (bF (cv (aC l0 (aG (aa 1) aj (fun _ _=>rfl)) (aG (aa 1) aj (fun _ _=>rfl))))) ju) (bU (jJ (bH (gy hr.units) (aa 0) bG (bW _)) (bF (cv (aC mz (aG (aa 1) aj (fun _ _=>rfl)) (aG (aa 1) aj (fun _ _=>rfl))))) ju) (bU (jJ (bH (gy hr.units) (aa 0) bG (bW _)) (bF (cv (aC nS (aG (aa 1) aj (fun _ _=>rfl)) (aG (aa 1) aj (fun _ _=>rfl))))) ju) (bF (cv (cQ C_vote_of hr (by decide) rfl (ab (aa 1) au) (bN dm))))))))),hm,F.kp,F.binds fun _ _ _ _ _ _ us hl=>match us,hl with | [_,_,_],_=>rfl⟩
noncomputable abbrev cg:Stmt:=top 4
noncomputable abbrev fY:List Str:=[(Str.ofString "ins"),(Str.ofString "in_masks"),(Str.ofString "full"),(Str.ofString "bad"),(Str.ofString "wires"),(Str.ofString "place"),(Str.ofString "mask"),(Str.ofString "figure")]
noncomputable def oR:{b:List Stmt // aq cg=b}:=by
 have e:aq cg=aq cg:=rfl
 conv at e=>rhs;whnf
 exact⟨_,e⟩
noncomputable def kf:{b:Scope // af cg=b}:=by
 have e:af cg=af cg:=rfl
 conv at e=>rhs;whnf
 exact⟨_,e⟩
theorem eF:ba fY [(Str.ofString "ins"),(Str.ofString "in_masks"),(Str.ofString "full"),(Str.ofString "bad")] kf.1:=⟨rfl,rfl,rfl,by decide+kernel,rfl,by decide+kernel,by decide+kernel⟩
noncomputable def gG:FZ:=(jP 4 (xT (za (b2 vB (br fO (az (ae 4) aW)) (ae 3)) (e2 tw (ae 2) (ae 6)) (ae 6))))
noncomputable def jC:FZ:=(jR (iP (i9 (e2 bZ (e2 bZ (ae 0) (ae 5)) (eC (.int 1))))) (iR 7) gG)
noncomputable def iE:FZ:=(bb (bL 4 (kG (dD aW))) (bb (jR (iP (zo (ae 1))) (uA 2 (oz (iR 5) (oz (iR 6) u0))) jC) (iq (bR 4))))
noncomputable def dc:List V3→aN→R3 V3:=mr fY iE
noncomputable def oP:List V3→aN→R3 V3:=nE fY iE
theorem pW{P:Program}{w:World}{K:PySem.W.Frag}{mg:Str→Option Value}{base:Heap}{cl:Nat→Addr}(T:Tp K mg cl)(h:Def K mg (Str.ofString "in_wire_masks") cg):aD P w K mg base cl 1 (Str.ofString "in_wire_masks") 4 dc:=by
 obtain⟨f,fd,F,hm⟩:=h
 exact⟨f,fd,_,b3 (k:=0) oR.2 kf.2 F eF (fun cdv A outer s H E hr=>(av (aS eF.nd rfl (Or.inl rfl) (eW (bK au))) (av (eV PassesOwn.never rfl (cT (yh (aa 1) rfl T.z_enumerate)) (ie rfl (bQ (aV eF.nd rfl (Or.inl rfl)) (bQ (aV eF.nd rfl (Or.inl rfl)) fU))) (aI (eV PassesOwn.never rfl (cT (fq (aG (aG (aa 0) (aa 5) (fun _ _=>rfl)) aj (fun _ _=>rfl)) rfl T.z_range)) (aV eF.nd rfl (Or.inl rfl)) (aI (f7 rfl (Or.inl rfl) (dI (yt (bH D6 (bB fQ rfl T.z_len PySem.boot_len (ab (aa 4) au)) (aa 3) (by with_unfolding_all rfl)) (aC nS (aa 2) (aa 6)) (aa 6)))))))) (aI (c0 (aO 4)))))),hm,F.kp,F.binds fun _ _ _ _ _ _ us hl=>match us,hl with | [_,_,_,_],_=>rfl⟩
noncomputable abbrev ei:Stmt:=top 5
noncomputable abbrev nj:List Str:=[(Str.ofString "wires"),(Str.ofString "numbers")]
noncomputable def vk:{b:List Stmt // aq ei=b}:=by
 have e:aq ei=aq ei:=rfl
 conv at e=>rhs;whnf
 exact⟨_,e⟩
noncomputable def lO:{b:Scope // af ei=b}:=by
 have e:af ei=af ei:=rfl
 conv at e=>rhs;whnf
 exact⟨_,e⟩
theorem xI:ba nj [(Str.ofString "wires"),(Str.ofString "numbers")] lO.1:=⟨rfl,rfl,rfl,by decide+kernel,rfl,by decide+kernel,by decide+kernel⟩
noncomputable def qD:FS:=(fZ (br iG (az (eNew (eH (dZ (ae 1)) (aR 0) rL (e2 bZ (ae 1) (ae 0)) [(Str.ofString "number")] [0])) aW)))
noncomputable def eX:List D→R D:=oY nj qD
theorem xj{P:Program}{w:World}{K:PySem.W.Frag}{mg:Str→Option Value}{base:Heap}{cl:Nat→Addr}(T:Tp K mg cl)(h:Def K mg (Str.ofString "masks_at") ei):Callee P w K mg base 1 (Str.ofString "masks_at") 2 eX:=by
 obtain⟨f,fd,F,hm⟩:=h
 exact⟨f,fd,_,c_ (k:=0) vk.2 lO.2 F xI (fun cdv A outer s H E hr=>(bF (cv (jx uY rfl T.z_tuple PyProof.Rows.boot_tuple (ab (cj (dX rfl (b9.of (own:=[(Str.ofString "number")]) (kp:=[0]) (kn:=[(Str.ofString "wires")]) (sc:=lO.1) (N:=nj) rfl rfl (by decide+kernel)) (cB (aa 1)) (fun _ _ _=>(aX (show List.Nodup [(Str.ofString "number"),(Str.ofString "wires")] from by decide+kernel) rfl (Or.inl rfl))) (fun _ _ _=>gh) (fun _ _ _=>(aG (aa 1) (aa 0) (fun _ _=>rfl))))) au))))),hm,F.kp,F.binds fun _ _ _ _ _ _ us hl=>match us,hl with | [_,_],_=>rfl⟩
noncomputable abbrev cY:Stmt:=top 6
noncomputable abbrev iT:List Str:=[(Str.ofString "net"),(Str.ofString "in_masks"),(Str.ofString "full"),(Str.ofString "turned"),(Str.ofString "bad"),(Str.ofString "wires"),(Str.ofString "place"),(Str.ofString "gate"),(Str.ofString "mask")]
noncomputable def sg:{b:List Stmt // aq cY=b}:=by
 have e:aq cY=aq cY:=rfl
 conv at e=>rhs;whnf
 exact⟨_,e⟩
noncomputable def mN:{b:Scope // af cY=b}:=by
 have e:af cY=af cY:=rfl
 conv at e=>rhs;whnf
 exact⟨_,e⟩
theorem gB:ba iT [(Str.ofString "net"),(Str.ofString "in_masks"),(Str.ofString "full"),(Str.ofString "turned"),(Str.ofString "bad")] mN.1:=⟨rfl,rfl,rfl,by decide+kernel,rfl,by decide+kernel,by decide+kernel⟩
noncomputable def jc:FZ:=(bb (bL 8 (xT (br gf (az (e2 bZ (ae 7) (eC (.int 0))) (az (br eX (az (ae 5) (az (e2 bZ (ae 7) (eC (.int 1))) aW))) (az (ae 2) aW)))))) (jP 5 (xP (za (b2 vB (ae 6) (ae 3)) (e2 tw (ae 2) (ae 8)) (ae 8)))))
noncomputable def kx:FZ:=(bb (bL 5 (cb dc (ay (xP (e2 bZ (ae 0) (eC (.int 0)))) (ay (xP (ae 1)) (ay (xP (ae 2)) (ay (xP (ae 4)) cq)))))) (bb (jR (iP (eO (e2 bZ (ae 0) (eC (.int 1))))) (uA 2 (oz (iR 6) (oz (iR 7) u0))) jc) (iq (bR 5))))
noncomputable def mG:List V3→aN→R3 V3:=mr iT kx
noncomputable def fT:List V3→aN→R3 V3:=nE iT kx
theorem uC{P:Program}{w:World}{K:PySem.W.Frag}{mg:Str→Option Value}{base:Heap}{cl:Nat→Addr}(T:Tp K mg cl)(h:Def K mg (Str.ofString "wire_masks") cY)(C_masks_at:Callee P w K mg base 1 (Str.ofString "masks_at") 2 eX)(C_gate_mask:Callee P w K mg base 2 (Str.ofString "gate_mask") 3 gf)(XK_in_wire_masks:aD P w K mg base cl 1 (Str.ofString "in_wire_masks") 4 dc):aD P w K mg base cl 3 (Str.ofString "wire_masks") 5 mG:=by
 obtain⟨f,fd,F,hm⟩:=h
 exact⟨f,fd,_,b3 (k:=2) sg.2 mN.2 F gB (fun cdv A outer s H E hr=>(av (aS gB.nd rfl (Or.inl rfl) (bA XK_in_wire_masks hr (by decide) rfl (ag (ak (aG (aa 0) aj (fun _ _=>rfl))) (ag (ak (aa 1)) (ag (ak (aa 2)) (ag (ak (aa 4)) aM)))) (ai (ai (ai (ai aL)))))) (av (eV PassesOwn.never rfl (cT (hV (aG (aa 0) aj (fun _ _=>rfl)) rfl T.z_enumerate)) (ie rfl (bQ (aV gB.nd rfl (Or.inl rfl)) (bQ (aV gB.nd rfl (Or.inl rfl)) fU))) (av (aS gB.nd rfl (Or.inl rfl) (dI (cQ C_gate_mask hr (by decide) rfl (ab (aG (aa 7) aj (fun _ _=>rfl)) (ab (cQ C_masks_at hr (by decide) rfl (ab (aa 5) (ab (aG (aa 7) aj (fun _ _=>rfl)) au)) (bN (bN dm))) (ab (aa 2) au))) (bN (bN (bN dm)))))) (aI (f7 rfl (Or.inl rfl) (ak (yt (bH D6 (aa 6) (aa 3) (by with_unfolding_all rfl)) (aC nS (aa 2) (aa 8)) (aa 8))))))) (aI (c0 (aO 5)))))),hm,F.kp,F.binds fun _ _ _ _ _ _ us hl=>match us,hl with | [_,_,_,_,_],_=>rfl⟩
noncomputable abbrev dq:Stmt:=top 7
noncomputable abbrev iA:List Str:=[(Str.ofString "net"),(Str.ofString "wires")]
noncomputable def uO:{b:List Stmt // aq dq=b}:=by
 have e:aq dq=aq dq:=rfl
 conv at e=>rhs;whnf
 exact⟨_,e⟩
noncomputable def kz:{b:Scope // af dq=b}:=by
 have e:af dq=af dq:=rfl
 conv at e=>rhs;whnf
 exact⟨_,e⟩
theorem vj:ba iA [(Str.ofString "net"),(Str.ofString "wires")] kz.1:=⟨rfl,rfl,rfl,by decide+kernel,rfl,by decide+kernel,by decide+kernel⟩
noncomputable def lq:FZ:=(iq (kG (eH (dZ (e2 bZ (ae 0) (eC (.int 2)))) (dF 2 (bw (aR 0) (bw (aR 1) dG))) rL (br eX (az (ae 2) (az (ae 1) aW))) [(Str.ofString "name"),(Str.ofString "numbers")] [1])))
noncomputable def nH:List V3→aN→R3 V3:=mr iA lq
noncomputable def gL:List V3→aN→R3 V3:=nE iA lq
theorem vE{P:Program}{w:World}{K:PySem.W.Frag}{mg:Str→Option Value}{base:Heap}{cl:Nat→Addr}(T:Tp K mg cl)(h:Def K mg (Str.ofString "out_masks") dq)(C_masks_at:Callee P w K mg base 1 (Str.ofString "masks_at") 2 eX):aD P w K mg base cl 2 (Str.ofString "out_masks") 2 nH:=by
 obtain⟨f,fd,F,hm⟩:=h
 exact⟨f,fd,_,b3 (k:=1) uO.2 kz.2 F vj (fun cdv A outer s H E hr=>(aI (c0 (eW (dX rfl (b9.of (own:=[(Str.ofString "name"),(Str.ofString "numbers")]) (kp:=[1]) (kn:=[(Str.ofString "wires")]) (sc:=kz.1) (N:=iA) rfl rfl (by decide+kernel)) (cB (aG (aa 0) aj (fun _ _=>rfl))) (fun _ _ _=>(fS rfl (bC (aX (show List.Nodup [(Str.ofString "name"),(Str.ofString "numbers"),(Str.ofString "wires")] from by decide+kernel) rfl (Or.inl rfl)) (bC (aX (show List.Nodup [(Str.ofString "name"),(Str.ofString "numbers"),(Str.ofString "wires")] from by decide+kernel) rfl (Or.inl rfl)) eM)))) (fun _ _ _=>gh) (fun _ _ _=>(cQ C_masks_at hr (by decide) rfl (ab (aa 2) (ab (aa 1) au)) (bN (bN dm))))))))),hm,F.kp,F.binds fun _ _ _ _ _ _ us hl=>match us,hl with | [_,_],_=>rfl⟩
noncomputable abbrev fL:Stmt:=top 8
noncomputable abbrev mq:List Str:=[(Str.ofString "masks"),(Str.ofString "full"),(Str.ofString "ones")]
noncomputable def xx:{b:List Stmt // aq fL=b}:=by
 have e:aq fL=aq fL:=rfl
 conv at e=>rhs;whnf
 exact⟨_,e⟩
noncomputable def qM:{b:Scope // af fL=b}:=by
 have e:af fL=af fL:=rfl
 conv at e=>rhs;whnf
 exact⟨_,e⟩
theorem sZ:ba mq [(Str.ofString "masks"),(Str.ofString "full")] qM.1:=⟨rfl,rfl,rfl,by decide+kernel,rfl,by decide+kernel,by decide+kernel⟩
noncomputable def sU:FS:=(fB (r9 (b2 gO (br fO (az (ae 0) aW)) (eC (.int 2))) (fZ (fk (az (e2 tw (ae 1) (e2 r_ (e2 bZ (ae 0) (eC (.int 0))) (e2 bZ (ae 0) (eC (.int 1))))) (az (e2 qp (e2 bZ (ae 0) (eC (.int 0))) (e2 bZ (ae 0) (eC (.int 1)))) aW)))) mE) (fB (jT 2 (za (b2 gO (br fO (az (ae 0) aW)) (eC (.int 1))) (e2 bZ (ae 0) (eC (.int 0))) (br gm (az (ae 0) aW)))) (fZ (fk (az (e2 tw (ae 1) (ae 2)) (az (ae 2) aW))))))
noncomputable def i0:List D→R D:=oY mq sU
theorem zM{P:Program}{w:World}{K:PySem.W.Frag}{mg:Str→Option Value}{base:Heap}{cl:Nat→Addr}(T:Tp K mg cl)(h:Def K mg (Str.ofString "reading") fL)(C_vote_of:Callee P w K mg base 1 (Str.ofString "vote_of") 1 gm):Callee P w K mg base 2 (Str.ofString "reading") 2 i0:=by
 obtain⟨f,fd,F,hm⟩:=h
 exact⟨f,fd,_,c_ (k:=1) xx.2 qM.2 F sZ (fun cdv A outer s H E hr=>(bU (jJ (bH (gy hr.units) (bB fQ rfl T.z_len PySem.boot_len (ab (aa 0) au)) aj (bW _)) (bF (cv (cK (ab (aC nS (aa 1) (aC mz (aG (aa 0) aj (fun _ _=>rfl)) (aG (aa 0) aj (fun _ _=>rfl)))) (ab (aC l0 (aG (aa 0) aj (fun _ _=>rfl)) (aG (aa 0) aj (fun _ _=>rfl))) au))))) ju) (bU (gr sZ.nd rfl (Or.inl rfl) (yt (bH (gy hr.units) (bB fQ rfl T.z_len PySem.boot_len (ab (aa 0) au)) aj (bW _)) (aG (aa 0) aj (fun _ _=>rfl)) (cQ C_vote_of hr (by decide) rfl (ab (aa 0) au) (bN dm)))) (bF (cv (cK (ab (aC nS (aa 1) (aa 2)) (ab (aa 2) au)))))))),hm,F.kp,F.binds fun _ _ _ _ _ _ us hl=>match us,hl with | [_,_],_=>rfl⟩
noncomputable abbrev cW:Stmt:=top 11
noncomputable abbrev iU:List Str:=[(Str.ofString "count"),(Str.ofString "inputs"),(Str.ofString "place"),(Str.ofString "longer"),(Str.ofString "bits")]
noncomputable def so:{b:List Stmt // aq cW=b}:=by
 have e:aq cW=aq cW:=rfl
 conv at e=>rhs;whnf
 exact⟨_,e⟩
noncomputable def mO:{b:Scope // af cW=b}:=by
 have e:af cW=af cW:=rfl
 conv at e=>rhs;whnf
 exact⟨_,e⟩
theorem fE:ba iU [(Str.ofString "count")] mO.1:=⟨rfl,rfl,rfl,by decide+kernel,rfl,by decide+kernel,by decide+kernel⟩
noncomputable def lY:FZ:=(bb (jP 3 (xP (e2 mK (ae 4) (fk (az (eC (.int 0)) aW))))) (jP 3 (xP (e2 mK (ae 4) (fk (az (eC (.int 1)) aW))))))
noncomputable def lE:FZ:=(zG 1 (bb (bL 3 (kG (dD aW))) (bb (jR (iP (dZ (ae 1))) (iR 4) lY) (bL 1 (bR 3)))))
noncomputable def kN:FZ:=(bb (bL 1 (kG (dD (az (fk aW) aW)))) (bb (jR (iP (i9 (ae 0))) (iR 2) lE) (iq (bR 1))))
noncomputable def mT:List V3→aN→R3 V3:=mr iU kN
noncomputable def fR:List V3→aN→R3 V3:=nE iU kN
theorem uo{P:Program}{w:World}{K:PySem.W.Frag}{mg:Str→Option Value}{base:Heap}{cl:Nat→Addr}(T:Tp K mg cl)(h:Def K mg (Str.ofString "all_inputs") cW):aD P w K mg base cl 1 (Str.ofString "all_inputs") 1 mT:=by
 obtain⟨f,fd,F,hm⟩:=h
 exact⟨f,fd,_,b3 (k:=0) so.2 mO.2 F fE (fun cdv A outer s H E hr=>(av (aS fE.nd rfl (Or.inl rfl) (eW (bK (ab (cK au) au)))) (av (eV PassesOwn.never rfl (cT (fq (aa 0) rfl T.z_range)) (aV fE.nd rfl (Or.inl rfl)) (zC 1 (av (aS fE.nd rfl (Or.inl rfl) (eW (bK au))) (av (eV PassesOwn.never rfl (cT (cB (aa 1))) (aV fE.nd rfl (Or.inl rfl)) (av (f7 rfl (Or.inl rfl) (ak (aC qC (aa 4) (cK (ab aj au))))) (aI (f7 rfl (Or.inl rfl) (ak (aC qC (aa 4) (cK (ab aj au)))))))) (aI (aS fE.nd rfl (Or.inl rfl) (aO 3))))))) (aI (c0 (aO 1)))))),hm,F.kp,F.binds fun _ _ _ _ _ _ us hl=>match us,hl with | [_],_=>rfl⟩
noncomputable abbrev fJ:Stmt:=top 12
noncomputable abbrev oG:List Str:=[(Str.ofString "bits"),(Str.ofString "mask"),(Str.ofString "bit")]
noncomputable def yb:{b:List Stmt // aq fJ=b}:=by
 have e:aq fJ=aq fJ:=rfl
 conv at e=>rhs;whnf
 exact⟨_,e⟩
noncomputable def rB:{b:Scope // af fJ=b}:=by
 have e:af fJ=af fJ:=rfl
 conv at e=>rhs;whnf
 exact⟨_,e⟩
theorem mf:ba oG [(Str.ofString "bits")] rB.1:=⟨rfl,rfl,rfl,by decide+kernel,rfl,by decide+kernel,by decide+kernel⟩
noncomputable def lG:FS:=(jT 1 (e2 iL (e2 m8 (ae 1) (eC (.int 2))) (ae 2)))
noncomputable def tF:FS:=(fB (jT 1 (eC (.int 0))) (fB (sf (E9 (ae 0)) (aR 2) lG) (fZ (ae 1))))
noncomputable def gb:List D→R D:=oY oG tF
theorem Al{P:Program}{w:World}{K:PySem.W.Frag}{mg:Str→Option Value}{base:Heap}{cl:Nat→Addr}(T:Tp K mg cl)(h:Def K mg (Str.ofString "mask_of") fJ):Callee P w K mg base 1 (Str.ofString "mask_of") 1 gb:=by
 obtain⟨f,fd,F,hm⟩:=h
 exact⟨f,fd,_,c_ (k:=0) yb.2 rB.2 F mf (fun cdv A outer s H E hr=>(bU (gr mf.nd rfl (Or.inl rfl) aj) (bU (j8 PassesOwn.never rfl (BG (aa 0) rfl T.z_reversed) (aX mf.nd rfl (Or.inl rfl)) (bF (gr mf.nd rfl (Or.inl rfl) (aC jh (aC t8 (aa 1) aj) (aa 2))))) (bF (cv (aa 1)))))),hm,F.kp,F.binds fun _ _ _ _ _ _ us hl=>match us,hl with | [_],_=>rfl⟩
noncomputable abbrev fG:Stmt:=top 13
noncomputable abbrev oO:List Str:=[(Str.ofString "inputs"),(Str.ofString "place")]
noncomputable def ye:{b:List Stmt // aq fG=b}:=by
 have e:aq fG=aq fG:=rfl
 conv at e=>rhs;whnf
 exact⟨_,e⟩
noncomputable def m6:{b:Scope // af fG=b}:=by
 have e:af fG=af fG:=rfl
 conv at e=>rhs;whnf
 exact⟨_,e⟩
theorem Ak:ba oO [(Str.ofString "inputs"),(Str.ofString "place")] m6.1:=⟨rfl,rfl,rfl,by decide+kernel,rfl,by decide+kernel,by decide+kernel⟩
noncomputable def tm:FS:=(fZ (br gb (az (eNew (eH (dZ (ae 0)) (aR 0) rL (e2 bZ (ae 0) (ae 1)) [(Str.ofString "bits")] [1])) aW)))
noncomputable def i5:List D→R D:=oY oO tm
theorem Aa{P:Program}{w:World}{K:PySem.W.Frag}{mg:Str→Option Value}{base:Heap}{cl:Nat→Addr}(T:Tp K mg cl)(h:Def K mg (Str.ofString "in_mask") fG)(C_mask_of:Callee P w K mg base 1 (Str.ofString "mask_of") 1 gb):Callee P w K mg base 2 (Str.ofString "in_mask") 2 i5:=by
 obtain⟨f,fd,F,hm⟩:=h
 exact⟨f,fd,_,c_ (k:=1) ye.2 m6.2 F Ak (fun cdv A outer s H E hr=>(bF (cv (cQ C_mask_of hr (by decide) rfl (ab (cj (dX rfl (b9.of (own:=[(Str.ofString "bits")]) (kp:=[1]) (kn:=[(Str.ofString "place")]) (sc:=m6.1) (N:=oO) rfl rfl (by decide+kernel)) (cB (aa 0)) (fun _ _ _=>(aX (show List.Nodup [(Str.ofString "bits"),(Str.ofString "place")] from by decide+kernel) rfl (Or.inl rfl))) (fun _ _ _=>gh) (fun _ _ _=>(aG (aa 0) (aa 1) (fun _ _=>rfl))))) au) (bN dm))))),hm,F.kp,F.binds fun _ _ _ _ _ _ us hl=>match us,hl with | [_,_],_=>rfl⟩
noncomputable abbrev fH:Stmt:=top 16
noncomputable abbrev jY:List Str:=[(Str.ofString "places"),(Str.ofString "size"),(Str.ofString "found"),(Str.ofString "ahead"),(Str.ofString "place"),(Str.ofString "rest")]
noncomputable def xN:{b:List Stmt // aq fH=b}:=by
 have e:aq fH=aq fH:=rfl
 conv at e=>rhs;whnf
 exact⟨_,e⟩
noncomputable def rV:{b:Scope // af fH=b}:=by
 have e:af fH=af fH:=rfl
 conv at e=>rhs;whnf
 exact⟨_,e⟩
theorem j2:ba jY [(Str.ofString "places"),(Str.ofString "size")] rV.1:=⟨rfl,rfl,rfl,by decide+kernel,rfl,by decide+kernel,by decide+kernel⟩
noncomputable def lN(self:List D→R D):FS:=(qe 2 (e2 mK (fk (az (ae 4) aW)) (ae 5)))
noncomputable def lr(self:List D→R D):FS:=(sf (dZ (br self (az (zB (ae 0) (iQ (e2 mK (ae 3) (eC (.int 1)))) jL) (az (e2 mB (ae 1) (eC (.int 1))) aW)))) (aR 5) (lN self))
noncomputable def kh(self:List D→R D):FS:=(fB (r9 (b2 gO (ae 1) (eC (.int 0))) (fZ (eNew (dD (az (fk aW) aW)))) mE) (fB (n_ 2 (dD aW)) (fB (sf (eO (ae 0)) (dF 2 (bw (aR 3) (bw (aR 4) dG))) (lr self)) (nK 2 (fZ (ae 2))))))
noncomputable def d6:Nat→List D→R D
 | 0=>fun _=> .no
 | n+1=>oY jY (kh (d6 n))
theorem tL{P:Program}{w:World}{K:PySem.W.Frag}{mg:Str→Option Value}{base:Heap}{cl:Nat→Addr}(T:Tp K mg cl)(h:Def K mg (Str.ofString "choices") fH):∀n,Callee P w K mg base (1+n) (Str.ofString "choices") 2 (d6 n)
 | 0=>by
   obtain⟨f,fd,F,hm⟩:=h
   exact⟨f,fd,[(Str.ofString "places"),(Str.ofString "size")],Im,hm,F.kp,F.binds fun _ _ _ _ _ _ us hl=>match us,hl with | [_,_],_=>rfl⟩
 | n+1=>by
   have C_self:=tL (P:=P) (w:=w) (K:=K) (mg:=mg) (base:=base) T h n
   obtain⟨f,fd,F,hm⟩:=h
   exact⟨f,fd,_,c_ (k:=1+n) xN.2 rV.2 F j2 (fun cdv A outer s H E hr=>(bU (jJ (bH (gy hr.units) (aa 1) aj (bW _)) (bF (cv (cj (bK (ab (cK au) au))))) ju) (bU (vR j2.nd rfl (Or.inl rfl) (bK au)) (bU (j8 PassesOwn.never rfl (hV (aa 0) rfl T.z_enumerate) (fS rfl (bC (aX j2.nd rfl (Or.inl rfl)) (bC (aX j2.nd rfl (Or.inl rfl)) eM))) (bF (j8 PassesOwn.never rfl (cB (cQ C_self hr (by omega) rfl (ab (yw (aa 0) (nQ (aC qC (aa 3) aj)) ot) (ab (aC pk (aa 1) aj) au)) (bN (bN dm)))) (aX j2.nd rfl (Or.inl rfl)) (bF (Ck rfl (Or.inl rfl) (aC qC (cK (ab (aa 4) au)) (aa 5))))))) (wH 2 (bF (cv (aa 2)))))))),hm,F.kp,F.binds fun _ _ _ _ _ _ us hl=>match us,hl with | [_,_],_=>rfl⟩
noncomputable abbrev fD:Stmt:=top 19
noncomputable abbrev oX:List Str:=[(Str.ofString "places"),(Str.ofString "others")]
noncomputable def xi:{b:List Stmt // aq fD=b}:=by
 have e:aq fD=aq fD:=rfl
 conv at e=>rhs;whnf
 exact⟨_,e⟩
noncomputable def nF:{b:Scope // af fD=b}:=by
 have e:af fD=af fD:=rfl
 conv at e=>rhs;whnf
 exact⟨_,e⟩
theorem Ar:ba oX [(Str.ofString "places"),(Str.ofString "others")] nF.1:=⟨rfl,rfl,rfl,by decide+kernel,rfl,by decide+kernel,by decide+kernel⟩
noncomputable def tW:FS:=(fZ (br BH (az (eNew (eH (dZ (ae 1)) (aR 0) rL (e2 vB (ae 0) (ae 1)) [(Str.ofString "place")] [0])) aW)))
noncomputable def gY:List D→R D:=oY oX tW
theorem zR{P:Program}{w:World}{K:PySem.W.Frag}{mg:Str→Option Value}{base:Heap}{cl:Nat→Addr}(T:Tp K mg cl)(h:Def K mg (Str.ofString "has_all") fD):Callee P w K mg base 1 (Str.ofString "has_all") 2 gY:=by
 obtain⟨f,fd,F,hm⟩:=h
 exact⟨f,fd,_,c_ (k:=0) xi.2 nF.2 F Ar (fun cdv A outer s H E hr=>(bF (cv (bB (EU rfl) rfl T.z_all PyProof.Rows.boot_all (ab (cj (dX rfl (b9.of (own:=[(Str.ofString "place")]) (kp:=[0]) (kn:=[(Str.ofString "places")]) (sc:=nF.1) (N:=oX) rfl rfl (by decide+kernel)) (cB (aa 1)) (fun _ _ _=>(aX (show List.Nodup [(Str.ofString "place"),(Str.ofString "places")] from by decide+kernel) rfl (Or.inl rfl))) (fun _ _ _=>gh) (fun _ _ _=>(uV D6 (aa 0) (aa 1) (by with_unfolding_all rfl))))) au))))),hm,F.kp,F.binds fun _ _ _ _ _ _ us hl=>match us,hl with | [_,_],_=>rfl⟩
noncomputable abbrev bu:Stmt:=inClass (top 14) 0
noncomputable abbrev de:List Str:=[(Str.ofString "self"),(Str.ofString "net"),(Str.ofString "inputs")]
noncomputable def nL:{b:List Stmt // aq bu=b}:=by
 have e:aq bu=aq bu:=rfl
 conv at e=>rhs;whnf
 exact⟨_,e⟩
noncomputable def eQ:{b:Scope // af bu=b}:=by
 have e:af bu=af bu:=rfl
 conv at e=>rhs;whnf
 exact⟨_,e⟩
theorem j1:ba de [(Str.ofString "self"),(Str.ofString "net")] eQ.1:=⟨rfl,rfl,rfl,by decide+kernel,rfl,by decide+kernel,by decide+kernel⟩
noncomputable def gW:FZ:=(bb (bL 2 (cb fR (ay (xP (br fO (az (e2 bZ (ae 1) (eC (.int 0))) aW))) cq))) (bb (uZ 0 (Str.ofString "net") (bR 0) (xP (ae 1))) (bb (uZ 0 (Str.ofString "many_inputs") (bR 0) (xP (br fO (az (ae 2) aW)))) (bb (uZ 0 (Str.ofString "full") (bR 0) (xP (br gb (az (eNew (eH (dZ (ae 2)) (aR 0) rL (eC (.int 1)) [(Str.ofString "bits")] [])) aW)))) (uZ 0 (Str.ofString "in_masks") (bR 0) (xP (eNew (eH (i9 (br fO (az (e2 bZ (ae 1) (eC (.int 0))) aW))) (aR 0) rL (br i5 (az (ae 1) (az (ae 0) aW))) [(Str.ofString "place")] [2]))))))))
noncomputable def cP:List V3→aN→R3 V3:=mr de gW
noncomputable def zi:List V3→aN→R3 V3:=nE de gW
theorem dO{P:Program}{w:World}{K:PySem.W.Frag}{mg:Str→Option Value}{base:Heap}{cl:Nat→Addr}(T:Tp K mg cl)(h:Ai K (cl 0) (Str.ofString "__init__") (Str.ofString "Bench.__init__") bu)(C_mask_of:Callee P w K mg base 1 (Str.ofString "mask_of") 1 gb)(C_in_mask:Callee P w K mg base 2 (Str.ofString "in_mask") 2 i5)(XP_all_inputs:aD P w K mg base cl 1 (Str.ofString "all_inputs") 1 fR):qX P w K mg base cl 3 0 (Str.ofString "Bench") 1 cP:=by
 obtain⟨f,fd,F,hm⟩:=h
 exact⟨f,fd,_,hm,b3 (k:=2) nL.2 eQ.2 F j1 (fun cdv A outer s H E hr=>(av (aS j1.nd rfl (Or.inr rfl) (bA XP_all_inputs hr (by decide) rfl (ag (ak (bB fQ rfl T.z_len PySem.boot_len (ab (aG (aa 1) aj (fun _ _=>rfl)) au))) aM) (ai aL))) (av (m4 T.C_Bench T.N_Bench_net (aO 0) (ak (aa 1))) (av (m4 T.C_Bench T.N_Bench_many_inputs (aO 0) (ak (bB fQ rfl T.z_len PySem.boot_len (ab (aa 2) au)))) (av (m4 T.C_Bench T.N_Bench_full (aO 0) (ak (cQ C_mask_of hr (by decide) rfl (ab (cj (dX rfl (b9.of (own:=[(Str.ofString "bits")]) (kp:=[]) (kn:=[]) (sc:=eQ.1) (N:=de) rfl rfl (by decide+kernel)) (cB (aa 2)) (fun _ _ _=>(aX (show List.Nodup [(Str.ofString "bits")] from by decide+kernel) rfl (Or.inl rfl))) (fun _ _ _=>gh) (fun _ _ _=>aj))) au) (bN dm)))) (aI (m4 T.C_Bench T.N_Bench_in_masks (aO 0) (ak (cj (dX rfl (b9.of (own:=[(Str.ofString "place")]) (kp:=[2]) (kn:=[(Str.ofString "inputs")]) (sc:=eQ.1) (N:=de) rfl rfl (by decide+kernel)) (fq (bB fQ rfl T.z_len PySem.boot_len (ab (aG (aa 1) aj (fun _ _=>rfl)) au)) rfl T.z_range) (fun _ _ _=>(aX (show List.Nodup [(Str.ofString "place"),(Str.ofString "inputs")] from by decide+kernel) rfl (Or.inl rfl))) (fun _ _ _=>gh) (fun _ _ _=>(cQ C_in_mask hr (by decide) rfl (ab (aa 1) (ab (aa 0) au)) (bN (bN dm)))))))))))))),T.M_Bench,F.binds fun _ _ _ _ _ _ us hl=>match us,hl with | [_,_],_=>rfl⟩
noncomputable abbrev bO:Stmt:=inClass (top 14) 1
noncomputable abbrev ig:List Str:=[(Str.ofString "self"),(Str.ofString "turned"),(Str.ofString "bad")]
noncomputable def rp:{b:List Stmt // aq bO=b}:=by
 have e:aq bO=aq bO:=rfl
 conv at e=>rhs;whnf
 exact⟨_,e⟩
noncomputable def lx:{b:Scope // af bO=b}:=by
 have e:af bO=af bO:=rfl
 conv at e=>rhs;whnf
 exact⟨_,e⟩
theorem sG:ba ig [(Str.ofString "self"),(Str.ofString "turned"),(Str.ofString "bad")] lx.1:=⟨rfl,rfl,rfl,by decide+kernel,rfl,by decide+kernel,by decide+kernel⟩
noncomputable def jS:FZ:=(iq (cb gL (ay (q8 0 (Str.ofString "net") (bR 0)) (ay (cb fT (ay (q8 0 (Str.ofString "net") (bR 0)) (ay (q8 0 (Str.ofString "in_masks") (bR 0)) (ay (q8 0 (Str.ofString "full") (bR 0)) (ay (xP (ae 1)) (ay (xP (ae 2)) cq)))))) cq))))
noncomputable def lH:List V3→aN→R3 V3:=mr ig jS
noncomputable def fA:List V3→aN→R3 V3:=nE ig jS
theorem fV{P:Program}{w:World}{K:PySem.W.Frag}{mg:Str→Option Value}{base:Heap}{cl:Nat→Addr}(T:Tp K mg cl)(h:uh K (cl 0) (Str.ofString "tells") (Str.ofString "Bench.tells") bO)(XP_out_masks:aD P w K mg base cl 2 (Str.ofString "out_masks") 2 gL)(XP_wire_masks:aD P w K mg base cl 3 (Str.ofString "wire_masks") 5 fT):ip P w K mg base cl 4 0 (Str.ofString "tells") 2 lH:=by
 obtain⟨f,fd,F,hm⟩:=h
 exact⟨f,fd,_,T.C_Bench,hm,b3 (k:=3) rp.2 lx.2 F sG (fun cdv A outer s H E hr=>(aI (c0 (bA XP_out_masks hr (by decide) rfl (ag (kO T.C_Bench T.N_Bench_net (aO 0)) (ag (bA XP_wire_masks hr (by decide) rfl (ag (kO T.C_Bench T.N_Bench_net (aO 0)) (ag (kO T.C_Bench T.N_Bench_in_masks (aO 0)) (ag (kO T.C_Bench T.N_Bench_full (aO 0)) (ag (ak (aa 1)) (ag (ak (aa 2)) aM))))) (ai (ai (ai (ai (ai aL)))))) aM)) (ai (ai aL)))))),F.binds fun _ _ _ _ _ _ us hl=>match us,hl with | [_,_,_],_=>rfl⟩
noncomputable abbrev bz:Stmt:=inClass (top 14) 2
noncomputable abbrev d3:List Str:=[(Str.ofString "self"),(Str.ofString "turned")]
noncomputable def n4:{b:List Stmt // aq bz=b}:=by
 have e:aq bz=aq bz:=rfl
 conv at e=>rhs;whnf
 exact⟨_,e⟩
noncomputable def gK:{b:Scope // af bz=b}:=by
 have e:af bz=af bz:=rfl
 conv at e=>rhs;whnf
 exact⟨_,e⟩
theorem o9:ba d3 [(Str.ofString "self"),(Str.ofString "turned")] gK.1:=⟨rfl,rfl,rfl,by decide+kernel,rfl,by decide+kernel,by decide+kernel⟩
noncomputable def gZ:FZ:=(iq (jm (yc (sY 0 (Str.ofString "tells") fA (bR 0) (ay (xP (ae 1)) (ay (xP (fk aW)) cq)))) (iR 0) sH (lB i0 (ay (xP (ae 0)) (ay (q8 0 (Str.ofString "full") (bR 1)) cq))) [(Str.ofString "masks")] [0]))
noncomputable def jE:List V3→aN→R3 V3:=mr d3 gZ
noncomputable def cH:List V3→aN→R3 V3:=nE d3 gZ
theorem dU{P:Program}{w:World}{K:PySem.W.Frag}{mg:Str→Option Value}{base:Heap}{cl:Nat→Addr}(T:Tp K mg cl)(h:uh K (cl 0) (Str.ofString "readings") (Str.ofString "Bench.readings") bz)(C_reading:Callee P w K mg base 2 (Str.ofString "reading") 2 i0)(XP_Bench_tells:ip P w K mg base cl 4 0 (Str.ofString "tells") 2 fA):ip P w K mg base cl 5 0 (Str.ofString "readings") 1 jE:=by
 obtain⟨f,fd,F,hm⟩:=h
 exact⟨f,fd,_,T.C_Bench,hm,b3 (k:=4) n4.2 gK.2 F o9 (fun cdv A outer s H E hr=>(aI (c0 (uT rfl (b9.of (own:=[(Str.ofString "masks")]) (kp:=[0]) (kn:=[(Str.ofString "self")]) (sc:=gK.1) (N:=d3) rfl rfl (by decide+kernel)) (qv (qi XP_Bench_tells hr (by decide) (aO 0) (ag (ak (aa 1)) (ag (ak (cK au)) aM)) (ai (ai aL)))) (fun _ _ _=>(aV (show List.Nodup [(Str.ofString "masks"),(Str.ofString "self")] from by decide+kernel) rfl (Or.inl rfl))) (fun _ _ _=>i4) (fun _ _ _=>(rj C_reading hr (by decide) rfl (ag (ak (aa 0)) (ag (kO T.C_Bench T.N_Bench_full (aO 1)) aM)) (ai (ai aL)))))))),F.binds fun _ _ _ _ _ _ us hl=>match us,hl with | [_,_],_=>rfl⟩
noncomputable abbrev bx:Stmt:=inClass (top 17) 0
noncomputable abbrev d4:List Str:=[(Str.ofString "self"),(Str.ofString "net")]
noncomputable def oq:{b:List Stmt // aq bx=b}:=by
 have e:aq bx=aq bx:=rfl
 conv at e=>rhs;whnf
 exact⟨_,e⟩
noncomputable def gA:{b:Scope // af bx=b}:=by
 have e:af bx=af bx:=rfl
 conv at e=>rhs;whnf
 exact⟨_,e⟩
theorem ph:ba d4 [(Str.ofString "self"),(Str.ofString "net")] gA.1:=⟨rfl,rfl,rfl,by decide+kernel,rfl,by decide+kernel,by decide+kernel⟩
noncomputable def h_:FZ:=(bb (uZ 1 (Str.ofString "bench") (bR 0) (yG 0 cP (ay (xP (ae 1)) cq))) (bb (uZ 1 (Str.ofString "plain") (bR 0) (sY 0 (Str.ofString "readings") cH (q8 1 (Str.ofString "bench") (bR 0)) (ay (xP (fk aW)) cq))) (uZ 1 (Str.ofString "unsure") (bR 0) (xP (eNew (eH (eO (e2 bZ (ae 1) (eC (.int 1)))) (dF 2 (bw (aR 0) (bw (aR 1) dG))) (ke (iX (e2 bZ (ae 1) (eC (.int 2))))) (ae 0) [(Str.ofString "place"),(Str.ofString "gate")] []))))))
noncomputable def cO:List V3→aN→R3 V3:=mr d4 h_
noncomputable def y4:List V3→aN→R3 V3:=nE d4 h_
theorem dR{P:Program}{w:World}{K:PySem.W.Frag}{mg:Str→Option Value}{base:Heap}{cl:Nat→Addr}(T:Tp K mg cl)(h:Ai K (cl 1) (Str.ofString "__init__") (Str.ofString "Trial.__init__") bx)(XK_Bench___init__:qX P w K mg base cl 3 0 (Str.ofString "Bench") 1 cP)(XP_Bench_readings:ip P w K mg base cl 5 0 (Str.ofString "readings") 1 cH):qX P w K mg base cl 6 1 (Str.ofString "Trial") 1 cO:=by
 obtain⟨f,fd,F,hm⟩:=h
 exact⟨f,fd,_,hm,b3 (k:=5) oq.2 gA.2 F ph (fun cdv A outer s H E hr=>(av (m4 T.C_Trial T.N_Trial_bench (aO 0) (zk XK_Bench___init__ hr (by decide) rfl (ag (ak (aa 1)) aM) (ai aL))) (av (m4 T.C_Trial T.N_Trial_plain (aO 0) (qi XP_Bench_readings hr (by decide) (kO T.C_Trial T.N_Trial_bench (aO 0)) (ag (ak (cK au)) aM) (ai aL))) (aI (m4 T.C_Trial T.N_Trial_unsure (aO 0) (ak (cj (dX rfl (b9.of (own:=[(Str.ofString "place"),(Str.ofString "gate")]) (kp:=[]) (kn:=[]) (sc:=gA.1) (N:=d4) rfl rfl (by decide+kernel)) (hV (aG (aa 1) aj (fun _ _=>rfl)) rfl T.z_enumerate) (fun _ _ _=>(fS rfl (bC (aX (show List.Nodup [(Str.ofString "place"),(Str.ofString "gate")] from by decide+kernel) rfl (Or.inl rfl)) (bC (aX (show List.Nodup [(Str.ofString "place"),(Str.ofString "gate")] from by decide+kernel) rfl (Or.inl rfl)) eM)))) (fun _ _ _=>(j_ (mi (jH (aG (aa 1) aj (fun _ _=>rfl)))))) (fun _ _ _=>(aa 0)))))))))),T.M_Trial,F.binds fun _ _ _ _ _ _ us hl=>match us,hl with | [_,_],_=>rfl⟩
noncomputable abbrev bg:Stmt:=inClass (top 17) 1
noncomputable abbrev eR:List Str:=[(Str.ofString "self"),(Str.ofString "turned"),(Str.ofString "level"),(Str.ofString "mask"),(Str.ofString "before"),(Str.ofString "after")]
noncomputable def ny:{b:List Stmt // aq bg=b}:=by
 have e:aq bg=aq bg:=rfl
 conv at e=>rhs;whnf
 exact⟨_,e⟩
noncomputable def jv:{b:Scope // af bg=b}:=by
 have e:af bg=af bg:=rfl
 conv at e=>rhs;whnf
 exact⟨_,e⟩
theorem cR:ba eR [(Str.ofString "self"),(Str.ofString "turned"),(Str.ofString "level")] jv.1:=⟨rfl,rfl,rfl,by decide+kernel,rfl,by decide+kernel,by decide+kernel⟩
noncomputable def iS:FZ:=(mX (bP (b2 gO (ae 2) (eC (.str (Str.ofString "safe"))))) (bL 3 (xP (e2 r_ (e2 r_ (ae 3) (e2 qp (e2 bZ (ae 4) (eC (.int 0))) (e2 bZ (ae 5) (eC (.int 1))))) (e2 qp (e2 bZ (ae 4) (eC (.int 1))) (e2 bZ (ae 5) (eC (.int 0))))))) (bL 3 (xP (e2 r_ (e2 r_ (ae 3) (e2 tw (e2 bZ (ae 4) (eC (.int 0))) (e2 bZ (ae 5) (eC (.int 0))))) (e2 tw (e2 bZ (ae 4) (eC (.int 1))) (e2 bZ (ae 5) (eC (.int 1))))))))
noncomputable def gq:FZ:=(bb (bL 3 (xP (eC (.int 0)))) (bb (jR (G1 (q8 1 (Str.ofString "plain") (bR 0)) (sY 0 (Str.ofString "readings") cH (q8 1 (Str.ofString "bench") (bR 0)) (ay (xP (ae 1)) cq))) (uA 2 (oz (iR 4) (oz (iR 5) u0))) iS) (iq (xP (ae 3)))))
noncomputable def jq:List V3→aN→R3 V3:=mr eR gq
noncomputable def dh:List V3→aN→R3 V3:=nE eR gq
theorem dn{P:Program}{w:World}{K:PySem.W.Frag}{mg:Str→Option Value}{base:Heap}{cl:Nat→Addr}(T:Tp K mg cl)(h:uh K (cl 1) (Str.ofString "breaks_at") (Str.ofString "Trial.breaks_at") bg)(XP_Bench_readings:ip P w K mg base cl 5 0 (Str.ofString "readings") 1 cH):ip P w K mg base cl 6 1 (Str.ofString "breaks_at") 2 jq:=by
 obtain⟨f,fd,F,hm⟩:=h
 exact⟨f,fd,_,T.C_Trial,hm,b3 (k:=5) ny.2 jv.2 F cR (fun cdv A outer s H E hr=>(av (aS cR.nd rfl (Or.inl rfl) (ak aj)) (av (eV PassesOwn.never rfl (Di (kO T.C_Trial T.N_Trial_plain (aO 0)) (qi XP_Bench_readings hr (by decide) (kO T.C_Trial T.N_Trial_bench (aO 0)) (ag (ak (aa 1)) aM) (ai aL)) rfl T.z_zip) (ie rfl (bQ (aV cR.nd rfl (Or.inl rfl)) (bQ (aV cR.nd rfl (Or.inl rfl)) fU))) (aI (gH (dr (bH (gy hr.units) (aa 2) bG (bW _))) (aI (aS cR.nd rfl (Or.inl rfl) (ak (aC mz (aC mz (aa 3) (aC l0 (aG (aa 4) aj (fun _ _=>rfl)) (aG (aa 5) aj (fun _ _=>rfl)))) (aC l0 (aG (aa 4) aj (fun _ _=>rfl)) (aG (aa 5) aj (fun _ _=>rfl))))))) (aI (aS cR.nd rfl (Or.inl rfl) (ak (aC mz (aC mz (aa 3) (aC nS (aG (aa 4) aj (fun _ _=>rfl)) (aG (aa 5) aj (fun _ _=>rfl)))) (aC nS (aG (aa 4) aj (fun _ _=>rfl)) (aG (aa 5) aj (fun _ _=>rfl)))))))))) (aI (c0 (ak (aa 3))))))),F.binds fun _ _ _ _ _ _ us hl=>match us,hl with | [_,_,_],_=>rfl⟩
noncomputable abbrev et:Stmt:=top 20
noncomputable abbrev g7:List Str:=[(Str.ofString "net"),(Str.ofString "many"),(Str.ofString "level"),(Str.ofString "trial"),(Str.ofString "found"),(Str.ofString "size"),(Str.ofString "places")]
noncomputable def vW:{b:List Stmt // aq et=b}:=by
 have e:aq et=aq et:=rfl
 conv at e=>rhs;whnf
 exact⟨_,e⟩
noncomputable def lP:{b:Scope // af et=b}:=by
 have e:af et=af et:=rfl
 conv at e=>rhs;whnf
 exact⟨_,e⟩
theorem i8:ba g7 [(Str.ofString "net"),(Str.ofString "many"),(Str.ofString "level")] lP.1:=⟨rfl,rfl,rfl,by decide+kernel,rfl,by decide+kernel,by decide+kernel⟩
noncomputable def kr:FZ:=(mX (bT (iX (br DH (az (eNew (eH (dZ (ae 4)) (aR 0) rL (br gY (az (ae 1) (az (ae 0) aW))) [(Str.ofString "others")] [6])) aW)))) gS (mX (Iy w9 (sY 1 (Str.ofString "breaks_at") dh (bR 3) (ay (xP (ae 6)) (ay (xP (ae 2)) cq))) (xP (eC (.int 0)))) (jP 4 (xP (ae 6))) gS))
noncomputable def nW:FZ:=(jR (yc (lB (d6 4) (ay (q8 1 (Str.ofString "unsure") (bR 3)) (ay (xP (ae 5)) cq)))) (iR 6) kr)
noncomputable def kF:FZ:=(bb (bL 3 (yG 1 cO (ay (xP (ae 0)) cq))) (bb (bL 4 (kG (dD aW))) (bb (jR (iP (i9 (e2 iL (ae 1) (eC (.int 1))))) (iR 5) nW) (iq (bR 4)))))
noncomputable def gc:List V3→aN→R3 V3:=mr g7 kF
noncomputable def il:List V3→aN→R3 V3:=nE g7 kF
theorem xD{P:Program}{w:World}{K:PySem.W.Frag}{mg:Str→Option Value}{base:Heap}{cl:Nat→Addr}(T:Tp K mg cl)(h:Def K mg (Str.ofString "breaking") et)(C_choices:Callee P w K mg base 5 (Str.ofString "choices") 2 (d6 4))(C_has_all:Callee P w K mg base 1 (Str.ofString "has_all") 2 gY)(XK_Trial___init__:qX P w K mg base cl 6 1 (Str.ofString "Trial") 1 cO)(XP_Trial_breaks_at:ip P w K mg base cl 6 1 (Str.ofString "breaks_at") 2 dh):aD P w K mg base cl 8 (Str.ofString "breaking") 3 gc:=by
 obtain⟨f,fd,F,hm⟩:=h
 exact⟨f,fd,_,b3 (k:=7) vW.2 lP.2 F i8 (fun cdv A outer s H E hr=>(av (aS i8.nd rfl (Or.inl rfl) (zk XK_Trial___init__ hr (by decide) rfl (ag (ak (aa 0)) aM) (ai aL))) (av (aS i8.nd rfl (Or.inl rfl) (eW (bK au))) (av (eV PassesOwn.never rfl (cT (fq (aC jh (aa 1) aj) rfl T.z_range)) (aV i8.nd rfl (Or.inl rfl)) (aI (C8 PassesOwn.never rfl (qv (rj C_choices hr (by decide) rfl (ag (kO T.C_Trial T.N_Trial_unsure (aO 3)) (ag (ak (aa 5)) aM)) (ai (ai aL)))) (aV i8.nd rfl (Or.inr rfl)) (Cc (lV (jH (bB (HP rfl) rfl T.z_any PyProof.Rows.boot_any (ab (cj (dX rfl (b9.of (own:=[(Str.ofString "others")]) (kp:=[6]) (kn:=[(Str.ofString "places")]) (sc:=lP.1) (N:=g7) rfl rfl (by decide+kernel)) (cB (aa 4)) (fun _ _ _=>(aX (show List.Nodup [(Str.ofString "others"),(Str.ofString "places")] from by decide+kernel) rfl (Or.inl rfl))) (fun _ _ _=>gh) (fun _ _ _=>(cQ C_has_all hr (by decide) rfl (ab (aa 1) (ab (aa 0) au)) (bN (bN dm)))))) au)))) (Hk (aI (gH (uX (Dl hr.units) (qi XP_Trial_breaks_at hr (by decide) (aO 3) (ag (ak (aa 6)) (ag (ak (aa 2)) aM)) (ai (ai aL))) (ak aj) (bW _)) (aI (f7 rfl (Or.inl rfl) (ak (aa 6)))) dM))))))) (aI (c0 (aO 4))))))),hm,F.kp,F.binds fun _ _ _ _ _ _ us hl=>match us,hl with | [_,_,_],_=>rfl⟩
noncomputable abbrev eo:Stmt:=top 22
noncomputable abbrev kM:List Str:=[(Str.ofString "pot"),(Str.ofString "many"),(Str.ofString "cell"),(Str.ofString "stir")]
noncomputable def wb:{b:List Stmt // aq eo=b}:=by
 have e:aq eo=aq eo:=rfl
 conv at e=>rhs;whnf
 exact⟨_,e⟩
noncomputable def px:{b:Scope // af eo=b}:=by
 have e:af eo=af eo:=rfl
 conv at e=>rhs;whnf
 exact⟨_,e⟩
theorem kq:ba kM [(Str.ofString "pot"),(Str.ofString "many")] px.1:=⟨rfl,rfl,rfl,by decide+kernel,rfl,by decide+kernel,by decide+kernel⟩
noncomputable def m_:FZ:=(bb (CW (bR 0) (xP (eC (.int 1))) (xT (e2 iL (e2 bZ (ae 0) (eC (.int 1))) (eC (.int 1))))) (bb (bL 2 (xT (e2 bZ (ae 0) (eC (.int 0))))) (bb (mX (bP (b2 Ej (ae 2) (e2 uG (eC (.int 10)) (eC (.int 18))))) (bb (CW (bR 0) (xP (eC (.int 0))) (xP (e2 lg (ae 2) (ae 1)))) (iq (xP (e2 lJ (ae 2) (ae 1))))) gS) (bb (bL 3 (xT (e2 lJ (e2 iL (e2 iL (e2 m8 (ae 2) (eC (.int 69621))) (e2 m8 (e2 bZ (ae 0) (eC (.int 1))) (eC (.int 7919)))) (eC (.int 13))) (eC (.int 2147483647))))) (bb (bL 3 (xP (e2 lJ (e2 m8 (ae 3) (ae 3)) (eC (.int 2147483629))))) (iq (xT (e2 lJ (e2 lg (e2 lJ (e2 iL (e2 m8 (ae 3) (eC (.int 48271))) (e2 m8 (e2 bZ (ae 0) (eC (.int 1))) (eC (.int 40692)))) (eC (.int 2147483587))) (eC (.int 8))) (ae 1)))))))))
noncomputable def pN:List V3→aN→R3 V3:=mr kM m_
noncomputable def aQ:List V3→aN→R3 V3:=nE kM m_
theorem xM{P:Program}{w:World}{K:PySem.W.Frag}{mg:Str→Option Value}{base:Heap}{cl:Nat→Addr}(T:Tp K mg cl)(h:Def K mg (Str.ofString "_law_next") eo):aD P w K mg base cl 1 (Str.ofString "_law_next") 2 pN:=by
 obtain⟨f,fd,F,hm⟩:=h
 exact⟨f,fd,_,b3 (k:=0) wb.2 px.2 F kq (fun cdv A outer s H E hr=>(av (A5 (dI (aC jh (aG (aa 0) aj (fun _ _=>rfl)) aj)) (Cr (PX.go (aO 0)) (PX.go (ak aj)) set_list)) (av (aS kq.nd rfl (Or.inl rfl) (dI (aG (aa 0) aj (fun _ _=>rfl)))) (av (gH (dr (bH JS (aa 2) (aC Ia aj aj) (bW _))) (av (A5 (ak (aC Bt (aa 2) (aa 1))) (Cr (PX.go (aO 0)) (PX.go (ak aj)) set_list)) (aI (c0 (ak (aC rf (aa 2) (aa 1)))))) dM) (av (aS kq.nd rfl (Or.inl rfl) (dI (aC rf (aC jh (aC jh (aC t8 (aa 2) aj) (aC t8 (aG (aa 0) aj (fun _ _=>rfl)) aj)) aj) aj))) (av (aS kq.nd rfl (Or.inl rfl) (ak (aC rf (aC t8 (aa 3) (aa 3)) aj))) (aI (c0 (dI (aC rf (aC Bt (aC rf (aC jh (aC t8 (aa 3) aj) (aC t8 (aG (aa 0) aj (fun _ _=>rfl)) aj)) aj) aj) (aa 1))))))))))),hm,F.kp,F.binds fun _ _ _ _ _ _ us hl=>match us,hl with | [_,_],_=>rfl⟩
noncomputable abbrev eA:Stmt:=top 23
noncomputable abbrev jw:List Str:=[(Str.ofString "script")]
noncomputable def wa:{b:List Stmt // aq eA=b}:=by
 have e:aq eA=aq eA:=rfl
 conv at e=>rhs;whnf
 exact⟨_,e⟩
noncomputable def lC:{b:Scope // af eA=b}:=by
 have e:af eA=af eA:=rfl
 conv at e=>rhs;whnf
 exact⟨_,e⟩
theorem yk:ba jw [(Str.ofString "script")] lC.1:=⟨rfl,rfl,rfl,by decide+kernel,rfl,by decide+kernel,by decide+kernel⟩
noncomputable def nD:FZ:=(bb (mX (bP (b2 gO (br fO (az (ae 0) aW)) (eC (.int 0)))) (iq (GD (ay (kG (dD (az (eC (.int 0)) (az (eC (.int 0)) aW)))) cq))) gS) (iq (jm (iP (dZ (zB (ae 0) jL (iQ (eC (.int 63)))))) (iR 0) sH (kG (dD (az (ae 0) (az (eC (.int 0)) aW)))) [(Str.ofString "cell")] [])))
noncomputable def iu:List V3→aN→R3 V3:=mr jw nD
noncomputable def wg:List V3→aN→R3 V3:=nE jw nD
theorem yi{P:Program}{w:World}{K:PySem.W.Frag}{mg:Str→Option Value}{base:Heap}{cl:Nat→Addr}(T:Tp K mg cl)(h:Def K mg (Str.ofString "_law_pots") eA):aD P w K mg base cl 1 (Str.ofString "_law_pots") 1 iu:=by
 obtain⟨f,fd,F,hm⟩:=h
 exact⟨f,fd,_,b3 (k:=0) wa.2 lC.2 F yk (fun cdv A outer s H E hr=>(av (gH (dr (bH (gy hr.units) (bB fQ rfl T.z_len PySem.boot_len (ab (aa 0) au)) aj (bW _))) (aI (c0 (Gr (ag (eW (bK (ab aj (ab aj au)))) aM)))) dM) (aI (c0 (uT rfl (b9.of (own:=[(Str.ofString "cell")]) (kp:=[]) (kn:=[]) (sc:=lC.1) (N:=jw) rfl rfl (by decide+kernel)) (cT (cB (yw (aa 0) ot (nQ aj)))) (fun _ _ _=>(aV (show List.Nodup [(Str.ofString "cell")] from by decide+kernel) rfl (Or.inl rfl))) (fun _ _ _=>i4) (fun _ _ _=>(eW (bK (ab (aa 0) (ab aj au)))))))))),hm,F.kp,F.binds fun _ _ _ _ _ _ us hl=>match us,hl with | [_],_=>rfl⟩
noncomputable abbrev cE:Stmt:=top 24
noncomputable abbrev gJ:List Str:=[(Str.ofString "pot"),(Str.ofString "most"),(Str.ofString "wide"),(Str.ofString "names"),(Str.ofString "turn"),(Str.ofString "found"),(Str.ofString "k")]
noncomputable def pR:{b:List Stmt // aq cE=b}:=by
 have e:aq cE=aq cE:=rfl
 conv at e=>rhs;whnf
 exact⟨_,e⟩
noncomputable def lj:{b:Scope // af cE=b}:=by
 have e:af cE=af cE:=rfl
 conv at e=>rhs;whnf
 exact⟨_,e⟩
theorem eY:ba gJ [(Str.ofString "pot"),(Str.ofString "most"),(Str.ofString "wide")] lj.1:=⟨rfl,rfl,rfl,by decide+kernel,rfl,by decide+kernel,by decide+kernel⟩
noncomputable def j4:FZ:=(jP 5 (wV (ay (xP (e2 bZ (ae 3) (e2 lJ (e2 iL (ae 4) (ae 6)) (eC (.int 6))))) (ay (x2 iL (xP (eC (.int 1))) (cb aQ (ay (bR 0) (ay (xP (ae 2)) cq)))) cq))))
noncomputable def jb:FZ:=(bb (bL 3 (xP (eNew (dD (az (eC (.str (Str.ofString "a"))) (az (eC (.str (Str.ofString "bb"))) (az (eC (.str (Str.ofString "signal"))) (az (eC (.str (Str.ofString "x"))) (az (eC (.str (Str.ofString "yes"))) (az (eC (.str (Str.ofString "abcdefgh"))) aW)))))))))) (bb (bL 4 (cb aQ (ay (bR 0) (ay (xP (eC (.int 6))) cq)))) (bb (bL 5 (kG (dD aW))) (bb (jR (pK (x2 iL (xP (eC (.int 1))) (cb aQ (ay (bR 0) (ay (xP (ae 1)) cq))))) (iR 6) j4) (iq (bR 5))))))
noncomputable def kU:List V3→aN→R3 V3:=mr gJ jb
noncomputable def eK:List V3→aN→R3 V3:=nE gJ jb
theorem qy{P:Program}{w:World}{K:PySem.W.Frag}{mg:Str→Option Value}{base:Heap}{cl:Nat→Addr}(T:Tp K mg cl)(h:Def K mg (Str.ofString "_law_some_ins") cE)(XP_law_next:aD P w K mg base cl 1 (Str.ofString "_law_next") 2 aQ):aD P w K mg base cl 2 (Str.ofString "_law_some_ins") 3 kU:=by
 obtain⟨f,fd,F,hm⟩:=h
 exact⟨f,fd,_,b3 (k:=1) pR.2 lj.2 F eY (fun cdv A outer s H E hr=>(av (aS eY.nd rfl (Or.inl rfl) (ak (cj (bK (ab bG (ab bG (ab bG (ab bG (ab bG (ab bG au)))))))))) (av (aS eY.nd rfl (Or.inl rfl) (bA XP_law_next hr (by decide) rfl (ag (aO 0) (ag (ak aj) aM)) (ai (ai aL)))) (av (aS eY.nd rfl (Or.inl rfl) (eW (bK au))) (av (eV PassesOwn.never rfl (ku (vA jh (ak aj) (bA XP_law_next hr (by decide) rfl (ag (aO 0) (ag (ak (aa 1)) aM)) (ai (ai aL)))) rfl T.z_range) (aV eY.nd rfl (Or.inl rfl)) (aI (f7 rfl (Or.inl rfl) (o8 (ag (ak (aG (aa 3) (aC rf (aC jh (aa 4) (aa 6)) aj) (fun _ _=>rfl))) (ag (vA jh (ak aj) (bA XP_law_next hr (by decide) rfl (ag (aO 0) (ag (ak (aa 2)) aM)) (ai (ai aL)))) aM)))))) (aI (c0 (aO 5)))))))),hm,F.kp,F.binds fun _ _ _ _ _ _ us hl=>match us,hl with | [_,_,_],_=>rfl⟩
noncomputable abbrev eB:Stmt:=top 25
noncomputable abbrev ja:List Str:=[(Str.ofString "pot"),(Str.ofString "many"),(Str.ofString "kind"),(Str.ofString "count"),(Str.ofString "wires")]
noncomputable def vQ:{b:List Stmt // aq eB=b}:=by
 have e:aq eB=aq eB:=rfl
 conv at e=>rhs;whnf
 exact⟨_,e⟩
noncomputable def lM:{b:Scope // af eB=b}:=by
 have e:af eB=af eB:=rfl
 conv at e=>rhs;whnf
 exact⟨_,e⟩
theorem kD:ba ja [(Str.ofString "pot"),(Str.ofString "many")] lM.1:=⟨rfl,rfl,rfl,by decide+kernel,rfl,by decide+kernel,by decide+kernel⟩
noncomputable def mY:FZ:=(bb (bL 2 (Hl (xP (eNew (dD (az (eC (.str (Str.ofString "not"))) (az (eC (.str (Str.ofString "and"))) (az (eC (.str (Str.ofString "or"))) (az (eC (.str (Str.ofString "xor"))) (az (eC (.str (Str.ofString "vote"))) (az (eC (.str (Str.ofString "and"))) (az (eC (.str (Str.ofString "or"))) (az (eC (.str (Str.ofString "xor"))) aW))))))))))) (cb aQ (ay (bR 0) (ay (xP (eC (.int 8))) cq))))) (bb (bL 3 (xP (Gu [((Sum.inr (Str.ofString "not"):Key),V.int 1),((Sum.inr (Str.ofString "vote"):Key),V.int 3)] (ae 2) (eC (.int 2))))) (bb (bL 4 (jm (iP (i9 (ae 3))) (iR 0) sH (x2 mB (xP (e2 mB (ae 2) (eC (.int 1)))) (cb aQ (ay (bR 1) (ay (xP (e2 bZ (eNew (dD (az (ae 2) (az (br tK (az (ae 2) (az (eC (.int 4)) aW))) aW)))) (e2 lJ (ae 0) (eC (.int 2))))) cq)))) [(Str.ofString "k")] [0,1])) (iq (xP (fk (az (ae 2) (az (br iG (az (ae 4) aW)) aW))))))))
noncomputable def pA:List V3→aN→R3 V3:=mr ja mY
noncomputable def iz:List V3→aN→R3 V3:=nE ja mY
theorem xK{P:Program}{w:World}{K:PySem.W.Frag}{mg:Str→Option Value}{base:Heap}{cl:Nat→Addr}(T:Tp K mg cl)(h:Def K mg (Str.ofString "_law_gate") eB)(XP_law_next:aD P w K mg base cl 1 (Str.ofString "_law_next") 2 aQ):aD P w K mg base cl 2 (Str.ofString "_law_gate") 2 pA:=by
 obtain⟨f,fd,F,hm⟩:=h
 exact⟨f,fd,_,b3 (k:=1) vQ.2 lM.2 F kD (fun cdv A outer s H E hr=>(av (aS kD.nd rfl (Or.inl rfl) (yz (ak (cj (bK (ab bG (ab bG (ab bG (ab bG (ab bG (ab bG (ab bG (ab bG au))))))))))) (bA XP_law_next hr (by decide) rfl (ag (aO 0) (ag (ak aj) aM)) (ai (ai aL))) (fun _ _=>rfl))) (av (aS kD.nd rfl (Or.inl rfl) (ak (Ey (Iv hr) (nP qS qO (nP qS qO yJ)) rfl rfl (by simp) (fun _ _ _ h=>h) (by decide) (aa 2) aj ⟨rfl,rfl,rfl,rfl⟩ (Dk (nP qS qO (nP qS qO yJ)) rfl rfl (by simp) (by decide))))) (av (kP rfl kD.nd rfl rfl (b9.of (own:=[(Str.ofString "k")]) (kp:=[0,1]) (kn:=[(Str.ofString "pot"),(Str.ofString "many")]) (sc:=lM.1) (N:=ja) rfl rfl (by decide+kernel)) (cT (fq (aa 3) rfl T.z_range)) (fun _ _ _=>(aV (show List.Nodup [(Str.ofString "k"),(Str.ofString "pot"),(Str.ofString "many")] from by decide+kernel) rfl (Or.inl rfl))) (fun _ _ _=>i4) (fun _ _ _=>(vA pk (ak (aC pk (aa 2) aj)) (bA XP_law_next hr (by decide) rfl (ag (aO 1) (ag (ak (aG (cj (bK (ab (aa 2) (ab (bB (Ca rfl) rfl T.z_min PyProof.Rows.boot_min (ab (aa 2) (ab aj au))) au)))) (aC rf (aa 0) aj) (fun _ _=>rfl))) aM)) (ai (ai aL)))))) (aI (c0 (ak (cK (ab (aa 2) (ab (jx uY rfl T.z_tuple PyProof.Rows.boot_tuple (ab (aa 4) au)) au)))))))))),hm,F.kp,F.binds fun _ _ _ _ _ _ us hl=>match us,hl with | [_,_],_=>rfl⟩
noncomputable abbrev d_:Stmt:=top 26
noncomputable abbrev i_:List Str:=[(Str.ofString "pot"),(Str.ofString "like"),(Str.ofString "wire"),(Str.ofString "same")]
noncomputable def vv:{b:List Stmt // aq d_=b}:=by
 have e:aq d_=aq d_:=rfl
 conv at e=>rhs;whnf
 exact⟨_,e⟩
noncomputable def lK:{b:Scope // af d_=b}:=by
 have e:af d_=af d_:=rfl
 conv at e=>rhs;whnf
 exact⟨_,e⟩
theorem qY:ba i_ [(Str.ofString "pot"),(Str.ofString "like"),(Str.ofString "wire")] lK.1:=⟨rfl,rfl,rfl,by decide+kernel,rfl,by decide+kernel,by decide+kernel⟩
noncomputable def nk:FZ:=(bb (bL 3 (jm (pK (xT (br fO (az (ae 1) aW)))) (iR 0) (bT (b2 gO (e2 bZ (ae 1) (ae 0)) (e2 bZ (ae 1) (ae 2)))) (xP (ae 0)) [(Str.ofString "one")] [1,2])) (iq (Hl (xP (ae 3)) (cb aQ (ay (bR 0) (ay (xP (br fO (az (ae 3) aW))) cq))))))
noncomputable def pC:List V3→aN→R3 V3:=mr i_ nk
noncomputable def du:List V3→aN→R3 V3:=nE i_ nk
theorem xR{P:Program}{w:World}{K:PySem.W.Frag}{mg:Str→Option Value}{base:Heap}{cl:Nat→Addr}(T:Tp K mg cl)(h:Def K mg (Str.ofString "_law_twin") d_)(XP_law_next:aD P w K mg base cl 1 (Str.ofString "_law_next") 2 aQ):aD P w K mg base cl 2 (Str.ofString "_law_twin") 3 pC:=by
 obtain⟨f,fd,F,hm⟩:=h
 exact⟨f,fd,_,b3 (k:=1) vv.2 lK.2 F qY (fun cdv A outer s H E hr=>(av (kP rfl qY.nd rfl rfl (b9.of (own:=[(Str.ofString "one")]) (kp:=[1,2]) (kn:=[(Str.ofString "like"),(Str.ofString "wire")]) (sc:=lK.1) (N:=i_) rfl rfl (by decide+kernel)) (ku (dI (bB fQ rfl T.z_len PySem.boot_len (ab (aa 1) au))) rfl T.z_range) (fun _ _ _=>(aV (show List.Nodup [(Str.ofString "one"),(Str.ofString "like"),(Str.ofString "wire")] from by decide+kernel) rfl (Or.inl rfl))) (fun _ _ _=>(Bh (lV (bH (gy hr.units) (aG (aa 1) (aa 0) (fun _ _=>rfl)) (aG (aa 1) (aa 2) (fun _ _=>rfl)) (bW _))))) (fun _ _ _=>(ak (aa 0)))) (aI (c0 (yz (ak (aa 3)) (bA XP_law_next hr (by decide) rfl (ag (aO 0) (ag (ak (bB fQ rfl T.z_len PySem.boot_len (ab (aa 3) au))) aM)) (ai (ai aL))) (fun _ _=>rfl)))))),hm,F.kp,F.binds fun _ _ _ _ _ _ us hl=>match us,hl with | [_,_,_],_=>rfl⟩
noncomputable abbrev cI:Stmt:=top 27
noncomputable abbrev fw:List Str:=[(Str.ofString "pot"),(Str.ofString "most"),(Str.ofString "gates"),(Str.ofString "wide"),(Str.ofString "ins"),(Str.ofString "like"),(Str.ofString "k"),(Str.ofString "name"),(Str.ofString "width"),(Str.ofString "heard"),(Str.ofString "first"),(Str.ofString "kind"),(Str.ofString "wires"),(Str.ofString "mark"),(Str.ofString "place"),(Str.ofString "outs"),(Str.ofString "wire")]
noncomputable def pX:{b:List Stmt // aq cI=b}:=by
 have e:aq cI=aq cI:=rfl
 conv at e=>rhs;whnf
 exact⟨_,e⟩
noncomputable def iI:{b:Scope // af cI=b}:=by
 have e:af cI=af cI:=rfl
 conv at e=>rhs;whnf
 exact⟨_,e⟩
theorem aJ:ba fw [(Str.ofString "pot"),(Str.ofString "most"),(Str.ofString "gates"),(Str.ofString "wide")] iI.1:=⟨rfl,rfl,rfl,by decide+kernel,rfl,by decide+kernel,by decide+kernel⟩
noncomputable def j9:FZ:=(An 5 (xP (eNew (Ct (dD (az (ae 6) aW)) (ae 8)))))
noncomputable def gU:FZ:=(bb (EF (cb iz (ay (bR 0) (ay (xT (br fO (az (ae 5) aW))) cq))) (uA 2 (oz (iR 11) (oz (iR 12) u0)))) (bb (bL 13 (xP (e2 iL (br fO (az (ae 4) aW)) (ae 6)))) (bb (mX (DJ (bT (b2 w9 (ae 9) (eNew (dD aW)))) (Iy gO (cb aQ (ay (bR 0) (ay (xP (eC (.int 3))) cq))) (xP (eC (.int 0))))) (bb (bL 14 (cb aQ (ay (bR 0) (ay (xT (br fO (az (ae 9) aW))) cq)))) (bb (EF (xT (D2 (e2 bZ (ae 9) (ae 14)) jL (iQ (eC (.int 2))))) (uA 2 (oz (iR 11) (oz (iR 12) u0)))) (bb (bL 12 (lB iG (ay (jm (iP (dZ (ae 12))) (iR 0) sH (cb du (ay (bR 1) (ay (bR 2) (ay (xP (ae 0)) cq)))) [(Str.ofString "wire")] [0,5]) cq))) (bL 13 (xT (e2 bZ (ae 5) (e2 iL (ae 10) (ae 14)))))))) gS) (bb (jP 9 (wV (ay (xP (ae 11)) (ay (xP (ae 12)) (ay (x2 gO (cb aQ (ay (bR 0) (ay (xP (eC (.int 6))) cq))) (xP (eC (.int 0)))) cq))))) (jP 5 (xP (ae 13)))))))
noncomputable def g6:FZ:=(bb (bL 16 (x2 mB (xT (e2 mB (br fO (az (ae 5) aW)) (eC (.int 1)))) (cb aQ (ay (bR 0) (ay (xT (br tK (az (br fO (az (ae 5) aW)) (az (eC (.int 5)) aW)))) cq))))) (bb (bL 12 (xP (fk (az (ae 16) aW)))) (bb (bL 8 (cb aQ (ay (bR 0) (ay (xP (eC (.int 4))) cq)))) (bb (mX (bP (b2 gO (ae 8) (eC (.int 1)))) (bL 12 (wV (ay (xP (ae 16)) (ay (cb du (ay (bR 0) (ay (bR 5) (ay (xP (ae 16)) cq)))) cq)))) gS) (bb (mX (bP (b2 gO (ae 8) (eC (.int 2)))) (bL 12 (wV (ay (xP (ae 16)) (ay (cb du (ay (bR 0) (ay (bR 5) (ay (xP (ae 16)) cq)))) (ay (cb aQ (ay (bR 0) (ay (xT (br fO (az (ae 5) aW))) cq))) cq))))) gS) (bb (mX (bP (b2 gO (ae 8) (eC (.int 3)))) (bL 12 (wV (ay (xP (ae 16)) (ay (cb du (ay (bR 0) (ay (bR 5) (ay (xP (ae 16)) cq)))) (ay (cb du (ay (bR 0) (ay (bR 5) (ay (xP (ae 16)) cq)))) cq))))) gS) (jP 15 (xP (fk (az (e2 bZ (eNew (dD (az (eC (.str (Str.ofString "p"))) (az (eC (.str (Str.ofString "ou"))) (az (eC (.str (Str.ofString "result"))) (az (eC (.str (Str.ofString "q"))) (az (eC (.str (Str.ofString "rest"))) (az (eC (.str (Str.ofString "y"))) aW)))))))) (ae 6)) (az (ae 12) aW)))))))))))
noncomputable def jz:FZ:=(bb (bL 4 (cb eK (ay (bR 0) (ay (xP (ae 1)) (ay (xP (ae 3)) cq))))) (bb (bL 5 (kG (dD aW))) (bb (jR (iP (eO (ae 4))) (uA 2 (oz (iR 6) (oz (uA 2 (oz (iR 7) (oz (iR 8) u0))) u0))) j9) (bb (bL 9 (kG (dD aW))) (bb (bL 10 (xT (br fO (az (ae 5) aW)))) (bb (jR (pK (cb aQ (ay (bR 0) (ay (xP (e2 iL (ae 2) (eC (.int 1)))) cq)))) (iR 6) gU) (bb (bL 15 (kG (dD aW))) (bb (jR (pK (x2 iL (xP (eC (.int 1))) (cb aQ (ay (bR 0) (ay (Hl (xP (eNew (dD (az (eC (.int 3)) (az (eC (.int 3)) (az (eC (.int 6)) aW)))))) (cb aQ (ay (bR 0) (ay (xP (eC (.int 3))) cq)))) cq))))) (iR 6) g6) (iq (wV (ay (bR 4) (ay (bR 9) (ay (bR 15) cq)))))))))))))
noncomputable def k7:List V3→aN→R3 V3:=mr fw jz
noncomputable def eE:List V3→aN→R3 V3:=nE fw jz
theorem rS{P:Program}{w:World}{K:PySem.W.Frag}{mg:Str→Option Value}{base:Heap}{cl:Nat→Addr}(T:Tp K mg cl)(h:Def K mg (Str.ofString "_law_some_net") cI)(XP_law_some_ins:aD P w K mg base cl 2 (Str.ofString "_law_some_ins") 3 eK)(XP_law_next:aD P w K mg base cl 1 (Str.ofString "_law_next") 2 aQ)(XP_law_gate:aD P w K mg base cl 2 (Str.ofString "_law_gate") 2 iz)(XP_law_twin:aD P w K mg base cl 2 (Str.ofString "_law_twin") 3 du):aD P w K mg base cl 3 (Str.ofString "_law_some_net") 4 k7:=by
 obtain⟨f,fd,F,hm⟩:=h
 exact⟨f,fd,_,b3 (k:=2) pX.2 iI.2 F aJ (fun cdv A outer s H E hr=>(av (aS aJ.nd rfl (Or.inl rfl) (bA XP_law_some_ins hr (by decide) rfl (ag (aO 0) (ag (ak (aa 1)) (ag (ak (aa 3)) aM))) (ai (ai (ai aL))))) (av (aS aJ.nd rfl (Or.inr rfl) (eW (bK au))) (av (eV PassesOwn.never rfl (cT (hV (aa 4) rfl T.z_enumerate)) (ie rfl (bQ (aV aJ.nd rfl (Or.inl rfl)) (bQ (ie rfl (bQ (aV aJ.nd rfl (Or.inl rfl)) (bQ (aV aJ.nd rfl (Or.inl rfl)) fU))) fU))) (aI (CG rfl (Or.inr (Or.inl rfl)) (ak (cj (zA (bK (ab (aa 6) au)) (aa 8))))))) (av (aS aJ.nd rfl (Or.inl rfl) (eW (bK au))) (av (aS aJ.nd rfl (Or.inl rfl) (dI (bB fQ rfl T.z_len PySem.boot_len (ab (aa 5) au)))) (av (eV PassesOwn.never rfl (ku (bA XP_law_next hr (by decide) rfl (ag (aO 0) (ag (ak (aC jh (aa 2) aj)) aM)) (ai (ai aL))) rfl T.z_range) (aV aJ.nd rfl (Or.inl rfl)) (av (BM (bA XP_law_gate hr (by decide) rfl (ag (aO 0) (ag (dI (bB fQ rfl T.z_len PySem.boot_len (ab (aa 5) au))) aM)) (ai (ai aL))) (ie rfl (bQ (aV aJ.nd rfl (Or.inl rfl)) (bQ (aV aJ.nd rfl (Or.inl rfl)) fU)))) (av (aS aJ.nd rfl (Or.inl rfl) (ak (aC jh (bB fQ rfl T.z_len PySem.boot_len (ab (aa 4) au)) (aa 6)))) (av (gH (F4.pb (y8 (lV (bH (Dl hr.units) (aa 9) (cj (bK au)) (bW _))) (vM (uX (gy hr.units) (bA XP_law_next hr (by decide) rfl (ag (aO 0) (ag (ak aj) aM)) (ai (ai aL))) (ak aj) (bW _))))) (av (aS aJ.nd rfl (Or.inl rfl) (bA XP_law_next hr (by decide) rfl (ag (aO 0) (ag (dI (bB fQ rfl T.z_len PySem.boot_len (ab (aa 9) au))) aM)) (ai (ai aL)))) (av (BM (dI (Df (aG (aa 9) (aa 14) (fun _ _=>rfl)) ot (nQ aj))) (ie rfl (bQ (aV aJ.nd rfl (Or.inl rfl)) (bQ (aV aJ.nd rfl (Or.inl rfl)) fU)))) (av (aS aJ.nd rfl (Or.inl rfl) (zK uY rfl T.z_tuple PyProof.Rows.boot_tuple (ag (uT rfl (b9.of (own:=[(Str.ofString "wire")]) (kp:=[0,5]) (kn:=[(Str.ofString "pot"),(Str.ofString "like")]) (sc:=iI.1) (N:=fw) rfl rfl (by decide+kernel)) (cT (cB (aa 12))) (fun _ _ _=>(aV (show List.Nodup [(Str.ofString "wire"),(Str.ofString "pot"),(Str.ofString "like")] from by decide+kernel) rfl (Or.inl rfl))) (fun _ _ _=>i4) (fun _ _ _=>(bA XP_law_twin hr (by decide) rfl (ag (aO 1) (ag (aO 2) (ag (ak (aa 0)) aM))) (ai (ai (ai aL)))))) aM))) (aI (aS aJ.nd rfl (Or.inl rfl) (dI (aG (aa 5) (aC jh (aa 10) (aa 14)) (fun _ _=>rfl)))))))) dM) (av (f7 rfl (Or.inl rfl) (o8 (ag (ak (aa 11)) (ag (ak (aa 12)) (ag (Bf (gy hr.units) (bA XP_law_next hr (by decide) rfl (ag (aO 0) (ag (ak aj) aM)) (ai (ai aL))) (ak aj) (bW _)) aM))))) (aI (f7 rfl (Or.inr (Or.inl rfl)) (ak (aa 13))))))))) (av (aS aJ.nd rfl (Or.inl rfl) (eW (bK au))) (av (eV PassesOwn.never rfl (ku (vA jh (ak aj) (bA XP_law_next hr (by decide) rfl (ag (aO 0) (ag (yz (ak (cj (bK (ab aj (ab aj (ab aj au)))))) (bA XP_law_next hr (by decide) rfl (ag (aO 0) (ag (ak aj) aM)) (ai (ai aL))) (fun _ _=>rfl)) aM)) (ai (ai aL)))) rfl T.z_range) (aV aJ.nd rfl (Or.inl rfl)) (av (aS aJ.nd rfl (Or.inl rfl) (vA pk (dI (aC pk (bB fQ rfl T.z_len PySem.boot_len (ab (aa 5) au)) aj)) (bA XP_law_next hr (by decide) rfl (ag (aO 0) (ag (dI (bB (Ca rfl) rfl T.z_min PyProof.Rows.boot_min (ab (bB fQ rfl T.z_len PySem.boot_len (ab (aa 5) au)) (ab aj au)))) aM)) (ai (ai aL))))) (av (aS aJ.nd rfl (Or.inl rfl) (ak (cK (ab (aa 16) au)))) (av (aS aJ.nd rfl (Or.inl rfl) (bA XP_law_next hr (by decide) rfl (ag (aO 0) (ag (ak aj) aM)) (ai (ai aL)))) (av (gH (dr (bH (gy hr.units) (aa 8) aj (bW _))) (aI (aS aJ.nd rfl (Or.inl rfl) (o8 (ag (ak (aa 16)) (ag (bA XP_law_twin hr (by decide) rfl (ag (aO 0) (ag (aO 5) (ag (ak (aa 16)) aM))) (ai (ai (ai aL)))) aM))))) dM) (av (gH (dr (bH (gy hr.units) (aa 8) aj (bW _))) (aI (aS aJ.nd rfl (Or.inl rfl) (o8 (ag (ak (aa 16)) (ag (bA XP_law_twin hr (by decide) rfl (ag (aO 0) (ag (aO 5) (ag (ak (aa 16)) aM))) (ai (ai (ai aL)))) (ag (bA XP_law_next hr (by decide) rfl (ag (aO 0) (ag (dI (bB fQ rfl T.z_len PySem.boot_len (ab (aa 5) au))) aM)) (ai (ai aL))) aM)))))) dM) (av (gH (dr (bH (gy hr.units) (aa 8) aj (bW _))) (aI (aS aJ.nd rfl (Or.inl rfl) (o8 (ag (ak (aa 16)) (ag (bA XP_law_twin hr (by decide) rfl (ag (aO 0) (ag (aO 5) (ag (ak (aa 16)) aM))) (ai (ai (ai aL)))) (ag (bA XP_law_twin hr (by decide) rfl (ag (aO 0) (ag (aO 5) (ag (ak (aa 16)) aM))) (ai (ai (ai aL)))) aM)))))) dM) (aI (f7 rfl (Or.inl rfl) (ak (cK (ab (aG (cj (bK (ab bG (ab bG (ab bG (ab bG (ab bG (ab bG au)))))))) (aa 6) (fun _ _=>rfl)) (ab (aa 12) au))))))))))))) (aI (c0 (o8 (ag (aO 4) (ag (aO 9) (ag (aO 15) aM))))))))))))))),hm,F.kp,F.binds fun _ _ _ _ _ _ us hl=>match us,hl with | [_,_,_,_],_=>rfl⟩
noncomputable abbrev cC:Stmt:=top 28
noncomputable abbrev gz:List Str:=[(Str.ofString "net"),(Str.ofString "ins"),(Str.ofString "found"),(Str.ofString "k"),(Str.ofString "name"),(Str.ofString "width"),(Str.ofString "column"),(Str.ofString "number")]
noncomputable def pY:{b:List Stmt // aq cC=b}:=by
 have e:aq cC=aq cC:=rfl
 conv at e=>rhs;whnf
 exact⟨_,e⟩
noncomputable def k3:{b:Scope // af cC=b}:=by
 have e:af cC=af cC:=rfl
 conv at e=>rhs;whnf
 exact⟨_,e⟩
theorem cz:ba gz [(Str.ofString "net")] k3.1:=⟨rfl,rfl,rfl,by decide+kernel,rfl,by decide+kernel,by decide+kernel⟩
noncomputable def fF:FS:=(jT 6 (e2 iL (ae 6) (e2 zO (e2 qp (e2 uK (ae 7) (e2 mB (e2 mB (br fO (az (ae 1) aW)) (eC (.int 1))) (ae 3))) (eC (.int 1))) (ae 7))))
noncomputable def fK:FS:=(fB (jT 6 (eC (.int 0))) (fB (sf (i9 (e2 zO (eC (.int 1)) (br fO (az (ae 1) aW)))) (aR 7) fF) (pU 2 (Ct (dD (az (ae 6) aW)) (ae 5)))))
noncomputable def lD:FS:=(fB (jT 1 (e2 bZ (ae 0) (eC (.int 0)))) (fB (n_ 2 (dD aW)) (fB (sf (eO (ae 1)) (dF 2 (bw (aR 3) (bw (dF 2 (bw (aR 4) (bw (aR 5) dG))) dG))) fK) (nK 2 (fZ (eNew (dD (az (ae 2) (az (e2 mB (e2 zO (eC (.int 1)) (e2 zO (eC (.int 1)) (br fO (az (ae 1) aW)))) (eC (.int 1))) aW)))))))))
noncomputable def dQ:List D→R D:=oY gz lD
theorem rN{P:Program}{w:World}{K:PySem.W.Frag}{mg:Str→Option Value}{base:Heap}{cl:Nat→Addr}(T:Tp K mg cl)(h:Def K mg (Str.ofString "_law_ins_bits") cC):Callee P w K mg base 1 (Str.ofString "_law_ins_bits") 1 dQ:=by
 obtain⟨f,fd,F,hm⟩:=h
 exact⟨f,fd,_,c_ (k:=0) pY.2 k3.2 F cz (fun cdv A outer s H E hr=>(bU (gr cz.nd rfl (Or.inl rfl) (aG (aa 0) aj (fun _ _=>rfl))) (bU (vR cz.nd rfl (Or.inl rfl) (bK au)) (bU (j8 PassesOwn.never rfl (hV (aa 1) rfl T.z_enumerate) (fS rfl (bC (aX cz.nd rfl (Or.inl rfl)) (bC (fS rfl (bC (aX cz.nd rfl (Or.inl rfl)) (bC (aX cz.nd rfl (Or.inl rfl)) eM))) eM))) (bU (gr cz.nd rfl (Or.inl rfl) aj) (bU (j8 PassesOwn.never rfl (fq (aC zx aj (bB fQ rfl T.z_len PySem.boot_len (ab (aa 1) au))) rfl T.z_range) (aX cz.nd rfl (Or.inl rfl)) (bF (gr cz.nd rfl (Or.inl rfl) (aC jh (aa 6) (aC zx (aC l0 (aC IP (aa 7) (aC pk (aC pk (bB fQ rfl T.z_len PySem.boot_len (ab (aa 1) au)) aj) (aa 3))) aj) (aa 7)))))) (bF (Bp rfl (Or.inl rfl) (zA (bK (ab (aa 6) au)) (aa 5))))))) (wH 2 (bF (cv (cj (bK (ab (aa 2) (ab (aC pk (aC zx aj (aC zx aj (bB fQ rfl T.z_len PySem.boot_len (ab (aa 1) au)))) aj) au))))))))))),hm,F.kp,F.binds fun _ _ _ _ _ _ us hl=>match us,hl with | [_],_=>rfl⟩
noncomputable abbrev ck:Stmt:=top 29
noncomputable abbrev eL:List Str:=[(Str.ofString "net"),(Str.ofString "ahead"),(Str.ofString "turned"),(Str.ofString "found"),(Str.ofString "full"),(Str.ofString "place"),(Str.ofString "kind"),(Str.ofString "wires"),(Str.ofString "sure"),(Str.ofString "some"),(Str.ofString "column")]
noncomputable def oV:{b:List Stmt // aq ck=b}:=by
 have e:aq ck=aq ck:=rfl
 conv at e=>rhs;whnf
 exact⟨_,e⟩
noncomputable def g8:{b:Scope // af ck=b}:=by
 have e:af ck=af ck:=rfl
 conv at e=>rhs;whnf
 exact⟨_,e⟩
theorem bh:ba eL [(Str.ofString "net"),(Str.ofString "ahead"),(Str.ofString "turned")] g8.1:=⟨rfl,rfl,rfl,by decide+kernel,rfl,by decide+kernel,by decide+kernel⟩
noncomputable def jO:FZ:=(bb (bL 9 (jm (iP (dZ (ae 7))) (iR 0) sH (xT (e2 bZ (ae 1) (ae 0))) [(Str.ofString "wire")] [3])) (bb (bL 10 (xP (e2 bZ (ae 9) (eC (.int 0))))) (bb (mX (bP (b2 gO (ae 6) (eC (.str (Str.ofString "not"))))) (bL 10 (xP (e2 tw (ae 4) (ae 10)))) gS) (bb (mX (bP (b2 gO (ae 6) (eC (.str (Str.ofString "and"))))) (bL 10 (xP (e2 qp (e2 bZ (ae 9) (eC (.int 0))) (e2 bZ (ae 9) (eC (.int 1)))))) gS) (bb (mX (bP (b2 gO (ae 6) (eC (.str (Str.ofString "or"))))) (bL 10 (xP (e2 r_ (e2 bZ (ae 9) (eC (.int 0))) (e2 bZ (ae 9) (eC (.int 1)))))) gS) (bb (mX (bP (b2 gO (ae 6) (eC (.str (Str.ofString "xor"))))) (bL 10 (xP (e2 tw (e2 bZ (ae 9) (eC (.int 0))) (e2 bZ (ae 9) (eC (.int 1)))))) gS) (bb (mX (bP (b2 gO (ae 6) (eC (.str (Str.ofString "vote"))))) (bL 10 (xP (e2 r_ (e2 r_ (e2 qp (e2 bZ (ae 9) (eC (.int 0))) (e2 bZ (ae 9) (eC (.int 1)))) (e2 qp (e2 bZ (ae 9) (eC (.int 0))) (e2 bZ (ae 9) (eC (.int 2))))) (e2 qp (e2 bZ (ae 9) (eC (.int 1))) (e2 bZ (ae 9) (eC (.int 2))))))) gS) (bb (mX (bP (b2 vB (ae 5) (ae 2))) (bL 10 (xP (e2 tw (ae 4) (ae 10)))) gS) (jP 3 (xP (ae 10)))))))))))
noncomputable def iC:FZ:=(bb (bL 3 (kG (nList (e2 bZ (ae 1) (eC (.int 0)))))) (bb (bL 4 (xP (e2 bZ (ae 1) (eC (.int 1))))) (bb (jR (iP (eO (e2 bZ (ae 0) (eC (.int 1))))) (uA 2 (oz (iR 5) (oz (uA 3 (oz (iR 6) (oz (iR 7) (oz (iR 8) u0)))) u0))) jO) (iq (bR 3)))))
noncomputable def jX:List V3→aN→R3 V3:=mr eL iC
noncomputable def dP:List V3→aN→R3 V3:=nE eL iC
theorem qc{P:Program}{w:World}{K:PySem.W.Frag}{mg:Str→Option Value}{base:Heap}{cl:Nat→Addr}(T:Tp K mg cl)(h:Def K mg (Str.ofString "_law_all_wires") ck):aD P w K mg base cl 1 (Str.ofString "_law_all_wires") 3 jX:=by
 obtain⟨f,fd,F,hm⟩:=h
 exact⟨f,fd,_,b3 (k:=0) oV.2 g8.2 F bh (fun cdv A outer s H E hr=>(av (aS bh.nd rfl (Or.inr rfl) (eW (BJ (aG (aa 1) aj (fun _ _=>rfl)) rfl T.z_list))) (av (aS bh.nd rfl (Or.inl rfl) (ak (aG (aa 1) aj (fun _ _=>rfl)))) (av (eV PassesOwn.never rfl (cT (hV (aG (aa 0) aj (fun _ _=>rfl)) rfl T.z_enumerate)) (ie rfl (bQ (aV bh.nd rfl (Or.inl rfl)) (bQ (ie rfl (bQ (aV bh.nd rfl (Or.inl rfl)) (bQ (aV bh.nd rfl (Or.inl rfl)) (bQ (aV bh.nd rfl (Or.inl rfl)) fU)))) fU))) (av (kP rfl bh.nd rfl rfl (b9.of (own:=[(Str.ofString "wire")]) (kp:=[3]) (kn:=[(Str.ofString "found")]) (sc:=g8.1) (N:=eL) rfl rfl (by decide+kernel)) (cT (cB (aa 7))) (fun _ _ _=>(aV (show List.Nodup [(Str.ofString "wire"),(Str.ofString "found")] from by decide+kernel) rfl (Or.inl rfl))) (fun _ _ _=>i4) (fun _ _ _=>(dI (aG (aa 1) (aa 0) (fun _ _=>rfl))))) (av (aS bh.nd rfl (Or.inl rfl) (ak (aG (aa 9) aj (fun _ _=>rfl)))) (av (gH (dr (bH (gy hr.units) (aa 6) bG (bW _))) (aI (aS bh.nd rfl (Or.inl rfl) (ak (aC nS (aa 4) (aa 10))))) dM) (av (gH (dr (bH (gy hr.units) (aa 6) bG (bW _))) (aI (aS bh.nd rfl (Or.inl rfl) (ak (aC l0 (aG (aa 9) aj (fun _ _=>rfl)) (aG (aa 9) aj (fun _ _=>rfl)))))) dM) (av (gH (dr (bH (gy hr.units) (aa 6) bG (bW _))) (aI (aS bh.nd rfl (Or.inl rfl) (ak (aC mz (aG (aa 9) aj (fun _ _=>rfl)) (aG (aa 9) aj (fun _ _=>rfl)))))) dM) (av (gH (dr (bH (gy hr.units) (aa 6) bG (bW _))) (aI (aS bh.nd rfl (Or.inl rfl) (ak (aC nS (aG (aa 9) aj (fun _ _=>rfl)) (aG (aa 9) aj (fun _ _=>rfl)))))) dM) (av (gH (dr (bH (gy hr.units) (aa 6) bG (bW _))) (aI (aS bh.nd rfl (Or.inl rfl) (ak (aC mz (aC mz (aC l0 (aG (aa 9) aj (fun _ _=>rfl)) (aG (aa 9) aj (fun _ _=>rfl))) (aC l0 (aG (aa 9) aj (fun _ _=>rfl)) (aG (aa 9) aj (fun _ _=>rfl)))) (aC l0 (aG (aa 9) aj (fun _ _=>rfl)) (aG (aa 9) aj (fun _ _=>rfl))))))) dM) (av (gH (dr (bH D6 (aa 5) (aa 2) (by with_unfolding_all rfl))) (aI (aS bh.nd rfl (Or.inl rfl) (ak (aC nS (aa 4) (aa 10))))) dM) (aI (f7 rfl (Or.inr (Or.inl rfl)) (ak (aa 10))))))))))))) (aI (c0 (aO 3))))))),hm,F.kp,F.binds fun _ _ _ _ _ _ us hl=>match us,hl with | [_,_,_],_=>rfl⟩
noncomputable abbrev dv:Stmt:=top 30
noncomputable abbrev ix:List Str:=[(Str.ofString "net"),(Str.ofString "ahead"),(Str.ofString "turned"),(Str.ofString "found"),(Str.ofString "heard"),(Str.ofString "name"),(Str.ofString "wires"),(Str.ofString "some"),(Str.ofString "most")]
noncomputable def ui:{b:List Stmt // aq dv=b}:=by
 have e:aq dv=aq dv:=rfl
 conv at e=>rhs;whnf
 exact⟨_,e⟩
noncomputable def kB:{b:Scope // af dv=b}:=by
 have e:af dv=af dv:=rfl
 conv at e=>rhs;whnf
 exact⟨_,e⟩
theorem fu:ba ix [(Str.ofString "net"),(Str.ofString "ahead"),(Str.ofString "turned")] kB.1:=⟨rfl,rfl,rfl,by decide+kernel,rfl,by decide+kernel,by decide+kernel⟩
noncomputable def mL:FZ:=(bb (bL 7 (jm (iP (dZ (ae 6))) (iR 0) sH (xP (e2 bZ (ae 1) (ae 0))) [(Str.ofString "wire")] [3])) (mX (bP (b2 gO (br fO (az (ae 7) aW)) (eC (.int 1)))) (jP 4 (xP (fk (az (e2 bZ (ae 7) (eC (.int 0))) (az (eC (.int 0)) aW))))) (mX (bP (b2 gO (br fO (az (ae 7) aW)) (eC (.int 2)))) (jP 4 (xP (fk (az (e2 qp (e2 bZ (ae 7) (eC (.int 0))) (e2 bZ (ae 7) (eC (.int 1)))) (az (e2 tw (e2 bZ (ae 7) (eC (.int 0))) (e2 bZ (ae 7) (eC (.int 1)))) aW))))) (bb (bL 8 (xP (e2 r_ (e2 r_ (e2 qp (e2 bZ (ae 7) (eC (.int 0))) (e2 bZ (ae 7) (eC (.int 1)))) (e2 qp (e2 bZ (ae 7) (eC (.int 0))) (e2 bZ (ae 7) (eC (.int 2))))) (e2 qp (e2 bZ (ae 7) (eC (.int 1))) (e2 bZ (ae 7) (eC (.int 2))))))) (jP 4 (xP (fk (az (ae 8) (az (eC (.int 0)) aW)))))))))
noncomputable def lz:FZ:=(bb (bL 3 (cb dP (ay (xP (ae 0)) (ay (xP (ae 1)) (ay (xP (ae 2)) cq))))) (bb (bL 4 (kG (dD aW))) (bb (jR (iP (dZ (e2 bZ (ae 0) (eC (.int 2))))) (uA 2 (oz (iR 5) (oz (iR 6) u0))) mL) (iq (bR 4)))))
noncomputable def n6:List V3→aN→R3 V3:=mr ix lz
noncomputable def fM:List V3→aN→R3 V3:=nE ix lz
theorem vI{P:Program}{w:World}{K:PySem.W.Frag}{mg:Str→Option Value}{base:Heap}{cl:Nat→Addr}(T:Tp K mg cl)(h:Def K mg (Str.ofString "_law_reads") dv)(XP_law_all_wires:aD P w K mg base cl 1 (Str.ofString "_law_all_wires") 3 dP):aD P w K mg base cl 2 (Str.ofString "_law_reads") 3 n6:=by
 obtain⟨f,fd,F,hm⟩:=h
 exact⟨f,fd,_,b3 (k:=1) ui.2 kB.2 F fu (fun cdv A outer s H E hr=>(av (aS fu.nd rfl (Or.inr rfl) (bA XP_law_all_wires hr (by decide) rfl (ag (ak (aa 0)) (ag (ak (aa 1)) (ag (ak (aa 2)) aM))) (ai (ai (ai aL))))) (av (aS fu.nd rfl (Or.inl rfl) (eW (bK au))) (av (eV PassesOwn.never rfl (cT (cB (aG (aa 0) aj (fun _ _=>rfl)))) (ie rfl (bQ (aV fu.nd rfl (Or.inl rfl)) (bQ (aV fu.nd rfl (Or.inl rfl)) fU))) (av (kP rfl fu.nd rfl rfl (b9.of (own:=[(Str.ofString "wire")]) (kp:=[3]) (kn:=[(Str.ofString "found")]) (sc:=kB.1) (N:=ix) rfl rfl (by decide+kernel)) (cT (cB (aa 6))) (fun _ _ _=>(aV (show List.Nodup [(Str.ofString "wire"),(Str.ofString "found")] from by decide+kernel) rfl (Or.inl rfl))) (fun _ _ _=>i4) (fun _ _ _=>(ak (aG (aa 1) (aa 0) (fun _ _=>rfl))))) (aI (gH (dr (bH (gy hr.units) (bB fQ rfl T.z_len PySem.boot_len (ab (aa 7) au)) aj (bW _))) (aI (f7 rfl (Or.inl rfl) (ak (cK (ab (aG (aa 7) aj (fun _ _=>rfl)) (ab aj au)))))) (aI (gH (dr (bH (gy hr.units) (bB fQ rfl T.z_len PySem.boot_len (ab (aa 7) au)) aj (bW _))) (aI (f7 rfl (Or.inl rfl) (ak (cK (ab (aC l0 (aG (aa 7) aj (fun _ _=>rfl)) (aG (aa 7) aj (fun _ _=>rfl))) (ab (aC nS (aG (aa 7) aj (fun _ _=>rfl)) (aG (aa 7) aj (fun _ _=>rfl))) au)))))) (av (aS fu.nd rfl (Or.inl rfl) (ak (aC mz (aC mz (aC l0 (aG (aa 7) aj (fun _ _=>rfl)) (aG (aa 7) aj (fun _ _=>rfl))) (aC l0 (aG (aa 7) aj (fun _ _=>rfl)) (aG (aa 7) aj (fun _ _=>rfl)))) (aC l0 (aG (aa 7) aj (fun _ _=>rfl)) (aG (aa 7) aj (fun _ _=>rfl)))))) (aI (f7 rfl (Or.inl rfl) (ak (cK (ab (aa 8) (ab aj au))))))))))))) (aI (c0 (aO 4))))))),hm,F.kp,F.binds fun _ _ _ _ _ _ us hl=>match us,hl with | [_,_,_],_=>rfl⟩
noncomputable abbrev c9:Stmt:=top 31
noncomputable abbrev oh:List Str:=[(Str.ofString "plain"),(Str.ofString "reads"),(Str.ofString "level"),(Str.ofString "found"),(Str.ofString "due"),(Str.ofString "none"),(Str.ofString "got"),(Str.ofString "other")]
noncomputable def sr:{b:List Stmt // aq c9=b}:=by
 have e:aq c9=aq c9:=rfl
 conv at e=>rhs;whnf
 exact⟨_,e⟩
noncomputable def mQ:{b:Scope // af c9=b}:=by
 have e:af c9=af c9:=rfl
 conv at e=>rhs;whnf
 exact⟨_,e⟩
theorem dt:ba oh [(Str.ofString "plain"),(Str.ofString "reads"),(Str.ofString "level")] mQ.1:=⟨rfl,rfl,rfl,by decide+kernel,rfl,by decide+kernel,by decide+kernel⟩
noncomputable def gp:FS:=(r9 (b2 gO (ae 2) (eC (.str (Str.ofString "right")))) (jT 3 (e2 r_ (e2 r_ (ae 3) (e2 tw (ae 4) (ae 6))) (ae 7))) (jT 3 (e2 r_ (ae 3) (e2 qp (e2 tw (ae 4) (ae 6)) (Hf (ae 7))))))
noncomputable def nY:FS:=(fB (jT 3 (eC (.int 0))) (fB (sf (B0 (ae 0) (ae 1)) (dF 2 (bw (dF 2 (bw (aR 4) (bw (aR 5) dG))) (bw (dF 2 (bw (aR 6) (bw (aR 7) dG))) dG))) gp) (fZ (ae 3))))
noncomputable def eh:List D→R D:=oY oh nY
theorem uf{P:Program}{w:World}{K:PySem.W.Frag}{mg:Str→Option Value}{base:Heap}{cl:Nat→Addr}(T:Tp K mg cl)(h:Def K mg (Str.ofString "_law_broken") c9):Callee P w K mg base 1 (Str.ofString "_law_broken") 3 eh:=by
 obtain⟨f,fd,F,hm⟩:=h
 exact⟨f,fd,_,c_ (k:=0) sr.2 mQ.2 F dt (fun cdv A outer s H E hr=>(bU (gr dt.nd rfl (Or.inl rfl) aj) (bU (j8 PassesOwn.never rfl (Cm (aa 0) (aa 1) rfl T.z_zip) (fS rfl (bC (fS rfl (bC (aX dt.nd rfl (Or.inl rfl)) (bC (aX dt.nd rfl (Or.inl rfl)) eM))) (bC (fS rfl (bC (aX dt.nd rfl (Or.inl rfl)) (bC (aX dt.nd rfl (Or.inl rfl)) eM))) eM))) (bF (jJ (bH (gy hr.units) (aa 2) bG (bW _)) (bF (gr dt.nd rfl (Or.inl rfl) (aC mz (aC mz (aa 3) (aC nS (aa 4) (aa 6))) (aa 7)))) (bF (gr dt.nd rfl (Or.inl rfl) (aC mz (aa 3) (aC l0 (aC nS (aa 4) (aa 6)) (DK (aa 7))))))))) (bF (cv (aa 3)))))),hm,F.kp,F.binds fun _ _ _ _ _ _ us hl=>match us,hl with | [_,_,_],_=>rfl⟩
noncomputable abbrev cA:Stmt:=top 32
noncomputable abbrev eZ:List Str:=[(Str.ofString "places"),(Str.ofString "most"),(Str.ofString "layer"),(Str.ofString "found"),(Str.ofString "turn"),(Str.ofString "wider"),(Str.ofString "some")]
noncomputable def qf:{b:List Stmt // aq cA=b}:=by
 have e:aq cA=aq cA:=rfl
 conv at e=>rhs;whnf
 exact⟨_,e⟩
noncomputable def iJ:{b:Scope // af cA=b}:=by
 have e:af cA=af cA:=rfl
 conv at e=>rhs;whnf
 exact⟨_,e⟩
theorem cN:ba eZ [(Str.ofString "places"),(Str.ofString "most")] iJ.1:=⟨rfl,rfl,rfl,by decide+kernel,rfl,by decide+kernel,by decide+kernel⟩
noncomputable def j6:FZ:=(An 5 (xP (eNew (eH (dZ (ae 0)) (aR 0) (wX (b2 gO (ae 1) (fk aW)) (b2 D4 (ae 0) (e2 bZ (ae 1) (Iq (eC (.int 1)))))) (e2 mK (ae 1) (fk (az (ae 0) aW))) [(Str.ofString "place")] [6]))))
noncomputable def jW:FZ:=(zG 2 (bb (bL 5 (kG (dD aW))) (bb (jR (iP (dZ (ae 2))) (iR 6) j6) (bb (bL 2 (bR 5)) (bL 3 (FV (bR 3) (bR 2)))))))
noncomputable def js:FZ:=(bb (bL 2 (kG (dD (az (fk aW) aW)))) (bb (bL 3 (kG (dD (az (fk aW) aW)))) (bb (jR (iP (i9 (ae 1))) (iR 4) jW) (iq (bR 3)))))
noncomputable def lh:List V3→aN→R3 V3:=mr eZ js
noncomputable def eD:List V3→aN→R3 V3:=nE eZ js
theorem rZ{P:Program}{w:World}{K:PySem.W.Frag}{mg:Str→Option Value}{base:Heap}{cl:Nat→Addr}(T:Tp K mg cl)(h:Def K mg (Str.ofString "_law_all_sets") cA):aD P w K mg base cl 1 (Str.ofString "_law_all_sets") 2 lh:=by
 obtain⟨f,fd,F,hm⟩:=h
 exact⟨f,fd,_,b3 (k:=0) qf.2 iJ.2 F cN (fun cdv A outer s H E hr=>(av (aS cN.nd rfl (Or.inl rfl) (eW (bK (ab (cK au) au)))) (av (aS cN.nd rfl (Or.inl rfl) (eW (bK (ab (cK au) au)))) (av (eV PassesOwn.never rfl (cT (fq (aa 1) rfl T.z_range)) (aV cN.nd rfl (Or.inl rfl)) (zC 2 (av (aS cN.nd rfl (Or.inl rfl) (eW (bK au))) (av (eV PassesOwn.never rfl (cT (cB (aa 2))) (aV cN.nd rfl (Or.inr rfl)) (aI (CG rfl (Or.inl rfl) (ak (cj (dX rfl (b9.of (own:=[(Str.ofString "place")]) (kp:=[6]) (kn:=[(Str.ofString "some")]) (sc:=iJ.1) (N:=eZ) rfl rfl (by decide+kernel)) (cB (aa 0)) (fun _ _ _=>(aX (show List.Nodup [(Str.ofString "place"),(Str.ofString "some")] from by decide+kernel) rfl (Or.inl rfl))) (fun _ _ _=>(j_ (uz (qg (bH (gy hr.units) (aa 1) (cK au) (bW _)) (rF (bH JZ (aa 0) (aG (aa 1) (Dj aj) (fun _ _=>rfl)) (bW _))))))) (fun _ _ _=>(aC qC (aa 1) (cK (ab (aa 0) au)))))))))) (av (aS cN.nd rfl (Or.inl rfl) (aO 5)) (aI (aS cN.nd rfl (Or.inl rfl) (GQ (aO 3) (aO 2))))))))) (aI (c0 (aO 3))))))),hm,F.kp,F.binds fun _ _ _ _ _ _ us hl=>match us,hl with | [_,_],_=>rfl⟩
noncomputable abbrev cm:Stmt:=top 33
noncomputable abbrev iM:List Str:=[(Str.ofString "net")]
noncomputable def oK:{b:List Stmt // aq cm=b}:=by
 have e:aq cm=aq cm:=rfl
 conv at e=>rhs;whnf
 exact⟨_,e⟩
noncomputable def hJ:{b:Scope // af cm=b}:=by
 have e:af cm=af cm:=rfl
 conv at e=>rhs;whnf
 exact⟨_,e⟩
theorem p9:ba iM [(Str.ofString "net")] hJ.1:=⟨rfl,rfl,rfl,by decide+kernel,rfl,by decide+kernel,by decide+kernel⟩
noncomputable def kZ:FS:=(fZ (eNew (eH (eO (e2 bZ (ae 0) (eC (.int 1)))) (dF 2 (bw (aR 0) (bw (aR 1) dG))) (ke (iX (e2 bZ (ae 1) (eC (.int 2))))) (ae 0) [(Str.ofString "place"),(Str.ofString "gate")] [])))
noncomputable def eI:List D→R D:=oY iM kZ
theorem p_{P:Program}{w:World}{K:PySem.W.Frag}{mg:Str→Option Value}{base:Heap}{cl:Nat→Addr}(T:Tp K mg cl)(h:Def K mg (Str.ofString "_law_free_ones") cm):Callee P w K mg base 1 (Str.ofString "_law_free_ones") 1 eI:=by
 obtain⟨f,fd,F,hm⟩:=h
 exact⟨f,fd,_,c_ (k:=0) oK.2 hJ.2 F p9 (fun cdv A outer s H E hr=>(bF (cv (cj (dX rfl (b9.of (own:=[(Str.ofString "place"),(Str.ofString "gate")]) (kp:=[]) (kn:=[]) (sc:=hJ.1) (N:=iM) rfl rfl (by decide+kernel)) (hV (aG (aa 0) aj (fun _ _=>rfl)) rfl T.z_enumerate) (fun _ _ _=>(fS rfl (bC (aX (show List.Nodup [(Str.ofString "place"),(Str.ofString "gate")] from by decide+kernel) rfl (Or.inl rfl)) (bC (aX (show List.Nodup [(Str.ofString "place"),(Str.ofString "gate")] from by decide+kernel) rfl (Or.inl rfl)) eM)))) (fun _ _ _=>(j_ (mi (jH (aG (aa 1) aj (fun _ _=>rfl)))))) (fun _ _ _=>(aa 0))))))),hm,F.kp,F.binds fun _ _ _ _ _ _ us hl=>match us,hl with | [_],_=>rfl⟩
noncomputable abbrev cF:Stmt:=top 34
noncomputable abbrev eU:List Str:=[(Str.ofString "net"),(Str.ofString "many"),(Str.ofString "level"),(Str.ofString "ahead"),(Str.ofString "plain"),(Str.ofString "found"),(Str.ofString "some"),(Str.ofString "within")]
noncomputable def pV:{b:List Stmt // aq cF=b}:=by
 have e:aq cF=aq cF:=rfl
 conv at e=>rhs;whnf
 exact⟨_,e⟩
noncomputable def iF:{b:Scope // af cF=b}:=by
 have e:af cF=af cF:=rfl
 conv at e=>rhs;whnf
 exact⟨_,e⟩
theorem d5:ba eU [(Str.ofString "net"),(Str.ofString "many"),(Str.ofString "level")] iF.1:=⟨rfl,rfl,rfl,by decide+kernel,rfl,by decide+kernel,by decide+kernel⟩
noncomputable def ka:FZ:=(bb (bL 7 (yV (eH (dZ (ae 5)) (aR 0) (b2 gO (eNew (eH (dZ (ae 0)) (aR 0) (b2 iO (ae 0) (ae 1)) (ae 0) [(Str.ofString "place")] [1])) (eNew (dD aW))) (ae 0) [(Str.ofString "one")] [6]))) (mX (DJ (bT (b2 gO (ae 7) (eNew (dD aW)))) (Iy w9 (lB eh (ay (xP (ae 4)) (ay (cb fM (ay (xP (ae 0)) (ay (xP (ae 3)) (ay (xP (ae 6)) cq)))) (ay (xP (ae 2)) cq)))) (xP (eC (.int 0))))) (jP 5 (xP (ae 6))) gS))
noncomputable def jf:FZ:=(bb (bL 3 (xP (br dQ (az (ae 0) aW)))) (bb (bL 4 (cb fM (ay (xP (ae 0)) (ay (xP (ae 3)) (ay (xP (fk aW)) cq))))) (bb (bL 5 (kG (dD aW))) (bb (jR (yc (cb eD (ay (xP (br eI (az (ae 0) aW))) (ay (xP (ae 1)) cq)))) (iR 6) ka) (iq (bR 5))))))
noncomputable def k4:List V3→aN→R3 V3:=mr eU jf
noncomputable def eG:List V3→aN→R3 V3:=nE eU jf
theorem qG{P:Program}{w:World}{K:PySem.W.Frag}{mg:Str→Option Value}{base:Heap}{cl:Nat→Addr}(T:Tp K mg cl)(h:Def K mg (Str.ofString "_law_breaking") cF)(C_law_ins_bits:Callee P w K mg base 1 (Str.ofString "_law_ins_bits") 1 dQ)(C_law_free_ones:Callee P w K mg base 1 (Str.ofString "_law_free_ones") 1 eI)(C_law_broken:Callee P w K mg base 1 (Str.ofString "_law_broken") 3 eh)(XP_law_reads:aD P w K mg base cl 2 (Str.ofString "_law_reads") 3 fM)(XP_law_all_sets:aD P w K mg base cl 1 (Str.ofString "_law_all_sets") 2 eD):aD P w K mg base cl 3 (Str.ofString "_law_breaking") 3 k4:=by
 obtain⟨f,fd,F,hm⟩:=h
 exact⟨f,fd,_,b3 (k:=2) pV.2 iF.2 F d5 (fun cdv A outer s H E hr=>(av (aS d5.nd rfl (Or.inl rfl) (ak (cQ C_law_ins_bits hr (by decide) rfl (ab (aa 0) au) (bN dm)))) (av (aS d5.nd rfl (Or.inl rfl) (bA XP_law_reads hr (by decide) rfl (ag (ak (aa 0)) (ag (ak (aa 3)) (ag (ak (cK au)) aM))) (ai (ai (ai aL))))) (av (aS d5.nd rfl (Or.inl rfl) (eW (bK au))) (av (eV PassesOwn.never rfl (qv (bA XP_law_all_sets hr (by decide) rfl (ag (ak (cQ C_law_free_ones hr (by decide) rfl (ab (aa 0) au) (bN dm))) (ag (ak (aa 1)) aM)) (ai (ai aL)))) (aV d5.nd rfl (Or.inr rfl)) (av (wz rfl d5.nd rfl rfl (b9.of (own:=[(Str.ofString "one")]) (kp:=[6]) (kn:=[(Str.ofString "some")]) (sc:=iF.1) (N:=eU) rfl rfl (by decide+kernel)) (cB (aa 5)) (fun _ _ _=>(aX (show List.Nodup [(Str.ofString "one"),(Str.ofString "some")] from by decide+kernel) rfl (Or.inl rfl))) (fun _ _ _=>(j_ (bH (gy hr.units) (cj (dX rfl (b9.of (own:=[(Str.ofString "place")]) (kp:=[1]) (kn:=[(Str.ofString "some")]) rfl rfl rfl) (cB (aa 0)) (fun _ _ _=>(aX (show List.Nodup [(Str.ofString "place"),(Str.ofString "some")] from by decide+kernel) rfl (Or.inl rfl))) (fun _ _ _=>(j_ (bH Er (aa 0) (aa 1) (by with_unfolding_all rfl)))) (fun _ _ _=>(aa 0)))) (cj (bK au)) (bW _)))) (fun _ _ _=>(aa 0))) (aI (gH (F4.pb (y8 (lV (bH (gy hr.units) (aa 7) (cj (bK au)) (bW _))) (vM (uX (Dl hr.units) (rj C_law_broken hr (by decide) rfl (ag (ak (aa 4)) (ag (bA XP_law_reads hr (by decide) rfl (ag (ak (aa 0)) (ag (ak (aa 3)) (ag (ak (aa 6)) aM))) (ai (ai (ai aL)))) (ag (ak (aa 2)) aM))) (ai (ai (ai aL)))) (ak aj) (bW _))))) (aI (f7 rfl (Or.inl rfl) (ak (aa 6)))) dM)))) (aI (c0 (aO 5)))))))),hm,F.kp,F.binds fun _ _ _ _ _ _ us hl=>match us,hl with | [_,_,_],_=>rfl⟩
noncomputable abbrev ef:Stmt:=top 35
noncomputable abbrev qR:List Str:=[(Str.ofString "net"),(Str.ofString "ins"),(Str.ofString "gates"),(Str.ofString "outs")]
noncomputable def wd:{b:List Stmt // aq ef=b}:=by
 have e:aq ef=aq ef:=rfl
 conv at e=>rhs;whnf
 exact⟨_,e⟩
noncomputable def pq:{b:Scope // af ef=b}:=by
 have e:af ef=af ef:=rfl
 conv at e=>rhs;whnf
 exact⟨_,e⟩
theorem kI:ba qR [(Str.ofString "net")] pq.1:=⟨rfl,rfl,rfl,by decide+kernel,rfl,by decide+kernel,by decide+kernel⟩
noncomputable def xp:FS:=(fB (sx (ae 0) (dF 3 (bw (aR 1) (bw (aR 2) (bw (aR 3) dG))))) (fZ (fk (az (br k5 (az (ae 1) aW)) (az (br k5 (az (ae 2) aW)) (az (br k5 (az (ae 3) aW)) aW))))))
noncomputable def jk:List D→R D:=oY qR xp
theorem x9{P:Program}{w:World}{K:PySem.W.Frag}{mg:Str→Option Value}{base:Heap}{cl:Nat→Addr}(T:Tp K mg cl)(h:Def K mg (Str.ofString "_law_copy") ef):Callee P w K mg base 1 (Str.ofString "_law_copy") 1 jk:=by
 obtain⟨f,fd,F,hm⟩:=h
 exact⟨f,fd,_,c_ (k:=0) wd.2 pq.2 F kI (fun cdv A outer s H E hr=>(bU (AY (aa 0) (fS rfl (bC (aX kI.nd rfl (Or.inl rfl)) (bC (aX kI.nd rfl (Or.inl rfl)) (bC (aX kI.nd rfl (Or.inl rfl)) eM))))) (bF (cv (cK (ab (jx xw rfl T.z_list PyProof.Rows.boot_list (ab (aa 1) au)) (ab (jx xw rfl T.z_list PyProof.Rows.boot_list (ab (aa 2) au)) (ab (jx xw rfl T.z_list PyProof.Rows.boot_list (ab (aa 3) au)) au)))))))),hm,F.kp,F.binds fun _ _ _ _ _ _ us hl=>match us,hl with | [_],_=>rfl⟩
noncomputable abbrev bX:Stmt:=top 36
noncomputable abbrev g_:List Str:=[(Str.ofString "heard")]
noncomputable def n3:{b:List Stmt // aq bX=b}:=by
 have e:aq bX=aq bX:=rfl
 conv at e=>rhs;whnf
 exact⟨_,e⟩
noncomputable def gn:{b:Scope // af bX=b}:=by
 have e:af bX=af bX:=rfl
 conv at e=>rhs;whnf
 exact⟨_,e⟩
theorem o3:ba g_ [(Str.ofString "heard")] gn.1:=⟨rfl,rfl,rfl,by decide+kernel,rfl,by decide+kernel,by decide+kernel⟩
noncomputable def kg:FS:=(fB (r9 (ke (iX (nq "tuple" (ae 0)))) (fZ (eC (.bl false))) mE) (fZ (e2 gO (eNew (eH (dZ (ae 0)) (aR 0) (wX (iX (nq "bool" (ae 0))) (ke (iX (nq "int" (ae 0))))) (ae 0) [(Str.ofString "place")] [])) (eNew (dD aW)))))
noncomputable def df:List D→R D:=oY g_ kg
theorem oS{P:Program}{w:World}{K:PySem.W.Frag}{mg:Str→Option Value}{base:Heap}{cl:Nat→Addr}(T:Tp K mg cl)(h:Def K mg (Str.ofString "_law_are_places") bX):Callee P w K mg base 1 (Str.ofString "_law_are_places") 1 df:=by
 obtain⟨f,fd,F,hm⟩:=h
 exact⟨f,fd,_,c_ (k:=0) n3.2 gn.2 F o3 (fun cdv A outer s H E hr=>(bU (jJ (mi (jH (qo (aa 0) (by decide) rfl T.z_isinstance rfl T.z_tuple PyProof.Rows.boot_tuple))) (bF (cv uP)) ju) (bF (cv (uV (gy hr.units) (cj (dX rfl (b9.of (own:=[(Str.ofString "place")]) (kp:=[]) (kn:=[]) (sc:=gn.1) (N:=g_) rfl rfl (by decide+kernel)) (cB (aa 0)) (fun _ _ _=>(aX (show List.Nodup [(Str.ofString "place")] from by decide+kernel) rfl (Or.inl rfl))) (fun _ _ _=>(j_ (uz (qg (jH (qo (aa 0) (by decide) rfl T.z_isinstance rfl T.z_bool PyProof.Rows.boot_bool)) (rF (mi (jH (qo (aa 0) (by decide) rfl T.z_isinstance rfl T.z_int PyProof.Rows.boot_int)))))))) (fun _ _ _=>(aa 0)))) (cj (bK au)) (bW _)))))),hm,F.kp,F.binds fun _ _ _ _ _ _ us hl=>match us,hl with | [_],_=>rfl⟩
noncomputable abbrev ee:Stmt:=top 37
noncomputable abbrev ji:List Str:=[(Str.ofString "pot"),(Str.ofString "net"),(Str.ofString "many"),(Str.ofString "level"),(Str.ofString "due"),(Str.ofString "handed"),(Str.ofString "heard")]
noncomputable def wA:{b:List Stmt // aq ee=b}:=by
 have e:aq ee=aq ee:=rfl
 conv at e=>rhs;whnf
 exact⟨_,e⟩
noncomputable def l7:{b:Scope // af ee=b}:=by
 have e:af ee=af ee:=rfl
 conv at e=>rhs;whnf
 exact⟨_,e⟩
theorem f6:ba ji [(Str.ofString "pot")] l7.1:=⟨rfl,rfl,rfl,by decide+kernel,rfl,by decide+kernel,by decide+kernel⟩
noncomputable def mV:FZ:=(bb (bL 1 (cb eE (ay (bR 0) (ay (xP (eC (.int 6))) (ay (xP (eC (.int 9))) (ay (xP (eC (.int 3))) cq)))))) (bb (bL 2 (cb aQ (ay (bR 0) (ay (xP (eC (.int 4))) cq)))) (bb (bL 3 (Hl (xP (eNew (dD (az (eC (.str (Str.ofString "right"))) (az (eC (.str (Str.ofString "safe"))) aW))))) (cb aQ (ay (bR 0) (ay (xP (eC (.int 2))) cq))))) (bb (bL 4 (cb eG (ay (xP (ae 1)) (ay (xP (ae 2)) (ay (xP (ae 3)) cq))))) (bb (bL 5 (xP (br jk (az (ae 1) aW)))) (bb (bL 6 (cb gc (ay (xP (ae 5)) (ay (xP (ae 2)) (ay (xP (ae 3)) cq))))) (bb (mX (bT (wX (ke (iX (nq "list" (ae 6)))) (wX (ke (iX (br BH (az (eNew (eH (dZ (ae 6)) (aR 0) rL (br df (az (ae 0) aW)) [(Str.ofString "some")] [])) aW)))) (b2 w9 (ae 6) (ae 4))))) (iq (xP (eC (.bl false)))) gS) (bb (jP 6 (xP (fk (az (eC (.int 0)) aW)))) (iq (FJ (xP (e2 gO (ae 5) (ae 1))) (x2 gO (cb il (ay (xP (ae 5)) (ay (xP (ae 2)) (ay (xP (ae 3)) cq)))) (xP (ae 4)))))))))))))
noncomputable def pL:List V3→aN→R3 V3:=mr ji mV
noncomputable def jD:List V3→aN→R3 V3:=nE ji mV
theorem xY{P:Program}{w:World}{K:PySem.W.Frag}{mg:Str→Option Value}{base:Heap}{cl:Nat→Addr}(T:Tp K mg cl)(h:Def K mg (Str.ofString "_law_case") ee)(C_law_copy:Callee P w K mg base 1 (Str.ofString "_law_copy") 1 jk)(C_law_are_places:Callee P w K mg base 1 (Str.ofString "_law_are_places") 1 df)(XP_law_some_net:aD P w K mg base cl 3 (Str.ofString "_law_some_net") 4 eE)(XP_law_next:aD P w K mg base cl 1 (Str.ofString "_law_next") 2 aQ)(XP_law_breaking:aD P w K mg base cl 3 (Str.ofString "_law_breaking") 3 eG)(XK_breaking:aD P w K mg base cl 8 (Str.ofString "breaking") 3 gc)(XP_breaking:aD P w K mg base cl 8 (Str.ofString "breaking") 3 il):aD P w K mg base cl 9 (Str.ofString "_law_case") 1 pL:=by
 obtain⟨f,fd,F,hm⟩:=h
 exact⟨f,fd,_,b3 (k:=8) wA.2 l7.2 F f6 (fun cdv A outer s H E hr=>(av (aS f6.nd rfl (Or.inl rfl) (bA XP_law_some_net hr (by decide) rfl (ag (aO 0) (ag (ak aj) (ag (ak aj) (ag (ak aj) aM)))) (ai (ai (ai (ai aL)))))) (av (aS f6.nd rfl (Or.inl rfl) (bA XP_law_next hr (by decide) rfl (ag (aO 0) (ag (ak aj) aM)) (ai (ai aL)))) (av (aS f6.nd rfl (Or.inl rfl) (yz (ak (cj (bK (ab bG (ab bG au))))) (bA XP_law_next hr (by decide) rfl (ag (aO 0) (ag (ak aj) aM)) (ai (ai aL))) (fun _ _=>rfl))) (av (aS f6.nd rfl (Or.inl rfl) (bA XP_law_breaking hr (by decide) rfl (ag (ak (aa 1)) (ag (ak (aa 2)) (ag (ak (aa 3)) aM))) (ai (ai (ai aL))))) (av (aS f6.nd rfl (Or.inl rfl) (ak (cQ C_law_copy hr (by decide) rfl (ab (aa 1) au) (bN dm)))) (av (aS f6.nd rfl (Or.inl rfl) (bA XK_breaking hr (by decide) rfl (ag (ak (aa 5)) (ag (ak (aa 2)) (ag (ak (aa 3)) aM))) (ai (ai (ai aL))))) (av (gH (lV (uz (qg (mi (jH (qo (aa 6) (by decide) rfl T.z_isinstance rfl T.z_list PyProof.Rows.boot_list))) (qg (mi (jH (bB (EU rfl) rfl T.z_all PyProof.Rows.boot_all (ab (cj (dX rfl (b9.of (own:=[(Str.ofString "some")]) (kp:=[]) (kn:=[]) (sc:=l7.1) (N:=ji) rfl rfl (by decide+kernel)) (cB (aa 6)) (fun _ _ _=>(aX (show List.Nodup [(Str.ofString "some")] from by decide+kernel) rfl (Or.inl rfl))) (fun _ _ _=>gh) (fun _ _ _=>(cQ C_law_are_places hr (by decide) rfl (ab (aa 0) au) (bN dm))))) au)))) (rF (bH (Dl hr.units) (aa 6) (aa 4) (bW _))))))) (aI (c0 (ak uP))) dM) (av (f7 rfl (Or.inl rfl) (ak (cK (ab aj au)))) (aI (c0 (F7 (ak (uV (gy hr.units) (aa 5) (aa 1) (bW _))) (F9 (Bf (gy hr.units) (bA XP_breaking hr (by decide) rfl (ag (ak (aa 5)) (ag (ak (aa 2)) (ag (ak (aa 3)) aM))) (ai (ai (ai aL)))) (ak (aa 4)) (bW _))))))))))))))),hm,F.kp,F.binds fun _ _ _ _ _ _ us hl=>match us,hl with | [_],_=>rfl⟩
noncomputable abbrev pz:Stmt:=top 38
noncomputable abbrev qJ:List Str:=[(Str.ofString "script"),(Str.ofString "pot")]
noncomputable def FR:{b:List Stmt // aq pz=b}:=by
 have e:aq pz=aq pz:=rfl
 conv at e=>rhs;whnf
 exact⟨_,e⟩
noncomputable def Bq:{b:Scope // af pz=b}:=by
 have e:af pz=af pz:=rfl
 conv at e=>rhs;whnf
 exact⟨_,e⟩
theorem Fo:ba qJ [(Str.ofString "script")] Bq.1:=⟨rfl,rfl,rfl,by decide+kernel,rfl,by decide+kernel,by decide+kernel⟩
noncomputable def zu:FZ:=(mX (GP (D0 (cb jD (ay (bR 1) cq)))) (iq (xP (eC (.bl false)))) gS)
noncomputable def tR:FZ:=(bb (jR (yc (cb iu (ay (xP (zB (ae 0) jL (iQ (eC (.int 4))))) cq))) (iR 1) zu) (iq (xP (eC (.bl true)))))
noncomputable def JD:List V3→aN→R3 V3:=mr qJ tR
noncomputable def Kv:List V3→aN→R3 V3:=nE qJ tR
noncomputable def zh:List D→R D:=Jg qJ tR
structure Cf (K:PySem.W.Frag) (mg:Str→Option Value) (cl:Nat→Addr):Prop where
 C_Bench:u6 K (cl 0)
 N_Bench_net:dg K (cl 0) (Str.ofString "net")
 N_Bench_many_inputs:dg K (cl 0) (Str.ofString "many_inputs")
 N_Bench_full:dg K (cl 0) (Str.ofString "full")
 N_Bench_in_masks:dg K (cl 0) (Str.ofString "in_masks")
 M_Bench:mg (Str.ofString "Bench")=some (.ref (cl 0))
 C_Trial:u6 K (cl 1)
 N_Trial_bench:dg K (cl 1) (Str.ofString "bench")
 N_Trial_plain:dg K (cl 1) (Str.ofString "plain")
 N_Trial_unsure:dg K (cl 1) (Str.ofString "unsure")
 M_Trial:mg (Str.ofString "Trial")=some (.ref (cl 1))
 D_Bench___init__:Ai K (cl 0) (Str.ofString "__init__") (Str.ofString "Bench.__init__") bu
 D_Bench_tells:uh K (cl 0) (Str.ofString "tells") (Str.ofString "Bench.tells") bO
 D_Bench_readings:uh K (cl 0) (Str.ofString "readings") (Str.ofString "Bench.readings") bz
 D_Trial___init__:Ai K (cl 1) (Str.ofString "__init__") (Str.ofString "Trial.__init__") bx
 D_Trial_breaks_at:uh K (cl 1) (Str.ofString "breaks_at") (Str.ofString "Trial.breaks_at") bg
theorem Il{K:PySem.W.Frag}{h:Heap}{mg:Str→Option Value}(X:K.In h)(G:h.Ns mainGlobals mg){C0:Addr}{C1:Addr}{f0:Addr}{od0 an0:Option Addr}{sl0:Array (Option Value)}{oc0 kV0 dc0 pm0 cd0 ct0:Value}{f1:Addr}{od1 an1:Option Addr}{sl1:Array (Option Value)}{oc1 kV1 dc1 pm1 cd1 ct1:Value}{f2:Addr}{od2 an2:Option Addr}{sl2:Array (Option Value)}{oc2 kV2 dc2 pm2 cd2 ct2:Value}{f3:Addr}{od3 an3:Option Addr}{sl3:Array (Option Value)}{oc3 kV3 dc3 pm3 cd3 ct3:Value}{f4:Addr}{od4 an4:Option Addr}{sl4:Array (Option Value)}{oc4 kV4 dc4 pm4 cd4 ct4:Value}(aC0:PySem.W.nsIn K mainGlobals (Str.ofString "Bench")=some (some (.ref C0)))(pg0:PySem.W.plainGet K C0 Str.empty=true)(hd0:PySem.W.hasDictIn K C0=true)(po0:PySem.W.plainOver K C0=true)(sa0:PySem.W.findIn K (.ref C0) "__setattr__"=some (some (.builtin "object.__setattr__")))(mk0:PySem.W.makesIn K C0=true)(kc0:PySem.W.keepIn K (.ref C0)=true)(n0_net:PySem.W.findIn K (.ref C0) (Str.ofString "net")=some none)(n0_many_inputs:PySem.W.findIn K (.ref C0) (Str.ofString "many_inputs")=some none)(n0_full:PySem.W.findIn K (.ref C0) (Str.ofString "full")=some none)(n0_in_masks:PySem.W.findIn K (.ref C0) (Str.ofString "in_masks")=some none)(aC1:PySem.W.nsIn K mainGlobals (Str.ofString "Trial")=some (some (.ref C1)))(pg1:PySem.W.plainGet K C1 Str.empty=true)(hd1:PySem.W.hasDictIn K C1=true)(po1:PySem.W.plainOver K C1=true)(sa1:PySem.W.findIn K (.ref C1) "__setattr__"=some (some (.builtin "object.__setattr__")))(mk1:PySem.W.makesIn K C1=true)(kc1:PySem.W.keepIn K (.ref C1)=true)(n1_bench:PySem.W.findIn K (.ref C1) (Str.ofString "bench")=some none)(n1_plain:PySem.W.findIn K (.ref C1) (Str.ofString "plain")=some none)(n1_unsure:PySem.W.findIn K (.ref C1) (Str.ofString "unsure")=some none)(a_Bench___init__:PySem.W.findIn K (.ref C0) (Str.ofString "__init__")=some (some (.ref f0)))(i_Bench___init__:PySem.W.isFn K (.ref f0)=true)(l_Bench___init__:K.lookup f0=some ⟨oc0,od0, .func (PySem.W.fnOf (Str.ofString "__init__") (Str.ofString "Bench.__init__") (ij bu) (aq bu) (af bu) .none kV0 dc0 pm0 an0 cd0 ct0),sl0⟩)(dO:PySem.W.codeIn K cd0 (Str.ofString "Bench.__init__")=true)(k_Bench___init__:PySem.W.keepIn K (.ref f0)=true)(a_Bench_tells:PySem.W.findIn K (.ref C0) (Str.ofString "tells")=some (some (.ref f1)))(i_Bench_tells:PySem.W.isFn K (.ref f1)=true)(l_Bench_tells:K.lookup f1=some ⟨oc1,od1, .func (PySem.W.fnOf (Str.ofString "tells") (Str.ofString "Bench.tells") (ij bO) (aq bO) (af bO) .none kV1 dc1 pm1 an1 cd1 ct1),sl1⟩)(fV:PySem.W.codeIn K cd1 (Str.ofString "Bench.tells")=true)(k_Bench_tells:PySem.W.keepIn K (.ref f1)=true)(a_Bench_readings:PySem.W.findIn K (.ref C0) (Str.ofString "readings")=some (some (.ref f2)))(i_Bench_readings:PySem.W.isFn K (.ref f2)=true)(l_Bench_readings:K.lookup f2=some ⟨oc2,od2, .func (PySem.W.fnOf (Str.ofString "readings") (Str.ofString "Bench.readings") (ij bz) (aq bz) (af bz) .none kV2 dc2 pm2 an2 cd2 ct2),sl2⟩)(dU:PySem.W.codeIn K cd2 (Str.ofString "Bench.readings")=true)(k_Bench_readings:PySem.W.keepIn K (.ref f2)=true)(a_Trial___init__:PySem.W.findIn K (.ref C1) (Str.ofString "__init__")=some (some (.ref f3)))(i_Trial___init__:PySem.W.isFn K (.ref f3)=true)(l_Trial___init__:K.lookup f3=some ⟨oc3,od3, .func (PySem.W.fnOf (Str.ofString "__init__") (Str.ofString "Trial.__init__") (ij bx) (aq bx) (af bx) .none kV3 dc3 pm3 an3 cd3 ct3),sl3⟩)(dR:PySem.W.codeIn K cd3 (Str.ofString "Trial.__init__")=true)(k_Trial___init__:PySem.W.keepIn K (.ref f3)=true)(a_Trial_breaks_at:PySem.W.findIn K (.ref C1) (Str.ofString "breaks_at")=some (some (.ref f4)))(i_Trial_breaks_at:PySem.W.isFn K (.ref f4)=true)(l_Trial_breaks_at:K.lookup f4=some ⟨oc4,od4, .func (PySem.W.fnOf (Str.ofString "breaks_at") (Str.ofString "Trial.breaks_at") (ij bg) (aq bg) (af bg) .none kV4 dc4 pm4 an4 cd4 ct4),sl4⟩)(dn:PySem.W.codeIn K cd4 (Str.ofString "Trial.breaks_at")=true)(k_Trial_breaks_at:PySem.W.keepIn K (.ref f4)=true):∃cl,Cf K mg cl:=by
 exact⟨fun n=>if n=0 then C0 else C1,⟨pg0,hd0,po0,sa0⟩,n0_net,n0_many_inputs,n0_full,n0_in_masks,PySem.W.mg_of X G aC0,⟨pg1,hd1,po1,sa1⟩,n1_bench,n1_plain,n1_unsure,PySem.W.mg_of X G aC1,⟨_,_,oI (st:=bu) l_Bench___init__ dO k_Bench___init__,⟨mk0,a_Bench___init__,i_Bench___init__,kc0⟩⟩,⟨_,_,oI (st:=bO) l_Bench_tells fV k_Bench_tells,⟨a_Bench_tells,i_Bench_tells,k_Bench_tells⟩⟩,⟨_,_,oI (st:=bz) l_Bench_readings dU k_Bench_readings,⟨a_Bench_readings,i_Bench_readings,k_Bench_readings⟩⟩,⟨_,_,oI (st:=bx) l_Trial___init__ dR k_Trial___init__,⟨mk1,a_Trial___init__,i_Trial___init__,kc1⟩⟩,⟨_,_,oI (st:=bg) l_Trial_breaks_at dn k_Trial_breaks_at,⟨a_Trial_breaks_at,i_Trial_breaks_at,k_Trial_breaks_at⟩⟩⟩
theorem GN{P:Program}{w:World}{K:PySem.W.Frag}{mg:Str→Option Value}{base:Heap}{f:Addr}{fd:FuncData}{cl:Nat→Addr}(T:Tp K mg cl)(D_vote_of:Def K mg (Str.ofString "vote_of") fI)(D_gate_mask:Def K mg (Str.ofString "gate_mask") dk)(D_in_wire_masks:Def K mg (Str.ofString "in_wire_masks") cg)(D_masks_at:Def K mg (Str.ofString "masks_at") ei)(D_wire_masks:Def K mg (Str.ofString "wire_masks") cY)(D_out_masks:Def K mg (Str.ofString "out_masks") dq)(D_reading:Def K mg (Str.ofString "reading") fL)(D_all_inputs:Def K mg (Str.ofString "all_inputs") cW)(D_mask_of:Def K mg (Str.ofString "mask_of") fJ)(D_in_mask:Def K mg (Str.ofString "in_mask") fG)(D_choices:Def K mg (Str.ofString "choices") fH)(D_has_all:Def K mg (Str.ofString "has_all") fD)(D_Bench___init__:Ai K (cl 0) (Str.ofString "__init__") (Str.ofString "Bench.__init__") bu)(D_Bench_tells:uh K (cl 0) (Str.ofString "tells") (Str.ofString "Bench.tells") bO)(D_Bench_readings:uh K (cl 0) (Str.ofString "readings") (Str.ofString "Bench.readings") bz)(D_Trial___init__:Ai K (cl 1) (Str.ofString "__init__") (Str.ofString "Trial.__init__") bx)(D_Trial_breaks_at:uh K (cl 1) (Str.ofString "breaks_at") (Str.ofString "Trial.breaks_at") bg)(D_breaking:Def K mg (Str.ofString "breaking") et)(D_law_next:Def K mg (Str.ofString "_law_next") eo)(D_law_pots:Def K mg (Str.ofString "_law_pots") eA)(D_law_some_ins:Def K mg (Str.ofString "_law_some_ins") cE)(D_law_gate:Def K mg (Str.ofString "_law_gate") eB)(D_law_twin:Def K mg (Str.ofString "_law_twin") d_)(D_law_some_net:Def K mg (Str.ofString "_law_some_net") cI)(D_law_ins_bits:Def K mg (Str.ofString "_law_ins_bits") cC)(D_law_all_wires:Def K mg (Str.ofString "_law_all_wires") ck)(D_law_reads:Def K mg (Str.ofString "_law_reads") dv)(D_law_broken:Def K mg (Str.ofString "_law_broken") c9)(D_law_all_sets:Def K mg (Str.ofString "_law_all_sets") cA)(D_law_free_ones:Def K mg (Str.ofString "_law_free_ones") cm)(D_law_breaking:Def K mg (Str.ofString "_law_breaking") cF)(D_law_copy:Def K mg (Str.ofString "_law_copy") ef)(D_law_are_places:Def K mg (Str.ofString "_law_are_places") bX)(D_law_case:Def K mg (Str.ofString "_law_case") ee)(F:y6 K (Str.ofString "law") (Str.ofString "law") pz f fd):iY P w K mg base sC 10 f fd [Str.ofString "script"] (BY K 1 zh):=by
 have C_vote_of:Callee P w K mg base 1 (Str.ofString "vote_of") 1 gm:=zJ T D_vote_of
 have C_gate_mask:Callee P w K mg base 2 (Str.ofString "gate_mask") 3 gf:=vO T D_gate_mask C_vote_of
 have XK_in_wire_masks:aD P w K mg base cl 1 (Str.ofString "in_wire_masks") 4 dc:=pW T D_in_wire_masks
 have XP_in_wire_masks:aD P w K mg base cl 1 (Str.ofString "in_wire_masks") 4 oP:=XK_in_wire_masks.p
 have C_masks_at:Callee P w K mg base 1 (Str.ofString "masks_at") 2 eX:=xj T D_masks_at
 have XK_wire_masks:aD P w K mg base cl 3 (Str.ofString "wire_masks") 5 mG:=uC T D_wire_masks C_masks_at C_gate_mask XK_in_wire_masks
 have XP_wire_masks:aD P w K mg base cl 3 (Str.ofString "wire_masks") 5 fT:=XK_wire_masks.p
 have XK_out_masks:aD P w K mg base cl 2 (Str.ofString "out_masks") 2 nH:=vE T D_out_masks C_masks_at
 have XP_out_masks:aD P w K mg base cl 2 (Str.ofString "out_masks") 2 gL:=XK_out_masks.p
 have C_reading:Callee P w K mg base 2 (Str.ofString "reading") 2 i0:=zM T D_reading C_vote_of
 have XK_all_inputs:aD P w K mg base cl 1 (Str.ofString "all_inputs") 1 mT:=uo T D_all_inputs
 have XP_all_inputs:aD P w K mg base cl 1 (Str.ofString "all_inputs") 1 fR:=XK_all_inputs.p
 have C_mask_of:Callee P w K mg base 1 (Str.ofString "mask_of") 1 gb:=Al T D_mask_of
 have C_in_mask:Callee P w K mg base 2 (Str.ofString "in_mask") 2 i5:=Aa T D_in_mask C_mask_of
 have C_choices:Callee P w K mg base 5 (Str.ofString "choices") 2 (d6 4):=tL T D_choices 4
 have C_has_all:Callee P w K mg base 1 (Str.ofString "has_all") 2 gY:=zR T D_has_all
 have XK_Bench___init__:qX P w K mg base cl 3 0 (Str.ofString "Bench") 1 cP:=dO T D_Bench___init__ C_mask_of C_in_mask XP_all_inputs
 have XK_Bench_tells:ip P w K mg base cl 4 0 (Str.ofString "tells") 2 lH:=fV T D_Bench_tells XP_out_masks XP_wire_masks
 have XP_Bench_tells:ip P w K mg base cl 4 0 (Str.ofString "tells") 2 fA:=XK_Bench_tells.p
 have XK_Bench_readings:ip P w K mg base cl 5 0 (Str.ofString "readings") 1 jE:=dU T D_Bench_readings C_reading XP_Bench_tells
 have XP_Bench_readings:ip P w K mg base cl 5 0 (Str.ofString "readings") 1 cH:=XK_Bench_readings.p
 have XK_Trial___init__:qX P w K mg base cl 6 1 (Str.ofString "Trial") 1 cO:=dR T D_Trial___init__ XK_Bench___init__ XP_Bench_readings
 have XK_Trial_breaks_at:ip P w K mg base cl 6 1 (Str.ofString "breaks_at") 2 jq:=dn T D_Trial_breaks_at XP_Bench_readings
 have XP_Trial_breaks_at:ip P w K mg base cl 6 1 (Str.ofString "breaks_at") 2 dh:=XK_Trial_breaks_at.p
 have XK_breaking:aD P w K mg base cl 8 (Str.ofString "breaking") 3 gc:=xD T D_breaking C_choices C_has_all XK_Trial___init__ XP_Trial_breaks_at
 have XP_breaking:aD P w K mg base cl 8 (Str.ofString "breaking") 3 il:=XK_breaking.p
 have XK_law_next:aD P w K mg base cl 1 (Str.ofString "_law_next") 2 pN:=xM T D_law_next
 have XP_law_next:aD P w K mg base cl 1 (Str.ofString "_law_next") 2 aQ:=XK_law_next.p
 have XK_law_pots:aD P w K mg base cl 1 (Str.ofString "_law_pots") 1 iu:=yi T D_law_pots
 have XP_law_pots:aD P w K mg base cl 1 (Str.ofString "_law_pots") 1 wg:=XK_law_pots.p
 have XK_law_some_ins:aD P w K mg base cl 2 (Str.ofString "_law_some_ins") 3 kU:=qy T D_law_some_ins XP_law_next
 have XP_law_some_ins:aD P w K mg base cl 2 (Str.ofString "_law_some_ins") 3 eK:=XK_law_some_ins.p
 have XK_law_gate:aD P w K mg base cl 2 (Str.ofString "_law_gate") 2 pA:=xK T D_law_gate XP_law_next
 have XP_law_gate:aD P w K mg base cl 2 (Str.ofString "_law_gate") 2 iz:=XK_law_gate.p
 have XK_law_twin:aD P w K mg base cl 2 (Str.ofString "_law_twin") 3 pC:=xR T D_law_twin XP_law_next
 have XP_law_twin:aD P w K mg base cl 2 (Str.ofString "_law_twin") 3 du:=XK_law_twin.p
 have XK_law_some_net:aD P w K mg base cl 3 (Str.ofString "_law_some_net") 4 k7:=rS T D_law_some_net XP_law_some_ins XP_law_next XP_law_gate XP_law_twin
 have XP_law_some_net:aD P w K mg base cl 3 (Str.ofString "_law_some_net") 4 eE:=XK_law_some_net.p
 have C_law_ins_bits:Callee P w K mg base 1 (Str.ofString "_law_ins_bits") 1 dQ:=rN T D_law_ins_bits
 have XK_law_all_wires:aD P w K mg base cl 1 (Str.ofString "_law_all_wires") 3 jX:=qc T D_law_all_wires
 have XP_law_all_wires:aD P w K mg base cl 1 (Str.ofString "_law_all_wires") 3 dP:=XK_law_all_wires.p
 have XK_law_reads:aD P w K mg base cl 2 (Str.ofString "_law_reads") 3 n6:=vI T D_law_reads XP_law_all_wires
 have XP_law_reads:aD P w K mg base cl 2 (Str.ofString "_law_reads") 3 fM:=XK_law_reads.p
 have C_law_broken:Callee P w K mg base 1 (Str.ofString "_law_broken") 3 eh:=uf T D_law_broken
 have XK_law_all_sets:aD P w K mg base cl 1 (Str.ofString "_law_all_sets") 2 lh:=rZ T D_law_all_sets
 have XP_law_all_sets:aD P w K mg base cl 1 (Str.ofString "_law_all_sets") 2 eD:=XK_law_all_sets.p
 have C_law_free_ones:Callee P w K mg base 1 (Str.ofString "_law_free_ones") 1 eI:=p_ T D_law_free_ones
 have XK_law_breaking:aD P w K mg base cl 3 (Str.ofString "_law_breaking") 3 k4:=qG T D_law_breaking C_law_ins_bits C_law_free_ones C_law_broken XP_law_reads XP_law_all_sets
 have XP_law_breaking:aD P w K mg base cl 3 (Str.ofString "_law_breaking") 3 eG:=XK_law_breaking.p
 have C_law_copy:Callee P w K mg base 1 (Str.ofString "_law_copy") 1 jk:=x9 T D_law_copy
 have C_law_are_places:Callee P w K mg base 1 (Str.ofString "_law_are_places") 1 df:=oS T D_law_are_places
 have XK_law_case:aD P w K mg base cl 9 (Str.ofString "_law_case") 1 pL:=xY T D_law_case C_law_copy C_law_are_places XP_law_some_net XP_law_next XP_law_breaking XK_breaking XP_breaking
 have XP_law_case:aD P w K mg base cl 9 (Str.ofString "_law_case") 1 jD:=XK_law_case.p
 exact(b3 (cl:=cl) (N:=qJ) (F:=tR) (k:=9) FR.2 Bq.2 F Fo (fun cdv A outer s H E hr=>(av (eV PassesOwn.never rfl (qv (bA XK_law_pots hr (by decide) rfl (ag (ak (yw (aa 0) ot (nQ aj))) aM) (ai aL))) (aV Fo.nd rfl (Or.inl rfl)) (aI (gH (DB (A0 (bA XP_law_case hr (by decide) rfl (ag (aO 1) aM) (ai aL)))) (aI (c0 (ak uP))) dM))) (aI (c0 (ak uP)))))).imp fun _ _ _ _ h=>Fz h
end K21
end
section
set_option maxRecDepth 100000
set_option maxHeartbeats 4000000
namespace K21
open PySem PySem.Spec PyProof.Rows L2 L3
theorem zE{S:aN}{k:Nat}{o x:SO}(h:S[k]? =some x):(S.set k o)[k]? =some o:=by
 obtain⟨h1,_⟩:=List.getElem?_eq_some_iff.mp h
 rw[List.getElem?_set_self h1]
noncomputable def u9(k:Nat)(S:aN):Prop:=Flat S∧∃a c,S[k]? =some (.lst [.int a, .int c])
structure Ev (k:Nat) (S S1:aN):Prop where
 p:u9 k S1
 len:S1.length=S.length
 oth:∀j,j≠k→S1[j]? =S[j]?
theorem Ev.trans{k:Nat}{S S1 S2:aN}(a:Ev k S S1)(b:Ev k S1 S2):Ev k S S2:=⟨b.p,b.len.trans a.len,fun j h=>(b.oth j h).trans (a.oth j h)⟩
theorem u9.lt{k:Nat}{S:aN}(p:u9 k S):k < S.length:=by
 obtain⟨_,a,c,e⟩:=p
 exact(List.getElem?_eq_some_iff.mp e).1
theorem mR(ds:List D):∀n,mC n (.lst ds)=true:=fun _=>rfl
theorem uL{S:aN}{k:Nat}{m:Int}(p:u9 k S)(hm:0 < m)(hm2:m < 1000000){Q:V3→aN→Prop}
 (h:∀(r:Int) S1,0≤r→r < m→u9 k S1→S1.length=S.length→(∀j,j≠k→S1[j]? =S[j]?)→Q (.d (.int r)) S1):W3 (aQ [.loc k, .d (.int m)] S) Q:=by
 obtain⟨hL,a,c,e⟩:=p
 unfold aQ
 refine tQ (sQ rfl ?_)
 simp only[bS,kM,List.map_cons,List.map_nil,List.length_cons,List.length_nil,List.replicate,List.cons_append,List.nil_append,Nat.reduceAdd,Nat.reduceSub]
 unfold m_
 refine aF (EV (yI (d:= .int (c+1)) ?_ rfl ?_))
 ·simp (implicitDefEqProofs:=false) (disch:=first | omega | decide) only[oY,dj,fB,jT,n_,qe,qW,pU,nK,fZ,r9,mE,sx,ae,eC,e2,eNew,qB,br,fk,za,zB,Hu,kj,xB,xu,FK,yp,xh,nq,nT,CQ,b2,rH,xU,wX,ke,iX,dD,nList,aW,az,xn,rX,jL,iQ,iL,mB,lg,lJ,uG,uK,Fv,Ga,D4,Ej,o4,vn,zY,m8,gO,w9,vB,iO,cInt,cStr,se,iG,k5,fO,vV,rG,aR,dF,bw,dG,jB,iH,uk,D.atom,tyName,R.aY,R.ib,List.map_cons,List.map_nil,List.map_append,List.set_cons_zero,List.set_cons_succ,List.getElem?_cons_zero,List.getElem?_cons_succ,List.length_cons,List.length_nil,List.nil_append,List.cons_append,List.append_nil,List.length_map,List.length_append,List.replicate,Nat.reduceAdd,Nat.reduceSub,Nat.zero_add,decide_true,decide_false,Nat.lt_add_one,Nat.reduceLT,Nat.reduceLeDiff,Nat.reduceEqDiff,if_true,if_false,Bool.false_eq_true,ite_true,ite_false,Bool.true_or,Bool.or_true,Bool.true_and,Bool.and_true,beq_self_eq_true,down,cM,res,mW,bS,f9,kX,iR,uA,oz,u0,Option.map_some,Option.bind_some,gI,cJ,sv,lu,jt,km,cD,decide_eq_true_eq,Int.reduceToNat,e,bZ,pG]
  rfl
 refine w_var (v:= .loc k) rfl (cy (d:= .int 1) rfl ⟨_,k,1,[.int a, .int c],1,rfl,rfl,rfl,e,rfl,_,rfl,?_⟩)
 simp only[List.set_cons_succ,List.set_cons_zero]
 have e1:(S.set k (.lst [.int a, .int (c+1)]))[k]? =some (.lst [.int a, .int (c+1)]):=zE e
 have hL1:Flat (S.set k (.lst [.int a, .int (c+1)])):=hL.set _ (mR _)
 have hl1:(S.set k (.lst [.int a, .int (c+1)])).length=S.length:=List.length_set
 have ho:∀j,j≠k→(S.set k (.lst [.int a, .int (c+1)]))[j]? =S[j]?:=fun j hj=>List.getElem?_set_ne (Ne.symm hj)
 generalize S.set k (.lst [.int a, .int (c+1)])=S1 at e1 hL1 hl1 ho
 refine aF (bj (by simp only[List.length_cons,List.length_nil,List.length_set];omega) (yI (d:= .int a) ?_ rfl ⟨_,rfl,?_⟩))
 ·simp (implicitDefEqProofs:=false) (disch:=first | omega | decide) only[oY,dj,fB,jT,n_,qe,qW,pU,nK,fZ,r9,mE,sx,ae,eC,e2,eNew,qB,br,fk,za,zB,Hu,kj,xB,xu,FK,yp,xh,nq,nT,CQ,b2,rH,xU,wX,ke,iX,dD,nList,aW,az,xn,rX,jL,iQ,iL,mB,lg,lJ,uG,uK,Fv,Ga,D4,Ej,o4,vn,zY,m8,gO,w9,vB,iO,cInt,cStr,se,iG,k5,fO,vV,rG,aR,dF,bw,dG,jB,iH,uk,D.atom,tyName,R.aY,R.ib,List.map_cons,List.map_nil,List.map_append,List.set_cons_zero,List.set_cons_succ,List.getElem?_cons_zero,List.getElem?_cons_succ,List.length_cons,List.length_nil,List.nil_append,List.cons_append,List.append_nil,List.length_map,List.length_append,List.replicate,Nat.reduceAdd,Nat.reduceSub,Nat.zero_add,decide_true,decide_false,Nat.lt_add_one,Nat.reduceLT,Nat.reduceLeDiff,Nat.reduceEqDiff,if_true,if_false,Bool.false_eq_true,ite_true,ite_false,Bool.true_or,Bool.or_true,Bool.true_and,Bool.and_true,beq_self_eq_true,down,cM,res,mW,bS,f9,kX,iR,uA,oz,u0,Option.map_some,Option.bind_some,gI,cJ,sv,lu,jt,km,cD,decide_eq_true_eq,Int.reduceToNat,e1,bZ,pG]
  rfl
 simp only[List.set_cons_succ,List.set_cons_zero]
 have fin:∀(r:Int) S2,0≤r→r < m→u9 k S2→S2.length=S1.length→(∀j,j≠k→S2[j]? =S1[j]?)→Flat S2∧gQ S.length (.d (.int r))=true∧∃d,res S2 (.d (.int r))=some d∧Q (.d d) (S2.take S.length):=fun r S2 h1 h2 p2 hl hj=>by
  refine⟨p2.1,by unfold gQ;rfl, .int r,by unfold res;rfl,?_⟩
  rw[List.take_of_length_le (by omega)]
  exact h r S2 h1 h2 p2 (by omega) fun j hj'=>(hj j hj').trans (ho j hj')
 by_cases hc:(1000000000000000000:Int)≤a
 ·refine Av (lU (eJ (b:=true) ?_ ?_))
  ·simp (implicitDefEqProofs:=false) (disch:=first | omega | decide) only[oY,dj,fB,jT,n_,qe,qW,pU,nK,fZ,r9,mE,sx,ae,eC,e2,eNew,qB,br,fk,za,zB,Hu,kj,xB,xu,FK,yp,xh,nq,nT,CQ,b2,rH,xU,wX,ke,iX,dD,nList,aW,az,xn,rX,jL,iQ,iL,mB,lg,lJ,uG,uK,Fv,Ga,D4,Ej,o4,vn,zY,m8,gO,w9,vB,iO,cInt,cStr,se,iG,k5,fO,vV,rG,aR,dF,bw,dG,jB,iH,uk,D.atom,tyName,R.aY,R.ib,List.map_cons,List.map_nil,List.map_append,List.set_cons_zero,List.set_cons_succ,List.getElem?_cons_zero,List.getElem?_cons_succ,List.length_cons,List.length_nil,List.nil_append,List.cons_append,List.append_nil,List.length_map,List.length_append,List.replicate,Nat.reduceAdd,Nat.reduceSub,Nat.zero_add,decide_true,decide_false,Nat.lt_add_one,Nat.reduceLT,Nat.reduceLeDiff,Nat.reduceEqDiff,if_true,if_false,Bool.false_eq_true,ite_true,ite_false,Bool.true_or,Bool.or_true,Bool.true_and,Bool.and_true,beq_self_eq_true,down,cM,res,mW,bS,f9,kX,iR,uA,oz,u0,Option.map_some,Option.bind_some,gI,cJ,sv,lu,jt,km,cD,decide_eq_true_eq,Int.reduceToNat,hc]
   simp [hc]
  rw[if_pos rfl]
  refine aF (EV (cy (d:= .int (a / m)) ?_ (w_var (v:= .loc k) rfl (cy (d:= .int 0) rfl ⟨_,k,0,_,0,rfl,rfl,rfl,e1,rfl,_,rfl,?_⟩))))
  ·exact aw (a:= .int a) (b:= .int m) rfl rfl (C5 hm (by omega))
  refine fN (cy (d:= .int (a % m)) (aw (a:= .int a) (b:= .int m) rfl rfl (xt hm)) ⟨_,rfl,_,rfl,?_⟩)
  exact fin _ _ (Int.emod_nonneg _ (by omega)) (Int.emod_lt_of_pos _ hm) ⟨hL1.set _ (mR _),_,_,zE e1⟩ List.length_set fun j hj=>List.getElem?_set_ne (Ne.symm hj)
 ·refine aF (lU (eJ (b:=false) ?_ ?_))
  ·simp (implicitDefEqProofs:=false) (disch:=first | omega | decide) only[oY,dj,fB,jT,n_,qe,qW,pU,nK,fZ,r9,mE,sx,ae,eC,e2,eNew,qB,br,fk,za,zB,Hu,kj,xB,xu,FK,yp,xh,nq,nT,CQ,b2,rH,xU,wX,ke,iX,dD,nList,aW,az,xn,rX,jL,iQ,iL,mB,lg,lJ,uG,uK,Fv,Ga,D4,Ej,o4,vn,zY,m8,gO,w9,vB,iO,cInt,cStr,se,iG,k5,fO,vV,rG,aR,dF,bw,dG,jB,iH,uk,D.atom,tyName,R.aY,R.ib,List.map_cons,List.map_nil,List.map_append,List.set_cons_zero,List.set_cons_succ,List.getElem?_cons_zero,List.getElem?_cons_succ,List.length_cons,List.length_nil,List.nil_append,List.cons_append,List.append_nil,List.length_map,List.length_append,List.replicate,Nat.reduceAdd,Nat.reduceSub,Nat.zero_add,decide_true,decide_false,Nat.lt_add_one,Nat.reduceLT,Nat.reduceLeDiff,Nat.reduceEqDiff,if_true,if_false,Bool.false_eq_true,ite_true,ite_false,Bool.true_or,Bool.or_true,Bool.true_and,Bool.and_true,beq_self_eq_true,down,cM,res,mW,bS,f9,kX,iR,uA,oz,u0,Option.map_some,Option.bind_some,gI,cJ,sv,lu,jt,km,cD,decide_eq_true_eq,Int.reduceToNat,hc]
   simp [hc]
  rw[if_neg (by decide)]
  refine iK ⟨_,rfl,?_⟩
  refine aF (bj (by simp only[List.length_cons,List.length_nil,List.length_set];omega) (yI (d:= .int ((a*69621+(c+1)*7919+13) % 2147483647)) ?_ rfl ⟨_,rfl,?_⟩))
  ·have hi:bZ (.lst [.int a, .int (c+1)]) (.int 1)= .ok (.int (c+1)):=rfl
   simp (implicitDefEqProofs:=false) (disch:=first | omega | decide) only[oY,dj,fB,jT,n_,qe,qW,pU,nK,fZ,r9,mE,sx,ae,eC,e2,eNew,qB,br,fk,za,zB,Hu,kj,xB,xu,FK,yp,xh,nq,nT,CQ,b2,rH,xU,wX,ke,iX,dD,nList,aW,az,xn,rX,jL,iQ,iL,mB,lg,lJ,uG,uK,Fv,Ga,D4,Ej,o4,vn,zY,m8,gO,w9,vB,iO,cInt,cStr,se,iG,k5,fO,vV,rG,aR,dF,bw,dG,jB,iH,uk,D.atom,tyName,R.aY,R.ib,List.map_cons,List.map_nil,List.map_append,List.set_cons_zero,List.set_cons_succ,List.getElem?_cons_zero,List.getElem?_cons_succ,List.length_cons,List.length_nil,List.nil_append,List.cons_append,List.append_nil,List.length_map,List.length_append,List.replicate,Nat.reduceAdd,Nat.reduceSub,Nat.zero_add,decide_true,decide_false,Nat.lt_add_one,Nat.reduceLT,Nat.reduceLeDiff,Nat.reduceEqDiff,if_true,if_false,Bool.false_eq_true,ite_true,ite_false,Bool.true_or,Bool.or_true,Bool.true_and,Bool.and_true,beq_self_eq_true,down,cM,res,mW,bS,f9,kX,iR,uA,oz,u0,Option.map_some,Option.bind_some,gI,cJ,sv,lu,jt,km,cD,decide_eq_true_eq,Int.reduceToNat,e1,hi]
  simp only[List.set_cons_succ,List.set_cons_zero]
  have hx1:0≤(a*69621+(c+1)*7919+13) % 2147483647:=Int.emod_nonneg _ (by omega)
  have hx2:(a*69621+(c+1)*7919+13) % 2147483647 < 2147483647:=Int.emod_lt_of_pos _ (by omega)
  generalize (a*69621+(c+1)*7919+13) % 2147483647=x at hx1 hx2
  refine aF (bj (by simp only[List.length_cons,List.length_nil,List.length_set];omega) (cy (d:= .int (x*x % 2147483629)) ?_ ⟨_,rfl,?_⟩))
  ·simp (implicitDefEqProofs:=false) (disch:=first | omega | decide) only[oY,dj,fB,jT,n_,qe,qW,pU,nK,fZ,r9,mE,sx,ae,eC,e2,eNew,qB,br,fk,za,zB,Hu,kj,xB,xu,FK,yp,xh,nq,nT,CQ,b2,rH,xU,wX,ke,iX,dD,nList,aW,az,xn,rX,jL,iQ,iL,mB,lg,lJ,uG,uK,Fv,Ga,D4,Ej,o4,vn,zY,m8,gO,w9,vB,iO,cInt,cStr,se,iG,k5,fO,vV,rG,aR,dF,bw,dG,jB,iH,uk,D.atom,tyName,R.aY,R.ib,List.map_cons,List.map_nil,List.map_append,List.set_cons_zero,List.set_cons_succ,List.getElem?_cons_zero,List.getElem?_cons_succ,List.length_cons,List.length_nil,List.nil_append,List.cons_append,List.append_nil,List.length_map,List.length_append,List.replicate,Nat.reduceAdd,Nat.reduceSub,Nat.zero_add,decide_true,decide_false,Nat.lt_add_one,Nat.reduceLT,Nat.reduceLeDiff,Nat.reduceEqDiff,if_true,if_false,Bool.false_eq_true,ite_true,ite_false,Bool.true_or,Bool.or_true,Bool.true_and,Bool.and_true,beq_self_eq_true,down,cM,res,mW,bS,f9,kX,iR,uA,oz,u0,Option.map_some,Option.bind_some,gI,cJ,sv,lu,jt,km,cD,decide_eq_true_eq,Int.reduceToNat]
  simp only[List.set_cons_succ,List.set_cons_zero]
  generalize x*x % 2147483629=y
  refine fN (yI (d:= .int ((y*48271+(c+1)*40692) % 2147483587 / 8 % m)) ?_ rfl ⟨_,rfl,?_⟩)
  ·have hi:bZ (.lst [.int a, .int (c+1)]) (.int 1)= .ok (.int (c+1)):=rfl
   simp (implicitDefEqProofs:=false) (disch:=first | omega | decide) only[oY,dj,fB,jT,n_,qe,qW,pU,nK,fZ,r9,mE,sx,ae,eC,e2,eNew,qB,br,fk,za,zB,Hu,kj,xB,xu,FK,yp,xh,nq,nT,CQ,b2,rH,xU,wX,ke,iX,dD,nList,aW,az,xn,rX,jL,iQ,iL,mB,lg,lJ,uG,uK,Fv,Ga,D4,Ej,o4,vn,zY,m8,gO,w9,vB,iO,cInt,cStr,se,iG,k5,fO,vV,rG,aR,dF,bw,dG,jB,iH,uk,D.atom,tyName,R.aY,R.ib,List.map_cons,List.map_nil,List.map_append,List.set_cons_zero,List.set_cons_succ,List.getElem?_cons_zero,List.getElem?_cons_succ,List.length_cons,List.length_nil,List.nil_append,List.cons_append,List.append_nil,List.length_map,List.length_append,List.replicate,Nat.reduceAdd,Nat.reduceSub,Nat.zero_add,decide_true,decide_false,Nat.lt_add_one,Nat.reduceLT,Nat.reduceLeDiff,Nat.reduceEqDiff,if_true,if_false,Bool.false_eq_true,ite_true,ite_false,Bool.true_or,Bool.or_true,Bool.true_and,Bool.and_true,beq_self_eq_true,down,cM,res,mW,bS,f9,kX,iR,uA,oz,u0,Option.map_some,Option.bind_some,gI,cJ,sv,lu,jt,km,cD,decide_eq_true_eq,Int.reduceToNat,e1,hi]
  exact fin _ _ (Int.emod_nonneg _ (by omega)) (Int.emod_lt_of_pos _ hm) ⟨hL1,_,_,e1⟩ rfl fun j hj=>rfl
section
variable {S:aN} {δ:DE} {k i:Nat}
theorem draw{Q:V3→aN→Prop}{f:FD}{m:Int}(hv:δ[i]? =some (some (.loc k)))(p:u9 k S)(hf:f (down δ)= .ok (.int m))(hm:0 < m)(hm2:m < 1000000)
 (h:∀(r:Int) S1,0≤r→r < m→Ev k S S1→Q (.d (.int r)) S1):W3 (cb aQ (ay (bR i) (ay (xP f) cq)) δ S) Q:=
 cV (aA (w_var hv (aA (cy hf (cu (uL p hm hm2 fun r S1 h1 h2 p1 hl ho=>h r S1 h1 h2 ⟨p1,hl,ho⟩))))))
end
end K21
end
section
set_option maxRecDepth 100000
set_option maxHeartbeats 4000000
namespace K21
open PySem PySem.Spec PyProof.Rows L2 L3 MT
theorem Ag{a:D}{r:List D}:bZ (.tup (a ::r)) (.int 0)= .ok a:=rm (by rw[mZ (by omega) (by simp)];rfl)
theorem Cq{a b:D}{r:List D}:bZ (.tup (a ::b ::r)) (.int 1)= .ok b:=rm (by rw[mZ (by omega) (by simp)];rfl)
theorem Lg{a b c:D}{r:List D}:bZ (.tup (a ::b ::c ::r)) (.int 2)= .ok c:=rm (by rw[mZ (by omega) (by simp)];rfl)
theorem yZ{N:Nat}{a b c:M}:gm [.tup [mI N a,mI N b,mI N c]]= .ok (mI N fun p=>(a p && b p) || (a p && c p) || (b p && c p)):=by
 unfold gm sO
 refine d9 (cZ ?_)
 exact aw (aw (aw (aw rfl rfl Ag) (aw rfl rfl Cq) (jj N a b)) (aw (aw rfl rfl Ag) (aw rfl rfl Lg) (jj N a c)) (mD N _ _)) (aw (aw rfl rfl Cq) (aw rfl rfl Lg) (jj N b c)) (mD N _ _)
theorem ER(k j:Nat)(hk:k≤4)(hj:j≤4):gO (.str (kS k)) (.str (kS j))= .ok (.bl (decide (k=j))):=by
 show R.ok (D.bl (kS k==kS j))=_
 congr 2
 revert hk hj
 have:∀a∈List.range 5,∀b∈List.range 5,(kS a==kS b)=decide (a=b):=by decide+kernel
 intro hk hj
 exact this k (by rw[List.mem_range];omega) j (by rw[List.mem_range];omega)
theorem EJ{N kd:Nat}{xs:List M}(hk:kd≤4)(hx:xs.length=ar kd):gf [.str (kS kd), .tup (xs.map (mI N)),mI N one]= .ok (mI N fun p=>gv kd (xs.map (· p))):=by
 unfold gf pH
 have q:∀j,j≤4→b2 gO (ae 0) (eC (.str (kS j))) (dj lZ [.str (kS kd), .tup (xs.map (mI N)),mI N one])= .ok (decide (kd=j)):=fun j hj=>f_ (a:= .str (kS kd)) (b:= .str (kS j)) rfl rfl (ER kd j hk hj)
 have q0:=q 0 (by omega)
 have q1:=q 1 (by omega)
 have q2:=q 2 (by omega)
 have q3:=q 3 (by omega)
 match kd,hk,xs,hx with
 | 0,_,[a],_=>
   refine d9 (NT.mj (qx q0 (cZ (aw (a:=mI N one) (b:=mI N a) rfl (aw rfl rfl Ag) (t5 N a)))))
 | 1,_,[a,b],_=>
   refine d9 (bY (jr q0 rfl) (NT.mj (qx q1 (cZ (aw (aw rfl rfl Ag) (aw rfl rfl Cq) (jj N a b))))))
 | 2,_,[a,b],_=>
   refine d9 (bY (jr q0 rfl) (bY (jr q1 rfl) (NT.mj (qx q2 (cZ (aw (aw rfl rfl Ag) (aw rfl rfl Cq) (mD N a b)))))))
 | 3,_,[a,b],_=>
   refine d9 (bY (jr q0 rfl) (bY (jr q1 rfl) (bY (jr q2 rfl) (NT.mj (qx q3 (cZ (aw (aw rfl rfl Ag) (aw rfl rfl Cq) (pB N a b))))))))
 | 4,_,[a,b,c],_=>
   refine d9 (bY (jr q0 rfl) (bY (jr q1 rfl) (bY (jr q2 rfl) (bY (jr q3 rfl) (cZ (bp (ds:=[.tup [mI N a,mI N b,mI N c]]) rfl yZ))))))
theorem E8{N:Nat}{ws:List M}{ns:List Nat}(hn:∀n∈ns,n < ws.length)(hl:ns.length < 1000):eX [.lst (ws.map (mI N)), .tup (ns.map nI)]= .ok (.tup ((ns.map (cS ws)).map (mI N))):=by
 have hz:sizeLine=16777216:=sizeLine_eq
 unfold eX qD
 refine d9 (cZ (bp (ds:=[.lst ((ns.map (cS ws)).map (mI N))]) (aZ (eu (dN (ds:=ns.map nI) (nC rfl) (by rw[List.length_map];omega) ?_)) rfl) rfl))
 rw[List.map_map]
 exact NT.er nI _ fun n hn'=>⟨[.val (nI n), .val (.lst (ws.map (mI N)))],rfl,rfl,aw (a:= .lst (ws.map (mI N))) (b:=nI n) rfl rfl (xQ (hn n hn'))⟩
noncomputable def xW(N:Nat)(S:aN)(insD bitsD badD:D)(a5 a6 a7:Option V3):DE:=[some (.d insD),some (.d bitsD),some (.d (mI N one)),some (.d badD),some (.loc S.length),a5,a6,a7]
theorem AV{N:Nat}{S:aN}{insD bitsD:D}{bad:List Int}{a5 a7:Option V3}{b:M}{ws:List M}(hl:ws.length < 10000) :
 W3 (gG (xW N S insD bitsD (.tup (bad.map .int)) a5 (some (.d (mI N b))) a7) (S++[.lst (ws.map (mI N))])) fun o S1=>o= .nx (xW N S insD bitsD (.tup (bad.map .int)) a5 (some (.d (mI N b))) a7)∧S1=S++[SO.lst ((ws++[fun p=>b p !=bad.contains (ws.length:Int)]).map (mI N))]:=by
 have hz:sizeLine=16777216:=sizeLine_eq
 unfold gG
 refine j7 (k:=S.length) rfl ⟨_,bc _ _⟩ (yI (d:=mI N fun p=>b p !=bad.contains (ws.length:Int)) ?_ rfl ⟨_,_,rfl,bc _ _,by rw[List.length_map];omega,rfl,?_⟩)
 ·have h4:(cM (S++[.lst (ws.map (mI N))]) (xW N S insD bitsD (.tup (bad.map .int)) a5 (some (.d (mI N b))) a7))[4]? =some (.val (.lst (ws.map (mI N)))):=by
   unfold cM xW
   show some (match res (S++[.lst (ws.map (mI N))]) (.loc S.length) with | some d=>Sl.val d | none=> .un)=_
   unfold res
   rw[bc]
  refine ug (b:=bad.contains (ws.length:Int)) (f_ (a:= .int ws.length) (b:= .tup (bad.map .int)) (bp (ds:=[.lst (ws.map (mI N))]) (aZ (by unfold ae;rw [h4]) rfl) (by rw[qd,List.length_map])) rfl (qr _ _)) ?_
  rw[←xl]
  rfl
 ·rw[dw,List.map_append];rfl
theorem vq{N:Nat}{S:aN}{bD:D}{ins:List (Str × Nat)}{bits:List M}{bad:List Int}(hB:bD= .lst (bits.map (mI N))∨bD= .tup (bits.map (mI N)))(hb:bits.length=ins.length)(hi:ins.length < 100)(hw:∀x∈ins,x.2 < 100){Q:V3→aN→Prop}
 (h:Q (.loc S.length) (S++[.lst ((cL ins bits bad ins.length).map (mI N))])) :
 W3 (dc [.d (.lst (ins.map inD)), .d bD, .d (mI N one), .d (.tup (bad.map .int))] S) Q:=by
 have hz:sizeLine=16777216:=sizeLine_eq
 unfold dc
 refine sQ rfl ?_
 simp only[bS,fY,List.map_cons,List.map_nil,List.length_cons,List.length_nil,List.replicate,List.cons_append,List.nil_append,Nat.reduceAdd,Nat.reduceSub]
 unfold iE
 refine aF (bj (by simp only[List.length_cons,List.length_nil,List.length_set];omega) (ik (ds:=[]) rfl ⟨_,rfl,?_⟩))
 simp only[List.set_cons_succ,List.set_cons_zero]
 refine aF (gR (my (ds:=cG (bits.map (mI N))) (by rcases hB with rfl | rfl <;> rfl) ?_))
 have big:∀i,i≤ins.length→(cL ins bits bad i).length≤100*i:=by
  intro i hi'
  induction i with
  | zero=>simp [cL]
  | succ i ih=>
    have ih:=ih (by omega)
    have h1:ins[i]? =some ins[i]:=List.getElem?_eq_getElem (by omega)
    have h2:bits[i]? =some bits[i]:=List.getElem?_eq_getElem (by omega)
    unfold cL
    rw[h1,h2]
    show(gx bad bits[i] ins[i].2 (cL ins bits bad i)).length≤_
    rw[gT]
    have:=hw ins[i] (List.getElem_mem _)
    omega
 refine(b_ (fun i δ S2=>(∃a b c,δ=xW N S (.lst (ins.map inD)) bD (.tup (bad.map .int)) a b c)∧S2=S++[SO.lst ((cL ins bits bad i).map (mI N))])
  ⟨⟨_,_,_,rfl⟩,rfl⟩ ?_).mono fun o S2 ⟨δ2,e2',⟨a,b,c,hδ⟩,hS⟩=>⟨δ2,e2',?_⟩
 ·rintro i v δ S2 hv ⟨⟨a,b,c,rfl⟩,rfl⟩
  obtain⟨d,hd,rfl⟩:=mh hv
  rw[List.getElem?_map] at hd
  have hib:i < bits.length:=by
   have:=(List.getElem?_eq_some_iff.mp hv).1
   simpa [cG] using this
  have h1:ins[i]? =some ins[i]:=List.getElem?_eq_getElem (by omega)
  have h2:bits[i]? =some bits[i]:=List.getElem?_eq_getElem hib
  rw[h2] at hd
  cases hd
  refine⟨xW N S (.lst (ins.map inD)) bD (.tup (bad.map .int)) (some (.d (.int i))) (some (.d (mI N bits[i]))) c,rfl,?_⟩
  unfold jC
  have hwi:=hw ins[i] (List.getElem_mem _)
  refine gR (my (kJ (n:=ins[i].2) ?_ (by omega)) ?_)
  ·refine aw (a:=inD ins[i]) (b:= .int 1) (aw (a:= .lst (ins.map inD)) (b:= .int i) rfl rfl (uq ?_)) rfl rfl
   rw[mZ (by omega) (by rw[List.length_map,Int.toNat_natCast];omega)]
   simp
  refine(b_ (fun j δ S3=>(∃c,δ=xW N S (.lst (ins.map inD)) bD (.tup (bad.map .int)) (some (.d (.int i))) (some (.d (mI N bits[i]))) c)∧S3=S++[SO.lst ((gx bad bits[i] j (cL ins bits bad i)).map (mI N))])
   ⟨⟨_,rfl⟩,rfl⟩ ?_).mono fun o S3 ⟨δ3,e3,⟨c3,hδ3⟩,hS3⟩=>⟨δ3,e3,⟨_,_,c3,hδ3⟩,?_⟩
  ·rintro j v δ S3 hv ⟨⟨c3,rfl⟩,rfl⟩
   refine⟨_,rfl,?_⟩
   have hj:j < ins[i].2:=by
    have:=(List.getElem?_eq_some_iff.mp hv).1
    rwa [List.length_map,e_,List.length_map,List.length_range] at this
   refine(AV ?_).mono fun o S4 ⟨e4,e5⟩=>⟨_,e4,⟨_,rfl⟩,e5⟩
   rw[gT]
   have:=big i (by omega)
   omega
  ·rw[hS3,List.length_map,e_,List.length_map,List.length_range]
   show _=S++[SO.lst ((match ins[i]?,bits[i]? with | some x,some b=>gx bad b x.2 (cL ins bits bad i) | _,_=>cL ins bits bad i).map (mI N))]
   rw[h1,h2]
 have hlen:((cG (bits.map (mI N))).map V3.d).length=ins.length:=by simp [cG,hb]
 rw[hlen] at hS
 subst hδ hS
 exact fN (w_var rfl ⟨_,rfl,h⟩)
section
variable {N:Nat} {ins:List (Str × Nat)} {gs:List Gt} {os:List (Str × List Nat)} {bits:List M} {turned bad:List Int}
noncomputable def vL(N:Nat)(S:aN)(nt bitsD tD bD:D)(a6 a7 a8:Option V3):DE:=[some (.d nt),some (.d bitsD),some (.d (mI N one)),some (.d tD),some (.d bD),some (.loc S.length),a6,a7,a8]
theorem zL{S:aN}{nt bitsD bD:D}{a8:Option V3}{g:Gt}{i:Nat}{ws:List M}(hg:vx ws.length g)(hl:ws.length < 20000) :
 W3 (jc (vL N S nt bitsD (.tup (turned.map .int)) bD (some (.d (.int i))) (some (.d (kl g))) a8) (S++[.lst (ws.map (mI N))])) fun o S1=>(∃c,o= .nx (vL N S nt bitsD (.tup (turned.map .int)) bD (some (.d (.int i))) (some (.d (kl g))) c))∧S1=S++[SO.lst ((ws++[fun p=>gF g ws p !=turned.contains (i:Int)]).map (mI N))]:=by
 have hz:sizeLine=16777216:=sizeLine_eq
 have ha:=yD g.1
 unfold jc
 refine aF (bj (by unfold vL;simp only[List.length_cons,List.length_nil];omega) (yI (d:=mI N (gF g ws)) ?_ rfl ⟨_,rfl,?_⟩))
 ·have h5:(cM (S++[.lst (ws.map (mI N))]) (vL N S nt bitsD (.tup (turned.map .int)) bD (some (.d (.int i))) (some (.d (kl g))) a8))[5]? =some (.val (.lst (ws.map (mI N)))):=by
   unfold cM vL
   show some (match res (S++[.lst (ws.map (mI N))]) (.loc S.length) with | some d=>Sl.val d | none=> .un)=_
   unfold res
   rw[bc]
  refine(bp (ds:=[.str (kS g.1), .tup ((g.2.1.map (cS ws)).map (mI N)),mI N one]) (aZ (aw (a:=kl g) (b:= .int 0) rfl rfl rfl) (aZ ?_ (aZ rfl rfl))) (EJ hg.1 (by rw[List.length_map];exact hg.2.1))).trans ?_
  ·exact bp (ds:=[.lst (ws.map (mI N)), .tup (g.2.1.map nI)]) (aZ (by unfold ae;rw [h5]) (aZ (aw (a:=kl g) (b:= .int 1) rfl rfl rfl) rfl)) (E8 hg.2.2 (by rw[hg.2.1];omega))
  ·have:(fun p=>gv g.1 ((g.2.1.map (cS ws)).map (· p)))=gF g ws:=by funext p;unfold gF;rw [List.map_map];rfl
   rw[this]
 ·show W3 (jP 5 _ (vL N S nt bitsD (.tup (turned.map .int)) bD (some (.d (.int i))) (some (.d (kl g))) (some (.d (mI N (gF g ws))))) _) _
  refine j7 (k:=S.length) rfl ⟨_,bc _ _⟩ (cy (d:=mI N fun p=>gF g ws p !=turned.contains (i:Int)) ?_ ⟨_,_,rfl,bc _ _,by rw[List.length_map];omega,⟨_,rfl⟩,?_⟩)
  ·refine ug (b:=turned.contains (i:Int)) (f_ (a:= .int i) (b:= .tup (turned.map .int)) rfl rfl (qr _ _)) ?_
   rw[←xl]
   rfl
  ·rw[dw,List.map_append];rfl
theorem AD{S:aN}{bD:D}(hB:bD= .lst (bits.map (mI N))∨bD= .tup (bits.map (mI N)))(NO:j0 ins gs os)(hb:bits.length=ins.length)(hS:ll S){Q:V3→aN→Prop}(h:Q (.d (.lst ((C4 ins gs bits turned bad).map (mI N)))) S) :
 W3 (fT [.d (bM ins gs os), .d bD, .d (mI N one), .d (.tup (turned.map .int)), .d (.tup (bad.map .int))] S) Q:=by
 have hz:sizeLine=16777216:=sizeLine_eq
 unfold fT
 refine lQ hS (sQ rfl ?_)
 simp only[bS,iT,List.map_cons,List.map_nil,List.length_cons,List.length_nil,List.replicate,List.cons_append,List.nil_append,Nat.reduceAdd,Nat.reduceSub]
 unfold kx
 refine aF <| bj (by simp only[List.length_cons,List.length_nil,List.length_set];omega) <| cV <| aA <| cy (d:= .lst (ins.map inD)) rfl <| aA <| cy (d:=bD) rfl <| aA <| cy (d:=mI N one) rfl <| aA <| cy (d:= .tup (bad.map .int)) rfl <| cu <| vq hB hb NO.hi NO.hw ⟨_,rfl,?_⟩
 simp only[List.set_cons_succ,List.set_cons_zero]
 have hwd:=oT NO.hw
 have hN:=NO.hi
 have hG:=NO.hg
 refine aF (gR (my (ds:=cG (gs.map kl)) rfl ?_))
 refine(b_ (fun i δ S2=>(∃a b c,δ=vL N S (bM ins gs os) bD (.tup (turned.map .int)) (.tup (bad.map .int)) a b c)∧S2=S++[SO.lst ((mF gs turned (cL ins bits bad ins.length) i).map (mI N))])
  ⟨⟨_,_,_,rfl⟩,rfl⟩ ?_).mono fun o S2 ⟨δ2,e2',⟨a,b,c,hδ⟩,hS2⟩=>⟨δ2,e2',?_⟩
 ·rintro i v δ S2 hv ⟨⟨a,b,c,rfl⟩,rfl⟩
  obtain⟨d,hd,rfl⟩:=mh hv
  rw[List.getElem?_map] at hd
  cases q:gs[i]? with
  | none=>rw [q] at hd;cases hd
  | some g=>
    rw[q] at hd
    cases hd
    have hi:i < gs.length:=(List.getElem?_eq_some_iff.mp q).1
    have hl:(mF gs turned (cL ins bits bad ins.length) i).length=g9 ins+i:=by rw[mv _ (by omega),j3 hb _ (Nat.le_refl _),List.take_length]
    refine⟨vL N S (bM ins gs os) bD (.tup (turned.map .int)) (.tup (bad.map .int)) (some (.d (.int i))) (some (.d (kl g))) c,rfl,?_⟩
    refine(zL (by rw[hl];exact NO.g i g q) (by rw[hl];omega)).mono fun o S4 ⟨⟨c4,e4⟩,e5⟩=>⟨_,e4,⟨_,_,_,rfl⟩,?_⟩
    rw[e5]
    show _=S++[SO.lst ((match gs[i]? with | some g=>mF gs turned (cL ins bits bad ins.length) i++[fun p=>gF g (mF gs turned (cL ins bits bad ins.length) i) p !=turned.contains (i:Int)] | none=>mF gs turned (cL ins bits bad ins.length) i).map (mI N))]
    rw[q]
 have hlen:((cG (gs.map kl)).map V3.d).length=gs.length:=by simp [cG]
 rw[hlen] at hS2
 subst hδ hS2
 exact fN (w_var rfl ⟨_,rfl,by unfold gQ;exact decide_eq_true (Nat.le_refl _),⟨_,rfl⟩,_,by unfold res;rw [bc];rfl,h⟩)
noncomputable def nc(N:Nat)(os:List (Str × List Nat))(ws:List M):List D:=os.map fun x=> .tup ((tell ws x).map (mI N))
theorem D9{S:aN}{ws:List M}(hO:os.length < 1000)(ho:∀x∈os,x.2.length < 1000∧∀w∈x.2,w < ws.length)(hS:ll S){Q:V3→aN→Prop}(h:Q (.d (.lst (nc N os ws))) S) :
 W3 (gL [.d (bM ins gs os), .d (.lst (ws.map (mI N)))] S) Q:=by
 have hz:sizeLine=16777216:=sizeLine_eq
 unfold gL
 refine lQ hS (sQ rfl ?_)
 simp only[bS,iA,List.map_cons,List.map_nil,List.length_cons,List.length_nil,List.replicate,List.cons_append,List.nil_append,Nat.reduceAdd,Nat.reduceSub]
 unfold lq
 refine fN (ik (ds:=nc N os ws) ?_ ⟨_,rfl,by unfold gQ;exact decide_eq_true (Nat.le_refl _),⟨_,rfl⟩,_,by unfold res;rw [bc],h⟩)
 refine dN (ds:=os.map wY) (kC (aw (a:=bM ins gs os) (b:= .int 2) rfl rfl rfl)) (by rw[List.length_map];omega) ?_
 unfold nc
 refine NT.er wY _ fun(x:Str × List Nat) hx=>⟨[.val (.str x.1), .val (.tup (x.2.map nI)), .val (.lst (ws.map (mI N)))],rfl,rfl,?_⟩
 exact bp (ds:=[.lst (ws.map (mI N)), .tup (x.2.map nI)]) rfl (E8 (ho x hx).2 (ho x hx).1)
end
end K21
end
section
set_option maxRecDepth 100000
set_option maxHeartbeats 4000000
namespace K21
open PySem PySem.Spec PyProof.Rows L2 L3 MT
noncomputable def r0(xs:List M):M:=fun p=>(FI (xs.map (· p))).1
noncomputable def r1(xs:List M):M:=fun p=>(FI (xs.map (· p))).2
theorem rM{n:Nat}{ds:List D}{δ:ax}{j:Int}(h:ae 0 δ= .ok (.tup ds))(hl:ds.length=n):b2 gO (br fO (az (ae 0) aW)) (eC (.int j)) δ= .ok (decide ((n:Int)=j)):=by
 refine f_ (a:= .int n) (b:= .int j) (bp (ds:=[.tup ds]) (aZ h rfl) ?_) rfl ?_
 ·show R.ok (D.int ds.length)=_
  rw[hl]
 ·show R.ok (D.bl ((n:Int)==j))=_
  congr 2
theorem xG{N:Nat}{xs:List M}(h:1≤xs.length∧xs.length≤3):i0 [.tup (xs.map (mI N)),mI N one]= .ok (.tup [mI N (r0 xs),mI N (r1 xs)]):=by
 have hz:sizeLine=16777216:=sizeLine_eq
 unfold i0 sU
 match xs,h with
 | [a],_=>
   refine d9 (bY (jr (rM (n:=1) rfl rfl) rfl) (bY (iW (d:=mI N a) (ug (rM (n:=1) rfl rfl) (aw (a:= .tup [mI N a]) (b:= .int 0) rfl rfl Ag)) (by simp [dj,mq])) (cZ ?_)))
   exact dH (aZ (aw (a:=mI N one) (b:=mI N a) rfl rfl (t5 N a)) (aZ rfl rfl)) (by simp;omega)
 | [a,b],_=>
   refine d9 (NT.mj (qx (rM (n:=2) rfl rfl) (cZ ?_)))
   exact dH (aZ (aw (a:=mI N one) (b:=mI N fun p=>a p || b p) rfl (aw (aw rfl rfl Ag) (aw rfl rfl Cq) (mD N a b)) (t5 N _)) (aZ (aw (aw rfl rfl Ag) (aw rfl rfl Cq) (jj N a b)) rfl)) (by simp;omega)
 | [a,b,c],_=>
   refine d9 (bY (jr (rM (n:=3) rfl rfl) rfl) (bY (iW (d:=mI N fun p=>(a p && b p) || (a p && c p) || (b p && c p)) (ug (rM (n:=3) rfl rfl) (bp (ds:=[.tup [mI N a,mI N b,mI N c]]) rfl yZ)) (by simp [dj,mq])) (cZ ?_)))
   exact dH (aZ (aw (a:=mI N one) (b:=mI N fun p=>(a p && b p) || (a p && c p) || (b p && c p)) rfl rfl (t5 N _)) (aZ rfl rfl)) (by simp;omega)
theorem rh{bs:List Bool}(hl:bs.length < 100000):gb [.lst (bs.map bI)]= .ok (.int (CT bs)):=by
 unfold gb tF
 refine d9 (bY (iW (d:= .int 0) rfl (by simp [dj,oG])) ?_)
 obtain⟨δ1,e1,a2,hδ1⟩:=i3 (t:=aR 2) (body:=lG) (ds:=(bs.map bI).reverse)
  (fun i δ=>∃a2,δ=[.val (.lst (bs.map bI)), .val (.int (CT (bs.drop (bs.length - i)))),a2]) (δ:=[.val (.lst (bs.map bI)), .val (.int 0), .un]) ⟨.un,by simp [CT]⟩ (by
    rintro i d δ hd ⟨a2,rfl⟩
    have hi:i < bs.length:=by
     have:=(List.getElem?_eq_some_iff.mp hd).1
     rwa [List.length_reverse,List.length_map] at this
    rw[List.getElem?_reverse (by rw[List.length_map];exact hi),List.length_map,List.getElem?_map,List.getElem?_eq_getElem (by omega:bs.length - 1 - i < bs.length)] at hd
    cases hd
    have hdr:bs.drop (bs.length - (i+1))=bs[bs.length - 1 - i] ::bs.drop (bs.length - i):=by
     rw[show bs.length - (i+1)=bs.length - 1 - i by omega,List.drop_eq_getElem_cons (by omega:bs.length - 1 - i < bs.length),show bs.length - 1 - i+1=bs.length - i by omega]
    refine⟨_,?_,⟨.val (bI bs[bs.length - 1 - i]),rfl⟩⟩
    have hm:(CT (bs.drop (bs.length - (i+1))):Int)=(CT (bs.drop (bs.length - i)):Int)*2+(if bs[bs.length - 1 - i] then 1 else 0):=by
     rw[hdr]
     show(((if bs[bs.length - 1 - i] then 1 else 0)+2*CT (bs.drop (bs.length - i)):Nat):Int)=_
     cases bs[bs.length - 1 - i] <;> simp <;> omega
    rw[hm]
    generalize (CT (bs.drop (bs.length - i)):Int)=m
    generalize bs[bs.length - 1 - i]=x
    generalize D.lst (bs.map bI)=y
    rw[show aR 2 (bI x) [.val y, .val (.int m),a2]= .ok [.val y, .val (.int m), .val (bI x)] from rfl,R.aY]
    unfold lG
    exact iW (aw (a:= .int (m*2)) (b:=bI x) (aw (a:= .int m) (b:= .int 2) rfl rfl (cD _ (.inr ⟨by omega,by omega⟩))) rfl rfl) (by simp))
 refine bY (me (ds:=(bs.map bI).reverse) rfl e1) ?_
 rw[List.length_reverse,List.length_map,Nat.sub_self,List.drop_zero] at hδ1
 subst hδ1
 exact cZ rfl
noncomputable def cU:Nat→List (List Bool)
 | 0=>[[]]
 | c+1=>(cU c).flatMap fun b=>[b++[false],b++[true]]
theorem dW:∀c,(cU c).length=2 ^ c
 | 0=>rfl
 | c+1=>by
   unfold cU
   rw[List.length_flatMap]
   have:(cU c).map (fun b=>[b++[false],b++[true]].length)=(cU c).map fun _=>2:=rfl
   rw[this,List.map_const',List.sum_replicate_nat,dW c]
   omega
theorem oW:∀c,∀b∈cU c,b.length=c
 | 0,b,h=>by unfold cU at h;rw [List.mem_singleton.mp h];rfl
 | c+1,b,h=>by
   unfold cU at h
   obtain⟨a,ha,hb⟩:=List.mem_flatMap.mp h
   have:=oW c a ha
   simp only[List.mem_cons,List.not_mem_nil,or_false] at hb
   rcases hb with rfl | rfl <;> simp [this]
noncomputable def gP(b:List Bool):D:= .tup (b.map bI)
noncomputable def aE(c:Nat)(inp:Option V3)(a2 a3 a4:Option V3):DE:=[some (.d (nI c)),inp,a2,a3,a4]
theorem sJ{c:Nat}{S:aN}(hc:c≤10)(hS:ll S){Q:V3→aN→Prop}(h:Q (.d (.lst ((cU c).map gP))) S):W3 (fR [.d (nI c)] S) Q:=by
 have hz:sizeLine=16777216:=sizeLine_eq
 unfold fR
 refine lQ hS (sQ rfl ?_)
 simp only[bS,iU,List.map_cons,List.map_nil,List.length_cons,List.length_nil,List.replicate,List.cons_append,List.nil_append,Nat.reduceAdd,Nat.reduceSub]
 unfold kN
 refine aF <| bj (by simp only[List.length_cons,List.length_nil,List.length_set];omega) <| ik (ds:=(cU 0).map gP) rfl ⟨_,rfl,?_⟩
 simp only[List.set_cons_succ,List.set_cons_zero]
 refine aF <| gR <| my (kJ (n:=c) rfl (by omega)) ?_
 refine(b_ (fun i δ S2=>∃(T:aN) (a2 a3 a4:Option V3),S2=S++T++[.lst ((cU i).map gP)]∧δ=aE c (some (.loc (S++T).length)) a2 a3 a4)
  ⟨[],none,none,none,by simp,by simp [aE]⟩ ?_).mono fun o S2 ⟨δ2,e2',T,a2,a3,a4,hS2,hδ⟩=>⟨δ2,e2',?_⟩
 ·rintro i v δ S2 hv ⟨T,a2,a3,a4,rfl,rfl⟩
  have hi:i < c:=by
   have:=(List.getElem?_eq_some_iff.mp hv).1
   rwa [List.length_map,e_,List.length_map,List.length_range] at this
  have hpow:(cU i).length≤1024:=by
   rw[dW]
   exact Nat.pow_le_pow_right (by omega) (by omega:i≤10)
  refine⟨aE c (some (.loc (S++T).length)) (some v) a3 a4,rfl,?_⟩
  unfold lE aE
  refine E5 (i:=1) rfl (bc _ _) ?_
  rw[dw]
  simp only[List.set_cons_succ,List.set_cons_zero]
  refine aF <| bj (by simp only[List.length_cons,List.length_nil,List.length_set];omega) <| ik (ds:=[]) rfl ⟨_,rfl,?_⟩
  simp only[List.set_cons_succ,List.set_cons_zero]
  generalize hU:S++T++[SO.iH]=U
  refine aF <| gR <| my (ds:=(cU i).map gP) rfl ?_
  refine(b_ (fun j δ S3=>(∃b4,δ=[some (.d (nI c)),some (.d (.lst ((cU i).map gP))),some v,some (.loc U.length),b4])∧S3=U++[.lst ((((cU i).take j).flatMap fun b=>[b++[false],b++[true]]).map gP)])
   ⟨⟨_,rfl⟩,by simp⟩ ?_).mono fun o S3 ⟨δ3,e3,⟨b4,hδ3⟩,hS3⟩=>⟨δ3,e3,?_⟩
  ·rintro j v3 δ S3 hv3 ⟨⟨b4,rfl⟩,rfl⟩
   obtain⟨b,hb,rfl⟩:=NT.jV hv3
   have hj:=(List.getElem?_eq_some_iff.mp hb).1
   have hbl:=oW i b (List.mem_of_getElem? hb)
   refine⟨[some (.d (nI c)),some (.d (.lst ((cU i).map gP))),some v,some (.loc U.length),some (.d (gP b))],rfl,?_⟩
   unfold lY
   generalize hL:((((cU i).take j).flatMap fun b=>[b++[false],b++[true]]).map gP)=L
   have hLl:L.length≤2048:=by
    rw[←hL,List.length_map,List.length_flatMap]
    have:((cU i).take j).map (fun b=>[b++[false],b++[true]].length)=((cU i).take j).map fun _=>2:=rfl
    rw[this,List.map_const',List.sum_replicate_nat,List.length_take]
    omega
   have add:∀(x:Bool) (δ:ax),ae 4 δ= .ok (gP b)→e2 mK (ae 4) (fk (az (eC (bI x)) aW)) δ= .ok (gP (b++[x])):=fun x δ h4=>by
    refine aw (a:=gP b) (b:= .tup [bI x]) h4 (dH rfl (by simp;omega)) ?_
    show R.bV (decide ((b.map bI).length+[bI x].length≤sizeLine)) _=_
    rw[cD _ (by rw[List.length_map];simp;omega)]
    unfold gP
    rw[List.map_append];rfl
   refine aF <| j7 (k:=U.length) rfl ⟨_,bc _ _⟩ <| cy (d:=gP (b++[false])) (add false _ rfl) ⟨_,_,rfl,bc _ _,by omega,_,rfl,?_⟩
   rw[dw]
   refine j7 (k:=U.length) rfl ⟨_,bc _ _⟩ <| cy (d:=gP (b++[true])) (add true _ rfl) ⟨_,_,rfl,bc _ _,by rw[List.length_append];simp;omega,_,rfl,⟨_,rfl⟩,?_⟩
   rw[dw,List.take_add_one,hb,List.flatMap_append,List.map_append,hL]
   simp
  rw[List.length_map,List.length_map,List.take_length] at hS3
  subst hδ3 hS3
  refine bj (by simp only[List.length_cons,List.length_nil,List.length_set];omega) <| w_var (v:= .loc U.length) rfl ⟨_,rfl,T++[SO.iH],some v,some (.loc U.length),b4,?_,?_⟩
  ·rw[←hU,List.append_assoc S];rfl
  ·rw[←hU,List.append_assoc S];rfl
 have hlen:((e_ 0 c).map V3.d).length=c:=by simp [e_]
 rw[hlen] at hS2
 subst hδ hS2
 unfold aE
 refine fN (w_var rfl ⟨_,rfl,by unfold gQ;exact decide_eq_true (by rw[List.length_append];omega),⟨T++[.lst ((cU c).map gP)],by rw[List.append_assoc]⟩,_,by unfold res;rw [bc],h⟩)
end K21
end
section
set_option maxRecDepth 100000
set_option maxHeartbeats 4000000
namespace K21
open PySem PySem.Spec PyProof.Rows L2 L3 MT
noncomputable def sI(c j:Nat):M:=fun p=>((cU c).getD p []).getD j false
noncomputable def iy(c:Nat):List M:=(List.range c).map (sI c)
theorem GR{b:List Bool}{j:Nat}(h:j < b.length):bZ (gP b) (.int j)= .ok (bI (b.getD j false)):=by
 refine rm ?_
 rw[mZ (by omega) (by rw[List.length_map,Int.toNat_natCast];exact h)]
 rw[List.getD_eq_getElem?_getD,List.getElem?_eq_getElem h]
 simp
theorem x6{c j:Nat}(hc:c≤10)(hj:j < c):i5 [.lst ((cU c).map gP), .int j]= .ok (mI (2 ^ c) (sI c j)):=by
 have hz:sizeLine=16777216:=sizeLine_eq
 have hp:2 ^ c≤1024:=Nat.pow_le_pow_right (by omega) hc
 unfold i5 tm
 refine d9 (cZ (bp (ds:=[.lst (((cU c).map fun b=>b.getD j false).map bI)]) (aZ (eu (dN (ds:=(cU c).map gP) rfl (by rw[List.length_map,dW];omega) ?_)) rfl) ?_))
 ·rw[List.map_map]
  exact NT.er gP _ fun b hb=>⟨[.val (gP b), .val (.int j)],rfl,rfl,aw (a:=gP b) (b:= .int j) rfl rfl (GR (by rw[oW c b hb];exact hj))⟩
 ·rw[rh (by rw[List.length_map,dW];omega),By,List.length_map,dW]
  unfold mI
  congr 3
  refine ml fun p hp'=>?_
  unfold sI
  rw[List.getD_eq_getElem?_getD,List.getElem?_map,List.getD_eq_getElem?_getD (l:=cU c),List.getElem?_eq_getElem (by rw[dW];exact hp')]
  rfl
section
variable {c:Nat} {ins:List (Str × Nat)} {gs:List Gt} {os:List (Str × List Nat)}
noncomputable abbrev BW:=Str.ofString "net"
noncomputable abbrev zc:=Str.ofString "many_inputs"
noncomputable abbrev t7:=Str.ofString "full"
noncomputable abbrev oZ:=Str.ofString "in_masks"
noncomputable def ft(c:Nat)(nt:D):List (Str × V3):=[(BW, .d nt),(zc, .d (nI (2 ^ c))),(t7, .d (mI (2 ^ c) one)),(oZ, .d (.lst ((iy c).map (mI (2 ^ c)))))]
theorem Eu{S:aN}(hc:ins.length=c)(hc1:c≤10)(hS:ll (S++[.ins 0 []])){Q:V3→aN→Prop}(h:Q (.d .di) (S++[.ins 0 (ft c (bM ins gs os))])) :
 W3 (cP [.loc S.length, .d (bM ins gs os)] (S++[.ins 0 []])) Q:=by
 have hz:sizeLine=16777216:=sizeLine_eq
 have hp:2 ^ c≤1024:=Nat.pow_le_pow_right (by omega) hc1
 unfold cP
 refine IH rfl ?_
 simp only[bS,de,List.map_cons,List.map_nil,List.length_cons,List.length_nil,List.replicate,List.cons_append,List.nil_append,Nat.reduceAdd,Nat.reduceSub]
 unfold gW
 refine aF <| bj (by simp only[List.length_cons,List.length_nil,List.length_set];omega) <| cV <| aA <| cy (d:=nI c) (bp (ds:=[.lst (ins.map inD)]) rfl (by rw[qd,List.length_map,hc];rfl)) <| cu <| sJ hc1 hS ⟨_,rfl,?_⟩
 simp only[List.set_cons_succ,List.set_cons_zero]
 refine aF <| jl (k:=S.length) <| cy (d:=bM ins gs os) rfl <| w_var (v:= .loc S.length) rfl ⟨_,rfl,bc _ _,by simp,_,rfl,?_⟩
 rw[dw]
 refine aF <| jl (k:=S.length) <| cy (d:=nI (2 ^ c)) (bp (ds:=[.lst ((cU c).map gP)]) rfl (by rw[qd,List.length_map,dW];rfl)) <| w_var (v:= .loc S.length) rfl ⟨_,rfl,bc _ _,by unfold wy;simp,_,rfl,?_⟩
 rw[dw]
 refine aF <| jl (k:=S.length) <| cy (d:=mI (2 ^ c) one) (bp (ds:=[.lst (((cU c).map fun _=>true).map bI)]) (aZ (eu (dN (ds:=(cU c).map gP) rfl (by rw[List.length_map,dW];omega) ?_)) rfl) ?_) <| w_var (v:= .loc S.length) rfl ⟨_,rfl,bc _ _,?_,_,rfl,?_⟩
 ·rw[List.map_map]
  exact NT.er gP _ fun b hb=>⟨[.val (gP b)],rfl,rfl,rfl⟩
 ·rw[rh (by rw[List.length_map,dW];omega),By,List.length_map,dW]
  unfold mI
  congr 3
  refine ml fun p hp'=>?_
  rw[List.getD_eq_getElem?_getD,List.getElem?_map,List.getElem?_eq_getElem (by rw[dW];exact hp')]
  rfl
 ·exact(by decide:2 < 1000)
 rw[dw]
 refine jl (k:=S.length) <| cy (d:= .lst ((iy c).map (mI (2 ^ c)))) (eu (dN (ds:=e_ 0 c) (kJ (n:=c) (bp (ds:=[.lst (ins.map inD)]) rfl (by rw[qd,List.length_map,hc])) (by omega)) (by simp [e_];omega) ?_)) <| w_var (v:= .loc S.length) rfl ⟨_,rfl,bc _ _,?_,_,rfl,?_⟩
 ·unfold iy
  rw[List.map_map]
  unfold e_
  refine NT.er (fun i:Nat=>D.int (0+(i:Int))) _ fun j hj=>⟨[.val (.int (0+(j:Int))), .val (.lst ((cU c).map gP))],rfl,rfl,bp (ds:=[.lst ((cU c).map gP), .int j]) ?_ (x6 hc1 (List.mem_range.mp hj))⟩
  rw[Int.zero_add]
  rfl
 ·exact(by decide:3 < 1000)
 rw[dw]
 exact h
end
end K21
end
section
set_option maxRecDepth 100000
set_option maxHeartbeats 4000000
namespace K21
open PySem PySem.Spec PyProof.Rows L2 L3 MT
section
variable {c:Nat} {ins:List (Str × Nat)} {gs:List Gt} {os:List (Str × List Nat)} {S:aN} {k:Nat} {turned bad:List Int}
theorem Ly:(t7==BW)=false:=by decide+kernel
theorem Lr:(t7==zc)=false:=by decide+kernel
theorem LH:(oZ==BW)=false:=by decide+kernel
theorem LR:(oZ==zc)=false:=by decide+kernel
theorem L6:(oZ==t7)=false:=by decide+kernel
theorem BD{nt:D}:(ft c nt).lookup BW=some (.d nt):=by unfold ft;rw [List.lookup_cons,beq_self_eq_true]
theorem yS{nt:D}:(ft c nt).lookup t7=some (.d (mI (2 ^ c) one)):=by unfold ft;rw [List.lookup_cons,Ly,List.lookup_cons,Lr,List.lookup_cons,beq_self_eq_true]
theorem Cw{nt:D}:(ft c nt).lookup oZ=some (.d (.lst ((iy c).map (mI (2 ^ c))))):=by unfold ft;rw [List.lookup_cons,LH,List.lookup_cons,LR,List.lookup_cons,L6,List.lookup_cons,beq_self_eq_true]
theorem lW:(iy c).length=c:=by unfold iy;simp
noncomputable abbrev Wd(c:Nat)(ins:List (Str × Nat))(gs:List Gt)(turned bad:List Int):List M:=C4 ins gs (iy c) turned bad
theorem Gw(m:Str)(nt:D)(h1:(m==BW)=false)(h2:(m==zc)=false)(h3:(m==t7)=false)(h4:(m==oZ)=false):(ft c nt).lookup m=none:=by unfold ft;rw [List.lookup_cons,h1,List.lookup_cons,h2,List.lookup_cons,h3,List.lookup_cons,h4];rfl
theorem Bn(NO:j0 ins gs os)(hc:ins.length=c)(hS:ll S)(hb:S[k]? =some (.ins 0 (ft c (bM ins gs os)))){Q:V3→aN→Prop}(h:Q (.d (.lst (nc (2 ^ c) os (Wd c ins gs turned bad)))) S) :
 W3 (fA [.loc k, .d (.tup (turned.map .int)), .d (.tup (bad.map .int))] S) Q:=by
 have hz:sizeLine=16777216:=sizeLine_eq
 unfold fA
 refine lQ hS (sQ rfl ?_)
 simp only[bS,ig,List.map_cons,List.map_nil,List.length_cons,List.length_nil,List.replicate,List.cons_append,List.nil_append,Nat.reduceAdd,Nat.reduceSub]
 unfold jS
 have hl:(iy c).length=ins.length:=by rw[lW,hc]
 refine fN <| cV <| aA <| w_fld (k:=k) <| w_var (v:= .loc k) rfl ⟨_,_,rfl,hb,BD,?_⟩
 refine aA <| cV <| aA <| w_fld (k:=k) <| w_var (v:= .loc k) rfl ⟨_,_,rfl,hb,BD,?_⟩
 refine aA <| w_fld (k:=k) <| w_var (v:= .loc k) rfl ⟨_,_,rfl,hb,Cw,?_⟩
 refine aA <| w_fld (k:=k) <| w_var (v:= .loc k) rfl ⟨_,_,rfl,hb,yS,?_⟩
 refine aA <| cy (d:= .tup (turned.map .int)) rfl <| aA <| cy (d:= .tup (bad.map .int)) rfl <| cu ?_
 refine AD (.inl rfl) NO hl hS (cu ?_)
 refine D9 NO.ho (fun x hx=>⟨(NO.o x hx).1,fun w hw=>by rw[wo hl];exact(NO.o x hx).2 w hw⟩) hS ?_
 exact⟨_,rfl,by unfold gQ;rfl,⟨[],by simp⟩,_,by unfold res;rfl,h⟩
noncomputable def Eo(N:Nat)(os:List (Str × List Nat))(ws:List M):List D:=os.map fun x=> .tup [mI N (r0 (tell ws x)),mI N (r1 (tell ws x))]
theorem pF(NO:j0 ins gs os)(hc:ins.length=c)(ho:∀x∈os,1≤x.2.length∧x.2.length≤3)(hS:ll S)(hb:S[k]? =some (.ins 0 (ft c (bM ins gs os)))){Q:V3→aN→Prop}(h:Q (.d (.lst (Eo (2 ^ c) os (Wd c ins gs turned [])))) S) :
 W3 (cH [.loc k, .d (.tup (turned.map .int))] S) Q:=by
 have hz:sizeLine=16777216:=sizeLine_eq
 have hO:=NO.ho
 unfold cH
 refine lQ hS (sQ rfl ?_)
 simp only[bS,d3,List.map_cons,List.map_nil,List.length_cons,List.length_nil,List.replicate,List.cons_append,List.nil_append,Nat.reduceAdd,Nat.reduceSub]
 unfold gZ
 refine fN <| md (fun j ds S2=>S2=S∧ds=(Eo (2 ^ c) os (Wd c ins gs turned [])).take j) ?_
 refine uW <| uE (k:=k) <| w_var (v:= .loc k) rfl ⟨_,rfl,hb,Gw _ _ (by decide+kernel) (by decide+kernel) (by decide+kernel) (by decide+kernel),?_⟩
 refine aA <| cy (d:= .tup (turned.map .int)) rfl <| aA <| cy (d:= .tup (([]:List Int).map .int)) rfl <| cu ?_
 refine Bn NO hc hS hb ⟨_,rfl,?_,⟨rfl,by simp⟩,?_,?_⟩
 ·rw[List.length_map,nc,List.length_map];omega
 ·rintro j v ds S2 hv ⟨rfl,rfl⟩
  rw[nc] at hv
  obtain⟨x,hx,rfl⟩:=NT.jV hv
  refine⟨[some (.d (.tup ((tell (Wd c ins gs turned []) x).map (mI (2 ^ c))))),some (.loc k)],rfl,tJ ?_⟩
  rw[if_pos rfl]
  refine qu <| aA <| cy (d:= .tup ((tell (Wd c ins gs turned []) x).map (mI (2 ^ c)))) rfl <| aA <| w_fld (k:=k) <| w_var (v:= .loc k) rfl ⟨_,_,rfl,hb,yS,cu ⟨[.tup ((tell (Wd c ins gs turned []) x).map (mI (2 ^ c))),mI (2 ^ c) one],_,rfl,xG ?_,_,rfl,rfl,?_⟩⟩
  ·unfold tell;rw [List.length_map];exact ho x (List.mem_of_getElem? hx)
  ·unfold Eo
   rw[List.take_add_one,List.getElem?_map,hx]
   rfl
 ·rintro ds S2 ⟨rfl,rfl⟩
  rw[List.length_map,nc,List.length_map,List.take_of_length_le (by rw[Eo,List.length_map];exact Nat.le_refl _)]
  exact⟨_,rfl,by unfold gQ;rfl,⟨[],by simp⟩,_,by unfold res;rfl,h⟩
end
end K21
end
section
set_option maxRecDepth 100000
set_option maxHeartbeats 4000000
namespace K21
open PySem PySem.Spec PyProof.Rows L2 L3 MT
noncomputable def aU(T:List Nat):D:= .tup (T.map nI)
theorem EI{ps:List Nat}{a:Nat}(ha:a < ps.length):H_ (.lst (ps.map nI)) (some ((a+1:Nat):Int)) none= .ok (.lst ((ps.drop (a+1)).map nI)):=by
 show R.ok (D.lst (L2.cutD (ps.map nI) (some ((a+1:Nat):Int)) none))=_
 congr 2
 unfold L2.cutD
 rw[List.length_map,HT.y3,HT.vw,Nat.min_eq_left (by omega),←List.map_drop,←List.map_take,List.take_of_length_le (by rw[List.length_drop];omega)]
theorem B9{ds es:List D}(h:ds.length+es.length≤sizeLine):mK (.tup ds) (.tup es)= .ok (.tup (ds++es)):=cD _ h
theorem rY:∀(n s:Nat) (ps:List Nat),s≤n→n≤3→ps.length≤100→d6 (n+1) [.lst (ps.map nI), .int s]= .ok (.lst ((iB ps s).map aU))
 | n,0,ps,_,_,_=>by
   show oY jY (kh (d6 n)) _=_
   unfold kh
   exact d9 (NT.mj (qx (f_ (a:= .int 0) (b:= .int 0) rfl rfl rfl) (cZ rfl)))
 | 0,s+1,ps,h,_,_=>by omega
 | n+1,s+1,ps,h,hn,hp=>by
   have hz:sizeLine=16777216:=sizeLine_eq
   show oY jY (kh (d6 (n+1))) _=_
   unfold kh
   have hcl:(iB ps (s+1)).length≤100 ^ (s+1):=ql hp
   have hpow:∀m,m≤3→(100:Nat) ^ m≤1000000:=fun m hm=>Nat.pow_le_pow_right (by omega) hm
   refine d9 (bY (jr (f_ (a:= .int (s+1:Nat)) (b:= .int 0) (k:=false) rfl rfl ?_) rfl) ?_)
   ·show R.ok (D.bl (((s+1:Nat):Int)==0))=_
    congr 2
   refine bY (zy (ds:=[]) rfl (by simp [dj,jY])) ?_
   let F:Nat→List (List Nat):=fun i=>(List.range i).flatMap fun a=>(iB (ps.drop (a+1)) s).map (ps.getD a 0 ::·)
   have hF:∀i,i≤ps.length→(F i).length≤i*100 ^ s:=fun i hi=>by
    show((List.range i).flatMap fun a=>(iB (ps.drop (a+1)) s).map (ps.getD a 0 ::·)).length≤_
    rw[List.length_flatMap]
    refine Nat.le_trans (xy (m:=100 ^ s) fun x hx=>?_) (by rw[List.length_map,List.length_range];exact Nat.le_refl _)
    obtain⟨a,_,rfl⟩:=List.mem_map.mp hx
    rw[List.length_map]
    exact ql (by rw[List.length_drop];omega)
   have hFs:∀i,F (i+1)=F i++(iB (ps.drop (i+1)) s).map (ps.getD i 0 ::·):=fun i=>by
    show(List.range (i+1)).flatMap _=_
    rw[List.range_succ,List.flatMap_append]
    simp [F]
   obtain⟨δ1,e1,a3,a4,a5,hδ1⟩:=i3 (t:=dF 2 (bw (aR 3) (bw (aR 4) dG))) (body:=lr (d6 (n+1))) (ds:=cG (ps.map nI))
    (fun i δ=>∃a3 a4 a5,δ=[.val (.lst (ps.map nI)), .val (.int (s+1:Nat)), .bld ((F i).map aU),a3,a4,a5]) (δ:=[.val (.lst (ps.map nI)), .val (.int (s+1:Nat)), .bld [], .un, .un, .un]) ⟨.un, .un, .un,by simp [F]⟩ (by
      rintro i d δ hd ⟨a3,a4,a5,rfl⟩
      have hv:((cG (ps.map nI)).map V3.d)[i]? =some (.d d):=by rw[List.getElem?_map,hd];rfl
      obtain⟨d0,hd0,ed⟩:=mh hv
      cases ed
      obtain⟨x,hx,rfl⟩:=NT.ma hd0
      have hil:=(List.getElem?_eq_some_iff.mp hx).1
      have hxd:ps.getD i 0=x:=by rw[List.getD_eq_getElem?_getD,hx];rfl
      have hFi:=hF i (by omega)
      have hFb:i*100 ^ s≤100*100 ^ s:=Nat.mul_le_mul_right _ (by omega)
      have hp2:=hpow (s+1) (by omega)
      rw[Nat.pow_succ,Nat.mul_comm] at hp2
      rw[show dF 2 (bw (aR 3) (bw (aR 4) dG)) (.tup [.int i,nI x]) [.val (.lst (ps.map nI)), .val (.int (s+1:Nat)), .bld ((F i).map aU),a3,a4,a5]= .ok [.val (.lst (ps.map nI)), .val (.int (s+1:Nat)), .bld ((F i).map aU), .val (.int i), .val (nI x),a5] from rfl,R.aY]
      unfold lr
      have ihc:=rY n s (ps.drop (i+1)) (by omega) (by omega) (by rw[List.length_drop];omega)
      have hdl:(iB (ps.drop (i+1)) s).length≤100 ^ s:=ql (by rw[List.length_drop];omega)
      obtain⟨δ2,e2',c5,hδ2⟩:=i3 (t:=aR 5) (body:=lN (d6 (n+1))) (ds:=(iB (ps.drop (i+1)) s).map aU)
       (fun j δ=>∃c5,δ=[.val (.lst (ps.map nI)), .val (.int (s+1:Nat)), .bld ((F i++((iB (ps.drop (i+1)) s).take j).map (x ::·)).map aU), .val (.int i), .val (nI x),c5]) (δ:=[.val (.lst (ps.map nI)), .val (.int (s+1:Nat)), .bld ((F i).map aU), .val (.int i), .val (nI x),a5]) ⟨a5,by simp⟩ (by
         rintro j d δ hd ⟨c5,rfl⟩
         obtain⟨T,hT,rfl⟩:=NT.ma hd
         have hjl:=(List.getElem?_eq_some_iff.mp hT).1
         have hTl:=(nv (List.mem_of_getElem? hT)).1
         refine⟨[.val (.lst (ps.map nI)), .val (.int (s+1:Nat)), .bld ((F i++((iB (ps.drop (i+1)) s).take (j+1)).map (x ::·)).map aU), .val (.int i), .val (nI x), .val (aU T)],?_,⟨_,rfl⟩⟩
         generalize hL:(F i++((iB (ps.drop (i+1)) s).take j).map (x ::·)).map aU=L
         have hLl:L.length < sizeLine:=by
          rw[←hL,List.length_map,List.length_append,List.length_map,List.length_take]
          omega
         rw[show aR 5 (aU T) [.val (.lst (ps.map nI)), .val (.int (s+1:Nat)), .bld L, .val (.int i), .val (nI x),c5]= .ok [.val (.lst (ps.map nI)), .val (.int (s+1:Nat)), .bld L, .val (.int i), .val (nI x), .val (aU T)] from rfl,R.aY]
         unfold lN
         rw[EK (d:=aU (x ::T)) (ds:=L) (aw (a:= .tup [nI x]) (b:=aU T) (dH rfl (by simp;omega)) rfl (B9 (by rw[List.length_map];simp;omega))) rfl hLl,←hL,List.take_add_one,hT]
         simp [aU])
      refine⟨_,me (ds:=(iB (ps.drop (i+1)) s).map aU) (kC (bp (ds:=[.lst ((ps.drop (i+1)).map nI), .int s]) (aZ (x4 (d:= .lst (ps.map nI)) (lo:=some ((i+1:Nat):Int)) (hi:=none) rfl (A9 (aw (a:= .int i) (b:= .int 1) rfl rfl rfl)) rfl (EI hil)) (aZ (aw (a:= .int (s+1:Nat)) (b:= .int 1) rfl rfl ?_) rfl)) ihc)) e2',?_⟩
      ·show R.ok (D.int (((s+1:Nat):Int) - 1))=_
       congr 2
       omega
      ·rw[List.length_map,List.take_length] at hδ2
       refine⟨.val (.int i), .val (nI x),c5,?_⟩
       rw[hδ2,hFs,hxd])
   refine bY (me (ds:=cG (ps.map nI)) rfl e1) ?_
   have hlen:(cG (ps.map nI)).length=ps.length:=by simp [cG]
   rw[hlen] at hδ1
   subst hδ1
   exact cZ rfl
end K21
end
section
set_option maxRecDepth 100000
set_option maxHeartbeats 4000000
namespace K21
open PySem PySem.Spec PyProof.Rows L2 L3 MT
section
variable {c:Nat} {ins:List (Str × Nat)} {gs:List Gt} {os:List (Str × List Nat)} {S:aN} {k:Nat} {turned:List Int} {safe:Bool}
noncomputable abbrev nh:=Str.ofString "bench"
noncomputable abbrev rR:=Str.ofString "plain"
noncomputable abbrev n5:=Str.ofString "unsure"
noncomputable def l_(gs:List Gt):List Nat:=(List.range gs.length).filter fun i=>match gs[i]? with | some g=>!g.2.2 | none=>false
noncomputable def ia(c:Nat)(ins:List (Str × Nat))(gs:List Gt)(os:List (Str × List Nat))(b:Nat):List (Str × V3):=[(nh, .loc b),(rR, .d (.lst (Eo (2 ^ c) os (Wd c ins gs [] [])))),(n5, .d (.lst ((l_ gs).map nI)))]
theorem Lm:(rR==nh)=false:=by decide+kernel
theorem LB:(n5==nh)=false:=by decide+kernel
theorem LZ:(n5==rR)=false:=by decide+kernel
theorem AL{b:Nat}:(ia c ins gs os b).lookup nh=some (.loc b):=by unfold ia;rw [List.lookup_cons,beq_self_eq_true]
theorem AS{b:Nat}:(ia c ins gs os b).lookup rR=some (.d (.lst (Eo (2 ^ c) os (Wd c ins gs [] [])))):=by unfold ia;rw [List.lookup_cons,Lm,List.lookup_cons,beq_self_eq_true]
theorem G8{b:Nat}:(ia c ins gs os b).lookup n5=some (.d (.lst ((l_ gs).map nI))):=by unfold ia;rw [List.lookup_cons,LB,List.lookup_cons,LZ,List.lookup_cons,beq_self_eq_true]
theorem HM{b:Nat}(m:Str)(h1:(m==nh)=false)(h2:(m==rR)=false)(h3:(m==n5)=false):(ia c ins gs os b).lookup m=none:=by unfold ia;rw [List.lookup_cons,h1,List.lookup_cons,h2,List.lookup_cons,h3];rfl
noncomputable def TS(S:aN)(c:Nat)(ins:List (Str × Nat))(gs:List Gt)(os:List (Str × List Nat)):aN:=S++[.ins 1 (ia c ins gs os (S.length+1)), .ins 0 (ft c (bM ins gs os))]
mutual
theorem yo{n m:Nat}(h:n≤m):∀v:V3,lF n v=true→lF m v=true
 | .d _,_=>by unfold lF;rfl
 | .loc k,q=>by
   unfold lF at q ⊢
   exact decide_eq_true (Nat.lt_of_lt_of_le (of_decide_eq_true q) h)
 | .lst vs,q=>by unfold lF at q ⊢;exact jN h vs q
 | .tup vs,q=>by unfold lF at q ⊢;exact jN h vs q
theorem jN{n m:Nat}(h:n≤m):∀vs:List V3,jg n vs=true→jg m vs=true
 | [],_=>by unfold jg;rfl
 | v ::vs,q=>by
   unfold jg at q ⊢
   rw[Bool.and_eq_true] at q ⊢
   exact⟨yo h v q.1,jN h vs q.2⟩
end
theorem tY{n m:Nat}(h:n≤m)(o:SO)(q:mC n o=true):mC m o=true:=by
 cases o with
 | ins k fs=>exact jN h _ q
 | _=>rfl
theorem ll.push{S:aN}(hS:ll S){x:SO}(hx:∀n,mC n x=true):ll (S++[x]):=fun o ho=>by
 rcases List.mem_append.mp ho with q | q
 ·exact tY (by simp) o (hS o q)
 ·rw[List.mem_singleton.mp q];exact hx _
theorem ll.set{S:aN}(hS:ll S)(k:Nat){x:SO}(hx:∀n,mC n x=true):ll (S.set k x):=fun o ho=>by
 rw[List.length_set]
 rcases List.mem_or_eq_of_mem_set ho with q | q
 ·exact hS o q
 ·rw[q];exact hx _
theorem GG{S:aN}(hS:ll S){x y:SO}(hx:mC (S.length+2) x=true)(hy:mC (S.length+2) y=true):ll (S++[x,y]):=fun o ho=>by
 rw[show(S++[x,y]).length=S.length+2 by simp]
 rcases List.mem_append.mp ho with q | q
 ·exact tY (by omega) o (hS o q)
 ·simp only[List.mem_cons,List.not_mem_nil,or_false] at q
  rcases q with rfl | rfl
  ·exact hx
  ·exact hy
theorem wJ{δ:ax}(hg:gs.length < 1000)(h1:ae 1 δ= .ok (bM ins gs os)):eH (eO (e2 bZ (ae 1) (eC (.int 1)))) (dF 2 (bw (aR 0) (bw (aR 1) dG))) (ke (iX (e2 bZ (ae 1) (eC (.int 2))))) (ae 0) [(Str.ofString "place"),(Str.ofString "gate")] [] δ= .ok ((l_ gs).map nI):=by
 have hz:sizeLine=16777216:=sizeLine_eq
 refine dN (ds:=cG (gs.map kl)) (ur (aw (a:=bM ins gs os) (b:= .int 1) h1 rfl rfl)) (by simp [cG];omega) ?_
 have e:cG (gs.map kl)=(List.range gs.length).map fun i=> .tup [.int i,kl (gs.getD i (0,[],false))]:=by
  refine List.ext_getElem? fun i=>?_
  rw[List.getElem?_map,cG,List.getElem?_map,List.getElem?_zipIdx,List.getElem?_map]
  by_cases q:i < gs.length
  ·rw[List.getElem?_eq_getElem q,List.getElem?_range q]
   show some (D.tup [.int ((0+i:Nat):Int),kl gs[i]])=some (D.tup [.int i,kl (gs.getD i (0,[],false))])
   rw[Nat.zero_add,List.getD_eq_getElem?_getD,List.getElem?_eq_getElem q];rfl
  ·rw[List.getElem?_eq_none (by omega),List.getElem?_eq_none (by simp;omega)];rfl
 rw[e]
 unfold l_
 refine NT.ic (fun i:Nat=>match gs[i]? with | some g=>!g.2.2 | none=>false) (fun i:Nat=>D.tup [.int i,kl (gs.getD i (0,[],false))]) nI fun i hi=>?_
 rw[List.mem_range] at hi
 refine⟨[.val (.int i), .val (kl (gs.getD i (0,[],false)))],rfl,?_,fun _=>rfl⟩
 rw[List.getElem?_eq_getElem hi,List.getD_eq_getElem?_getD,List.getElem?_eq_getElem hi]
 rfl
theorem Bm(NO:j0 ins gs os)(hc:ins.length=c)(hc1:c≤10)(ho:∀x∈os,1≤x.2.length∧x.2.length≤3)(hS:ll S){Q:V3→aN→Prop}(h:Q (.d .di) (TS S c ins gs os)) :
 W3 (cO [.loc S.length, .d (bM ins gs os)] (S++[.ins 1 []])) Q:=by
 have hz:sizeLine=16777216:=sizeLine_eq
 unfold cO
 refine IH rfl ?_
 simp only[bS,d4,List.map_cons,List.map_nil,List.length_cons,List.length_nil,List.replicate,List.cons_append,List.nil_append,Nat.reduceAdd,Nat.reduceSub]
 unfold h_
 have l1:(S++[SO.ins 1 []]).length=S.length+1:=by simp
 have g0:∀(x y:SO),(S++[x,y])[S.length]? =some x:=fun x y=>by rw[List.getElem?_append_right (Nat.le_refl _),Nat.sub_self];rfl
 have g1:∀(x y:SO),(S++[x,y])[S.length+1]? =some y:=fun x y=>by rw[List.getElem?_append_right (by omega),show S.length+1 - S.length=1 by omega];rfl
 have st:∀(x y z:SO),(S++[x,y]).set S.length z=S++[z,y]:=fun x y z=>by rw[List.set_append_right _ _ (Nat.le_refl _),Nat.sub_self];rfl
 have ap:∀(x y:SO),S++[x]++[y]=S++[x,y]:=fun x y=>by simp
 refine aF <| jl (k:=S.length) <| AE <| aA <| cy (d:=bM ins gs os) rfl <| cu <| Eu hc hc1 ?_ ⟨rfl,?_⟩
 ·rw[ap];exact GG hS rfl rfl
 rw[ap]
 refine w_var (v:= .loc S.length) rfl ⟨_,rfl,g0 _ _,by simp,_,rfl,?_⟩
 rw[st,l1]
 have hcl:∀fs:List (Str × V3),jg (S.length+2) (fs.map (·.2))=true→ll (S++[.ins 1 fs, .ins 0 (ft c (bM ins gs os))]):=fun fs hf=>GG hS hf rfl
 refine aF <| jl (k:=S.length) <| uE (k:=S.length+1) <| w_fld (k:=S.length) <| w_var (v:= .loc S.length) rfl ⟨_,_,rfl,g0 _ _,(by show List.lookup nh [(nh,V3.loc (S.length+1))]=_;rw [List.lookup_cons,beq_self_eq_true]),_,rfl,g1 _ _,Gw _ _ (by decide+kernel) (by decide+kernel) (by decide+kernel) (by decide+kernel),?_⟩
 refine aA <| cy (d:= .tup (([]:List Int).map .int)) rfl <| cu <| pF NO hc ho (hcl _ ?_) (g1 _ _) ?_
 ·show(decide (S.length+1 < S.length+2) && true)=true
  rw[decide_eq_true (by omega)];rfl
 refine w_var (v:= .loc S.length) rfl ⟨_,rfl,g0 _ _,(by decide:1 < 1000),_,rfl,?_⟩
 rw[st]
 refine jl (k:=S.length) <| cy (d:= .lst ((l_ gs).map nI)) (eu (wJ NO.hg rfl)) <| w_var (v:= .loc S.length) rfl ⟨_,rfl,g0 _ _,?_,_,rfl,?_⟩
 ·exact(by decide:2 < 1000)
 rw[st]
 exact h
noncomputable def k6(safe:Bool):Str:=if safe then Str.ofString "safe" else Str.ofString "right"
noncomputable def pt(ws:List M)(x:Str × List Nat)(p:Nat):Bool × Bool:=FI ((tell ws x).map (· p))
noncomputable def HH(safe:Bool)(c:Nat)(ins:List (Str × Nat))(gs:List Gt)(os:List (Str × List Nat))(turned:List Int):M:=fun p=>os.any fun x=>brk safe (pt (Wd c ins gs [] []) x p) (pt (Wd c ins gs turned []) x p)
theorem z0{b:Nat}(NO:j0 ins gs os)(hc:ins.length=c)(ho:∀x∈os,1≤x.2.length∧x.2.length≤3)(hS:ll S)(hk:S[k]? =some (.ins 1 (ia c ins gs os b)))(hb:S[b]? =some (.ins 0 (ft c (bM ins gs os)))){Q:V3→aN→Prop}
 (h:Q (.d (mI (2 ^ c) (HH safe c ins gs os turned))) S):W3 (dh [.loc k, .d (.tup (turned.map .int)), .d (.str (k6 safe))] S) Q:=by
 have hz:sizeLine=16777216:=sizeLine_eq
 unfold dh
 refine lQ hS (sQ rfl ?_)
 simp only[bS,eR,List.map_cons,List.map_nil,List.length_cons,List.length_nil,List.replicate,List.cons_append,List.nil_append,Nat.reduceAdd,Nat.reduceSub]
 unfold gq
 have h0:D.int 0=mI (2 ^ c) fun _=>false:=by
  unfold mI
  rw[vJ.mpr fun _ _=>rfl];rfl
 refine aF <| bj (by simp only[List.length_cons,List.length_nil,List.length_set];omega) <| cy (d:=mI (2 ^ c) fun _=>false) (by rw[←h0];rfl) ⟨_,rfl,?_⟩
 simp only[List.set_cons_succ,List.set_cons_zero]
 refine aF <| gR <| IB <| w_fld (k:=k) <| w_var (v:= .loc k) rfl ⟨_,_,rfl,hk,AS,?_⟩
 refine uE (k:=b) <| w_fld (k:=k) <| w_var (v:= .loc k) rfl ⟨_,_,rfl,hk,AL,_,rfl,hb,Gw _ _ (by decide+kernel) (by decide+kernel) (by decide+kernel) (by decide+kernel),?_⟩
 refine aA <| cy (d:= .tup (turned.map .int)) rfl <| cu <| pF NO hc ho hS hb ⟨_,_,_,_,rfl,rfl,rfl,rfl,?_⟩
 have hzip:oJ (Eo (2 ^ c) os (Wd c ins gs [] [])) (Eo (2 ^ c) os (Wd c ins gs turned []))=os.map fun x=> .tup [.tup [mI (2 ^ c) (r0 (tell (Wd c ins gs [] []) x)),mI (2 ^ c) (r1 (tell (Wd c ins gs [] []) x))], .tup [mI (2 ^ c) (r0 (tell (Wd c ins gs turned []) x)),mI (2 ^ c) (r1 (tell (Wd c ins gs turned []) x))]]:=by
  unfold oJ Eo
  rw[List.zip_map',List.map_map];rfl
 rw[hzip]
 refine(b_ (fun i δ S2=>S2=S∧∃a4 a5,δ=[some (.loc k),some (.d (.tup (turned.map .int))),some (.d (.str (k6 safe))),some (.d (mI (2 ^ c) fun p=>(os.take i).any fun x=>brk safe (pt (Wd c ins gs [] []) x p) (pt (Wd c ins gs turned []) x p))),a4,a5])
  ⟨rfl,none,none,rfl⟩ ?_).mono fun o S2 ⟨δ2,e2',hS2,a4,a5,hδ⟩=>⟨δ2,e2',?_⟩
 ·rintro i v δ S2 hv ⟨rfl,a4,a5,rfl⟩
  obtain⟨x,hx,rfl⟩:=NT.jV hv
  generalize hm:(fun p=>(os.take i).any fun x=>brk safe (pt (Wd c ins gs [] []) x p) (pt (Wd c ins gs turned []) x p))=m
  have hnext:(fun p=>(os.take (i+1)).any fun x=>brk safe (pt (Wd c ins gs [] []) x p) (pt (Wd c ins gs turned []) x p))=fun p=>m p || brk safe (pt (Wd c ins gs [] []) x p) (pt (Wd c ins gs turned []) x p):=by
   funext p
   rw[List.take_add_one,hx,List.any_append,←hm]
   simp
  rw[hnext]
  refine⟨[some (.loc k),some (.d (.tup (turned.map .int))),some (.d (.str (k6 safe))),some (.d (mI (2 ^ c) m)),some (.d (.tup [mI (2 ^ c) (r0 (tell (Wd c ins gs [] []) x)),mI (2 ^ c) (r1 (tell (Wd c ins gs [] []) x))])),some (.d (.tup [mI (2 ^ c) (r0 (tell (Wd c ins gs turned []) x)),mI (2 ^ c) (r1 (tell (Wd c ins gs turned []) x))]))],rfl,?_⟩
  unfold iS
  refine lU <| eJ (b:=safe) (f_ (a:= .str (k6 safe)) (b:= .str (Str.ofString "safe")) rfl rfl ?_) ?_
  ·show R.ok (D.bl (k6 safe==Str.ofString "safe"))=_
   congr 2
   cases safe <;> decide+kernel
  cases safe with
  | true=>
    rw[if_pos rfl]
    refine bj (by simp only[List.length_cons,List.length_nil,List.length_set];omega) <| cy (aw (aw (a:=mI (2 ^ c) m) rfl (aw (aw rfl rfl Ag) (aw rfl rfl Cq) (jj _ _ _)) (mD _ _ _)) (aw (aw rfl rfl Cq) (aw rfl rfl Ag) (jj _ _ _)) (mD _ _ _)) ⟨_,rfl,rfl,some (.d (.tup [mI (2 ^ c) (r0 (tell (Wd c ins gs [] []) x)),mI (2 ^ c) (r1 (tell (Wd c ins gs [] []) x))])),some (.d (.tup [mI (2 ^ c) (r0 (tell (Wd c ins gs turned []) x)),mI (2 ^ c) (r1 (tell (Wd c ins gs turned []) x))])),?_⟩
    simp only[List.set_cons_succ,List.set_cons_zero]
    congr 6
    refine fg fun p _=>?_
    rw[Bool.or_assoc];rfl
  | false=>
    rw[if_neg (by decide)]
    refine bj (by simp only[List.length_cons,List.length_nil,List.length_set];omega) <| cy (aw (aw (a:=mI (2 ^ c) m) rfl (aw (aw rfl rfl Ag) (aw rfl rfl Ag) (pB _ _ _)) (mD _ _ _)) (aw (aw rfl rfl Cq) (aw rfl rfl Cq) (pB _ _ _)) (mD _ _ _)) ⟨_,rfl,rfl,some (.d (.tup [mI (2 ^ c) (r0 (tell (Wd c ins gs [] []) x)),mI (2 ^ c) (r1 (tell (Wd c ins gs [] []) x))])),some (.d (.tup [mI (2 ^ c) (r0 (tell (Wd c ins gs turned []) x)),mI (2 ^ c) (r1 (tell (Wd c ins gs turned []) x))])),?_⟩
    simp only[List.set_cons_succ,List.set_cons_zero]
    congr 6
    refine fg fun p _=>?_
    rw[Bool.or_assoc];rfl
 rw[List.length_map,List.length_map,List.take_length] at hδ
 subst hδ hS2
 exact fN <| cy (d:=mI (2 ^ c) (HH safe c ins gs os turned)) rfl ⟨_,rfl,by unfold gQ;rfl,⟨[],by simp⟩,_,by unfold res;rfl,h⟩
end
end K21
end
section
set_option maxRecDepth 100000
set_option maxHeartbeats 4000000
namespace K21
open PySem PySem.Spec PyProof.Rows L2 L3 MT
noncomputable def nZ(ps:List Nat):List Int:=ps.map fun(n:Nat)=>(n:Int)
theorem Fx(ps:List Nat):(nZ ps).map D.int=ps.map nI:=by unfold nZ;rw [List.map_map];rfl
theorem Hg(ps:List Nat)(i:Nat):(nZ ps).contains (i:Int)=ps.contains i:=by
 rw[Bool.eq_iff_iff]
 unfold nZ
 simp only[List.contains_iff_mem,List.mem_map]
 exact⟨fun⟨a,ha,e⟩=>(by rw[←Int.ofNat_inj.mp e];exact ha),fun h=>⟨i,h,rfl⟩⟩
section
variable {c:Nat} {ins:List (Str × Nat)} {gs:List Gt} {os:List (Str × List Nat)} {S:aN} {k:Nat} {safe:Bool}
theorem uM:(l_ gs).length≤gs.length:=by
 unfold l_
 exact Nat.le_trans (List.length_filter_le _ _) (by rw[List.length_range];exact Nat.le_refl _)
end
end K21
end
section
set_option maxRecDepth 100000
set_option maxHeartbeats 4000000
namespace K21
open PySem PySem.Spec PyProof.Rows L2 L3 MT
theorem ky{n i:Nat}{d:D}(h:(e_ 0 n)[i]? =some d):i < n∧d= .int i:=by
 rw[e_,List.getElem?_map] at h
 cases q:(List.range n)[i]? with
 | none=>rw [q] at h;cases h
 | some j=>
   rw[q] at h;cases h
   obtain⟨q1,q2⟩:=List.getElem?_eq_some_iff.mp q
   rw[List.getElem_range] at q2
   rw[List.length_range] at q1
   subst q2
   exact⟨q1,by simp⟩
theorem FY{ds:List D}{i:Nat}{x:D}(h:ds[i]? =some x):pG ds (i:Int)=some x:=by
 obtain⟨h1,h2⟩:=List.getElem?_eq_some_iff.mp h
 rw[mZ (by omega) (by rw[Int.toNat_natCast];exact h1)]
 simp [h2]
section
variable {gs:List Gt}
end
section
variable {S:aN} {δ:DE} {k q i:Nat} {ks:List Int}
theorem CD{Q:V3→aN→Prop}{f:FD}{m:Int}(hv:δ[i]? =some (some (.loc k)))(p:u9 k S)(hf:f (cM S δ)= .ok (.int m))(hm:0 < m)(hm2:m < 1000000)
 (h:∀(r:Int) S1,0≤r→r < m→Ev k S S1→Q (.d (.int r)) S1):W3 (cb aQ (ay (bR i) (ay (xT f) cq)) δ S) Q:=
 cV (aA (w_var hv (aA (yI hf rfl (cu (uL p hm hm2 fun r S1 h1 h2 p1 hl ho=>h r S1 h1 h2 ⟨p1,hl,ho⟩))))))
theorem cX{ds:List D}(e:S[q]? =some (.lst ds)):res S (.loc q)=some (.lst ds):=by unfold res;rw [e]
theorem o5(e:S[q]? =some (.lst (ks.map .int)))(hi:δ[i]? =some (some (.loc q))):br fO (az (ae i) aW) (cM S δ)= .ok (.int ks.length):=by
 refine bp (ds:=[.lst (ks.map .int)]) (aZ ?_ rfl) (by rw[qd,List.length_map])
 unfold ae cM
 rw[List.getElem?_map,hi]
 show(match some (match res S (.loc q) with | some d=>Sl.val d | none=> .un) with | some (.val d)=>R.ok d | _=> .no)=_
 rw[cX e]
theorem EY{w:Nat}(h:w < ks.length):bZ (.lst (ks.map .int)) (nI w)= .ok (.int ks[w]):=uq (FY (by rw[List.getElem?_map,List.getElem?_eq_getElem h];rfl))
theorem Dp{own:List Str}{kp:List Nat}{it:FA}{w:Nat}{Q:V3→aN→Prop}(e:S[q]? =some (.lst (ks.map .int)))(hw:w < ks.length)(hn:ks.length < 10000)(hkp:f9 own kp δ=[none,some (.loc q),some (.d (nI w))])
 (hit:W3 (it δ S) fun vs S1=>vs=(e_ 0 ks.length).map .d∧S1=S) (h:∀l:List Nat,0 < l.length→l.length < 10000→(∀x∈l,x < ks.length∧ks.getD x 0=ks.getD w 0)→Q (.d (.lst (l.map nI))) S) :
 W3 (jm it (iR 0) (bT (b2 gO (e2 bZ (ae 1) (ae 0)) (e2 bZ (ae 1) (ae 2)))) (xP (ae 0)) own kp δ S) Q:=by
 have hz:sizeLine=16777216:=sizeLine_eq
 refine md (fun i ds S2=>S2=S∧∃l:List Nat,ds=l.map nI∧(∀x∈l,x < ks.length∧ks.getD x 0=ks.getD w 0)∧l.length≤i∧(w < i→0 < l.length)) (hit.mono fun vs S1 ⟨e1,e2'⟩=>?_)
 subst e1 e2'
 have hlen:((e_ 0 ks.length).map V3.d).length=ks.length:=by simp [e_]
 rw[hlen]
 refine⟨by omega,⟨rfl,[],rfl,by simp,by simp,by omega⟩,?_,?_⟩
 ·rintro i v ds S2 hv ⟨rfl,l,rfl,hl,hli,hw'⟩
  rw[hkp]
  rw[List.getElem?_map] at hv
  cases qq:(e_ 0 ks.length)[i]? with
  | none=>rw [qq] at hv;cases hv
  | some d0=>
    rw[qq] at hv
    obtain⟨hi,rfl⟩:=ky qq
    cases hv
    refine⟨[some (.d (.int i)),some (.loc q),some (.d (nI w))],rfl,Bc (b:=decide (ks[i]=ks[w])) ?_ ?_⟩
    ·have hT:cM S2 [some (.d (.int i)),some (.loc q),some (.d (nI w))]=[.val (nI i), .val (.lst (ks.map .int)), .val (nI w)]:=by
      simp only[cM,List.map_cons,List.map_nil,cX e]
      rfl
     rw[hT]
     exact f_ (a:= .int ks[i]) (b:= .int ks[w]) (aw (a:= .lst (ks.map .int)) (b:=nI i) rfl rfl (EY hi)) (aw (a:= .lst (ks.map .int)) (b:=nI w) rfl rfl (EY hw)) rfl
    ·by_cases hc:ks[i]=ks[w]
     ·rw[decide_eq_true hc,if_pos rfl]
      refine cy rfl ⟨nI i,rfl,rfl,l++[i],by simp,?_,by simp;omega,by simp⟩
      intro x hx
      rcases List.mem_append.mp hx with z | z
      ·exact hl x z
      ·rw[List.mem_singleton] at z;subst z;exact⟨hi,by rw[List.getD_eq_getElem?_getD,List.getD_eq_getElem?_getD,List.getElem?_eq_getElem hi,List.getElem?_eq_getElem hw,hc]⟩
     ·rw[decide_eq_false hc,if_neg (by decide)]
      refine⟨rfl,l,rfl,hl,by omega,fun hwi=>hw' ?_⟩
      have:w≠i:=fun z=>hc (by subst z;rfl)
      omega
 ·rintro ds S2 ⟨rfl,l,rfl,hl,hli,hw'⟩
  exact h l (hw' hw) (by omega) hl
theorem DV{f:FX}{fm:FD}{l:List Nat}{Q:V3→aN→Prop}(hf:W3 (f δ S) fun v S1=>v= .d (.lst (l.map nI))∧S1=S)(hv:δ[i]? =some (some (.loc k)))(p:u9 k S)(hm:fm (down δ)= .ok (.int l.length))(hl:0 < l.length)(hl2:l.length < 10000)
 (h:∀x S1,x∈l→Ev k S S1→Q (.d (nI x)) S1):W3 (Hl f (cb aQ (ay (bR i) (ay (xP fm) cq))) δ S) Q:=by
 refine DG (hf.mono fun v S1 ⟨e1,e2'⟩=>?_)
 subst e1 e2'
 refine draw hv p hm (by omega) (by omega) fun r S2 h1 h2 v2=>⟨_,_,nI (l[r.toNat]'(by omega)),rfl,rfl,uq ?_,h _ S2 (List.getElem_mem _) v2⟩
 rw[mZ h1 (by rw[List.length_map];omega)]
 simp
end
theorem wQ(ws:List Nat):ox (.tup (ws.map nI))=true:=by
 unfold ox
 induction ws with
 | nil=>unfold jK;rfl
 | cons w ws ih=>rw [List.map_cons];unfold jK;rw [ih];rfl
theorem Cu(c:Int)(n:Nat):(List.replicate n [D.int c]).flatten=(List.replicate n c).map D.int:=by
 induction n with
 | zero=>rfl
 | succ n ih=>rw [List.replicate_succ,List.flatten_cons,ih,List.replicate_succ];rfl
theorem AF{f:ax→R (List D)}{g:FD}{δ:ax}{ds:List D}{n:Nat}(h1:f δ= .ok ds)(h2:g δ= .ok (.int n))(hn:n < 1000000)(hl:ds.length*n≤sizeLine):Ct f g δ= .ok (List.replicate n ds).flatten:=by
 unfold Ct
 rw[h1,R.aY,h2,R.aY]
 show R.bV (decide (0≤(n:Int)∧(n:Int) < 1000000∧ds.length*(n:Int).toNat≤sizeLine)) _=_
 rw[cD _ ⟨by omega,by omega,by rw[Int.toNat_natCast];exact hl⟩,Int.toNat_natCast]
noncomputable def pv(l:List (Str × Nat))(gs:List Gt)(ms:List M)(p n:Nat):Bool:=cS (mF gs [] (cL l ms [] l.length) gs.length) n p
theorem qj{gs:List Gt}{t:List Int}{w0:List M}{n:Nat}:∀{j i:Nat},i≤j→j≤gs.length→n < w0.length+i→cS (mF gs t w0 j) n=cS (mF gs t w0 i) n
 | 0,i,h,_,_=>by rw[show i=0 by omega]
 | j+1,i,h,hj,hn=>by
   by_cases q:i=j+1
   ·rw[q]
   ·rw[←qj (j:=j) (i:=i) (by omega) (by omega) hn]
    conv=>lhs;unfold mF
    rw[List.getElem?_eq_getElem (by omega:j < gs.length)]
    show cS (mF gs t w0 j++[_]) n=_
    rw[uF (by rw[mv j (by omega)];omega)]
theorem zj{gs hs:List Gt}{t:List Int}{w0:List M}:∀i,i≤gs.length→mF (gs++hs) t w0 i=mF gs t w0 i
 | 0,_=>rfl
 | i+1,hi=>by
   unfold mF
   rw[List.getElem?_append_left (by omega),List.getElem?_eq_getElem (by omega:i < gs.length),zj i (by omega)]
theorem vD{l:List (Str × Nat)}{x:Str × Nat}{ms:List M}{bad:List Int}:∀i,i≤l.length→cL (l++[x]) ms bad i=cL l ms bad i
 | 0,_=>rfl
 | i+1,hi=>by
   unfold cL
   rw[List.getElem?_append_left (by omega),vD i (by omega)]
theorem sV{l:List (Str × Nat)}{ms:List M}{bad:List Int}(hb:l.length≤ms.length):∀i,i≤l.length→(cL l ms bad i).length=g9 (l.take i)
 | 0,_=>rfl
 | i+1,hi=>by
   have h1:l[i]? =some l[i]:=List.getElem?_eq_getElem (by omega)
   have h2:ms[i]? =some ms[i]:=List.getElem?_eq_getElem (by omega)
   unfold cL
   rw[h1,h2]
   show(gx bad ms[i] l[i].2 (cL l ms bad i)).length=_
   rw[gT,sV hb i (by omega),List.take_add_one,h1]
   unfold g9
   simp only[Option.toList_some,List.map_append,List.sum_append,List.map_cons,List.map_nil,List.sum_cons,List.sum_nil]
   omega
theorem tf(b:M):∀m ws n,n < ws.length→cS (gx [] b m ws) n=cS ws n
 | 0,ws,n,h=>rfl
 | m+1,ws,n,h=>by unfold gx;rw [uF (by rw[gT];omega)];exact tf b m ws n h
theorem tP(b:M):∀m ws n,ws.length≤n→n < ws.length+m→cS (gx [] b m ws) n=b
 | 0,ws,n,h,h2=>by omega
 | m+1,ws,n,h,h2=>by
   have hl:=gT [] b m ws
   unfold gx
   by_cases q:n < ws.length+m
   ·rw[uF (by omega)];exact tP b m ws n h q
   ·rw[show n=(gx [] b m ws).length by omega,vZ]
    funext p
    simp
structure DO (l:List (Str × Nat)) (ks:List Int):Prop where
 len:ks.length=g9 l
 v:∀n,n < ks.length→∃j:Nat,j < l.length∧ks.getD n 0=(j:Int)∧∀ms:List M,l.length≤ms.length→cS (cL l ms [] l.length) n=ms.getD j fun _=>false
theorem DO.nil:DO [] []:=⟨rfl,fun n h=>by simp at h⟩
theorem jZ{ks:List Int}{xs:List Int}{n:Nat}(h:n < ks.length):(ks++xs).getD n 0=ks.getD n 0:=by rw[List.getD_eq_getElem?_getD,List.getElem?_append_left h,List.getD_eq_getElem?_getD]
theorem DO.add{l:List (Str × Nat)}{ks:List Int}(h:DO l ks)(s:Str)(w:Nat):DO (l++[(s,w)]) (ks++List.replicate w (l.length:Int)):=by
 have hw:g9 (l++[(s,w)])=g9 l+w:=by simp [g9]
 refine⟨by rw[List.length_append,List.length_replicate,h.len,hw],fun n hn=>?_⟩
 rw[List.length_append,List.length_replicate] at hn
 have step:∀ms:List M,(l++[(s,w)]).length≤ms.length→cL (l++[(s,w)]) ms [] (l++[(s,w)]).length=gx [] (ms.getD l.length fun _=>false) w (cL l ms [] l.length)∧(cL l ms [] l.length).length=ks.length:=fun ms hms=>by
  rw[List.length_append] at hms ⊢
  have hms:l.length < ms.length:=hms
  refine⟨?_,by rw[sV (by omega) _ (Nat.le_refl _),List.take_length,h.len]⟩
  show cL (l++[(s,w)]) ms [] (l.length+1)=_
  conv=>lhs;unfold cL
  rw[List.getElem?_append_right (Nat.le_refl _),Nat.sub_self,List.getElem?_eq_getElem hms,vD _ (Nat.le_refl _),List.getD_eq_getElem?_getD,List.getElem?_eq_getElem hms]
  rfl
 by_cases q:n < ks.length
 ·obtain⟨j,hj,hk,hv⟩:=h.v n q
  refine⟨j,by rw[List.length_append];omega,by rw[jZ q];exact hk,fun ms hms=>?_⟩
  obtain⟨e1,e2⟩:=step ms hms
  rw[e1,tf _ _ _ _ (by omega)]
  exact hv ms (by rw[List.length_append] at hms;omega)
 ·refine⟨l.length,by rw[List.length_append];simp,?_,fun ms hms=>?_⟩
  ·rw[List.getD_eq_getElem?_getD,List.getElem?_append_right (by omega),List.getElem?_replicate,if_pos (by omega)];rfl
  ·obtain⟨e1,e2⟩:=step ms hms
   rw[e1,tP _ _ _ _ (by omega) (by omega)]
structure KI (l:List (Str × Nat)) (gs:List Gt) (ks:List Int):Prop where
 len:ks.length=g9 l+gs.length
 b:∀n,n < ks.length→ks.getD n 0 < (l.length:Int)+gs.length
 v:∀ms:List M,ms.length=l.length→∀p n n',n < ks.length→n' < ks.length→ks.getD n 0=ks.getD n' 0→pv l gs ms p n=pv l gs ms p n'
theorem DO.ki{l:List (Str × Nat)}{ks:List Int}(h:DO l ks):KI l [] ks:=by
 refine⟨by rw[h.len];rfl,fun n hn=>?_,fun ms hms p n n' hn hn' e=>?_⟩
 ·obtain⟨j,hj,hk,_⟩:=h.v n hn
  rw[hk];simp;omega
 ·obtain⟨j,hj,hk,hv⟩:=h.v n hn
  obtain⟨j',hj',hk',hv'⟩:=h.v n' hn'
  have:j=j':=by rw[hk,hk'] at e;omega
  subst this
  show cS (cL l ms [] l.length) n p=cS (cL l ms [] l.length) n' p
  rw[hv ms (by omega),hv' ms (by omega)]
section
variable {l:List (Str × Nat)} {gs:List Gt} {g:Gt} {ms:List M} {p n:Nat} {ks:List Int}
theorem CM(hms:ms.length=l.length):(cL l ms [] l.length).length=g9 l:=by rw[j3 hms _ (Nat.le_refl _),List.take_length]
theorem Az(hms:ms.length=l.length)(hn:n < g9 l+gs.length):pv l (gs++[g]) ms p n=pv l gs ms p n:=by
 have h0:=CM hms
 unfold pv
 rw[qj (gs:=gs++[g]) (i:=gs.length) (by rw[List.length_append];omega) (Nat.le_refl _) (by omega),zj _ (Nat.le_refl _)]
theorem E7{i:Nat}(hms:ms.length=l.length)(h:gs[i]? =some g)(hg:vx (g9 l+i) g):pv l gs ms p (g9 l+i)=gv g.1 (g.2.1.map (pv l gs ms p)):=by
 have h0:=CM hms
 have hi:=(List.getElem?_eq_some_iff.mp h).1
 unfold pv
 rw[qj (i:=i+1) (by omega) (Nat.le_refl _) (by omega)]
 conv=>lhs;unfold mF
 rw[h]
 show cS (mF gs [] (cL l ms [] l.length) i++[fun p=>gF g (mF gs [] (cL l ms [] l.length) i) p !=false]) (g9 l+i) p=_
 have hl:=mv (gs:=gs) (turned:=[]) (w0:=cL l ms [] l.length) i (by omega)
 rw[show g9 l+i=(mF gs [] (cL l ms [] l.length) i).length by omega,vZ]
 show(gv g.1 (g.2.1.map fun n=>cS (mF gs [] (cL l ms [] l.length) i) n p) !=false)=_
 have:g.2.1.map (fun n=>cS (mF gs [] (cL l ms [] l.length) i) n p)=g.2.1.map fun n=>cS (mF gs [] (cL l ms [] l.length) gs.length) n p:=List.map_congr_left fun z hz=>by
  rw[qj (j:=gs.length) (i:=i) (by omega) (Nat.le_refl _) (by have:=hg.2.2 z hz;omega)]
 rw[this]
 simp
theorem B4{f:Nat→Bool}{ks:List Int}{N:Nat}(hf:∀a b,a < N→b < N→ks.getD a 0=ks.getD b 0→f a=f b):∀{u v:List Nat},(∀x∈u,x < N)→(∀x∈v,x < N)→u.map (ks.getD · 0)=v.map (ks.getD · 0)→u.map f=v.map f
 | [],[],_,_,_=>rfl
 | [],_ ::_,_,_,h=>by simp at h
 | _ ::_,[],_,_,h=>by simp at h
 | a ::u,b ::v,h1,h2,h=>by
   rw[List.map_cons,List.map_cons] at h
   obtain⟨e1,e2⟩:=List.cons.inj h
   rw[List.map_cons,List.map_cons,hf a b (h1 a List.mem_cons_self) (h2 b List.mem_cons_self) e1,B4 hf (fun x hx=>h1 x (List.mem_cons_of_mem _ hx)) (fun x hx=>h2 x (List.mem_cons_of_mem _ hx)) e2]
theorem KI.add{x:Int}(h:KI l gs ks)(hgs:∀(i:Nat) (g:Gt),gs[i]? =some g→vx (g9 l+i) g)(hg:vx ks.length g)
 (hx:x=(l.length:Int)+gs.length∨∃pl g0,gs[pl]? =some g0∧x=ks.getD (g9 l+pl) 0∧g.1=g0.1∧g.2.1.map (ks.getD · 0)=g0.2.1.map (ks.getD · 0)):KI l (gs++[g]) (ks++[x]):=by
 have hl:=h.len
 have hlast:(ks++[x]).getD ks.length 0=x:=by rw[List.getD_eq_getElem?_getD,List.getElem?_append_right (Nat.le_refl _),Nat.sub_self];rfl
 have hll:(ks++[x]).length=ks.length+1:=by simp
 refine⟨by rw[hll,hl,List.length_append];rfl,fun n hn=>?_,?_⟩
 ·rw[hll] at hn
  rw[List.length_append,List.length_singleton]
  by_cases q:n < ks.length
  ·rw[jZ q];have:=h.b n q;omega
  ·rw[show n=ks.length by omega,hlast]
   rcases hx with rfl | ⟨pl,g0,h0,rfl,_⟩
   ·omega
   ·have:=h.b (g9 l+pl) (by have:=(List.getElem?_eq_some_iff.mp h0).1;omega);omega
 ·intro ms hms p
  have new:∀pl g0,gs[pl]? =some g0→x=ks.getD (g9 l+pl) 0→g.1=g0.1→g.2.1.map (ks.getD · 0)=g0.2.1.map (ks.getD · 0)→pv l (gs++[g]) ms p ks.length=pv l gs ms p (g9 l+pl):=fun pl g0 h0 _ e1 e2=>by
   have hpl:=(List.getElem?_eq_some_iff.mp h0).1
   have hgat:(gs++[g])[gs.length]? =some g:=by rw[List.getElem?_append_right (Nat.le_refl _),Nat.sub_self];rfl
   rw[hl,E7 hms hgat (by rw[←hl];exact hg),E7 hms h0 (hgs pl g0 h0),e1]
   have e3:g.2.1.map (pv l (gs++[g]) ms p)=g.2.1.map (pv l gs ms p):=List.map_congr_left fun z hz=>Az hms (by have:=hg.2.2 z hz;omega)
   rw[e3]
   congr 1
   exact B4 (N:=ks.length) (fun a b ha hb e=>h.v ms hms p a b ha hb e) hg.2.2 (fun z hz=>by have:=(hgs pl g0 h0).2.2 z hz;omega) e2
  have old:∀n,n < ks.length→pv l (gs++[g]) ms p n=pv l gs ms p n:=fun n hn=>Az hms (by omega)
  have mix:∀n,n < ks.length→ks.getD n 0=x→pv l (gs++[g]) ms p n=pv l (gs++[g]) ms p ks.length:=fun n hn e=>by
   rcases hx with rfl | ⟨pl,g0,h0,hx,e1,e2⟩
   ·have:=h.b n hn;omega
   ·rw[new pl g0 h0 hx e1 e2,old n hn]
    exact h.v ms hms p n _ hn (by have:=(List.getElem?_eq_some_iff.mp h0).1;omega) (e.trans hx)
  intro n n' hn hn' e
  rw[hll] at hn hn'
  by_cases q:n < ks.length
  ·rw[jZ q] at e
   by_cases q':n' < ks.length
   ·rw[jZ q'] at e
    rw[old n q,old n' q']
    exact h.v ms hms p n n' q q' e
   ·have en':n'=ks.length:=by omega
    subst en'
    rw[hlast] at e
    exact mix n q e
  ·have en:n=ks.length:=by omega
   subst en
   by_cases q':n' < ks.length
   ·rw[jZ q',hlast] at e
    exact(mix n' q' e.symm).symm
   ·rw[show n'=ks.length by omega]
end
theorem u9.app{k:Nat}{S X:aN}(p:u9 k S)(hX:Flat X):u9 k (S++X):=by
 have h:=p.lt
 obtain⟨hL,a,c,e⟩:=p
 exact⟨fun o ho=>(List.mem_append.mp ho).elim (hL o) (hX o),a,c,by rw[List.getElem?_append_left h];exact e⟩
theorem Ev.split{k:Nat}{S X S2:aN}(v:Ev k (S++X) S2)(hk:k < S.length):∃S',S2=S'++X∧Ev k S S':=by
 have hl:=v.len
 rw[List.length_append] at hl
 refine⟨S2.take S.length,?_,⟨v.p.1.take _,?_⟩,by rw[List.length_take];omega,fun j hj=>?_⟩
 ·have e:S2.drop S.length=X:=by
   refine List.ext_getElem? fun i=>?_
   rw[List.getElem?_drop,v.oth _ (by omega),List.getElem?_append_right (by omega),show S.length+i - S.length=i by omega]
  rw[←e,List.take_append_drop]
 ·obtain⟨_,a,c,e⟩:=v.p
  exact⟨a,c,by rw[List.getElem?_take_of_lt hk];exact e⟩
 ·by_cases q:j < S.length
  ·rw[List.getElem?_take_of_lt q,v.oth j hj,List.getElem?_append_left q]
  ·rw[List.getElem?_eq_none (by rw[List.length_take];omega),List.getElem?_eq_none (by omega)]
theorem wO(a:List D):Flat [SO.lst a]:=fun o ho=>by rw[List.mem_singleton.mp ho];exact mR _
theorem sP(a b:List D):Flat [SO.lst a,SO.lst b]:=fun o ho=>by
 simp only[List.mem_cons,List.not_mem_nil,or_false] at ho
 rcases ho with rfl | rfl <;> exact mR _
theorem mP(a b c:List D):Flat [SO.lst a,SO.lst b,SO.lst c]:=fun o ho=>by
 simp only[List.mem_cons,List.not_mem_nil,or_false] at ho
 rcases ho with rfl | rfl | rfl <;> exact mR _
theorem uc{k:Nat}{S S1 X:aN}{d:D}{v:V3}{Q:V3→aN→Prop}(e:Ev k S S1)(hX:Flat X)(hg:gQ S.length v=true)(hr:res (S1++X) v=some d)(h:Q (.d d) S1):Flat (S1++X)∧gQ S.length v=true∧∃d,res (S1++X) v=some d∧Q (.d d) ((S1++X).take S.length):=by
 refine⟨fun o ho=>(List.mem_append.mp ho).elim (e.p.1 o) (hX o),hg,d,hr,?_⟩
 rw[←e.len,List.take_left]
 exact h
end K21
end
section
set_option maxRecDepth 100000
set_option maxHeartbeats 4000000
namespace K21
open PySem PySem.Spec PyProof.Rows L2 L3 MT
noncomputable def AQ:List Str:=[Str.ofString "a",Str.ofString "bb",Str.ofString "signal",Str.ofString "x",Str.ofString "yes",Str.ofString "abcdefgh"]
theorem G5:∀s∈AQ,dY 0 (.str s):=fun s hs=>by
 simp only[AQ,List.mem_cons,List.not_mem_nil,or_false] at hs
 rcases hs with rfl | rfl | rfl | rfl | rfl | rfl <;> exact dY.str (by decide+kernel)
theorem HI{n:Int}(h0:0≤n)(h:n < 6):∃s∈AQ,bZ (.lst (AQ.map .str)) (.int n)= .ok (.str s):=by
 refine⟨AQ[n.toNat]'(by simp [AQ];omega),List.getElem_mem _,?_⟩
 obtain⟨m,rfl⟩:=Int.eq_ofNat_of_zero_le h0
 exact NT.jF (by rw[List.getElem?_map,List.getElem?_eq_getElem (by simp [AQ];omega)];rfl)
noncomputable def C3(x:Str × Nat):Prop:=(1≤x.2∧x.2≤3)∧dY 0 (.str x.1)
theorem wD{S:aN}{k:Nat}{mo:Int}(p:u9 k S)(hmo:1≤mo∧mo≤6){Q:V3→aN→Prop}
 (h:∀(l:List (Str × Nat)) S1,(∀x∈l,C3 x)→1≤l.length→(l.length:Int)≤mo→Ev k S S1→Q (.d (.lst (l.map MT.inD))) S1) :
 W3 (eK [.loc k, .d (.int mo), .d (.int 3)] S) Q:=by
 have hz:sizeLine=16777216:=sizeLine_eq
 have hk:=p.lt
 unfold eK
 refine tQ (sQ rfl ?_)
 simp only[bS,gJ,List.map_cons,List.map_nil,List.length_cons,List.length_nil,List.replicate,List.cons_append,List.nil_append,Nat.reduceAdd,Nat.reduceSub]
 unfold jb
 refine aF <| bj (by simp only[List.length_cons,List.length_nil,List.length_set];omega) <| cy (d:= .lst (AQ.map .str)) rfl ⟨_,rfl,?_⟩
 simp only[List.set_cons_succ,List.set_cons_zero]
 refine aF <| bj (by simp only[List.length_cons,List.length_nil,List.length_set];omega) <| draw (k:=k) rfl p rfl (by omega) (by omega) fun t S1 h1 h2 v1=>⟨_,rfl,?_⟩
 simp only[List.set_cons_succ,List.set_cons_zero]
 refine aF <| bj (by simp only[List.length_cons,List.length_nil,List.length_set];omega) <| ik (ds:=[]) rfl ⟨_,rfl,?_⟩
 simp only[List.set_cons_succ,List.set_cons_zero]
 have l1:=v1.len
 refine aF <| gR <| uQ <| ES <| cy (d:= .int 1) rfl <| draw (k:=k) rfl (v1.p.app (wO [])) rfl hmo.1 (by omega) fun r S2 h3 h4 v2=>?_
 obtain⟨S3,rfl,v3⟩:=v2.split (by omega)
 obtain⟨n,rfl⟩:=Int.eq_ofNat_of_zero_le h3
 refine⟨_,_, .int ((1+n:Nat):Int),rfl,rfl,?_,1+n,rfl,by omega,?_⟩
 ·show R.ok (D.int (1+(n:Int)))=_
  congr 2
 refine(b_ (fun i δ S4=>∃(l:List (Str × Nat)) (S':aN) (a6:Option V3),l.length=i∧(∀x∈l,C3 x)∧Ev k S S'∧S4=S'++[.lst (l.map MT.inD)]∧δ=[some (.loc k),some (.d (.int mo)),some (.d (.int 3)),some (.d (.lst (AQ.map .str))),some (.d (.int t)),some (.loc S1.length),a6])
  ⟨[],S3,none,rfl,by simp,v1.trans v3,rfl,rfl⟩ ?_).mono fun o S4 ⟨δ4,e4,l,S',a6,hl,hlo,vS,hS4,hδ⟩=>⟨δ4,e4,?_⟩
 ·rintro i v δ S4 hv ⟨l,S',a6,hl,hlo,vS,rfl,rfl⟩
  obtain⟨hi,rfl⟩:=NT.ky hv
  have lS:=vS.len
  refine⟨[some (.loc k),some (.d (.int mo)),some (.d (.int 3)),some (.d (.lst (AQ.map .str))),some (.d (.int t)),some (.loc S1.length),some (.d (.int i))],rfl,?_⟩
  unfold j4
  have hg:(S'++[SO.lst (l.map MT.inD)])[S1.length]? =some (.lst (l.map MT.inD)):=by rw[show S1.length=S'.length by omega];exact bc _ _
  obtain⟨s,hs,es⟩:=HI (n:=(t+(i:Int)) % 6) (Int.emod_nonneg _ (by omega)) (Int.emod_lt_of_pos _ (by omega))
  refine j7 (k:=S1.length) rfl ⟨_,hg⟩ <| tZ <| aA <| cy (d:= .str s) (aw (a:= .lst (AQ.map .str)) (b:= .int ((t+(i:Int)) % 6)) rfl (aw (a:= .int (t+(i:Int))) (b:= .int 6) (aw (a:= .int t) (b:= .int i) rfl rfl rfl) rfl (xt (by omega))) es) <| aA <| ES <| cy (d:= .int 1) rfl <| draw (k:=k) (m:=3) rfl (vS.p.app (wO _)) rfl (by omega) (by omega) fun r2 S5 h5 h6 v5=>?_
  obtain⟨S6,rfl,v6⟩:=v5.split (by omega)
  obtain⟨w,rfl⟩:=Int.eq_ofNat_of_zero_le h5
  have l6:=v6.len
  refine⟨_,_,nI (1+w),rfl,rfl,?_,cu ⟨by simp;omega,MT.inD (s,1+w),l.map MT.inD,rfl,?_,by rw[List.length_map];omega,_,rfl,l++[(s,1+w)],S6,_,by simp [hl],?_,vS.trans v6,?_,rfl⟩⟩
  ·show R.ok (D.int (1+(w:Int)))=R.ok (D.int ((1+w:Nat):Int))
   congr 2
  ·rw[show S1.length=S6.length by omega];exact bc _ _
  ·intro x hx
   rcases List.mem_append.mp hx with q | q
   ·exact hlo x q
   ·rw[List.mem_singleton.mp q];exact⟨⟨by show 1≤1+w;omega,by show 1+w≤3;omega⟩,G5 s hs⟩
  ·rw[show S1.length=S6.length by omega,dw,List.map_append];rfl
 ·subst hδ hS4
  rw[NT.je] at hl
  have lS:=vS.len
  refine fN <| w_var (v:= .loc S1.length) rfl ⟨_,rfl,uc vS (wO _) ?_ (cX ?_) (h l S' hlo (by omega) (by omega) vS)⟩
  ·show decide (S.length≤S1.length)=true
   exact decide_eq_true (by omega)
  ·rw[show S1.length=S'.length by omega];exact bc _ _
noncomputable def EO:List D:=[.str (Str.ofString "not"), .str (Str.ofString "and"), .str (Str.ofString "or"), .str (Str.ofString "xor"), .str (Str.ofString "vote"), .str (Str.ofString "and"), .str (Str.ofString "or"), .str (Str.ofString "xor")]
noncomputable def JW:List (Key × V):=[((Sum.inr (Str.ofString "not"):Key),V.int 1),((Sum.inr (Str.ofString "vote"):Key),V.int 3)]
theorem DT(r:Nat)(h:r < 8):∃kd,kd≤4∧bZ (.lst EO) (.int r)= .ok (.str (kS kd))∧(match l8 (jU [] JW) (Sum.inr (kS kd)) with | some (.int i)=>R.ok (D.int i) | none=> .ok (.int 2) | _=> .no)= .ok (.int (ar kd)):=by
 match r,h with
 | 0,_=>exact⟨0,by omega,rfl,rfl⟩
 | 1,_=>exact⟨1,by omega,rfl,rfl⟩
 | 2,_=>exact⟨2,by omega,rfl,rfl⟩
 | 3,_=>exact⟨3,by omega,rfl,rfl⟩
 | 4,_=>exact⟨4,by omega,rfl,rfl⟩
 | 5,_=>exact⟨1,by omega,rfl,rfl⟩
 | 6,_=>exact⟨2,by omega,rfl,rfl⟩
 | 7,_=>exact⟨3,by omega,rfl,rfl⟩
noncomputable def HA(kd:Nat)(ws:List Nat):D:= .tup [.str (kS kd), .tup (ws.map nI)]
theorem EA{S:aN}{k n:Nat}(p:u9 k S)(h0:0 < n)(hn:n < 10000){Q:V3→aN→Prop}(h:∀kd (ws:List Nat) S1,kd≤4→ws.length=ar kd→(∀w∈ws,w < n)→Ev k S S1→Q (.d (HA kd ws)) S1) :
 W3 (iz [.loc k, .d (nI n)] S) Q:=by
 have hz:sizeLine=16777216:=sizeLine_eq
 have hk:=p.lt
 unfold iz
 refine tQ (sQ rfl ?_)
 simp only[bS,ja,List.map_cons,List.map_nil,List.length_cons,List.length_nil,List.replicate,List.cons_append,List.nil_append,Nat.reduceAdd,Nat.reduceSub]
 unfold mY
 refine aF <| bj (by simp only[List.length_cons,List.length_nil,List.length_set];omega) <| DG <| cy (d:= .lst EO) rfl <| draw (k:=k) rfl p rfl (by omega) (by omega) fun r S1 h1 h2 v1=>?_
 obtain⟨kd,hkd,e1,e2'⟩:=DT r.toNat (by omega)
 rw[Int.toNat_of_nonneg h1] at e1
 refine⟨_,_,_,rfl,rfl,e1,_,rfl,?_⟩
 simp only[List.set_cons_succ,List.set_cons_zero]
 refine aF <| bj (by simp only[List.length_cons,List.length_nil,List.length_set];omega) <| cy (d:= .int (ar kd)) e2' ⟨_,rfl,?_⟩
 simp only[List.set_cons_succ,List.set_cons_zero]
 have har:=yD kd
 refine aF <| bj (by simp only[List.length_cons,List.length_nil,List.length_set];omega) <| md (fun j ds S2=>Ev k S S2∧∃ws:List Nat,ds=ws.map nI∧ws.length=j∧∀w∈ws,w < n) (my (ds:=e_ 0 (ar kd)) (kJ (n:=ar kd) rfl (by omega)) ⟨by rw[NT.je];omega,⟨v1,[],rfl,rfl,by simp⟩,?_,?_⟩)
 ·rintro j v ds S2 hv ⟨v2,ws,rfl,hwl,hws⟩
  obtain⟨hj,rfl⟩:=NT.ky hv
  refine⟨[some (.d (.int j)),some (.loc k),some (.d (nI n))],rfl,tJ ?_⟩
  rw[if_pos rfl]
  have hmn:∃mn:Int,0 < mn∧mn≤n∧tK [nI n, .int 4]= .ok (.int mn):=⟨if(4:Int) < n then 4 else n,by split <;> omega,by split <;> omega,rfl⟩
  obtain⟨mn,m1,m2,m3⟩:=hmn
  obtain⟨m,hm1,hm2,hm3⟩:∃m:Int,0 < m∧m≤n∧bZ (.lst [nI n, .int mn]) (.int ((j:Int) % 2))= .ok (.int m):=by
   have:(j:Int) % 2=0∨(j:Int) % 2=1:=by omega
   rcases this with q | q
   ·rw[q];exact⟨n,by omega,by omega,rfl⟩
   ·rw[q];exact⟨mn,by omega,by omega,rfl⟩
  refine ES <| cy (d:= .int ((n:Int) - 1)) rfl <| draw (k:=k) (m:=m) rfl v2.p (aw (a:= .lst [nI n, .int mn]) (b:= .int ((j:Int) % 2)) (eu (jM (aZ rfl (aZ (bp (ds:=[nI n, .int 4]) rfl m3) rfl)) (by simp;omega))) (aw (a:= .int j) (b:= .int 2) rfl rfl (xt (by omega))) hm3) hm1 (by omega) fun r2 S3 h3 h4 v3=>?_
  obtain⟨w,hw⟩:∃w:Nat,(n:Int) - 1 - r2=w:=⟨((n:Int) - 1 - r2).toNat,by omega⟩
  refine⟨_,_,nI w,rfl,rfl,?_,_,rfl,v2.trans v3,ws++[w],by simp,by simp [hwl],?_⟩
  ·show R.ok (D.int ((n:Int) - 1 - r2))=_
   rw[hw];rfl
  ·intro x hx
   rcases List.mem_append.mp hx with q | q
   ·exact hws x q
   ·rw[List.mem_singleton.mp q];omega
 ·rintro ds S2 ⟨v2,ws,rfl,hwl,hws⟩
  rw[NT.je] at hwl
  refine⟨_,rfl,?_⟩
  simp only[List.set_cons_succ,List.set_cons_zero]
  have:=uc (X:=[]) (v:= .d (HA kd ws)) (d:=HA kd ws) (Q:=Q) v2 (fun o ho=>by cases ho) rfl (by unfold res;rfl) (h kd ws S2 hkd hwl hws v2)
  rw[List.append_nil] at this
  exact fN <| cy (d:=HA kd ws) rfl ⟨_,rfl,this⟩
theorem nM{S:aN}{k q w:Nat}{ks:List Int}(p:u9 k S)(hq:q≠k)(e:S[q]? =some (.lst (ks.map .int)))(hw:w < ks.length)(hn:ks.length < 10000){Q:V3→aN→Prop}(h:∀x S1,x < ks.length→ks.getD x 0=ks.getD w 0→Ev k S S1→Q (.d (nI x)) S1) :
 W3 (du [.loc k, .loc q, .d (nI w)] S) Q:=by
 have hz:sizeLine=16777216:=sizeLine_eq
 have hk:=p.lt
 unfold du
 refine tQ (sQ rfl ?_)
 simp only[bS,i_,List.map_cons,List.map_nil,List.length_cons,List.length_nil,List.replicate,List.cons_append,List.nil_append,Nat.reduceAdd,Nat.reduceSub]
 unfold nk
 refine aF <| bj (by simp only[List.length_cons,List.length_nil,List.length_set];omega) <| Dp (q:=q) e hw hn rfl (uQ (yI (d:= .int ks.length) (o5 e rfl) rfl ⟨ks.length,rfl,by omega,rfl,rfl⟩)) fun l hl0 hl1 hl2=>⟨_,rfl,?_⟩
 simp only[List.set_cons_succ,List.set_cons_zero]
 refine fN <| DV (k:=k) (l:=l) (cy rfl ⟨rfl,rfl⟩) rfl p (bp (ds:=[.lst (l.map nI)]) rfl (by rw[qd,List.length_map])) hl0 hl1 fun x S3 hx v3=>⟨_,rfl,?_⟩
 have:=uc (X:=[]) (v:= .d (nI x)) (d:=nI x) (Q:=Q) v3 (fun o ho=>by cases ho) rfl (by unfold res;rfl) (h x S3 (hl2 x hx).1 (hl2 x hx).2 v3)
 rw[List.append_nil] at this
 exact this
end K21
end
section
set_option maxRecDepth 100000
set_option maxHeartbeats 4000000
namespace K21
open PySem PySem.Spec PyProof.Rows L2 L3 MT
theorem Br{f g:FB}{δ:DE}{S:aN}{QB:Bool→aN→Prop}(h:W3 (f δ S) fun b S1=>(b=false∧QB false S1)∨(b=true∧W3 (g δ S1) QB)):W3 (DJ f g δ S) QB:=W3.bind (h.mono fun b S1 h=>by
 rcases h with⟨e,q⟩ | ⟨e,q⟩
 ·subst e;rw [if_neg (by decide)];exact W3.ok q
 ·subst e;rw [if_pos rfl];exact q)
theorem g1{S:aN}{a b:SO}:(S++[a,b])[S.length]? =some a:=by rw[List.getElem?_append_right (Nat.le_refl _),Nat.sub_self];rfl
theorem g2{S:aN}{a b:SO}:(S++[a,b])[S.length+1]? =some b:=by rw[List.getElem?_append_right (by omega),show S.length+1 - S.length=1 by omega];rfl
theorem s1{S:aN}{a b c:SO}:(S++[a,b]).set S.length c=S++[c,b]:=by rw[List.set_append_right _ _ (Nat.le_refl _),Nat.sub_self];rfl
theorem s2{S:aN}{a b c:SO}:(S++[a,b]).set (S.length+1) c=S++[a,c]:=by rw[List.set_append_right _ _ (by omega),show S.length+1 - S.length=1 by omega];rfl
theorem t1{S:aN}{a b d:SO}:(S++[a,b,d])[S.length]? =some a:=by rw[List.getElem?_append_right (Nat.le_refl _),Nat.sub_self];rfl
theorem t2{S:aN}{a b d:SO}:(S++[a,b,d])[S.length+1]? =some b:=by rw[List.getElem?_append_right (by omega),show S.length+1 - S.length=1 by omega];rfl
theorem t3{S:aN}{a b d:SO}:(S++[a,b,d])[S.length+2]? =some d:=by rw[List.getElem?_append_right (by omega),show S.length+2 - S.length=2 by omega];rfl
theorem u3{S:aN}{a b d c:SO}:(S++[a,b,d]).set (S.length+2) c=S++[a,b,c]:=by rw[List.set_append_right _ _ (by omega),show S.length+2 - S.length=2 by omega];rfl
theorem kW{δ:DE}{S:aN}{i:Nat}{v:V3}{d:D}(h:δ[i]? =some (some v))(hr:res S v=some d):ae i (cM S δ)= .ok d:=by
 unfold ae cM
 rw[List.getElem?_map,h]
 show(match (some (match res S v with | some d=>Sl.val d | none=> .un)) with | some (.val d)=>R.ok d | _=> .no)=_
 rw[hr]
theorem B6{g:Gt}:dY 2 (kl g):=by
 refine dY.tup fun x hx=>?_
 simp only[List.mem_cons,List.not_mem_nil,or_false] at hx
 rcases hx with rfl | rfl | rfl
 ·refine(dY.str ?_).mono (by omega)
  unfold kS
  split <;> decide+kernel
 ·exact dY.tup fun d hd=>by obtain⟨z,_,rfl⟩:=List.mem_map.mp hd;exact dY.int _
 ·exact(dY.bl _).mono (by omega)
theorem Hb(gs:List Gt):zg (.lst (gs.map kl)) (.lst [])= .ok gs.isEmpty:=by
 have f:dY 3 (.lst (gs.map kl)):=dY.lst fun d hd=>by obtain⟨g,_,rfl⟩:=List.mem_map.mp hd;exact B6
 have f2:dY 1 (.lst []):=dY.lst fun d hd=>by cases hd
 rw[uS,f.pl,f.sh (by omega),f2.pl,f2.sh (by omega)]
 cases gs with
 | nil=>rfl
 | cons g gs=>rfl
noncomputable def vK(l:List (Str × Nat))(gs:List Gt):Prop:=∀(i:Nat) (g:Gt),gs[i]? =some g→vx (g9 l+i) g
theorem vK.add{l:List (Str × Nat)}{gs:List Gt}{g:Gt}(h:vK l gs)(hg:vx (g9 l+gs.length) g):vK l (gs++[g]):=fun j g' hj=>by
 by_cases hjl:j < gs.length
 ·rw[List.getElem?_append_left hjl] at hj;exact h j g' hj
 ·rw[List.getElem?_append_right (by omega)] at hj
  have h0:j - gs.length=0:=by
   have:=(List.getElem?_eq_some_iff.mp hj).1
   simp at this;omega
  rw[h0] at hj
  cases hj
  rw[show j=gs.length by omega]
  exact hg
noncomputable def sE(k a:Nat)(mo ga:D)(ins:D)(fi:Nat)(a6 a7 a8 a11 a12 a13 a14:Option V3):DE:=[some (.loc k),some (.d mo),some (.d ga),some (.d (.int 3)),some (.d ins),some (.loc a),a6,a7,a8,some (.loc (a+1)),some (.d (nI fi)),a11,a12,a13,a14,none,none]
theorem zW{k i:Nat}{mo ga:D}{S S1:aN}{l:List (Str × Nat)}{gs:List Gt}{ks:List Int}{a7 a8 a11 a12 a13 a14:Option V3}(hk:k < S.length)(hl1:1≤g9 l)(hll:l.length < 100)(hi:i < 100)(hgl:gs.length=i)(hgs:vK l gs)(hK:KI l gs ks)(hwl:g9 l < 1000)(v:Ev k S S1) :
 W3 (gU (sE k S.length mo ga (.lst (l.map MT.inD)) (g9 l) (some (.d (.int i))) a7 a8 a11 a12 a13 a14) (S1++[.lst (ks.map .int), .lst (gs.map kl)])) fun o S2=>∃δ2,o= .nx δ2∧∃(g:Gt) (x:Int) (S3:aN) (b7 b8 b11 b12 b13 b14:Option V3),δ2=sE k S.length mo ga (.lst (l.map MT.inD)) (g9 l) (some (.d (.int i))) b7 b8 b11 b12 b13 b14∧Ev k S S3∧S2=S3++[.lst ((ks++[x]).map .int), .lst ((gs++[g]).map kl)]∧vK l (gs++[g])∧KI l (gs++[g]) (ks++[x]):=by
 have hz:sizeLine=16777216:=sizeLine_eq
 have hkl:=hK.len
 have lv:=v.len
 have ha:∀{T:aN} {x y:SO},T.length=S.length→(T++[x,y])[S.length]? =some x:=fun h=>by rw[←h];exact g1
 have hb:∀{T:aN} {x y:SO},T.length=S.length→(T++[x,y])[S.length+1]? =some y:=fun h=>by rw[←h];exact g2
 have sa:∀{T:aN} {x y z:SO},T.length=S.length→(T++[x,y]).set S.length z=T++[z,y]:=fun h=>by rw[←h];exact s1
 have sb:∀{T:aN} {x y z:SO},T.length=S.length→(T++[x,y]).set (S.length+1) z=T++[x,z]:=fun h=>by rw[←h];exact s2
 unfold gU sE
 refine aF <| Fs <| cV <| aA <| w_var (v:= .loc k) rfl <| aA <| yI (d:=nI ks.length) (o5 (ha lv) rfl) rfl <| cu <| EA (v.p.app (sP _ _)) (by omega) (by omega) fun kd ws S2 hkd hwl' hws v2=>?_
 obtain⟨S3,rfl,v3⟩:=v2.split (by omega)
 have l3:=v3.len
 refine⟨_,rfl,_,rfl,?_⟩
 show W3 (bb _ _ [some (.loc k),some (.d mo),some (.d ga),some (.d (.int 3)),some (.d (.lst (l.map MT.inD))),some (.loc S.length),some (.d (.int i)),a7,a8,some (.loc (S.length+1)),some (.d (nI (g9 l))),some (.d (.str (kS kd))),some (.d (.tup (ws.map nI))),a13,a14,none,none] _) _
 refine aF <| bj (by simp only[List.length_cons,List.length_nil,List.length_set];omega) <| cy (d:= .int ((l.length:Int)+gs.length)) ?_ ⟨_,rfl,?_⟩
 ·rw[hgl]
  exact aw (a:= .int l.length) (b:= .int i) (bp (ds:=[.lst (l.map MT.inD)]) rfl (by rw[qd,List.length_map])) rfl rfl
 simp only[List.set_cons_succ,List.set_cons_zero]
 refine aF (W3.mono (Q:=fun o S4=>∃(kd:Nat) (ws:List Nat) (x:Int) (S5:aN) (b14:Option V3),o= .nx [some (.loc k),some (.d mo),some (.d ga),some (.d (.int 3)),some (.d (.lst (l.map MT.inD))),some (.loc S.length),some (.d (.int i)),a7,a8,some (.loc (S.length+1)),some (.d (nI (g9 l))),some (.d (.str (kS kd))),some (.d (.tup (ws.map nI))),some (.d (.int x)),b14,none,none]∧S4=S5++[.lst (ks.map .int), .lst (gs.map kl)]∧Ev k S S5∧kd≤4∧ws.length=ar kd∧(∀w∈ws,w < ks.length)∧(x=(l.length:Int)+gs.length∨∃pl g0,gs[pl]? =some g0∧x=ks.getD (g9 l+pl) 0∧kd=g0.1∧ws.map (ks.getD · 0)=g0.2.1.map (ks.getD · 0))) ?_ ?_)
 ·refine lU <| Br <| Bc (b:=!gs.isEmpty) ?_ ?_
  ·refine f_ (a:= .lst (gs.map kl)) (b:= .lst []) (kW rfl (cX (hb (l3.trans lv)))) rfl ?_
   unfold w9
   rw[Hb];rfl
  cases hge:gs.isEmpty with
  | true=>
    exact .inl ⟨rfl,by rw[if_neg (by decide)];exact iK ⟨kd,ws,_,S3,_,rfl,rfl,v.trans v3,hkd,hwl',hws, .inl rfl⟩⟩
  | false=>
    have hne:0 < gs.length:=by cases gs with | nil=>cases hge | cons a r=>simp
    refine .inr ⟨rfl,Hy <| draw (k:=k) rfl ((v.trans v3).p.app (sP _ _)) rfl (by omega) (by omega) fun r S4 h1 h2 v4=>cy (d:= .int 0) rfl ⟨_,_,decide (r=0),rfl,rfl,rfl,?_⟩⟩
    obtain⟨S5,rfl,v5⟩:=v4.split (by omega)
    have l5:=v5.len
    cases decide (r=0) with
    | false=>
      rw[if_neg (by decide)]
      exact iK ⟨kd,ws,_,S5,_,rfl,rfl,(v.trans v3).trans v5,hkd,hwl',hws, .inl rfl⟩
    | true=>
      rw[if_pos rfl]
      have v5':=(v.trans v3).trans v5
      refine aF <| bj (by simp only[List.length_cons,List.length_nil,List.length_set];omega) <| CD (k:=k) (m:=(gs.length:Int)) rfl (v5'.p.app (sP _ _)) (bp (ds:=[.lst (gs.map kl)]) (aZ (kW rfl (cX (hb v5'.len))) rfl) (by rw[qd,List.length_map])) (by omega) (by omega) fun r2 S6 h3 h4 v6=>⟨_,rfl,?_⟩
      obtain⟨S7,rfl,v7⟩:=v6.split (by omega)
      obtain⟨pl,rfl⟩:=Int.eq_ofNat_of_zero_le h3
      simp only[List.set_cons_succ,List.set_cons_zero]
      have v7':=v5'.trans v7
      have hpl:pl < gs.length:=by omega
      have q0:gs[pl]? =some gs[pl]:=List.getElem?_eq_getElem hpl
      have hg0:=hgs pl _ q0
      have har:=yD gs[pl].1
      refine aF <| Fs <| yI (d:=HA gs[pl].1 gs[pl].2.1) ?_ ?_ ⟨_,rfl,_,rfl,?_⟩
      ·refine(show D2 (e2 bZ (ae 9) (ae 14)) jL (iQ (eC (.int 2))) _=JI (kl gs[pl]) none (some 2) from ?_).trans rfl
       unfold D2
       rw[aw (a:= .lst (gs.map kl)) (b:= .int pl) (kW rfl (cX (hb v7'.len))) rfl (NT.jF (by rw[List.getElem?_map,q0];rfl))]
       rfl
      ·unfold HA ox jK
       rw[show ox (.str _)=true from by unfold ox;rfl]
       unfold jK
       rw[wQ]
       unfold jK
       rfl
      show W3 (bb _ _ [some (.loc k),some (.d mo),some (.d ga),some (.d (.int 3)),some (.d (.lst (l.map MT.inD))),some (.loc S.length),some (.d (.int i)),a7,a8,some (.loc (S.length+1)),some (.d (nI (g9 l))),some (.d (.str (kS gs[pl].1))),some (.d (.tup (gs[pl].2.1.map nI))),some (.d (.int ((l.length:Int)+gs.length))),some (.d (.int pl)),none,none] _) _
      refine aF <| bj (by simp only[List.length_cons,List.length_nil,List.length_set];omega) <| qu <| aA <| md (fun j ds S8=>∃S9,S8=S9++[.lst (ks.map .int), .lst (gs.map kl)]∧Ev k S S9∧∃us:List Nat,ds=us.map nI∧us.length=j∧(∀w∈us,w < ks.length)∧us.map (ks.getD · 0)=(gs[pl].2.1.take j).map (ks.getD · 0)) (my (ds:=gs[pl].2.1.map nI) (nC rfl) ⟨by rw[List.length_map,List.length_map,hg0.2.1];omega,⟨S7,rfl,v7',[],rfl,rfl,by simp,by simp⟩,?_,?_⟩)
      ·rintro j u ds S8 hu ⟨S9,rfl,v9,us,rfl,hul,hus,huk⟩
       obtain⟨w,hw,rfl⟩:=NT.jV hu
       have hwn:w < ks.length:=by have:=hg0.2.2 w (List.mem_of_getElem? hw);omega
       refine⟨[some (.d (nI w)),some (.loc k),some (.loc S.length)],rfl,tJ ?_⟩
       rw[if_pos rfl]
       refine cV <| aA <| w_var (v:= .loc k) rfl <| aA <| w_var (v:= .loc S.length) rfl <| aA <| cy (d:=nI w) rfl <| cu <| nM (v9.p.app (sP _ _)) (by omega) (ha v9.len) hwn (by omega) fun x S10 hx hxk v10=>?_
       obtain⟨S11,rfl,v11⟩:=v10.split (by have:=v9.len;omega)
       refine⟨_,rfl,S11,rfl,v9.trans v11,us++[x],by simp,by simp [hul],?_,?_⟩
       ·intro y hy
        rcases List.mem_append.mp hy with q | q
        ·exact hus y q
        ·rw[List.mem_singleton.mp q];exact hx
       ·rw[List.take_add_one,hw,List.map_append,List.map_append,huk]
        show _++[ks.getD x 0]=_++[ks.getD w 0]
        rw[hxk]
      ·rintro ds S8 ⟨S9,rfl,v9,us,rfl,hul,hus,huk⟩
       rw[List.length_map,List.length_map] at hul huk
       rw[List.take_length] at huk
       refine cu ⟨[.lst (us.map nI)], .tup (us.map nI),rfl,rfl,_,rfl,?_⟩
       simp only[List.set_cons_succ,List.set_cons_zero]
       have hkp:g9 l+pl < ks.length:=by omega
       refine bj (by simp only[List.length_cons,List.length_nil,List.length_set];omega) <| yI (d:= .int (ks.getD (g9 l+pl) 0)) ?_ rfl ⟨gs[pl].1,us,ks.getD (g9 l+pl) 0,S9,_,rfl,rfl,v9,hg0.1,by rw[hul];exact hg0.2.1,hus, .inr ⟨pl,gs[pl],q0,rfl,rfl,huk⟩⟩
       refine aw (a:= .lst (ks.map .int)) (b:= .int ((g9 l+pl:Nat):Int)) (kW rfl (cX (ha v9.len))) (aw (a:=nI (g9 l)) (b:= .int pl) rfl rfl rfl) (NT.jF ?_)
       rw[List.getElem?_map,List.getElem?_eq_getElem hkp,List.getD_eq_getElem?_getD,List.getElem?_eq_getElem hkp];rfl
 ·rintro o S4 ⟨kd,ws,x,S5,b14,rfl,rfl,v5,hkd,hwl',hws,hx⟩
  refine⟨_,rfl,?_⟩
  have l5:=v5.len
  refine aF <| j7 (k:=S.length+1) rfl ⟨_,hb l5⟩ <| tZ <| aA <| cy (d:= .str (kS kd)) rfl <| aA <| cy (d:= .tup (ws.map nI)) rfl <| aA <| ES <| draw (k:=k) rfl (v5.p.app (sP _ _)) rfl (by omega) (by omega) fun r S6 h1 h2 v6=>cy (d:= .int 0) rfl ⟨_,_, .bl (decide (r=0)),rfl,rfl,rfl,cu ⟨by simp;omega,?_⟩⟩
  obtain⟨S7,rfl,v7⟩:=v6.split (by omega)
  have v7':=v5.trans v7
  refine⟨kl (kd,ws,decide (r=0)),_,rfl,hb v7'.len,by rw[List.length_map];omega,_,rfl,?_⟩
  rw[sb v7'.len]
  have hg:vx ks.length (kd,ws,decide (r=0)):=⟨hkd,hwl',hws⟩
  refine j7 (k:=S.length) rfl ⟨_,ha v7'.len⟩ <| cy (d:= .int x) rfl ⟨_,_,rfl,ha v7'.len,by rw[List.length_map];omega,_,rfl,(kd,ws,decide (r=0)),x,S7,_,_,_,_,_,_,rfl,v7',?_,hgs.add (by rw[←hkl];exact hg),hK.add hgs hg ?_⟩
  ·rw[sa v7'.len,List.map_append,List.map_append];rfl
  ·rcases hx with q | ⟨pl,g0,q1,q2,q3,q4⟩
   ·exact .inl q
   ·exact .inr ⟨pl,g0,q1,q2,q3,q4⟩
end K21
end
section
set_option maxRecDepth 100000
set_option maxHeartbeats 4000000
namespace K21
open PySem PySem.Spec PyProof.Rows L2 L3 MT
noncomputable def GW:List Str:=[Str.ofString "p",Str.ofString "ou",Str.ofString "result",Str.ofString "q",Str.ofString "rest",Str.ofString "y"]
theorem GC:∀s∈GW,dY 0 (.str s):=fun s hs=>by
 simp only[GW,List.mem_cons,List.not_mem_nil,or_false] at hs
 rcases hs with rfl | rfl | rfl | rfl | rfl | rfl <;> exact dY.str (by decide+kernel)
theorem Hx:GW.length=6:=rfl
noncomputable def OW(ks:List Int)(ws:List Nat):Prop:=(1≤ws.length∧ws.length≤3)∧(∀w∈ws,w < ks.length)∧∀a b,ws=[a,b]→ks.getD a 0=ks.getD b 0
noncomputable def tE(k a:Nat)(mo ga:D)(ins:D)(fi:Nat)(a6 a7 a8 a11 a12 a13 a14 a16:Option V3):DE:=[some (.loc k),some (.d mo),some (.d ga),some (.d (.int 3)),some (.d ins),some (.loc a),a6,a7,a8,some (.loc (a+1)),some (.d (nI fi)),a11,a12,a13,a14,some (.loc (a+2)),a16]
section
variable {k i fi:Nat} {mo ga ins:D} {S S1:aN} {ks:List Int} {A B:List D} {a7 a8 a11 a12 a13 a14 a16:Option V3}
theorem qQ{F:FX}{j r:Int}{w:Nat}{ws:List Nat}(hw:OW ks ws)(v:Ev k S S1)
 (hF:∀a12,W3 (F (tE k S.length mo ga ins fi (some (.d (.int i))) a7 (some (.d (.int r))) a11 a12 a13 a14 (some (.d (nI w)))) (S1++[.lst (ks.map .int), .lst A, .lst B])) fun u S2=>∃ws' S',u= .d (.tup (ws'.map nI))∧OW ks ws'∧S2=S'++[.lst (ks.map .int), .lst A, .lst B]∧Ev k S S') :
 W3 (mX (bP (b2 gO (ae 8) (eC (.int j)))) (bL 12 F) gS (tE k S.length mo ga ins fi (some (.d (.int i))) a7 (some (.d (.int r))) a11 (some (.d (.tup (ws.map nI)))) a13 a14 (some (.d (nI w)))) (S1++[.lst (ks.map .int), .lst A, .lst B])) fun o S2=>∃ws' S',o= .nx (tE k S.length mo ga ins fi (some (.d (.int i))) a7 (some (.d (.int r))) a11 (some (.d (.tup (ws'.map nI)))) a13 a14 (some (.d (nI w))))∧OW ks ws'∧S2=S'++[.lst (ks.map .int), .lst A, .lst B]∧Ev k S S':=by
 refine lU <| eJ (b:=decide (r=j)) rfl ?_
 cases decide (r=j) with
 | true=>
   rw[if_pos rfl]
   refine bj (by unfold tE;simp only[List.length_cons,List.length_nil];omega) ((hF _).mono fun u S2 ⟨ws',S',e,h1,h2,h3⟩=>⟨ws',S',?_,h1,h2,h3⟩)
   subst e;rfl
 | false=>
   rw[if_neg (by decide)]
   exact iK ⟨ws,S1,rfl,hw,rfl,v⟩
theorem G4{w:Nat}(h:w < ks.length):OW ks [w]:=⟨⟨by simp,by simp⟩,fun x hx=>by rw[List.mem_singleton.mp hx];exact h,fun a b e=>by simp at e⟩
theorem wm{a b c:Nat}(h1:a < ks.length)(h2:b < ks.length)(h3:c < ks.length):OW ks [a,b,c]:=⟨⟨by simp,by simp⟩,fun x hx=>by
 simp only[List.mem_cons,List.not_mem_nil,or_false] at hx
 rcases hx with rfl | rfl | rfl <;> assumption,fun a b e=>by simp at e⟩
theorem GH{a b:Nat}(h1:a < ks.length)(h2:b < ks.length)(h3:ks.getD a 0=ks.getD b 0):OW ks [a,b]:=⟨⟨by simp,by simp⟩,fun x hx=>by
 simp only[List.mem_cons,List.not_mem_nil,or_false] at hx
 rcases hx with rfl | rfl <;> assumption,fun x y e=>by cases e;exact h3⟩
theorem Bo{os:List (Str × List Nat)}(hk:k < S.length)(h0:0 < ks.length)(hn:ks.length < 10000)(hi:i < 6)(hol:os.length < 100)(v:Ev k S S1) :
 W3 (g6 (tE k S.length mo ga ins fi (some (.d (.int i))) a7 a8 a11 a12 a13 a14 a16) (S1++[.lst (ks.map .int), .lst A, .lst (os.map wY)])) fun o S2=>∃δ2,o= .nx δ2∧∃(x:Str × List Nat) (S3:aN) (b8 b12 b16:Option V3),δ2=tE k S.length mo ga ins fi (some (.d (.int i))) a7 b8 a11 b12 a13 a14 b16∧Ev k S S3∧S2=S3++[.lst (ks.map .int), .lst A, .lst ((os++[x]).map wY)]∧OW ks x.2∧dY 0 (.str x.1):=by
 have hz:sizeLine=16777216:=sizeLine_eq
 have ha:∀{T:aN} {x y z:SO},T.length=S.length→(T++[x,y,z])[S.length]? =some x:=fun h=>by rw[←h];exact t1
 have hc:∀{T:aN} {x y z:SO},T.length=S.length→(T++[x,y,z])[S.length+2]? =some z:=fun h=>by rw[←h];exact t3
 have sc:∀{T:aN} {x y z u:SO},T.length=S.length→(T++[x,y,z]).set (S.length+2) u=T++[x,y,u]:=fun h=>by rw[←h];exact u3
 have lv:=v.len
 unfold g6 tE
 have hmn:∃mn:Int,0 < mn∧mn≤ks.length∧tK [.int ks.length, .int 5]= .ok (.int mn):=⟨if(5:Int) < ks.length then 5 else ks.length,by split <;> omega,by split <;> omega,rfl⟩
 obtain⟨mn,m1,m2,m3⟩:=hmn
 refine aF <| bj (by simp only[List.length_cons,List.length_nil,List.length_set];omega) <| ES <| yI (d:= .int ((ks.length:Int) - 1)) (aw (a:= .int ks.length) (b:= .int 1) (o5 (ha lv) rfl) rfl rfl) rfl <| CD (k:=k) (m:=mn) rfl (v.p.app (mP _ _ _)) (bp (ds:=[.int ks.length, .int 5]) (aZ (o5 (ha lv) rfl) rfl) m3) m1 (by omega) fun r S2 h1 h2 v2=>?_
 obtain⟨S3,rfl,v3⟩:=v2.split (by omega)
 obtain⟨w,hw⟩:∃w:Nat,(ks.length:Int) - 1 - r=w:=⟨((ks.length:Int) - 1 - r).toNat,by omega⟩
 have hwl:w < ks.length:=by omega
 refine⟨_,_,nI w,rfl,rfl,?_,_,rfl,?_⟩
 ·show R.ok (D.int ((ks.length:Int) - 1 - r))=_
  rw[hw];rfl
 simp only[List.set_cons_succ,List.set_cons_zero]
 refine aF <| bj (by simp only[List.length_cons,List.length_nil,List.length_set];omega) <| cy (d:= .tup ([w].map nI)) (dH rfl (by simp;omega)) ⟨_,rfl,?_⟩
 simp only[List.set_cons_succ,List.set_cons_zero]
 have v3':=v.trans v3
 refine aF <| bj (by simp only[List.length_cons,List.length_nil,List.length_set];omega) <| draw (k:=k) rfl (v3'.p.app (mP _ _ _)) rfl (by omega) (by omega) fun r2 S4 h3 h4 v4=>⟨_,rfl,?_⟩
 obtain⟨S5,rfl,v5⟩:=v4.split (by have:=v3'.len;omega)
 simp only[List.set_cons_succ,List.set_cons_zero]
 have v5':=v3'.trans v5
 refine aF ((qQ (k:=k) (S:=S) (mo:=mo) (ga:=ga) (ins:=ins) (fi:=fi) (i:=i) (j:=1) (r:=r2) (w:=w) (ws:=[w]) (A:=A) (B:=os.map wY) (G4 hwl) v5' ?_).mono fun o S6 ⟨w6,S7,e6,hw6,eS6,v6⟩=>⟨_,e6,?_⟩)
 ·intro a12
  unfold tE
  refine tZ <| aA <| cy (d:=nI w) rfl <| aA <| cV <| aA <| w_var (v:= .loc k) rfl <| aA <| w_var (v:= .loc S.length) rfl <| aA <| cy (d:=nI w) rfl <| cu <| nM (v5'.p.app (mP _ _ _)) (by omega) (ha v5'.len) hwl hn fun x S10 hx hxk v10=>?_
  obtain⟨S11,rfl,v11⟩:=v10.split (by have:=v5'.len;omega)
  exact cu ⟨by simp;omega,[w,x],S11,rfl,GH hwl hx hxk.symm,rfl,v5'.trans v11⟩
 subst eS6
 refine aF ((qQ (k:=k) (S:=S) (mo:=mo) (ga:=ga) (ins:=ins) (fi:=fi) (i:=i) (j:=2) (r:=r2) (w:=w) (ws:=w6) (A:=A) (B:=os.map wY) hw6 v6 ?_).mono fun o S8 ⟨w8,S9,e8,hw8,eS8,v8⟩=>⟨_,e8,?_⟩)
 ·intro a12
  unfold tE
  refine tZ <| aA <| cy (d:=nI w) rfl <| aA <| cV <| aA <| w_var (v:= .loc k) rfl <| aA <| w_var (v:= .loc S.length) rfl <| aA <| cy (d:=nI w) rfl <| cu <| nM (v6.p.app (mP _ _ _)) (by omega) (ha v6.len) hwl hn fun x S10 hx hxk v10=>?_
  obtain⟨S11,rfl,v11⟩:=v10.split (by have:=v6.len;omega)
  have v11':=v6.trans v11
  refine aA <| CD (k:=k) (m:=(ks.length:Int)) rfl (v11'.p.app (mP _ _ _)) (o5 (ha v11'.len) rfl) (by omega) (by omega) fun r3 S12 h5 h6 v12=>?_
  obtain⟨S13,rfl,v13⟩:=v12.split (by have:=v11'.len;omega)
  obtain⟨y,rfl⟩:=Int.eq_ofNat_of_zero_le h5
  exact cu ⟨by simp;omega,[w,x,y],S13,rfl,wm hwl hx (by omega),rfl,v11'.trans v13⟩
 subst eS8
 refine aF ((qQ (k:=k) (S:=S) (mo:=mo) (ga:=ga) (ins:=ins) (fi:=fi) (i:=i) (j:=3) (r:=r2) (w:=w) (ws:=w8) (A:=A) (B:=os.map wY) hw8 v8 ?_).mono fun o S14 ⟨wt,S15,e14,hwt,eS14,v15⟩=>⟨_,e14,?_⟩)
 ·intro a12
  unfold tE
  refine tZ <| aA <| cy (d:=nI w) rfl <| aA <| cV <| aA <| w_var (v:= .loc k) rfl <| aA <| w_var (v:= .loc S.length) rfl <| aA <| cy (d:=nI w) rfl <| cu <| nM (v8.p.app (mP _ _ _)) (by omega) (ha v8.len) hwl hn fun x S10 hx hxk v10=>?_
  obtain⟨S11,rfl,v11⟩:=v10.split (by have:=v8.len;omega)
  have v11':=v8.trans v11
  refine aA <| cV <| aA <| w_var (v:= .loc k) rfl <| aA <| w_var (v:= .loc S.length) rfl <| aA <| cy (d:=nI w) rfl <| cu <| nM (v11'.p.app (mP _ _ _)) (by omega) (ha v11'.len) hwl hn fun y S12 hy hyk v12=>?_
  obtain⟨S13,rfl,v13⟩:=v12.split (by have:=v11'.len;omega)
  exact cu ⟨by simp;omega,[w,x,y],S13,rfl,wm hwl hx hy,rfl,v11'.trans v13⟩
 subst eS14
 have hio:i < GW.length:=by rw[Hx];exact hi
 unfold tE
 refine j7 (k:=S.length+2) rfl ⟨_,hc v15.len⟩ <| cy (d:=wY (GW[i],wt)) ?_ ⟨_,_,rfl,hc v15.len,by rw[List.length_map];omega,_,rfl,(GW[i],wt),S15,_,_,_,rfl,v15,?_,hwt,GC _ (List.getElem_mem _)⟩
 ·exact dH (aZ (aw (a:= .lst (GW.map .str)) (b:= .int i) rfl rfl (NT.jF (by rw[List.getElem?_map,List.getElem?_eq_getElem hio];rfl))) rfl) (by simp;omega)
 ·rw[sc v15.len,List.map_append];rfl
end
structure DN (l:List (Str × Nat)) (gs:List Gt) (os:List (Str × List Nat)):Prop where
 li:∀x∈l,C3 x
 gg:vK l gs
 o1:1≤os.length
 oL:os.length≤6
 oo:∀x∈os,((1≤x.2.length∧x.2.length≤3)∧(∀w∈x.2,w < g9 l+gs.length)∧∀a b,x.2=[a,b]→∀ms,ms.length=l.length→∀p,pv l gs ms p a=pv l gs ms p b)∧dY 0 (.str x.1)
theorem vy{S:aN}{k:Nat}{mo ga:Int}(p:u9 k S)(hmo:1≤mo∧mo≤6)(hga:0≤ga∧ga≤60){Q:V3→aN→Prop}
 (h:∀(l:List (Str × Nat)) (gs:List Gt) (os:List (Str × List Nat)) S1,1≤l.length→(l.length:Int)≤mo→(gs.length:Int)≤ga→DN l gs os→Ev k S S1→Q (.d (bM l gs os)) S1) :
 W3 (eE [.loc k, .d (.int mo), .d (.int ga), .d (.int 3)] S) Q:=by
 have hz:sizeLine=16777216:=sizeLine_eq
 have hk:=p.lt
 unfold eE
 refine tQ (sQ rfl ?_)
 simp only[bS,fw,List.map_cons,List.map_nil,List.length_cons,List.length_nil,List.replicate,List.cons_append,List.nil_append,Nat.reduceAdd,Nat.reduceSub]
 unfold jz
 refine aF <| bj (by simp only[List.length_cons,List.length_nil,List.length_set];omega) <| cV <| aA <| w_var (v:= .loc k) rfl <| aA <| cy (d:= .int mo) rfl <| aA <| cy (d:= .int 3) rfl <| cu <| wD p hmo fun l S1 hli hl1 hl6 v1=>⟨_,rfl,?_⟩
 simp only[List.set_cons_succ,List.set_cons_zero]
 have l1:=v1.len
 have hbd:=NT.CK (l:=l) fun x hx=>(hli x hx).1
 have hwid:1≤g9 l∧g9 l≤18:=by unfold g9;omega
 refine aF <| bj (by simp only[List.length_cons,List.length_nil,List.length_set];omega) <| ik (ds:=[]) rfl ⟨_,rfl,?_⟩
 simp only[List.set_cons_succ,List.set_cons_zero]
 rw[l1]
 refine aF <| gR <| my (ds:=cG (l.map MT.inD)) (ur rfl) ?_
 refine(b_ (fun i δ S2=>∃(ks:List Int) (a6 a7 a8:Option V3),DO (l.take i) ks∧S2=S1++[SO.lst (ks.map .int)]∧δ=[some (.loc k),some (.d (.int mo)),some (.d (.int ga)),some (.d (.int 3)),some (.d (.lst (l.map MT.inD))),some (.loc S.length),a6,a7,a8,none,none,none,none,none,none,none,none])
  ⟨[],none,none,none,DO.nil,rfl,rfl⟩ ?_).mono fun o S2 ⟨δ2,e2',ks,a6,a7,a8,hKn,hS2,hδ⟩=>⟨δ2,e2',?_⟩
 ·rintro i v δ S2 hv ⟨ks,a6,a7,a8,hKn,rfl,rfl⟩
  obtain⟨d,hd,rfl⟩:=mh hv
  obtain⟨x,hx,rfl⟩:=NT.ma hd
  have hil:=(List.getElem?_eq_some_iff.mp hx).1
  have hkl:=hKn.len
  have hwt:g9 (l.take i)≤100*(l.take i).length:=oT fun y hy=>by have:=(hli y (List.mem_of_mem_take hy)).1;omega
  rw[List.length_take] at hwt
  have hxw:=(hli x (List.mem_of_getElem? hx)).1
  have hg:(S1++[SO.lst (ks.map .int)])[S.length]? =some (.lst (ks.map .int)):=by rw[←l1];exact bc _ _
  refine⟨[some (.loc k),some (.d (.int mo)),some (.d (.int ga)),some (.d (.int 3)),some (.d (.lst (l.map MT.inD))),some (.loc S.length),some (.d (.int i)),some (.d (.str x.1)),some (.d (nI x.2)),none,none,none,none,none,none,none,none],rfl,?_⟩
  unfold j9
  refine Fj (k:=S.length) rfl ⟨_,hg⟩ <| cy (d:= .lst ((List.replicate x.2 (i:Int)).map .int)) ?_ ⟨_,_,rfl,hg,by rw[List.length_map,List.length_map,List.length_replicate];omega,_,rfl,ks++List.replicate x.2 (i:Int),_,_,_,?_,?_,rfl⟩
  ·refine eu ?_
   rw[AF (n:=x.2) (ds:=[.int i]) (jM rfl (by simp;omega)) rfl (by omega) (by simp;omega),Cu]
  ·have:=hKn.add x.1 x.2
   rw[List.length_take,Nat.min_eq_left (by omega)] at this
   rw[List.take_add_one,hx]
   exact this
  ·rw[←l1,dw,List.map_append]
 subst hδ hS2
 have hel:((cG (l.map MT.inD)).map V3.d).length=l.length:=by unfold cG;simp
 rw[hel,List.take_length] at hKn
 have hkn:=hKn.len
 refine aF <| bj (by simp only[List.length_cons,List.length_nil,List.length_set];omega) <| ik (ds:=[]) rfl ⟨_,rfl,?_⟩
 simp only[List.set_cons_succ,List.set_cons_zero]
 rw[show(S1++[SO.lst (ks.map .int)]).length=S.length+1 by simp [l1],List.append_assoc]
 show W3 (bb _ _ _ (S1++[SO.lst (ks.map .int),SO.lst (([]:List Gt).map kl)])) _
 have ha2:∀{T:aN} {x y:SO},T.length=S.length→(T++[x,y])[S.length]? =some x:=fun h=>by rw[←h];exact g1
 refine aF <| bj (by simp only[List.length_cons,List.length_nil,List.length_set];omega) <| yI (d:=nI (g9 l)) ((o5 (ks:=ks) (ha2 l1) rfl).trans (by rw[hkn];rfl)) rfl ⟨_,rfl,?_⟩
 simp only[List.set_cons_succ,List.set_cons_zero]
 refine aF <| gR <| uQ <| draw (k:=k) (m:=ga+1) rfl (v1.p.app (sP _ _)) rfl (by omega) (by omega) fun r S3 h3 h4 v3=>?_
 obtain⟨S4,rfl,v4⟩:=v3.split (by omega)
 obtain⟨n,rfl⟩:=Int.eq_ofNat_of_zero_le h3
 refine⟨n,rfl,by omega,?_⟩
 have gs0:vK l []:=fun i g e=>by simp at e
 refine(b_ (fun i δ S5=>∃(gs:List Gt) (ks:List Int) (S6:aN) (a6 a7 a8 a11 a12 a13 a14:Option V3),gs.length=i∧vK l gs∧KI l gs ks∧Ev k S S6∧S5=S6++[SO.lst (ks.map .int),SO.lst (gs.map kl)]∧δ=sE k S.length (.int mo) (.int ga) (.lst (l.map MT.inD)) (g9 l) a6 a7 a8 a11 a12 a13 a14)
  ⟨[],ks,S4,_,_,_,_,_,_,_,rfl,gs0,hKn.ki,v1.trans v4,rfl,rfl⟩ ?_).mono fun o S5 ⟨δ5,e5,gs,ks5,S6,b6,b7,b8,b11,b12,b13,b14,hgl,hgs,hK,v6,hS5,hδ⟩=>⟨δ5,e5,?_⟩
 ·rintro i v δ S5 hv ⟨gs,ks5,S6,b6,b7,b8,b11,b12,b13,b14,hgl,hgs,hK,v6,rfl,rfl⟩
  obtain⟨hi,rfl⟩:=NT.ky hv
  refine⟨sE k S.length (.int mo) (.int ga) (.lst (l.map MT.inD)) (g9 l) (some (.d (.int i))) b7 b8 b11 b12 b13 b14,rfl,?_⟩
  refine(zW hk hwid.1 (by omega) (by omega) hgl hgs hK (by omega) v6).mono fun o S7 ⟨δ7,e7,g,x,S8,c7,c8,c11,c12,c13,c14,hδ7,v8,eS7,hg8,hK8⟩=>⟨δ7,e7,gs++[g],ks5++[x],S8,_,_,_,_,_,_,_,by simp [hgl],hg8,hK8,v8,eS7,hδ7⟩
 subst hδ hS5
 rw[NT.je] at hgl
 have hk5:=hK.len
 unfold sE
 refine aF <| bj (by simp only[List.length_cons,List.length_nil,List.length_set];omega) <| ik (ds:=[]) rfl ⟨_,rfl,?_⟩
 simp only[List.set_cons_succ,List.set_cons_zero]
 have l6:=v6.len
 rw[show(S6++[SO.lst (ks5.map .int),SO.lst (gs.map kl)]).length=S.length+2 by simp [l6],List.append_assoc]
 show W3 (bb _ _ (tE k S.length (.int mo) (.int ga) (.lst (l.map MT.inD)) (g9 l) b6 b7 b8 b11 b12 b13 b14 none) (S6++[SO.lst (ks5.map .int),SO.lst (gs.map kl),SO.lst (([]:List (Str × List Nat)).map wY)])) _
 refine aF <| gR <| uQ <| ES <| cy (d:= .int 1) rfl <| cV <| aA <| w_var (v:= .loc k) rfl <| aA <| DG <| cy (d:= .lst [.int 3, .int 3, .int 6]) rfl <| draw (k:=k) rfl (v6.p.app (mP _ _ _)) rfl (by omega) (by omega) fun r7 S7 h7 h8 v7=>?_
 obtain⟨SG,rfl,vG⟩:=v7.split (by omega)
 have vG':=v6.trans vG
 obtain⟨m7,hm7,em7⟩:∃m:Int,(1≤m∧m≤6)∧bZ (.lst [.int 3, .int 3, .int 6]) (.int r7)= .ok (.int m):=by
  have:r7=0∨r7=1∨r7=2:=by omega
  rcases this with rfl | rfl | rfl
  ·exact⟨3,by omega,rfl⟩
  ·exact⟨3,by omega,rfl⟩
  ·exact⟨6,by omega,rfl⟩
 refine⟨_,_, .int m7,rfl,rfl,em7,cu <| uL (vG'.p.app (mP _ _ _)) (by omega) (by omega) fun r8 S8 h9 h10 p8 hl8 ho8=>?_⟩
 obtain⟨SH,rfl,vH0⟩:=Ev.split (⟨p8,hl8,ho8⟩:Ev k _ S8) (by have:=vG'.len;omega)
 have vH:=vG'.trans vH0
 obtain⟨n8,rfl⟩:=Int.eq_ofNat_of_zero_le h9
 refine⟨_,_, .int ((1+n8:Nat):Int),rfl,rfl,rfl,1+n8,rfl,by omega,?_⟩
 refine(b_ (fun i δ S8=>∃(os:List (Str × List Nat)) (S9:aN) (a6 a7 a8 a11 a12 a13 a14 a16:Option V3),os.length=i∧(∀x∈os,OW ks5 x.2∧dY 0 (.str x.1))∧Ev k S S9∧S8=S9++[SO.lst (ks5.map .int),SO.lst (gs.map kl),SO.lst (os.map wY)]∧δ=tE k S.length (.int mo) (.int ga) (.lst (l.map MT.inD)) (g9 l) a6 a7 a8 a11 a12 a13 a14 a16)
  ⟨[],SH,_,_,_,_,_,_,_,_,rfl,by simp,vH,rfl,rfl⟩ ?_).mono fun o S8 ⟨δ8,e8,os,S9,c6,c7,c8,c11,c12,c13,c14,c16,hol,hoo,v9,hS8,hδ⟩=>⟨δ8,e8,?_⟩
 ·rintro i v δ S8 hv ⟨os,S9,c6,c7,c8,c11,c12,c13,c14,c16,hol,hoo,v9,rfl,rfl⟩
  obtain⟨hi,rfl⟩:=NT.ky hv
  refine⟨tE k S.length (.int mo) (.int ga) (.lst (l.map MT.inD)) (g9 l) (some (.d (.int i))) c7 c8 c11 c12 c13 c14 c16,rfl,?_⟩
  refine(Bo hk (by omega) (by omega) (by omega) (by omega) v9).mono fun o S10 ⟨δ10,e10,x,S11,d8,d12,d16,hδ10,v11,eS10,hx1,hx2⟩=>⟨δ10,e10,os++[x],S11,_,_,_,_,_,_,_,_,by simp [hol],?_,v11,eS10,hδ10⟩
  intro y hy
  rcases List.mem_append.mp hy with q | q
  ·exact hoo y q
  ·rw[List.mem_singleton.mp q];exact⟨hx1,hx2⟩
 subst hδ hS8
 rw[NT.je] at hol
 unfold tE
 have l9:=v9.len
 refine fN <| tZ <| aA <| w_var (v:= .d (.lst (l.map MT.inD))) rfl <| aA <| w_var (v:= .loc (S.length+1)) rfl <| aA <| w_var (v:= .loc (S.length+2)) rfl <| cu ⟨by simp;omega,_,rfl,uc (d:=bM l gs os) v9 (mP _ _ _) ?_ ?_ (h l gs os S9 hl1 hl6 (by omega) ⟨hli,hgs,by omega,by omega,fun x hx=>⟨⟨(hoo x hx).1.1,by rw[←hk5];exact(hoo x hx).1.2.1,fun a b hab ms hms p=>?_⟩,(hoo x hx).2⟩⟩ v9)⟩
 ·show gQ S.length (.tup [.d (.lst (l.map MT.inD)), .loc (S.length+1), .loc (S.length+2)])=true
  simp [gQ,og]
 ·show res _ (.tup [.d (.lst (l.map MT.inD)), .loc (S.length+1), .loc (S.length+2)])=_
  have e2':(S9++[SO.lst (ks5.map .int),SO.lst (gs.map kl),SO.lst (os.map wY)])[S.length+1]? =some (.lst (gs.map kl)):=by rw[←l9];exact t2
  have e3':(S9++[SO.lst (ks5.map .int),SO.lst (gs.map kl),SO.lst (os.map wY)])[S.length+2]? =some (.lst (os.map wY)):=by rw[←l9];exact t3
  simp [res,mW,e2',e3',bM]
 ·have:=(hoo x hx).1
  exact hK.v ms hms p a b (this.2.1 a (by rw[hab];simp)) (this.2.1 b (by rw[hab];simp)) (this.2.2 a b hab)
end K21
end
section
set_option maxRecDepth 100000
set_option maxHeartbeats 4000000
namespace K21
open PySem PySem.Spec PyProof.Rows L2 L3 MT
noncomputable def lo:Nat→Nat→List Bool
 | 0,_=>[]
 | k+1,p=>p.testBit k ::lo k p
theorem yK:∀c p,lo (c+1) p=lo c (p / 2)++[p.testBit 0]
 | 0,p=>rfl
 | c+1,p=>by
   show p.testBit (c+1) ::lo (c+1) p=(p / 2).testBit c ::lo c (p / 2)++[p.testBit 0]
   rw[yK c p,Nat.testBit_succ]
   rfl
theorem vN{α:Type}(f g:α→α):∀(l:List α) (p:Nat),(l.flatMap fun b=>[f b,g b])[p]? =(l[p / 2]?).map fun b=>if p.testBit 0 then g b else f b
 | [],p=>by simp
 | b ::l,0=>rfl
 | b ::l,1=>rfl
 | b ::l,p+2=>by
   rw[List.flatMap_cons]
   show(f b ::g b ::(l.flatMap fun b=>[f b,g b]))[p+2]? =_
   rw[List.getElem?_cons_succ,List.getElem?_cons_succ,vN f g l p,show(p+2) / 2=p / 2+1 by omega,List.getElem?_cons_succ]
   have:(p+2).testBit 0=p.testBit 0:=by rw[Nat.testBit_zero,Nat.testBit_zero,Nat.add_mod_right]
   rw[this]
theorem vT:∀c p,p < 2 ^ c→(cU c)[p]? =some (lo c p)
 | 0,p,h=>by
   have:p=0:=by omega
   subst this;rfl
 | c+1,p,h=>by
   unfold cU
   rw[vN (fun b=>b++[false]) (fun b=>b++[true]),vT c (p / 2) (by rw[Nat.pow_succ] at h;omega),yK]
   show some _=some _
   congr 1
   cases p.testBit 0 <;> rfl
theorem Fp:∀c p k,k < c→(lo c p).getD k false=p.testBit (c - 1 - k)
 | 0,_,_,h=>by omega
 | c+1,p,0,_=>rfl
 | c+1,p,k+1,h=>by
   show(lo c p).getD k false=_
   rw[Fp c p k (by omega)]
   congr 1;omega
theorem Dc{c k p:Nat}(hk:k < c)(hp:p < 2 ^ c):sI c k p=p.testBit (c - 1 - k):=by
 unfold sI
 rw[List.getD_eq_getElem?_getD (l:=cU c),vT c p hp]
 exact Fp c p k hk
theorem t_:∀(N:Nat) (f:M),eN (N+1) f=eN N f+(if f N then 2 ^ N else 0)
 | 0,f=>by unfold eN eN;simp
 | N+1,f=>by
   have e:∀n (h:M),eN (n+1) h=(if h 0 then 1 else 0)+2*eN n (fun i=>h (i+1)):=fun _ _=>rfl
   rw[e (N+1) f,e N f,t_ N fun i=>f (i+1),Nat.mul_add,←Nat.add_assoc]
   congr 1
   show 2*(if f (N+1) then 2 ^ N else 0)=if f (N+1) then 2 ^ (N+1) else 0
   split
   ·rw[Nat.pow_succ,Nat.mul_comm]
   ·rfl
theorem yM:∀N:Nat,eN N one+1=2 ^ N
 | 0=>rfl
 | N+1=>by
   rw[t_,show one N=true from rfl,if_pos rfl,Nat.pow_succ]
   have:=yM N
   omega
theorem uD{i j:Nat}(hi:i < 1000)(hj:j < 1000):zO (.int i) (.int j)= .ok (.int ((i*2 ^ j:Nat):Int)):=by
 show R.bV (decide ((0:Int)≤j∧(j:Int) < 1000∧ -1000 < (i:Int)∧(i:Int) < 1000)) (.ok (D.int ((i:Int)*2 ^ ((j:Int)).toNat)))=_
 rw[cD _ ⟨by omega,by omega,by omega,by omega⟩,Int.toNat_natCast]
 congr 2
theorem Dt{i:Nat}{f:ax→R (List D)}{δ:ax}{es ds:List D}(h:f δ= .ok es)(hb:δ[i]? =some (.bld ds))(hl:ds.length+es.length≤sizeLine):pU i f δ= .ok (.nx (δ.set i (.bld (ds++es)))):=by
 unfold pU jB
 rw[h,R.aY,hb]
 show R.bV _ _=_
 rw[cD _ hl]
section
variable {c:Nat} {l:List (Str × Nat)} {gs:List Gt} {os:List (Str × List Nat)} {S:aN} {T:List Int}
noncomputable def bE(nt ins:D)(ws:List D)(a3 a4 a5 a6 a7:Sl):ax:=[.val nt, .val ins, .bld ws,a3,a4,a5,a6,a7]
theorem Bx{nt:D}{ws:List D}{i p:Nat}{a4 a5:Sl}(hc:l.length=c)(hc1:c≤6)(hi:i < c)(hp:p < 2 ^ c) :
 fF (bE nt (.lst (l.map MT.inD)) ws (.val (.int i)) a4 a5 (.val (.int (eN p (sI c i):Nat))) (.val (.int p)))= .ok (.nx (bE nt (.lst (l.map MT.inD)) ws (.val (.int i)) a4 a5 (.val (.int (eN (p+1) (sI c i):Nat))) (.val (.int p)))):=by
 have hpow:2 ^ c≤64:=Nat.pow_le_pow_right (by omega) (by omega:c≤6)
 unfold fF
 refine iW (i:=6) (d:= .int (eN (p+1) (sI c i):Nat)) ?_ (by unfold bE;simp only[List.length_cons,List.length_nil];omega)
 have hb:(p / 2 ^ (c - 1 - i)) % 2=if sI c i p then 1 else 0:=by
  rw[Dc hi hp,Nat.testBit_eq_decide_div_mod_eq]
  by_cases q:p / 2 ^ (c - 1 - i) % 2=1
  ·rw[q];rfl
  ·rw[decide_eq_false q,if_neg (by decide)];omega
 refine aw (a:= .int (eN p (sI c i):Nat)) (b:= .int (((if sI c i p then 1 else 0)*2 ^ p:Nat):Int)) rfl (aw (a:= .int ((if sI c i p then 1 else 0:Nat):Int)) (b:= .int p) (aw (a:= .int ((p / 2 ^ (c - 1 - i):Nat):Int)) (b:= .int 1) (aw (a:= .int p) (b:= .int ((c - 1 - i:Nat):Int)) rfl (aw (a:= .int ((c:Int) - 1)) (b:= .int i) (aw (a:= .int c) (b:= .int 1) (bp (ds:=[.lst (l.map MT.inD)]) rfl (by rw[qd,List.length_map,hc])) rfl rfl) rfl ?_) ?_) rfl ?_) rfl (uD (by split <;> omega) (by omega))) ?_
 ·show R.ok (D.int ((c:Int) - 1 - i))=_
  congr 2;omega
 ·show R.bV (decide ((0:Int)≤((c - 1 - i:Nat):Int))) (.ok (D.int ((p:Int) / 2 ^ ((((c - 1 - i:Nat):Int))).toNat)))=_
  rw[cD _ (by omega),Int.toNat_natCast]
  congr 2
 ·show R.ok (D.int (Builtin.bitAnd ((p / 2 ^ (c - 1 - i):Nat):Int) ((1:Nat):Int)))=_
  rw[rW,Nat.and_one_is_mod,hb]
 ·rw[t_]
  show R.ok (D.int ((eN p (sI c i):Int)+(((if sI c i p then 1 else 0)*2 ^ p:Nat):Int)))=_
  congr 2
  split <;> simp
theorem u_(N:Nat)(b:M):∀(n:Nat) (ws:List M),(gx [] b n ws).map (mI N)=ws.map (mI N)++List.replicate n (mI N b)
 | 0,ws=>by simp [gx]
 | n+1,ws=>by
   unfold gx
   rw[List.map_append,u_ N b n ws,List.append_assoc,List.replicate_succ']
   congr 2
   show [mI N fun p=>b p !=false]=[mI N b]
   congr 1
   exact fg fun p _=>by cases b p <;> rfl
theorem EL(d:D)(n:Nat):(List.replicate n [d]).flatten=List.replicate n d:=by
 induction n with
 | zero=>rfl
 | succ n ih=>rw [List.replicate_succ,List.flatten_cons,ih,List.replicate_succ];rfl
theorem v_(NO:j0 l gs os)(hc:l.length=c)(hc1:c≤6):dQ [bM l gs os]= .ok (.lst [.lst ((cL l (iy c) [] l.length).map (mI (2 ^ c))),mI (2 ^ c) one]):=by
 have hz:sizeLine=16777216:=sizeLine_eq
 have hpow:2 ^ c≤64:=Nat.pow_le_pow_right (by omega) (by omega:c≤6)
 have hwd:=oT NO.hw
 have hms:(iy c).length=l.length:=by rw[lW,hc]
 unfold dQ lD
 refine d9 (bY (iW (d:= .lst (l.map MT.inD)) rfl (by simp [dj,gz])) (bY (zy (ds:=[]) rfl (by simp [dj,gz])) ?_))
 obtain⟨δ1,e1,a3,a4,a5,a6,a7,hδ1⟩:=i3 (t:=dF 2 (bw (aR 3) (bw (dF 2 (bw (aR 4) (bw (aR 5) dG))) dG))) (body:=fK) (ds:=cG (l.map MT.inD))
  (fun i δ=>∃a3 a4 a5 a6 a7,δ=bE (bM l gs os) (.lst (l.map MT.inD)) ((cL l (iy c) [] i).map (mI (2 ^ c))) a3 a4 a5 a6 a7) (δ:=bE (bM l gs os) (.lst (l.map MT.inD)) [] .un .un .un .un .un) ⟨_,_,_,_,_,rfl⟩ (by
    rintro i d δ hd ⟨a3,a4,a5,a6,a7,rfl⟩
    have hv:((cG (l.map MT.inD)).map V3.d)[i]? =some (.d d):=by rw[List.getElem?_map,hd];rfl
    obtain⟨d0,hd0,ed⟩:=mh hv
    cases ed
    obtain⟨x,hx,rfl⟩:=NT.ma hd0
    have hil:=(List.getElem?_eq_some_iff.mp hx).1
    have hxw:=NO.hw x (List.mem_of_getElem? hx)
    have hlen:=j3 (bad:=[]) hms i (by omega)
    have hwt:g9 (l.take i)≤100*(l.take i).length:=oT fun y hy=>NO.hw y (List.mem_of_mem_take hy)
    rw[List.length_take] at hwt
    generalize hW:(cL l (iy c) [] i).map (mI (2 ^ c))=W
    have hWl:W.length≤10000:=by rw[←hW,List.length_map,hlen];have:=NO.hi;omega
    obtain⟨δ2,e2',b7,hδ2⟩:=i3 (t:=aR 7) (body:=fF) (ds:=e_ 0 (2 ^ c))
     (fun p δ=>∃b7,δ=bE (bM l gs os) (.lst (l.map MT.inD)) W (.val (.int i)) (.val (.str x.1)) (.val (nI x.2)) (.val (.int (eN p (sI c i):Nat))) b7) (δ:=bE (bM l gs os) (.lst (l.map MT.inD)) W (.val (.int i)) (.val (.str x.1)) (.val (nI x.2)) (.val (.int 0)) a7) ⟨_,rfl⟩ (by
       rintro p d δ hd ⟨b7,rfl⟩
       obtain⟨hp,rfl⟩:=ky hd
       exact⟨_,Bx hc hc1 (by omega) hp,_,rfl⟩)
    rw[NT.yW] at hδ2
    subst hδ2
    refine⟨bE (bM l gs os) (.lst (l.map MT.inD)) (W++List.replicate x.2 (mI (2 ^ c) (sI c i))) (.val (.int i)) (.val (.str x.1)) (.val (nI x.2)) (.val (mI (2 ^ c) (sI c i))) b7,?_,⟨.val (.int i), .val (.str x.1), .val (nI x.2), .val (mI (2 ^ c) (sI c i)),b7,?_⟩⟩
    ·show fK (bE (bM l gs os) (.lst (l.map MT.inD)) W (.val (.int i)) (.val (.str x.1)) (.val (nI x.2)) a6 a7)=_
     unfold fK
     refine bY (iW (d:= .int 0) rfl (by unfold bE;simp only[List.length_cons,List.length_nil];omega)) (bY (me (ds:=e_ 0 (2 ^ c)) (kJ (n:=2 ^ c) ((aw (a:= .int ((1:Nat):Int)) (b:= .int c) rfl (bp (ds:=[.lst (l.map MT.inD)]) rfl (by rw[qd,List.length_map,hc])) (uD (by omega) (by omega))).trans (by rw[Nat.one_mul])) (by omega)) e2') (Dt (i:=2) (ds:=W) (es:=List.replicate x.2 (mI (2 ^ c) (sI c i))) ?_ rfl (by rw[List.length_replicate];omega)))
     rw[AF (n:=x.2) (ds:=[mI (2 ^ c) (sI c i)]) (jM rfl (by simp;omega)) rfl (by omega) (by simp;omega),EL]
    ·rw[←hW]
     conv=>rhs;unfold cL
     have hm:(iy c)[i]? =some (sI c i):=by unfold iy;rw [List.getElem?_map,List.getElem?_range (by omega)];rfl
     rw[hx,hm,u_])
 refine bY (me (ds:=cG (l.map MT.inD)) (ur rfl) e1) ?_
 have hel:(cG (l.map MT.inD)).length=l.length:=by simp [cG]
 rw[hel] at hδ1
 subst hδ1
 refine(show nK 2 _ _=_ from ?_)
 unfold nK
 refine cZ (eu (jM (ds:=[.lst ((cL l (iy c) [] l.length).map (mI (2 ^ c))),mI (2 ^ c) one]) (aZ rfl (aZ ?_ rfl)) (by simp;omega)))
 refine aw (a:= .int ((2 ^ (2 ^ c):Nat):Int)) (b:= .int 1) (aw (a:= .int ((1:Nat):Int)) (b:= .int ((2 ^ c:Nat):Int)) rfl ((aw (a:= .int ((1:Nat):Int)) (b:= .int c) rfl (bp (ds:=[.lst (l.map MT.inD)]) rfl (by rw[qd,List.length_map,hc])) (uD (by omega) (by omega))).trans (by rw[Nat.one_mul])) ((uD (by omega) (by omega)).trans (by rw[Nat.one_mul]))) rfl ?_
 have:=yM (2 ^ c)
 show R.ok (D.int (((2 ^ (2 ^ c):Nat):Int) - 1))=R.ok (D.int ((eN (2 ^ c) one:Nat):Int))
 congr 2;omega
end
end K21
end
section
set_option maxRecDepth 100000
set_option maxHeartbeats 4000000
namespace K21
open PySem PySem.Spec PyProof.Rows L2 L3 MT
theorem xC{x:D}{xs:List D}:bZ (.lst (x ::xs)) (.int 0)= .ok x:=NT.jF (z:=0) rfl
theorem D5{x y:D}{xs:List D}:bZ (.lst (x ::y ::xs)) (.int 1)= .ok y:=NT.jF (z:=1) rfl
theorem Jv{x y z:D}{xs:List D}:bZ (.lst (x ::y ::z ::xs)) (.int 2)= .ok z:=NT.jF (z:=2) rfl
theorem fW{c:FB}{F:FZ}{δ:DE}{S:aN}{QO:Ou→aN→Prop}(h:W3 (c δ S) fun b S1=>b=false∧QO (.nx δ) S1):W3 (mX c F gS δ S) QO:=lU (h.mono fun b S1 ⟨e,q⟩=>by subst e;rw [if_neg (by decide)];exact iK q)
theorem pP{c:FB}{F G:FZ}{δ:DE}{S:aN}{QO:Ou→aN→Prop}(h:W3 (c δ S) fun b S1=>b=true∧W3 (F δ S1) QO):W3 (mX c F G δ S) QO:=lU (h.mono fun b S1 ⟨e,q⟩=>by subst e;rw [if_pos rfl];exact q)
section
variable {N:Nat} {S:aN}
noncomputable def wE(nt ah tu full:D)(a:Nat)(a5 a6 a7 a8 a9 a10:Option V3):DE:=[some (.d nt),some (.d ah),some (.d tu),some (.loc a),some (.d full),a5,a6,a7,a8,a9,a10]
theorem Gx{nt ah tu:D}{a kd:Nat}{a5 a7 a8:Option V3}{xs:List M}{G:FZ}{QO:Ou→aN→Prop}(hk:kd≤4)(hx:xs.length=ar kd)
 (h:W3 (G (wE nt ah tu (mI N one) a a5 (some (.d (.str (kS kd)))) a7 a8 (some (.d (.lst (xs.map (mI N))))) (some (.d (mI N fun p=>gv kd (xs.map (· p)))))) S) QO) {a10:Option V3} :
 W3 (bb (bL 10 (xP (e2 bZ (ae 9) (eC (.int 0))))) (bb (mX (bP (b2 gO (ae 6) (eC (.str (Str.ofString "not"))))) (bL 10 (xP (e2 tw (ae 4) (ae 10)))) gS) (bb (mX (bP (b2 gO (ae 6) (eC (.str (Str.ofString "and"))))) (bL 10 (xP (e2 qp (e2 bZ (ae 9) (eC (.int 0))) (e2 bZ (ae 9) (eC (.int 1)))))) gS) (bb (mX (bP (b2 gO (ae 6) (eC (.str (Str.ofString "or"))))) (bL 10 (xP (e2 r_ (e2 bZ (ae 9) (eC (.int 0))) (e2 bZ (ae 9) (eC (.int 1)))))) gS) (bb (mX (bP (b2 gO (ae 6) (eC (.str (Str.ofString "xor"))))) (bL 10 (xP (e2 tw (e2 bZ (ae 9) (eC (.int 0))) (e2 bZ (ae 9) (eC (.int 1)))))) gS) (bb (mX (bP (b2 gO (ae 6) (eC (.str (Str.ofString "vote"))))) (bL 10 (xP (e2 r_ (e2 r_ (e2 qp (e2 bZ (ae 9) (eC (.int 0))) (e2 bZ (ae 9) (eC (.int 1)))) (e2 qp (e2 bZ (ae 9) (eC (.int 0))) (e2 bZ (ae 9) (eC (.int 2))))) (e2 qp (e2 bZ (ae 9) (eC (.int 1))) (e2 bZ (ae 9) (eC (.int 2))))))) gS) G))))) (wE nt ah tu (mI N one) a a5 (some (.d (.str (kS kd)))) a7 a8 (some (.d (.lst (xs.map (mI N))))) a10) S) QO:=by
 have q:∀(j:Nat) (b:Option V3),j≤4→b2 gO (ae 6) (eC (.str (kS j))) (down (wE nt ah tu (mI N one) a a5 (some (.d (.str (kS kd)))) a7 a8 (some (.d (.lst (xs.map (mI N))))) b))= .ok (decide (kd=j)):=fun j b hj=>f_ (a:= .str (kS kd)) (b:= .str (kS j)) rfl rfl (ER kd j hk hj)
 have ln:∀b:Option V3,10 < (wE nt ah tu (mI N one) a a5 (some (.d (.str (kS kd)))) a7 a8 (some (.d (.lst (xs.map (mI N))))) b).length:=fun b=>by unfold wE;simp only[List.length_cons,List.length_nil];omega
 match kd,hk,xs,hx with
 | 0,_,[x],_=>
   refine aF <| bj (ln _) <| cy (d:=mI N x) (aw rfl rfl xC) ⟨_,rfl,?_⟩
   refine aF <| pP <| eJ (b:=true) (q 0 _ (by omega)) ⟨rfl,bj (ln (some (.d (mI N x)))) <| cy (d:=mI N fun p=>!x p) (aw rfl rfl (t5 N x)) ⟨_,rfl,?_⟩⟩
   refine aF <| fW <| eJ (b:=false) (q 1 _ (by omega)) ⟨rfl,_,rfl,?_⟩
   refine aF <| fW <| eJ (b:=false) (q 2 _ (by omega)) ⟨rfl,_,rfl,?_⟩
   refine aF <| fW <| eJ (b:=false) (q 3 _ (by omega)) ⟨rfl,_,rfl,?_⟩
   exact aF <| fW <| eJ (b:=false) (q 4 _ (by omega)) ⟨rfl,_,rfl,h⟩
 | 1,_,[x,y],_=>
   refine aF <| bj (ln _) <| cy (d:=mI N x) (aw rfl rfl xC) ⟨_,rfl,?_⟩
   refine aF <| fW <| eJ (b:=false) (q 0 _ (by omega)) ⟨rfl,_,rfl,?_⟩
   refine aF <| pP <| eJ (b:=true) (q 1 _ (by omega)) ⟨rfl,bj (ln (some (.d (mI N x)))) <| cy (d:=mI N fun p=>x p && y p) (aw (aw rfl rfl xC) (aw rfl rfl D5) (jj N x y)) ⟨_,rfl,?_⟩⟩
   refine aF <| fW <| eJ (b:=false) (q 2 _ (by omega)) ⟨rfl,_,rfl,?_⟩
   refine aF <| fW <| eJ (b:=false) (q 3 _ (by omega)) ⟨rfl,_,rfl,?_⟩
   exact aF <| fW <| eJ (b:=false) (q 4 _ (by omega)) ⟨rfl,_,rfl,h⟩
 | 2,_,[x,y],_=>
   refine aF <| bj (ln _) <| cy (d:=mI N x) (aw rfl rfl xC) ⟨_,rfl,?_⟩
   refine aF <| fW <| eJ (b:=false) (q 0 _ (by omega)) ⟨rfl,_,rfl,?_⟩
   refine aF <| fW <| eJ (b:=false) (q 1 _ (by omega)) ⟨rfl,_,rfl,?_⟩
   refine aF <| pP <| eJ (b:=true) (q 2 _ (by omega)) ⟨rfl,bj (ln (some (.d (mI N x)))) <| cy (d:=mI N fun p=>x p || y p) (aw (aw rfl rfl xC) (aw rfl rfl D5) (mD N x y)) ⟨_,rfl,?_⟩⟩
   refine aF <| fW <| eJ (b:=false) (q 3 _ (by omega)) ⟨rfl,_,rfl,?_⟩
   exact aF <| fW <| eJ (b:=false) (q 4 _ (by omega)) ⟨rfl,_,rfl,h⟩
 | 3,_,[x,y],_=>
   refine aF <| bj (ln _) <| cy (d:=mI N x) (aw rfl rfl xC) ⟨_,rfl,?_⟩
   refine aF <| fW <| eJ (b:=false) (q 0 _ (by omega)) ⟨rfl,_,rfl,?_⟩
   refine aF <| fW <| eJ (b:=false) (q 1 _ (by omega)) ⟨rfl,_,rfl,?_⟩
   refine aF <| fW <| eJ (b:=false) (q 2 _ (by omega)) ⟨rfl,_,rfl,?_⟩
   refine aF <| pP <| eJ (b:=true) (q 3 _ (by omega)) ⟨rfl,bj (ln (some (.d (mI N x)))) <| cy (d:=mI N fun p=>x p !=y p) (aw (aw rfl rfl xC) (aw rfl rfl D5) (pB N x y)) ⟨_,rfl,?_⟩⟩
   exact aF <| fW <| eJ (b:=false) (q 4 _ (by omega)) ⟨rfl,_,rfl,h⟩
 | 4,_,[x,y,z],_=>
   refine aF <| bj (ln _) <| cy (d:=mI N x) (aw rfl rfl xC) ⟨_,rfl,?_⟩
   refine aF <| fW <| eJ (b:=false) (q 0 _ (by omega)) ⟨rfl,_,rfl,?_⟩
   refine aF <| fW <| eJ (b:=false) (q 1 _ (by omega)) ⟨rfl,_,rfl,?_⟩
   refine aF <| fW <| eJ (b:=false) (q 2 _ (by omega)) ⟨rfl,_,rfl,?_⟩
   refine aF <| fW <| eJ (b:=false) (q 3 _ (by omega)) ⟨rfl,_,rfl,?_⟩
   exact aF <| pP <| eJ (b:=true) (q 4 _ (by omega)) ⟨rfl,bj (ln (some (.d (mI N x)))) <| cy (d:=mI N fun p=>(x p && y p || x p && z p) || y p && z p) (aw (aw (aw (aw rfl rfl xC) (aw rfl rfl D5) (jj N x y)) (aw (aw rfl rfl xC) (aw rfl rfl Jv) (jj N x z)) (mD N _ _)) (aw (aw rfl rfl D5) (aw rfl rfl Jv) (jj N y z)) (mD N _ _)) ⟨_,rfl,h⟩⟩
theorem Ge{a:Nat}{ws:List M}{ns:List Nat}{δ:DE}{it:FA}{own:List Str}{kp:List Nat}{Q:V3→aN→Prop}(hn:∀n∈ns,n < ws.length)(hl:ns.length < 1000)(hit:W3 (it δ S) fun vs S1=>vs=(ns.map nI).map V3.d∧S1=S)(hkp:f9 own kp δ=[none,some (.loc a)])(e:S[a]? =some (.lst (ws.map (mI N))))(h:Q (.d (.lst ((ns.map (cS ws)).map (mI N)))) S) :
 W3 (jm it (iR 0) sH (xT (e2 bZ (ae 1) (ae 0))) own kp δ S) Q:=by
 have hz:sizeLine=16777216:=sizeLine_eq
 refine md (fun j ds S2=>S2=S∧ds=(((ns.map (cS ws)).map (mI N)).take j)) (hit.mono fun vs S1 ⟨e1,e2'⟩=>?_)
 subst e1 e2'
 refine⟨by rw[List.length_map,List.length_map];omega,⟨rfl,by simp⟩,?_,?_⟩
 ·rintro j v ds S2 hv ⟨rfl,rfl⟩
  obtain⟨n,hnj,rfl⟩:=NT.jV hv
  rw[hkp]
  refine⟨[some (.d (nI n)),some (.loc a)],rfl,tJ ?_⟩
  rw[if_pos rfl]
  refine yI (d:=mI N (cS ws n)) (aw (a:= .lst (ws.map (mI N))) (b:=nI n) (kW rfl (cX e)) rfl (xQ (hn n (List.mem_of_getElem? hnj)))) rfl ⟨_,rfl,rfl,?_⟩
  rw[List.take_add_one,List.getElem?_map,List.getElem?_map,hnj];rfl
 ·rintro ds S2 ⟨rfl,rfl⟩
  rw[List.length_map,List.length_map,List.take_of_length_le (by simp)]
  exact h
end
section
variable {c:Nat} {l:List (Str × Nat)} {gs:List Gt} {os:List (Str × List Nat)} {S:aN} {T:List Int}
noncomputable def x3(c:Nat)(l:List (Str × Nat)):D:= .lst [.lst ((cL l (iy c) [] l.length).map (mI (2 ^ c))),mI (2 ^ c) one]
theorem A2(i:Nat)(T:List Int):vB (.int i) (.tup (T.map .int))= .ok (.bl (T.contains (i:Int))):=qr _ _
theorem uv(NO:j0 l gs os)(hc:l.length=c)(hS:ll S){Q:V3→aN→Prop}(h:Q (.d (.lst ((Wd c l gs T []).map (mI (2 ^ c))))) S) :
 W3 (dP [.d (bM l gs os), .d (x3 c l), .d (.tup (T.map .int))] S) Q:=by
 have hz:sizeLine=16777216:=sizeLine_eq
 have hG:=NO.hg
 have hI:=NO.hi
 have hwd:=oT NO.hw
 have hms:(iy c).length=l.length:=by rw[lW,hc]
 have h0:=j3 (bad:=[]) hms _ (Nat.le_refl _)
 rw[List.take_length] at h0
 unfold dP
 refine lQ hS (sQ rfl ?_)
 simp only[bS,eL,List.map_cons,List.map_nil,List.length_cons,List.length_nil,List.replicate,List.cons_append,List.nil_append,Nat.reduceAdd,Nat.reduceSub]
 unfold iC
 refine aF <| bj (by simp only[List.length_cons,List.length_nil,List.length_set];omega) <| ik (ds:=(cL l (iy c) [] l.length).map (mI (2 ^ c))) rfl ⟨_,rfl,?_⟩
 simp only[List.set_cons_succ,List.set_cons_zero]
 refine aF <| bj (by simp only[List.length_cons,List.length_nil,List.length_set];omega) <| cy (d:=mI (2 ^ c) one) rfl ⟨_,rfl,?_⟩
 simp only[List.set_cons_succ,List.set_cons_zero]
 refine aF <| gR <| my (ds:=cG (gs.map kl)) (ur (aw (a:=bM l gs os) (b:= .int 1) rfl rfl rfl)) ?_
 refine(b_ (fun i δ S2=>S2=S++[SO.lst ((mF gs T (cL l (iy c) [] l.length) i).map (mI (2 ^ c)))]∧∃a5 a6 a7 a8 a9 a10,δ=wE (bM l gs os) (x3 c l) (.tup (T.map .int)) (mI (2 ^ c) one) S.length a5 a6 a7 a8 a9 a10)
  ⟨rfl,_,_,_,_,_,_,rfl⟩ ?_).mono fun o S2 ⟨δ2,e2',hS2,a5,a6,a7,a8,a9,a10,hδ⟩=>⟨δ2,e2',?_⟩
 ·rintro i v δ S2 hv ⟨rfl,a5,a6,a7,a8,a9,a10,rfl⟩
  obtain⟨d,hd,rfl⟩:=mh hv
  obtain⟨g,hg,rfl⟩:=NT.ma hd
  have hil:=(List.getElem?_eq_some_iff.mp hg).1
  have hlen:=mv (gs:=gs) (turned:=T) (w0:=cL l (iy c) [] l.length) i (by omega)
  have hgo:=NO.g i g hg
  have har:=yD g.1
  have hnext:mF gs T (cL l (iy c) [] l.length) (i+1)=mF gs T (cL l (iy c) [] l.length) i++[fun p=>gF g (mF gs T (cL l (iy c) [] l.length) i) p !=T.contains (i:Int)]:=by
   conv=>lhs;unfold mF
   rw[hg]
  rw[hnext]
  generalize mF gs T (cL l (iy c) [] l.length) i=ws at hlen
  refine⟨wE (bM l gs os) (x3 c l) (.tup (T.map .int)) (mI (2 ^ c) one) S.length (some (.d (.int i))) (some (.d (.str (kS g.1)))) (some (.d (.tup (g.2.1.map nI)))) (some (.d (.bl g.2.2))) a9 a10,rfl,?_⟩
  unfold jO
  refine aF <| bj (by unfold wE;simp only[List.length_cons,List.length_nil];omega) <| Ge (a:=S.length) (ws:=ws) (ns:=g.2.1) (fun n hn=>by have:=hgo.2.2 n hn;omega) (by rw[hgo.2.1];omega) (my (ds:=g.2.1.map nI) (nC rfl) ⟨rfl,rfl⟩) rfl (bc _ _) ⟨_,rfl,?_⟩
  refine Gx (xs:=g.2.1.map (cS ws)) hgo.1 (by rw[List.length_map];exact hgo.2.1) ?_
  have egF:(fun p=>gv g.1 ((g.2.1.map (cS ws)).map (· p)))=gF g ws:=by
   funext p
   unfold gF
   rw[List.map_map];rfl
  rw[egF]
  have ht:=xl (2 ^ c) (gF g ws) (T.contains (i:Int))
  refine aF (W3.mono (Q:=fun o S3=>S3=S++[SO.lst (ws.map (mI (2 ^ c)))]∧o= .nx (wE (bM l gs os) (x3 c l) (.tup (T.map .int)) (mI (2 ^ c) one) S.length (some (.d (.int i))) (some (.d (.str (kS g.1)))) (some (.d (.tup (g.2.1.map nI)))) (some (.d (.bl g.2.2))) (some (.d (.lst ((g.2.1.map (cS ws)).map (mI (2 ^ c)))))) (some (.d (mI (2 ^ c) fun p=>gF g ws p !=T.contains (i:Int)))))) ?_ ?_)
  ·cases hb:T.contains (i:Int) with
   | true=>
     rw[hb,if_pos rfl] at ht
     refine pP <| eJ (b:=true) (f_ (a:= .int i) (b:= .tup (T.map .int)) rfl rfl ((A2 i T).trans (by rw[hb]))) ⟨rfl,bj (by unfold wE;simp only[List.length_cons,List.length_nil];omega) <| cy (aw (a:=mI (2 ^ c) one) (b:=mI (2 ^ c) (gF g ws)) rfl rfl ht) ⟨rfl,rfl⟩⟩
   | false=>
     rw[hb,if_neg (by decide)] at ht
     refine fW <| eJ (b:=false) (f_ (a:= .int i) (b:= .tup (T.map .int)) rfl rfl ((A2 i T).trans (by rw[hb]))) ⟨rfl,rfl,?_⟩
     have:=R.ok.inj ht
     rw[←this]
  ·rintro o S3 ⟨rfl,rfl⟩
   refine⟨_,rfl,?_⟩
   refine j7 (k:=S.length) rfl ⟨_,bc _ _⟩ <| cy (d:=mI (2 ^ c) fun p=>gF g ws p !=T.contains (i:Int)) rfl ⟨_,_,rfl,bc _ _,by rw[List.length_map];omega,_,rfl,?_,_,_,_,_,_,_,rfl⟩
   rw[dw,List.map_append];rfl
 ·subst hδ hS2
  have hel:((cG (gs.map kl)).map V3.d).length=gs.length:=by unfold cG;simp
  rw[hel]
  refine fN <| w_var (v:= .loc S.length) rfl ⟨_,rfl,?_,⟨_,rfl⟩,_,cX (bc _ _),h⟩
  show decide (S.length≤S.length)=true
  exact decide_eq_true (Nat.le_refl _)
noncomputable def oB(N:Nat)(ws:List M)(x:Str × List Nat):D:= .tup [mI N fun p=>(pt ws x p).2,mI N fun p=>!((pt ws x p).1 || (pt ws x p).2)]
noncomputable def rE(nt ah tu fo:D)(a:Nat)(a5 a6 a7 a8:Option V3):DE:=[some (.d nt),some (.d ah),some (.d tu),some (.d fo),some (.loc a),a5,a6,a7,a8]
theorem Gd{N:Nat}{ws:List M}{ns:List Nat}{δ:DE}{own:List Str}{kp:List Nat}{it:FA}{Q:V3→aN→Prop}(hn:∀n∈ns,n < ws.length)(hl:ns.length < 1000)(hit:W3 (it δ S) fun vs S1=>vs=(ns.map nI).map V3.d∧S1=S)(hkp:f9 own kp δ=[none,some (.d (.lst (ws.map (mI N))))])(h:Q (.d (.lst ((ns.map (cS ws)).map (mI N)))) S) :
 W3 (jm it (iR 0) sH (xP (e2 bZ (ae 1) (ae 0))) own kp δ S) Q:=by
 have hz:sizeLine=16777216:=sizeLine_eq
 refine md (fun j ds S2=>S2=S∧ds=(((ns.map (cS ws)).map (mI N)).take j)) (hit.mono fun vs S1 ⟨e1,e2'⟩=>?_)
 subst e1 e2'
 refine⟨by rw[List.length_map,List.length_map];omega,⟨rfl,by simp⟩,?_,?_⟩
 ·rintro j v ds S2 hv ⟨rfl,rfl⟩
  obtain⟨n,hnj,rfl⟩:=NT.jV hv
  rw[hkp]
  refine⟨[some (.d (nI n)),some (.d (.lst (ws.map (mI N))))],rfl,tJ ?_⟩
  rw[if_pos rfl]
  refine cy (d:=mI N (cS ws n)) (aw (a:= .lst (ws.map (mI N))) (b:=nI n) rfl rfl (xQ (hn n (List.mem_of_getElem? hnj)))) ⟨_,rfl,rfl,?_⟩
  rw[List.take_add_one,List.getElem?_map,List.getElem?_map,hnj];rfl
 ·rintro ds S2 ⟨rfl,rfl⟩
  rw[List.length_map,List.length_map,List.take_of_length_le (by simp)]
  exact h
theorem Ce(N:Nat):D.int 0=mI N fun _=>false:=by
 unfold mI
 rw[vJ.mpr fun _ _=>rfl];rfl
theorem vz(NO:j0 l gs os)(hc:l.length=c)(ho:∀x∈os,1≤x.2.length∧x.2.length≤3)(hS:ll S){Q:V3→aN→Prop}(h:Q (.d (.lst (os.map (oB (2 ^ c) (Wd c l gs T []))))) S) :
 W3 (fM [.d (bM l gs os), .d (x3 c l), .d (.tup (T.map .int))] S) Q:=by
 have hz:sizeLine=16777216:=sizeLine_eq
 have hO:=NO.ho
 have hms:(iy c).length=l.length:=by rw[lW,hc]
 unfold fM
 refine lQ hS (sQ rfl ?_)
 simp only[bS,ix,List.map_cons,List.map_nil,List.length_cons,List.length_nil,List.replicate,List.cons_append,List.nil_append,Nat.reduceAdd,Nat.reduceSub]
 unfold lz
 refine aF <| bj (by simp only[List.length_cons,List.length_nil,List.length_set];omega) <| cV <| aA <| cy (d:=bM l gs os) rfl <| aA <| cy (d:=x3 c l) rfl <| aA <| cy (d:= .tup (T.map .int)) rfl <| cu <| uv NO hc hS ⟨_,rfl,?_⟩
 simp only[List.set_cons_succ,List.set_cons_zero]
 have hWl:(Wd c l gs T []).length=g9 l+gs.length:=wo hms
 generalize hWW:Wd c l gs T []=W at h hWl
 refine aF <| bj (by simp only[List.length_cons,List.length_nil,List.length_set];omega) <| ik (ds:=[]) rfl ⟨_,rfl,?_⟩
 simp only[List.set_cons_succ,List.set_cons_zero]
 refine aF <| gR <| my (ds:=os.map wY) (kC (aw (a:=bM l gs os) (b:= .int 2) rfl rfl rfl)) ?_
 refine(b_ (fun i δ S2=>S2=S++[SO.lst ((os.take i).map (oB (2 ^ c) W))]∧∃a5 a6 a7 a8,δ=rE (bM l gs os) (x3 c l) (.tup (T.map .int)) (.lst (W.map (mI (2 ^ c)))) S.length a5 a6 a7 a8)
  ⟨rfl,_,_,_,_,rfl⟩ ?_).mono fun o S2 ⟨δ2,e2',hS2,a5,a6,a7,a8,hδ⟩=>⟨δ2,e2',?_⟩
 ·rintro i v δ S2 hv ⟨rfl,a5,a6,a7,a8,rfl⟩
  obtain⟨x,hx,rfl⟩:=NT.jV hv
  have hxm:=List.mem_of_getElem? hx
  obtain⟨o1,o2⟩:=NO.o x hxm
  have hx3:=ho x hxm
  have hlt:((os.take i).map (oB (2 ^ c) W)).length < sizeLine:=by rw[List.length_map,List.length_take];omega
  have hnx:(os.take (i+1)).map (oB (2 ^ c) W)=(os.take i).map (oB (2 ^ c) W)++[oB (2 ^ c) W x]:=by rw[List.take_add_one,hx,List.map_append];rfl
  rw[hnx]
  generalize (os.take i).map (oB (2 ^ c) W)=L at hlt
  refine⟨rE (bM l gs os) (x3 c l) (.tup (T.map .int)) (.lst (W.map (mI (2 ^ c)))) S.length (some (.d (.str x.1))) (some (.d (.tup (x.2.map nI)))) a7 a8,rfl,?_⟩
  unfold mL
  refine aF <| bj (by unfold rE;simp only[List.length_cons,List.length_nil,List.length_set];omega) <| Gd (N:=2 ^ c) (ws:=W) (ns:=x.2) (fun n hn=>by have:=o2 n hn;omega) o1 (my (ds:=x.2.map nI) (nC rfl) ⟨rfl,rfl⟩) rfl ⟨_,rfl,?_⟩
  have fin:∀(δ:DE),(∃a5 a6 a7 a8,δ=rE (bM l gs os) (x3 c l) (.tup (T.map .int)) (.lst (W.map (mI (2 ^ c)))) S.length a5 a6 a7 a8)→∀f:FD,f (down δ)= .ok (oB (2 ^ c) W x)→W3 (jP 4 (xP f) δ (S++[SO.lst L])) fun o S2=>∃δ2,o= .nx δ2∧S2=S++[SO.lst (L++[oB (2 ^ c) W x])]∧∃a5 a6 a7 a8,δ2=rE (bM l gs os) (x3 c l) (.tup (T.map .int)) (.lst (W.map (mI (2 ^ c)))) S.length a5 a6 a7 a8:=fun δ ⟨b5,b6,b7,b8,eδ⟩ f hf=>by
   subst eδ
   refine j7 (k:=S.length) rfl ⟨_,bc _ _⟩ <| cy hf ⟨_,_,rfl,bc _ _,hlt,_,rfl,?_,_,_,_,_,rfl⟩
   rw[dw]
  have hpt:∀p,pt W x p=FI (x.2.map fun n=>cS W n p):=fun p=>by unfold pt tell;rw [List.map_map];rfl
  obtain⟨nm,ns⟩:=x
  match ns,hx3 with
  | [a],_=>
    refine pP <| eJ (b:=true) rfl ⟨rfl,fin _ ⟨_,_,_,_,rfl⟩ _ ?_⟩
    refine(dH (ds:=[mI (2 ^ c) (cS W a),mI (2 ^ c) fun _=>false]) (aZ (aw rfl rfl xC) (aZ (by rw[←Ce];rfl) rfl)) (by simp;omega)).trans ?_
    have e1:mI (2 ^ c) (cS W a)=mI (2 ^ c) fun p=>(pt W (nm,[a]) p).2:=fg fun p _=>by rw[hpt];rfl
    have e2':(mI (2 ^ c) fun _=>false)=mI (2 ^ c) fun p=>!((pt W (nm,[a]) p).1 || (pt W (nm,[a]) p).2):=fg fun p _=>by rw[hpt];show false=!(!(cS W a p) || cS W a p);cases cS W a p <;> rfl
    unfold oB
    rw[e1,e2']
  | [a,b],_=>
    refine lU <| eJ (b:=false) rfl ?_
    rw[if_neg (by decide)]
    refine pP <| eJ (b:=true) rfl ⟨rfl,fin _ ⟨_,_,_,_,rfl⟩ _ ?_⟩
    refine(dH (ds:=[mI (2 ^ c) fun p=>cS W a p && cS W b p,mI (2 ^ c) fun p=>cS W a p !=cS W b p]) (aZ (aw (aw rfl rfl xC) (aw rfl rfl D5) (jj _ _ _)) (aZ (aw (aw rfl rfl xC) (aw rfl rfl D5) (pB _ _ _)) rfl)) (by simp;omega)).trans ?_
    have e1:(mI (2 ^ c) fun p=>cS W a p && cS W b p)=mI (2 ^ c) fun p=>(pt W (nm,[a,b]) p).2:=fg fun p _=>by rw[hpt];rfl
    have e2':(mI (2 ^ c) fun p=>cS W a p !=cS W b p)=mI (2 ^ c) fun p=>!((pt W (nm,[a,b]) p).1 || (pt W (nm,[a,b]) p).2):=fg fun p _=>by rw[hpt];show(cS W a p !=cS W b p)=!(!(cS W a p || cS W b p) || (cS W a p && cS W b p));cases cS W a p <;> cases cS W b p <;> rfl
    unfold oB
    rw[e1,e2']
  | [a,b,d],_=>
    refine lU <| eJ (b:=false) rfl ?_
    rw[if_neg (by decide)]
    refine lU <| eJ (b:=false) rfl ?_
    rw[if_neg (by decide)]
    refine aF <| bj (by unfold rE;simp only[List.length_cons,List.length_nil,List.length_set];omega) <| cy (d:=mI (2 ^ c) fun p=>(cS W a p && cS W b p || cS W a p && cS W d p) || cS W b p && cS W d p) (aw (aw (aw (aw rfl rfl xC) (aw rfl rfl D5) (jj _ _ _)) (aw (aw rfl rfl xC) (aw rfl rfl Jv) (jj _ _ _)) (mD _ _ _)) (aw (aw rfl rfl D5) (aw rfl rfl Jv) (jj _ _ _)) (mD _ _ _)) ⟨_,rfl,fin _ ⟨_,_,_,_,rfl⟩ _ ?_⟩
    refine(dH (ds:=[mI (2 ^ c) fun p=>(cS W a p && cS W b p || cS W a p && cS W d p) || cS W b p && cS W d p,mI (2 ^ c) fun _=>false]) (aZ rfl (aZ (by rw[←Ce];rfl) rfl)) (by simp;omega)).trans ?_
    have e1:(mI (2 ^ c) fun p=>(cS W a p && cS W b p || cS W a p && cS W d p) || cS W b p && cS W d p)=mI (2 ^ c) fun p=>(pt W (nm,[a,b,d]) p).2:=fg fun p _=>by rw[hpt];rfl
    have e2':(mI (2 ^ c) fun _=>false)=mI (2 ^ c) fun p=>!((pt W (nm,[a,b,d]) p).1 || (pt W (nm,[a,b,d]) p).2):=fg fun p _=>by
     rw[hpt]
     show false=!(!((cS W a p && cS W b p || cS W a p && cS W d p) || cS W b p && cS W d p) || ((cS W a p && cS W b p || cS W a p && cS W d p) || cS W b p && cS W d p))
     cases((cS W a p && cS W b p || cS W a p && cS W d p) || cS W b p && cS W d p) <;> rfl
    unfold oB
    rw[e1,e2']
 ·subst hδ hS2
  rw[List.length_map,List.length_map,List.take_length]
  refine fN <| w_var (v:= .loc S.length) rfl ⟨_,rfl,?_,⟨_,rfl⟩,_,cX (bc _ _),h⟩
  show decide (S.length≤S.length)=true
  exact decide_eq_true (Nat.le_refl _)
end
end K21
end
section
set_option maxRecDepth 100000
set_option maxHeartbeats 4000000
namespace K21
open PySem PySem.Spec PyProof.Rows L2 L3 MT
theorem xg(ps:List Nat):(List.range ps.length).map (fun a=>ps.getD a 0)=ps:=by
 refine List.ext_getElem? fun i=>?_
 rw[List.getElem?_map]
 by_cases q:i < ps.length
 ·rw[List.getElem?_range q]
  show some (ps.getD i 0)=_
  rw[List.getD_eq_getElem?_getD,List.getElem?_eq_getElem q];rfl
 ·rw[List.getElem?_eq_none (by simp;omega),List.getElem?_eq_none (by omega)];rfl
theorem w_(gs:List Gt):(l_ gs).Pairwise (· < ·):=List.Pairwise.filter _ List.pairwise_lt_range
theorem vP{α β:Type}(f:α→β):∀xs:List α,(xs.flatMap fun x=>[f x])=xs.map f
 | []=>rfl
 | x ::xs=>by rw[List.flatMap_cons,vP f xs];rfl
theorem Ee(ps:List Nat):iB ps 1=ps.map fun x=>[x]:=by
 show((List.range ps.length).flatMap fun a=>(iB (ps.drop (a+1)) 0).map (ps.getD a 0 ::·))=_
 have:(fun a=>(iB (ps.drop (a+1)) 0).map (ps.getD a 0 ::·))=fun a=>[[ps.getD a 0]]:=by funext a;rfl
 rw[this,vP]
 conv=>rhs;rw [←xg ps]
 rw[List.map_map];rfl
theorem wG{free:List Nat}(hs:free.Pairwise (· < ·)){a:Nat}(ha:a < free.length):free.filter (fun o=>decide (o > free.getD a 0))=free.drop (a+1):=by
 have hga:free.getD a 0=free[a]:=by rw[List.getD_eq_getElem?_getD,List.getElem?_eq_getElem ha];rfl
 rw[hga]
 generalize hx:free[a]=x
 have e2:free.filter (fun o=>decide (o > x))=(free.take (a+1)++free.drop (a+1)).filter (fun o=>decide (o > x)):=by rw[List.take_append_drop]
 rw[e2,List.filter_append]
 subst hx
 have h1:(free.take (a+1)).filter (fun o=>decide (o > free[a]))=[]:=by
  rw[List.filter_eq_nil_iff]
  intro o ho
  obtain⟨i,hi,rfl⟩:=List.mem_iff_getElem.mp ho
  rw[List.length_take] at hi
  rw[List.getElem_take]
  have hle:free[i]'(by omega)≤free[a]:=by
   rcases Nat.lt_or_ge i a with z | z
   ·exact Nat.le_of_lt (List.pairwise_iff_getElem.mp hs i a (by omega) ha z)
   ·have:i=a:=by omega
    subst this;exact Nat.le_refl _
  rw[decide_eq_true_eq]
  omega
 rw[h1,List.nil_append,List.filter_eq_self]
 intro o ho
 obtain⟨i,hi,rfl⟩:=List.mem_iff_getElem.mp ho
 rw[List.length_drop] at hi
 rw[List.getElem_drop]
 exact decide_eq_true (List.pairwise_iff_getElem.mp hs a (a+1+i) ha (by omega) (by omega))
noncomputable def okN(s:List Nat)(o:Nat):Bool:=match s.getLast? with | none=>true | some l=>decide (o > l)
theorem JR{free:List Nat}(hs:free.Pairwise (· < ·)){a:Nat}(ha:a < free.length){s:List Nat}(h:∀x∈s,x∈free.drop (a+1)):free.filter (okN (free.getD a 0 ::s))=(free.drop (a+1)).filter (okN s):=by
 have hga:free.getD a 0=free[a]:=by rw[List.getD_eq_getElem?_getD,List.getElem?_eq_getElem ha];rfl
 cases s with
 | nil=>
   have e1:okN [free.getD a 0]=fun o=>decide (o > free.getD a 0):=rfl
   have e2:(free.drop (a+1)).filter (okN [])=free.drop (a+1):=by rw[List.filter_eq_self];intro o _;rfl
   rw[e1,wG hs ha,e2]
 | cons y r=>
   have e1:okN (free.getD a 0 ::y ::r)=okN (y ::r):=by unfold okN;rw [List.getLast?_cons_cons]
   rw[e1]
   have hl:∃l,(y ::r).getLast? =some l:=⟨_,List.getLast?_eq_some_getLast (by simp)⟩
   obtain⟨l,hl⟩:=hl
   have hlm:=h l (List.mem_of_getLast? hl)
   have hgt:free[a] < l:=by
    obtain⟨i,hi,rfl⟩:=List.mem_iff_getElem.mp hlm
    rw[List.length_drop] at hi
    rw[List.getElem_drop]
    exact List.pairwise_iff_getElem.mp hs a (a+1+i) ha (by omega) (by omega)
   have e2:okN (y ::r)=fun o=>decide (o > l):=by unfold okN;rw [hl]
   rw[e2]
   have e3:free.filter (fun o=>decide (o > l))=(free.take (a+1)++free.drop (a+1)).filter (fun o=>decide (o > l)):=by rw[List.take_append_drop]
   rw[e3,List.filter_append]
   have h1:(free.take (a+1)).filter (fun o=>decide (o > l))=[]:=by
    rw[List.filter_eq_nil_iff]
    intro o ho
    obtain⟨i,hi,rfl⟩:=List.mem_iff_getElem.mp ho
    rw[List.length_take] at hi
    rw[List.getElem_take]
    have hle:free[i]'(by omega)≤free[a]:=by
     rcases Nat.lt_or_ge i a with z | z
     ·exact Nat.le_of_lt (List.pairwise_iff_getElem.mp hs i a (by omega) ha z)
     ·have:i=a:=by omega
      subst this;exact Nat.le_refl _
    rw[decide_eq_true_eq]
    omega
   rw[h1,List.nil_append]
theorem jo{α β:Type}{f g:α→List β}:∀{xs:List α},(∀x∈xs,f x=g x)→xs.flatMap f=xs.flatMap g
 | [],_=>rfl
 | x ::xs,h=>by rw[List.flatMap_cons,List.flatMap_cons,h x List.mem_cons_self,jo fun y hy=>h y (List.mem_cons_of_mem _ hy)]
theorem oj{α β γ:Type}(f:α→β)(g:β→List γ):∀xs:List α,(xs.map f).flatMap g=xs.flatMap fun x=>g (f x)
 | []=>rfl
 | x ::xs=>by rw[List.map_cons,List.flatMap_cons,oj f g xs,List.flatMap_cons]
theorem oi{α β γ:Type}(f:β→γ)(g:α→List β):∀xs:List α,(xs.flatMap g).map f=xs.flatMap fun x=>(g x).map f
 | []=>rfl
 | x ::xs=>by rw[List.flatMap_cons,List.map_append,oi f g xs,List.flatMap_cons]
theorem wI:∀(k:Nat) (free:List Nat),free.Pairwise (· < ·)→iB free (k+1)=(iB free k).flatMap fun s=>(free.filter (okN s)).map fun o=>s++[o]
 | 0,free,_=>by
   rw[Ee]
   show _=([[]]:List (List Nat)).flatMap _
   rw[List.flatMap_cons,List.flatMap_nil,List.append_nil]
   have:free.filter (okN [])=free:=by rw[List.filter_eq_self];intro o _;rfl
   rw[this];rfl
 | k+1,free,hs=>by
   show((List.range free.length).flatMap fun a=>(iB (free.drop (a+1)) (k+1)).map (free.getD a 0 ::·))=((List.range free.length).flatMap fun a=>(iB (free.drop (a+1)) k).map (free.getD a 0 ::·)).flatMap _
   rw[List.flatMap_assoc]
   refine jo fun a ha=>?_
   rw[List.mem_range] at ha
   have hd:(free.drop (a+1)).Pairwise (· < ·):=hs.sublist (List.drop_sublist _ _)
   rw[wI k _ hd,oj,oi]
   refine jo fun s hs'=>?_
   rw[JR hs ha (nv hs').2,List.map_map]
   rfl
theorem EH{s:List Nat}{l:Nat}(h:s.getLast? =some l)(hl:s.length < 1000):bZ (aU s) (.int (-1))= .ok (nI l):=by
 refine rm ?_
 unfold pG sv
 have hp:0 < s.length:=by
  cases s with
  | nil=>cases h
  | cons _ _=>simp
 rw[List.length_map,if_neg (by omega),if_pos (by omega)]
 show(s.map nI)[(((s.length:Int))+ -1).toNat]? =_
 rw[List.getElem?_map,show((s.length:Int)+ -1).toNat=s.length - 1 by omega,←List.getLast?_eq_getElem?,h]
 rfl
theorem eq_nil(s:List Nat):gO (aU s) (.tup [])= .ok (.bl s.isEmpty):=by
 have f:dY 1 (aU s):=dY.tup fun d hd=>by obtain⟨x,_,rfl⟩:=List.mem_map.mp hd;exact dY.int _
 have f2:dY 1 (.tup []):=dY.tup fun d hd=>by cases hd
 unfold gO
 have:zg (aU s) (.tup [])= .ok s.isEmpty:=by
  unfold aU at f ⊢
  rw[A_,f.pl,f.sh (by omega),f2.pl,f2.sh (by omega)]
  cases s with
  | nil=>rfl
  | cons g gs=>rfl
 rw[this];rfl
theorem zD:∀(N:Nat) (f g:M),((eN N f:Nat):Int) - (eN N fun i=>f i && g i:Nat)=(eN N fun i=>f i && !g i:Nat)
 | 0,f,g=>rfl
 | N+1,f,g=>by
   have ih:=zD N (fun i=>f (i+1)) (fun i=>g (i+1))
   have e:∀h:M,eN (N+1) h=(if h 0 then 1 else 0)+2*eN N (fun i=>h (i+1)):=fun _=>rfl
   rw[e,e,e]
   generalize eN N (fun i=>f (i+1))=a at ih ⊢
   generalize eN N (fun i=>f (i+1) && g (i+1))=b at ih ⊢
   generalize eN N (fun i=>f (i+1) && !g (i+1))=c at ih ⊢
   show(((if f 0 then 1 else 0)+2*a:Nat):Int) - ((if(f 0 && g 0) then 1 else 0)+2*b:Nat)=((if(f 0 && !g 0) then 1 else 0)+2*c:Nat)
   cases f 0 <;> cases g 0 <;> simp <;> omega
theorem Fu(N:Nat)(f g:M):qp (mI N f) (.int (-((eN N g:Nat):Int) - 1))= .ok (mI N fun i=>f i && !g i):=by
 show R.ok (D.int (Builtin.bitAnd (eN N f:Int) (-((eN N g:Nat):Int) - 1)))=_
 have:Builtin.bitAnd (eN N f:Int) (-((eN N g:Nat):Int) - 1)=((eN N fun i=>f i && !g i:Nat):Int):=by
  unfold Builtin.bitAnd Builtin.bitNot
  rw[decide_eq_true (by omega:(0:Int)≤(eN N f:Nat)),decide_eq_false (by omega:¬(0:Int)≤ -((eN N g:Nat):Int) - 1)]
  show(eN N f:Int) - (((eN N f:Int).toNat &&& (-(-((eN N g:Nat):Int) - 1) - 1).toNat:Nat):Int)=_
  rw[Int.toNat_natCast,show(-(-((eN N g:Nat):Int) - 1) - 1).toNat=eN N g by omega,ub,zD]
 rw[this];rfl
section
variable {c:Nat} {l:List (Str × Nat)} {gs:List Gt} {os:List (Str × List Nat)} {S:aN} {T:List Int} {safe:Bool} {N:Nat}
noncomputable def Eh(safe:Bool)(x y:Bool × Bool):Bool:=if safe then(x.2 !=y.2) && !(!(y.1 || y.2)) else(x.2 !=y.2) || !(y.1 || y.2)
noncomputable def kE(A B lv:D)(f:D)(a4 a5 a6 a7:Sl):ax:=[.val A, .val B, .val lv, .val f,a4,a5,a6,a7]
theorem zQ{W0 W1:List M}(ho:os.length < 1000):eh [.lst (os.map (oB N W0)), .lst (os.map (oB N W1)), .str (k6 safe)]= .ok (mI N fun p=>os.any fun x=>Eh safe (pt W0 x p) (pt W1 x p)):=by
 have hz:sizeLine=16777216:=sizeLine_eq
 unfold eh nY
 refine d9 (bY (δ1:=kE (.lst (os.map (oB N W0))) (.lst (os.map (oB N W1))) (.str (k6 safe)) (mI N fun _=>false) .un .un .un .un) ?_ ?_)
 ·rw[←Ce];rfl
 have hzip:oJ (os.map (oB N W0)) (os.map (oB N W1))=os.map fun x=> .tup [oB N W0 x,oB N W1 x]:=by
  unfold oJ
  rw[List.zip_map',List.map_map];rfl
 generalize hA:D.lst (os.map (oB N W0))=A
 generalize hB:D.lst (os.map (oB N W1))=B
 obtain⟨δ1,e1,a4,a5,a6,a7,hδ1⟩:=i3 (t:=dF 2 (bw (dF 2 (bw (aR 4) (bw (aR 5) dG))) (bw (dF 2 (bw (aR 6) (bw (aR 7) dG))) dG))) (body:=gp) (ds:=os.map fun x=> .tup [oB N W0 x,oB N W1 x])
  (fun i δ=>∃a4 a5 a6 a7,δ=kE A B (.str (k6 safe)) (mI N fun p=>(os.take i).any fun x=>Eh safe (pt W0 x p) (pt W1 x p)) a4 a5 a6 a7) (δ:=kE A B (.str (k6 safe)) (mI N fun _=>false) .un .un .un .un) ⟨_,_,_,_,rfl⟩ (by
    rintro i d δ hd ⟨a4,a5,a6,a7,rfl⟩
    obtain⟨x,hx,rfl⟩:=NT.ma hd
    generalize hm:(fun p=>(os.take i).any fun x=>Eh safe (pt W0 x p) (pt W1 x p))=m
    have hnext:(fun p=>(os.take (i+1)).any fun x=>Eh safe (pt W0 x p) (pt W1 x p))=fun p=>m p || Eh safe (pt W0 x p) (pt W1 x p):=by
     funext p
     rw[List.take_add_one,hx,List.any_append,←hm]
     simp
    rw[hnext]
    let d0:M:=fun p=>(pt W0 x p).2
    let n0:M:=fun p=>!((pt W0 x p).1 || (pt W0 x p).2)
    let d1:M:=fun p=>(pt W1 x p).2
    let n1:M:=fun p=>!((pt W1 x p).1 || (pt W1 x p).2)
    refine⟨kE A B (.str (k6 safe)) (mI N fun p=>m p || Eh safe (pt W0 x p) (pt W1 x p)) (.val (mI N d0)) (.val (mI N n0)) (.val (mI N d1)) (.val (mI N n1)),?_,⟨_,_,_,_,rfl⟩⟩
    show gp (kE A B (.str (k6 safe)) (mI N m) (.val (mI N d0)) (.val (mI N n0)) (.val (mI N d1)) (.val (mI N n1)))=_
    unfold gp
    have hlv:b2 gO (ae 2) (eC (.str (Str.ofString "right"))) (kE A B (.str (k6 safe)) (mI N m) (.val (mI N d0)) (.val (mI N n0)) (.val (mI N d1)) (.val (mI N n1)))= .ok (!safe):=by
     refine f_ (a:= .str (k6 safe)) (b:= .str (Str.ofString "right")) rfl rfl ?_
     show R.ok (D.bl (k6 safe==Str.ofString "right"))=_
     congr 2
     cases safe <;> decide+kernel
    cases safe with
    | false=>
      refine qx hlv ((iW (i:=3) (d:=mI N fun p=>(m p || (d0 p !=d1 p)) || n1 p) (aw (aw rfl (aw rfl rfl (pB N d0 d1)) (mD _ _ _)) rfl (mD _ _ _)) (by unfold kE;simp only[List.length_cons,List.length_nil];omega)).trans ?_)
      have:(mI N fun p=>(m p || (d0 p !=d1 p)) || n1 p)=mI N fun p=>m p || Eh false (pt W0 x p) (pt W1 x p):=fg fun p _=>by rw[Bool.or_assoc];rfl
      rw[this];rfl
    | true=>
      refine jr hlv ((iW (i:=3) (d:=mI N fun p=>m p || ((d0 p !=d1 p) && !n1 p)) (aw rfl (aw (aw rfl rfl (pB N d0 d1)) (show Hf (ae 7) _= .ok (.int (-((eN N n1:Nat):Int) - 1)) from rfl) (Fu N _ n1)) (mD _ _ _)) (by unfold kE;simp only[List.length_cons,List.length_nil];omega)).trans ?_)
      rfl)
 refine bY (me (ds:=os.map fun x=> .tup [oB N W0 x,oB N W1 x]) ?_ e1) ?_
 ·unfold B0
  rw[show ae 0 (kE A B (.str (k6 safe)) (mI N fun _=>false) .un .un .un .un)= .ok A from rfl,R.aY,show ae 1 (kE A B (.str (k6 safe)) (mI N fun _=>false) .un .un .un .un)= .ok B from rfl,R.aY,←hA,←hB]
  show R.ok (oJ _ _)=_
  rw[hzip]
 rw[List.length_map,List.take_length] at hδ1
 subst hδ1
 exact cZ rfl
theorem FN(xs:List Bool):((FI xs).1 && (FI xs).2)=false:=by
 unfold FI
 split
 ·rename_i a;cases a <;> rfl
 ·rename_i a b;cases a <;> cases b <;> rfl
 ·rename_i a b c;cases a <;> cases b <;> cases c <;> rfl
 ·rfl
theorem Gj{x y:Bool × Bool}(hx:x.2=!x.1)(hy:(y.1 && y.2)=false):Eh safe x y=brk safe x y:=by
 obtain⟨x0,x1⟩:=x
 obtain⟨y0,y1⟩:=y
 simp only at hx hy
 subst hx
 unfold Eh brk
 cases safe <;> cases x0 <;> cases y0 <;> cases y1 <;> first | rfl | cases hy
theorem q9{α:Type}{f g:α→Bool}:∀{xs:List α},(∀x∈xs,f x=g x)→xs.any f=xs.any g
 | [],_=>rfl
 | x ::xs,h=>by rw[List.any_cons,List.any_cons,h x List.mem_cons_self,q9 fun y hy=>h y (List.mem_cons_of_mem _ hy)]
theorem zV(ho:os.length < 1000)(hsd:∀x∈os,∀p,(pt (Wd c l gs [] []) x p).2=!(pt (Wd c l gs [] []) x p).1):eh [.lst (os.map (oB (2 ^ c) (Wd c l gs [] []))), .lst (os.map (oB (2 ^ c) (Wd c l gs T []))), .str (k6 safe)]= .ok (mI (2 ^ c) (HH safe c l gs os T)):=by
 rw[zQ ho]
 congr 1
 refine fg fun p _=>?_
 unfold HH
 exact q9 fun x hx=>Gj (hsd x hx p) (by unfold pt;exact FN _)
end
theorem jG:∀(s:Nat) (ps:List Nat),(iB ps s).length≤2 ^ ps.length
 | 0,ps=>by
   show 1≤_
   exact Nat.one_le_two_pow
 | s+1,ps=>by
   have key:∀(n:Nat) (qs:List Nat),qs.length=n→∀s,(∀rs:List Nat,(iB rs s).length≤2 ^ rs.length)→((List.range qs.length).map fun a=>(iB (qs.drop (a+1)) s).length).sum+1≤2 ^ n:=by
    intro n
    induction n with
    | zero=>intro qs hq s _;rw [hq];simp
    | succ n ih=>
      intro qs hq s hs
      match qs,hq with
      | x ::qs,hq=>
        rw[List.length_cons] at hq
        have h1:=ih qs (by omega) s hs
        rw[List.length_cons,List.range_succ_eq_map,List.map_cons,List.map_map,List.sum_cons]
        have h2:=hs qs
        have e:((fun a=>(iB ((x ::qs).drop (a+1)) s).length) ∘ Nat.succ)=fun a=>(iB (qs.drop (a+1)) s).length:=rfl
        rw[e,show(x ::qs).drop (0+1)=qs from rfl,Nat.pow_succ]
        have:qs.length=n:=by omega
        rw[this] at h2
        omega
   unfold iB
   rw[List.length_flatMap]
   have:(List.range ps.length).map (fun a=>((iB (ps.drop (a+1)) s).map (ps.getD a 0 ::·)).length)=(List.range ps.length).map fun a=>(iB (ps.drop (a+1)) s).length:=List.map_congr_left fun a _=>by rw[List.length_map]
   rw[this]
   have:=key ps.length ps rfl s fun rs=>jG s rs
   omega
noncomputable def lI(free:List Nat)(m:Nat):List (List Nat):=(List.range (m+1)).flatMap (iB free)
theorem t9(free:List Nat)(m:Nat):lI free (m+1)=lI free m++iB free (m+1):=by
 unfold lI
 rw[List.range_succ,List.flatMap_append];simp
theorem lX{free:List Nat}(h:free.length≤12):∀m,(lI free m).length≤(m+1)*4096
 | 0=>by show([[]]++[]:List (List Nat)).length≤_;simp
 | m+1=>by
   have:=lX h m
   have h2:=jG (m+1) free
   have:2 ^ free.length≤4096:=Nat.pow_le_pow_right (by omega) (by omega:free.length≤12)
   rw[t9,List.length_append];omega
theorem Et{free T:List Nat}{m:Nat}(h:T∈lI free m):T.length≤m∧∀x∈T,x∈free:=by
 unfold lI at h
 obtain⟨s,hs,hT⟩:=List.mem_flatMap.mp h
 rw[List.mem_range] at hs
 obtain⟨h1,h2⟩:=nv hT
 exact⟨by omega,h2⟩
noncomputable def gE(fr mm:D)(l2 l3 a4 a5 a6:Option V3):DE:=[some (.d fr),some (.d mm),l2,l3,a4,a5,a6]
theorem zq(S T:aN)(a:Nat)(x:SO):(S++T).set (S.length+a) x=S++T.set a x:=by rw[List.set_append_right _ _ (by omega),show S.length+a - S.length=a by omega]
theorem nG(S T:aN)(a:Nat):(S++T)[S.length+a]? =T[a]?:=by rw[List.getElem?_append_right (by omega),show S.length+a - S.length=a by omega]
theorem vc{free:List Nat}{m:Nat}{S:aN}(hso:free.Pairwise (· < ·))(hul:free.length≤12)(hm:m≤12)(hS:ll S){Q:V3→aN→Prop}(h:Q (.d (.lst ((lI free m).map aU))) S) :
 W3 (eD [.d (.lst (free.map nI)), .d (nI m)] S) Q:=by
 have hz:sizeLine=16777216:=sizeLine_eq
 unfold eD
 refine lQ hS (sQ rfl ?_)
 simp only[bS,eZ,List.map_cons,List.map_nil,List.length_cons,List.length_nil,List.replicate,List.cons_append,List.nil_append,Nat.reduceAdd,Nat.reduceSub]
 unfold js
 refine aF <| bj (by simp only[List.length_cons,List.length_nil,List.length_set];omega) <| ik (ds:=[aU []]) (jM (aZ (dH rfl (by simp)) rfl) (by simp;omega)) ⟨_,rfl,?_⟩
 simp only[List.set_cons_succ,List.set_cons_zero]
 refine aF <| bj (by simp only[List.length_cons,List.length_nil,List.length_set];omega) <| ik (ds:=[aU []]) (jM (aZ (dH rfl (by simp)) rfl) (by simp;omega)) ⟨_,rfl,?_⟩
 simp only[List.set_cons_succ,List.set_cons_zero]
 rw[List.append_assoc,List.length_append]
 refine aF <| gR <| my (ds:=e_ 0 m) (kJ (n:=m) rfl (by omega)) ?_
 refine(b_ (fun i δ S2=>∃(U:aN) (a b:Nat) (a4 a5 a6:Option V3),S2=S++U∧U[a]? =some (.lst ((iB free i).map aU))∧U[b]? =some (.lst ((lI free i).map aU))∧a≠b∧δ=gE (.lst (free.map nI)) (nI m) (some (.loc (S.length+a))) (some (.loc (S.length+b))) a4 a5 a6)
  ⟨[SO.lst [aU []],SO.lst [aU []]],0,1,none,none,none,rfl,rfl,rfl,by omega,rfl⟩ ?_).mono fun o S2 ⟨δ2,e2',U,a,b,a4,a5,a6,hS2,hUa,hUb,hab,hδ⟩=>⟨δ2,e2',?_⟩
 ·rintro i v δ S2 hv ⟨U,a,b,a4,a5,a6,rfl,hUa,hUb,hab,rfl⟩
  obtain⟨hi,rfl⟩:=NT.ky hv
  have hal:a < U.length:=(List.getElem?_eq_some_iff.mp hUa).1
  have hbl:b < U.length:=(List.getElem?_eq_some_iff.mp hUb).1
  have hcl2:(iB free (i+1)).length≤4096:=Nat.le_trans (jG _ _) (Nat.pow_le_pow_right (by omega) (by omega:free.length≤12))
  have hin:∀s∈iB free i,s.length=i:=fun s hs=>(nv hs).1
  have hmore:=wI i free hso
  have hAl:=lX hul i
  have hAi:(i+1)*4096≤13*4096:=Nat.mul_le_mul_right _ (by omega)
  refine⟨gE (.lst (free.map nI)) (nI m) (some (.loc (S.length+a))) (some (.loc (S.length+b))) (some (.d (.int i))) a5 a6,rfl,?_⟩
  unfold jW
  refine E5 (i:=2) (k:=S.length+a) rfl (by rw[nG];exact hUa) ?_
  rw[zq]
  show W3 (bb _ _ (gE (.lst (free.map nI)) (nI m) (some (.d (.lst ((iB free i).map aU)))) (some (.loc (S.length+b))) (some (.d (.int i))) a5 a6) _) _
  have hUb1:(U.set a SO.iH)[b]? =some (.lst ((lI free i).map aU)):=by rw[List.getElem?_set_ne hab];exact hUb
  have hUl:(U.set a SO.iH).length=U.length:=List.length_set
  generalize U.set a SO.iH=U1 at hUb1 hUl
  rw[t9]
  generalize iB free i=Ci at hin hmore
  generalize iB free (i+1)=Cj at hcl2 hmore
  let F:Nat→List (List Nat):=fun j=>(Ci.take j).flatMap fun s=>(free.filter (okN s)).map fun o=>s++[o]
  have hFle:∀j,(F j).length≤Cj.length:=fun j=>by
   rw[hmore]
   show((Ci.take j).flatMap _).length≤_
   conv=>rhs;rw [←List.take_append_drop j Ci]
   rw[List.flatMap_append,List.length_append]
   omega
  refine aF <| bj (by unfold gE;simp only[List.length_cons,List.length_nil];omega) <| ik (ds:=[]) rfl ⟨_,rfl,?_⟩
  rw[List.append_assoc,List.length_append,hUl]
  show W3 (bb _ _ (gE (.lst (free.map nI)) (nI m) (some (.d (.lst (Ci.map aU)))) (some (.loc (S.length+b))) (some (.d (.int i))) (some (.loc (S.length+U.length))) a6) _) _
  refine aF <| gR <| my (ds:=Ci.map aU) (kC rfl) ?_
  refine(b_ (fun j δ S3=>∃b6,S3=S++(U1++[SO.lst ((F j).map aU)])∧δ=gE (.lst (free.map nI)) (nI m) (some (.d (.lst (Ci.map aU)))) (some (.loc (S.length+b))) (some (.d (.int i))) (some (.loc (S.length+U.length))) b6)
   ⟨a6,by simp [F],rfl⟩ ?_).mono fun o S3 ⟨δ3,e3,b6,hS3,hδ3⟩=>⟨δ3,e3,?_⟩
  ·rintro j v δ S3 hv ⟨b6,rfl,rfl⟩
   obtain⟨s,hsj,rfl⟩:=NT.jV hv
   have hsl:=hin s (List.mem_of_getElem? hsj)
   have hFs:F (j+1)=F j++(free.filter (okN s)).map fun o=>s++[o]:=by
    show(Ci.take (j+1)).flatMap _=_
    rw[List.take_add_one,hsj,List.flatMap_append]
    simp [F]
   have hFl:=hFle (j+1)
   rw[hFs,List.length_append] at hFl
   rw[hFs,List.map_append]
   generalize F j=G at hFl ⊢
   refine⟨gE (.lst (free.map nI)) (nI m) (some (.d (.lst (Ci.map aU)))) (some (.loc (S.length+b))) (some (.d (.int i))) (some (.loc (S.length+U.length))) (some (.d (aU s))),rfl,?_⟩
   unfold j6
   have hg:(S++(U1++[SO.lst (G.map aU)]))[S.length+U.length]? =some (.lst (G.map aU)):=by rw[nG,←hUl];exact bc _ _
   refine Fj (k:=S.length+U.length) rfl ⟨_,hg⟩ <| cy (d:= .lst (((free.filter (okN s)).map fun o=>s++[o]).map aU)) (eu (dN (ds:=free.map nI) (kC rfl) (by rw[List.length_map];omega) ?_)) ⟨_,_,rfl,hg,?_,_,rfl,_,?_,rfl⟩
   ·rw[List.map_map]
    refine NT.ic (okN s) nI _ fun o ho=>⟨[.val (nI o), .val (aU s)],rfl,?_,fun _=>?_⟩
    ·have e1:b2 gO (ae 1) (fk aW) [.val (nI o), .val (aU s)]= .ok s.isEmpty:=f_ (a:=aU s) (b:= .tup []) rfl (dH rfl (by simp)) (eq_nil s)
     unfold wX
     rw[e1,R.aY]
     cases hl:s.getLast? with
     | none=>
       have:s=[]:=List.getLast?_eq_none_iff.mp hl
       subst this;rfl
     | some l=>
       have hne:s.isEmpty=false:=by
        cases s with
        | nil=>cases hl
        | cons _ _=>rfl
       rw[hne,if_neg (by decide)]
       have:okN s o=decide (o > l):=by unfold okN;rw [hl]
       rw[this]
       refine f_ (a:=nI o) (b:=nI l) rfl (aw (a:=aU s) (b:= .int (-1)) rfl rfl (EH hl (by omega))) ?_
       show R.ok (D.bl (decide ((o:Int) > (l:Int))))=_
       congr 2
       by_cases q:o > l
       ·rw[decide_eq_true q,decide_eq_true (by omega)]
       ·rw[decide_eq_false q,decide_eq_false (by omega)]
    ·refine aw (a:=aU s) (b:= .tup [nI o]) rfl (dH rfl (by simp;omega)) ?_
     show mK (.tup (s.map nI)) (.tup [nI o])= .ok (.tup ((s++[o]).map nI))
     rw[List.map_append]
     exact B9 (by rw[List.length_map];simp;omega)
   ·rw[List.length_map,List.length_map];omega
   ·rw[zq]
    congr 1
    rw[←hUl,dw]
  ·subst hδ3 hS3
   rw[List.length_map,List.length_map]
   have hfull:F Ci.length=Cj:=by rw[hmore];show(Ci.take Ci.length).flatMap _=_;rw [List.take_length]
   rw[hfull]
   refine aF <| bj (by unfold gE;simp only[List.length_cons,List.length_nil];omega) <| w_var (v:= .loc (S.length+U.length)) rfl ⟨_,rfl,?_⟩
   have hg:(S++(U1++[SO.lst (Cj.map aU)]))[S.length+U.length]? =some (.lst (Cj.map aU)):=by rw[nG,←hUl];exact bc _ _
   have hgb:(S++(U1++[SO.lst (Cj.map aU)]))[S.length+b]? =some (.lst ((lI free i).map aU)):=by rw[nG,List.getElem?_append_left (by omega)];exact hUb1
   refine bj (by unfold gE;simp only[List.length_cons,List.length_nil,List.length_set];omega) <| IE <| w_var (v:= .loc (S.length+b)) rfl <| w_var (v:= .loc (S.length+U.length)) rfl ⟨(lI free i).map aU,Cj.map aU,by unfold vY cJ;simp only[hgb],by unfold vY cJ;simp only[hg],by rw[List.length_map,List.length_map];omega,_,rfl,U1++[SO.lst (Cj.map aU)]++[SO.lst ((lI free i++Cj).map aU)],U.length,U.length+1,some (.d (.int i)),some (.loc (S.length+U.length)),b6,?_,?_,?_,by omega,?_⟩
   ·rw[List.map_append,List.append_assoc S]
   ·rw[List.getElem?_append_left (by simp;omega),←hUl];exact bc _ _
   ·rw[show U.length+1=(U1++[SO.lst (Cj.map aU)]).length by simp [hUl]];exact bc _ _
   ·have:(S++(U1++[SO.lst (Cj.map aU)])).length=S.length+(U.length+1):=by simp [hUl]
    rw[this];rfl
 ·subst hδ hS2
  rw[NT.je] at hUb
  unfold gE
  refine fN <| w_var (v:= .loc (S.length+b)) rfl ⟨_,rfl,?_,⟨_,rfl⟩,_,cX (by rw[nG];exact hUb),h⟩
  show decide (S.length≤S.length+b)=true
  exact decide_eq_true (by omega)
end K21
end
section
set_option maxRecDepth 100000
set_option maxHeartbeats 4000000
namespace K21
open PySem PySem.Spec PyProof.Rows L2 L3 MT
noncomputable def subB(T o:List Nat):Bool:=o.all fun x=>T.contains x
noncomputable def Co(B:List Nat→Bool)(f:List (List Nat))(T:List Nat):List (List Nat):=if f.any (subB T) then f else if B T then f++[T] else f
noncomputable def nu(B:List Nat→Bool)(sets:List (List Nat)):List (List Nat):=sets.foldl (Co B) []
theorem nO(B:List Nat→Bool):∀(xs f:List (List Nat)),(xs.foldl (Co B) f).length≤f.length+xs.length
 | [],f=>by simp
 | x ::xs,f=>by
   have:=nO B xs (Co B f x)
   rw[List.foldl_cons,List.length_cons]
   have h2:(Co B f x).length≤f.length+1:=by unfold Co;split <;> (try split) <;> simp
   omega
theorem y9(B:List Nat→Bool):∀(xs f:List (List Nat)),∀T∈xs.foldl (Co B) f,T∈f∨T∈xs
 | [],f,T,h=> .inl h
 | x ::xs,f,T,h=>by
   rw[List.foldl_cons] at h
   rcases y9 B xs _ T h with q | q
   ·unfold Co at q
    split at q
    ·exact .inl q
    ·split at q
     ·rcases List.mem_append.mp q with z | z
      ·exact .inl z
      ·exact .inr (by rw[List.mem_singleton.mp z];exact List.mem_cons_self)
     ·exact .inl q
   ·exact .inr (List.mem_cons_of_mem _ q)
theorem IZ(x:Nat)(T:List Nat):vB (nI x) (aU T)= .ok (.bl (T.contains x)):=by
 have h:=qr (x:Int) (nZ T)
 rw[Fx,Hg] at h
 exact h
theorem xv{T o:List Nat}(ho:o.length < 1000):gY [aU T,aU o]= .ok (.bl (subB T o)):=by
 have hz:sizeLine=16777216:=sizeLine_eq
 unfold gY tW
 refine d9 (cZ (bp (ds:=[.lst ((o.map fun x=>T.contains x).map .bl)]) (aZ (eu (dN (ds:=o.map nI) (nC rfl) (by rw[List.length_map];omega) ?_)) rfl) ?_))
 ·rw[List.map_map]
  exact NT.er nI _ fun x _=>⟨[.val (nI x), .val (aU T)],rfl,rfl,aw (a:=nI x) (b:=aU T) rfl rfl (IZ x T)⟩
 ·show(match bls? ((o.map fun x=>T.contains x).map D.bl) with | some bs=>R.ok (D.bl (bs.all id)) | none=> .no)=_
  rw[qw]
  show R.ok (D.bl ((o.map fun x=>T.contains x).all id))=_
  rw[List.all_map];rfl
theorem Io(xs:List (List Nat)):zg (.lst (xs.map aU)) (.lst [])= .ok xs.isEmpty:=by
 have f:dY 2 (.lst (xs.map aU)):=dY.lst fun d hd=>by
  obtain⟨x,_,rfl⟩:=List.mem_map.mp hd
  exact dY.tup fun d hd=>by obtain⟨x,_,rfl⟩:=List.mem_map.mp hd;exact dY.int _
 have f2:dY 1 (.lst []):=dY.lst fun d hd=>by cases hd
 rw[uS,f.pl,f.sh (by omega),f2.pl,f2.sh (by omega)]
 cases xs with
 | nil=>rfl
 | cons g gs=>rfl
theorem EM(s:List Nat):zg (.lst (s.map nI)) (.lst [])= .ok s.isEmpty:=by
 have f:dY 1 (.lst (s.map nI)):=dY.lst fun d hd=>by obtain⟨x,_,rfl⟩:=List.mem_map.mp hd;exact dY.int _
 have f2:dY 1 (.lst []):=dY.lst fun d hd=>by cases hd
 rw[uS,f.pl,f.sh (by omega),f2.pl,f2.sh (by omega)]
 cases s with
 | nil=>rfl
 | cons g gs=>rfl
theorem uw{a b:D}{k:Bool}(h:zg a b= .ok k):gO a b= .ok (.bl k):=by unfold gO;rw [h];rfl
theorem Gp{a b:D}{k:Bool}(h:zg a b= .ok k):w9 a b= .ok (.bl (!k)):=by unfold w9;rw [h];rfl
theorem Bj{a b:D}{k:Bool}(h:vB a b= .ok (.bl k)):iO a b= .ok (.bl (!k)):=by
 unfold vB at h
 unfold iO
 cases q:inD a b with
 | ok c=>rw [q] at h;cases h;rfl
 | ex c=>rw [q] at h;cases h
 | no=>rw [q] at h;cases h
theorem CO{o T:List Nat}{δ:ax}(hl:o.length < 1000)(h0:ae 0 δ= .ok (aU o))(hk:qN [(Str.ofString "place")] [1] δ=[.un, .val (aU T)]):b2 gO (eNew (eH (dZ (ae 0)) (aR 0) (b2 iO (ae 0) (ae 1)) (ae 0) [(Str.ofString "place")] [1])) (eNew (dD aW)) δ= .ok (subB T o):=by
 have hz:sizeLine=16777216:=sizeLine_eq
 refine f_ (a:= .lst ((o.filter fun x=>!T.contains x).map nI)) (b:= .lst []) (eu (dN (ds:=o.map nI) (nC h0) (by rw[List.length_map];omega) ?_)) rfl ((uw (EM _)).trans ?_)
 ·rw[hk]
  exact NT.ic (fun x=>!T.contains x) nI nI fun x _=>⟨[.val (nI x), .val (aU T)],rfl,f_ (a:=nI x) (b:=aU T) rfl rfl (Bj (IZ x T)),fun _=>rfl⟩
 ·congr 2
  unfold subB
  rw[Bool.eq_iff_iff,List.isEmpty_iff,List.filter_eq_nil_iff,List.all_eq_true]
  exact⟨fun h x hx=>by have:=h x hx;simpa using this,fun h x hx=>by rw[h x hx];decide⟩
theorem Cb(T:List Nat):ox (aU T)=true:=wQ T
theorem E_:∀xs:List (List Nat),jK (xs.map aU)=true
 | []=>by rw[List.map_nil];unfold jK;rfl
 | x ::xs=>by rw[List.map_cons];unfold jK;rw [Cb,E_ xs];rfl
section
variable {c:Nat} {l:List (Str × Nat)} {gs:List Gt} {os:List (Str × List Nat)} {S:aN} {safe:Bool} {m:Nat}
theorem Ab{δ:ax}(hg:gs.length < 1000)(h1:ae 0 δ= .ok (bM l gs os)):eH (eO (e2 bZ (ae 0) (eC (.int 1)))) (dF 2 (bw (aR 0) (bw (aR 1) dG))) (ke (iX (e2 bZ (ae 1) (eC (.int 2))))) (ae 0) [(Str.ofString "place"),(Str.ofString "gate")] [] δ= .ok ((l_ gs).map nI):=by
 have h:=wJ (ins:=l) (os:=os) (δ:=[.un, .val (bM l gs os)]) hg rfl
 unfold eH at h ⊢
 have e:eO (e2 bZ (ae 0) (eC (.int 1))) δ=eO (e2 bZ (ae 1) (eC (.int 1))) [.un, .val (bM l gs os)]:=by
  unfold eO e2
  rw[h1];rfl
 rw[e]
 exact h
noncomputable def BT(safe:Bool)(c:Nat)(l:List (Str × Nat))(gs:List Gt)(os:List (Str × List Nat))(T:List Nat):Bool:=!(decide (eN (2 ^ c) (HH safe c l gs os (nZ T))=0))
noncomputable def vU(safe:Bool)(c:Nat)(l:List (Str × Nat))(gs:List Gt)(os:List (Str × List Nat))(m:Nat):List (List Nat):=nu (BT safe c l gs os) (lI (l_ gs) m)
theorem Lc(f:M)(N:Nat):w9 (mI N f) (.int 0)= .ok (.bl (!(decide (eN N f=0)))):=by
 show R.ok (D.bl (!((eN N f:Int)==0)))=_
 congr 3
 by_cases q:eN N f=0
 ·rw[q];rfl
 ·rw[decide_eq_false q];exact beq_eq_false_iff_ne.mpr (by omega)
theorem m5{xs:List (List Nat)}{B:List Nat→Bool}(hx:∀T∈xs,T.length < 1000):∀o∈nu B xs,o.length < 1000:=fun o ho=>by
 rcases y9 B xs [] o ho with q | q
 ·cases q
 ·exact hx o q
theorem sL(B:List Nat→Bool)(xs:List (List Nat))(T:List Nat):nu B (xs++[T])=Co B (nu B xs) T:=by unfold nu;rw [List.foldl_append];rfl
theorem qV{free:List Nat}(hm:m≤12):∀T∈lI free m,T.length < 1000:=fun T hT=>by have:=(Et hT).1;omega
noncomputable def qE(nt mm lv ah pl:D)(a:Nat)(a6 a7:Option V3):DE:=[some (.d nt),some (.d mm),some (.d lv),some (.d ah),some (.d pl),some (.loc a),a6,a7]
theorem p6(NO:j0 l gs os)(hc:l.length=c)(hc1:c≤6)(ho:∀x∈os,1≤x.2.length∧x.2.length≤3)(hsd:∀x∈os,∀p,(pt (Wd c l gs [] []) x p).2=!(pt (Wd c l gs [] []) x p).1)(hg:gs.length≤12)(hm:m≤3)(hS:ll S){Q:V3→aN→Prop}
 (h:Q (.d (.lst ((vU safe c l gs os m).map aU))) S):W3 (eG [.d (bM l gs os), .d (nI m), .d (.str (k6 safe))] S) Q:=by
 have hz:sizeLine=16777216:=sizeLine_eq
 have hO:=NO.ho
 have hul:(l_ gs).length≤12:=Nat.le_trans uM hg
 unfold eG
 refine lQ hS (sQ rfl ?_)
 simp only[bS,eU,List.map_cons,List.map_nil,List.length_cons,List.length_nil,List.replicate,List.cons_append,List.nil_append,Nat.reduceAdd,Nat.reduceSub]
 unfold jf
 refine aF <| bj (by simp only[List.length_cons,List.length_nil,List.length_set];omega) <| cy (d:=x3 c l) (bp (ds:=[bM l gs os]) rfl (v_ NO hc hc1)) ⟨_,rfl,?_⟩
 simp only[List.set_cons_succ,List.set_cons_zero]
 refine aF <| bj (by simp only[List.length_cons,List.length_nil,List.length_set];omega) <| cV <| aA <| cy (d:=bM l gs os) rfl <| aA <| cy (d:=x3 c l) rfl <| aA <| cy (d:= .tup (([]:List Int).map .int)) (dH rfl (by simp)) <| cu <| vz NO hc ho hS ⟨_,rfl,?_⟩
 simp only[List.set_cons_succ,List.set_cons_zero]
 refine aF <| bj (by simp only[List.length_cons,List.length_nil,List.length_set];omega) <| ik (ds:=[]) rfl ⟨_,rfl,?_⟩
 simp only[List.set_cons_succ,List.set_cons_zero]
 have hcl0:ll (S++[SO.lst []]):=ll.push hS (mR _)
 refine aF <| gR <| uW <| cV <| aA <| cy (d:= .lst ((l_ gs).map nI)) (bp (ds:=[bM l gs os]) rfl ?_) <| aA <| cy (d:=nI m) rfl <| cu <| vc (w_ gs) hul (by omega) hcl0 ⟨_,rfl,?_⟩
 ·unfold eI kZ
  exact d9 (cZ (eu (Ab NO.hg rfl)))
 have hAl:=lX hul m
 have hAs:=qV (free:=l_ gs) (m:=m) (by omega)
 generalize hPl:D.lst (os.map (oB (2 ^ c) (Wd c l gs [] [])))=Pl
 unfold vU at h
 generalize hB:BT safe c l gs os=B at h
 generalize lI (l_ gs) m=A at hAl hAs h
 have hA2:(m+1)*4096≤16384:=Nat.mul_le_mul_right 4096 (by omega:m+1≤4)
 refine(b_ (fun i δ S2=>ll S2∧∃(U:aN) (a6 a7:Option V3),S2=S++SO.lst ((nu B (A.take i)).map aU) ::U∧δ=qE (bM l gs os) (nI m) (.str (k6 safe)) (x3 c l) Pl S.length a6 a7)
  ⟨hcl0,[],none,none,rfl,rfl⟩ ?_).mono fun o S2 ⟨δ2,e2',hcl,U,a6,a7,hS2,hδ⟩=>⟨δ2,e2',?_⟩
 ·rintro i v δ S2 hv ⟨hcl,U,a6,a7,rfl,rfl⟩
  obtain⟨T,hT,rfl⟩:=NT.jV hv
  have hil:=(List.getElem?_eq_some_iff.mp hT).1
  have hfs:∀o∈nu B (A.take i),o.length < 1000:=m5 fun T hT=>hAs T (List.mem_of_mem_take hT)
  have hfl:(nu B (A.take i)).length≤16384:=by
   have:=nO B (A.take i) []
   rw[List.length_take] at this
   unfold nu
   simp only[List.length_nil] at this
   omega
  rw[List.take_add_one,hT]
  rw[show(some T).toList=[T] from rfl,sL]
  generalize nu B (A.take i)=f at hfs hfl hcl
  have hg0:(S++SO.lst (f.map aU) ::U)[S.length]? =some (.lst (f.map aU)):=by rw[List.getElem?_append_right (Nat.le_refl _),Nat.sub_self];rfl
  refine⟨qE (bM l gs os) (nI m) (.str (k6 safe)) (x3 c l) Pl S.length (some (.d (aU T))) a7,rfl,?_⟩
  unfold ka
  refine aF <| bj (by unfold qE;simp only[List.length_cons,List.length_nil];omega) <| Hr (ds:=(f.filter (subB T)).map aU) (dN (ds:=f.map aU) (kC (kW rfl (cX hg0))) (by rw[List.length_map];omega) (NT.ic (subB T) aU aU fun o ho=>⟨[.val (aU o), .val (aU T)],rfl,CO (hfs o ho) rfl rfl,fun _=>rfl⟩)) (E_ _) ⟨_,rfl,?_⟩
  have hcl1:ll (S++SO.lst (f.map aU) ::U++[SO.lst ((f.filter (subB T)).map aU)]):=ll.push hcl (mR _)
  have hg1:∀W:aN,(S++SO.lst (f.map aU) ::U++W)[S.length]? =some (.lst (f.map aU)):=fun W=>by rw[List.append_assoc,List.getElem?_append_right (Nat.le_refl _),Nat.sub_self];rfl
  have has:∀(f':List (List Nat)) W,S++SO.lst (f'.map aU) ::U++W=S++SO.lst (f'.map aU) ::(U++W):=fun f' W=>by rw[List.append_assoc];rfl
  have hemp:(f.filter (subB T)).isEmpty=!(f.any (subB T)):=by
   rw[Bool.eq_iff_iff,List.isEmpty_iff,List.filter_eq_nil_iff]
   simp
  refine lU <| Br <| Bc (b:=(f.filter (subB T)).isEmpty) (f_ (a:= .lst ((f.filter (subB T)).map aU)) (b:= .lst []) (kW rfl (cX (bc _ _))) rfl (uw (Io _))) ?_
  rw[hemp]
  unfold Co
  cases hany:f.any (subB T) with
  | true=>exact .inl ⟨rfl,by rw[if_neg (by decide)];exact iK ⟨_,rfl,hcl1,U++_,_,_,has _ _,rfl⟩⟩
  | false=>
    refine .inr ⟨rfl,Hy <| qu <| aA <| cy (d:=Pl) rfl <| aA <| cV <| aA <| cy (d:=bM l gs os) rfl <| aA <| cy (d:=x3 c l) rfl <| aA <| cy (d:= .tup ((nZ T).map .int)) (by rw[Fx];rfl) <| cu <| vz NO hc ho hcl1 <| aA <| cy (d:= .str (k6 safe)) rfl <| cu ⟨[Pl,_,_],_,rfl,(by rw[←hPl];exact zV hO hsd),cy (d:= .int 0) rfl ⟨_,_,_,rfl,rfl,Lc _ _,?_⟩⟩⟩
    have hBT:(!(decide (eN (2 ^ c) (HH safe c l gs os (nZ T))=0)))=B T:=by rw[←hB];rfl
    rw[hBT,if_neg (show ¬(false=true) by decide)]
    cases B T with
    | true=>
      rw[if_pos rfl,if_pos rfl]
      refine j7 (k:=S.length) rfl ⟨_,hg1 _⟩ <| cy (d:=aU T) rfl ⟨_,_,rfl,hg1 _,by rw[List.length_map];omega,_,rfl,ll.set hcl1 _ (mR _),U++[SO.lst ((f.filter (subB T)).map aU)],_,_,?_,rfl⟩
      rw[has,List.set_append_right _ _ (Nat.le_refl _),Nat.sub_self,List.map_append];rfl
    | false=>
      rw[if_neg (by decide),if_neg (by decide)]
      exact iK ⟨_,rfl,hcl1,U++_,_,_,has _ _,rfl⟩
 ·subst hδ hS2
  rw[List.length_map,List.length_map,List.take_length]
  unfold qE
  refine fN <| w_var (v:= .loc S.length) rfl ⟨_,rfl,?_,⟨_,rfl⟩,_,cX (by rw[List.getElem?_append_right (Nat.le_refl _),Nat.sub_self];rfl),h⟩
  show decide (S.length≤S.length)=true
  exact decide_eq_true (Nat.le_refl _)
noncomputable def yE(nt mm lv:D)(n:Nat)(a5 a6:Option V3):DE:=[some (.d nt),some (.d mm),some (.d lv),some (.loc n),some (.loc (n+2)),a5,a6]
noncomputable def YS(S:aN)(c:Nat)(l:List (Str × Nat))(gs:List Gt)(os:List (Str × List Nat))(f:List (List Nat)):aN:=S++[.ins 1 (ia c l gs os (S.length+1)), .ins 0 (ft c (bM l gs os)), .lst (f.map aU)]
theorem Aw(hS:ll S)(f:List (List Nat)):ll (YS S c l gs os f):=by
 have:YS S c l gs os f=S++[.ins 1 (ia c l gs os (S.length+1)), .ins 0 (ft c (bM l gs os))]++[.lst (f.map aU)]:=by unfold YS;simp
 rw[this]
 refine ll.push (GG hS ?_ rfl) (mR _)
 show(decide (S.length+1 < S.length+2) && true)=true
 rw[decide_eq_true (by omega)];rfl
theorem Cg{mm:D}{f:List (List Nat)}{T:List Nat}{a5:Option V3}(NO:j0 l gs os)(hc:l.length=c)(ho:∀x∈os,1≤x.2.length∧x.2.length≤3)(hS:ll S)(hfs:∀o∈f,o.length < 1000)(hfl:f.length < 100000) :
 W3 (kr (yE (bM l gs os) mm (.str (k6 safe)) S.length a5 (some (.d (aU T)))) (YS S c l gs os f)) fun o S2=>o= .nx (yE (bM l gs os) mm (.str (k6 safe)) S.length a5 (some (.d (aU T))))∧S2=YS S c l gs os (Co (BT safe c l gs os) f T):=by
 have hz:sizeLine=16777216:=sizeLine_eq
 have hg:(YS S c l gs os f)[S.length+2]? =some (.lst (f.map aU)):=t3
 have hk:(YS S c l gs os f)[S.length]? =some (.ins 1 (ia c l gs os (S.length+1))):=t1
 have hb:(YS S c l gs os f)[S.length+1]? =some (.ins 0 (ft c (bM l gs os))):=t2
 unfold kr
 refine lU <| Bc (b:=f.any (subB T)) ?_ ?_
 ·have e:br DH (az (eNew (eH (dZ (ae 4)) (aR 0) rL (br gY (az (ae 1) (az (ae 0) aW))) [(Str.ofString "others")] [6])) aW) (cM (YS S c l gs os f) (yE (bM l gs os) mm (.str (k6 safe)) S.length a5 (some (.d (aU T)))))= .ok (.bl (f.any (subB T))):=by
   refine bp (ds:=[.lst ((f.map (subB T)).map .bl)]) (aZ (eu (dN (ds:=f.map aU) (kC (kW rfl (cX hg))) (by rw[List.length_map];omega) ?_)) rfl) ?_
   ·rw[List.map_map]
    exact NT.er aU _ fun o ho'=>⟨[.val (aU o), .val (aU T)],rfl,rfl,bp (ds:=[aU T,aU o]) rfl (xv (hfs o ho'))⟩
   ·show(match bls? ((f.map (subB T)).map D.bl) with | some bs=>R.ok (D.bl (bs.any id)) | none=> .no)=_
    rw[qw]
    show R.ok (D.bl ((f.map (subB T)).any id))=_
    rw[List.any_map];rfl
  unfold iX
  rw[e];rfl
 unfold Co
 cases hany:f.any (subB T) with
 | true=>rw [if_pos rfl,if_pos rfl];exact iK ⟨rfl,rfl⟩
 | false=>
   rw[if_neg (by decide),if_neg (by decide)]
   refine lU <| Hy <| uE (k:=S.length) <| w_var (v:= .loc S.length) rfl ⟨_,rfl,hk,HM _ (by decide+kernel) (by decide+kernel) (by decide+kernel),?_⟩
   refine aA <| cy (d:= .tup ((nZ T).map .int)) (by rw[Fx];rfl) <| aA <| cy (d:= .str (k6 safe)) rfl <| cu <| z0 NO hc ho (Aw hS f) hk hb <| cy (d:= .int 0) rfl ⟨_,_,_,rfl,rfl,Lc _ _,?_⟩
   show if BT safe c l gs os T then _ else _
   cases BT safe c l gs os T with
   | true=>
     rw[if_pos rfl,if_pos rfl]
     refine j7 (k:=S.length+2) rfl ⟨_,hg⟩ <| cy (d:=aU T) rfl ⟨_,_,rfl,hg,by rw[List.length_map];omega,rfl,?_⟩
     unfold YS
     rw[u3,List.map_append];rfl
   | false=>rw [if_neg (by decide),if_neg (by decide)];exact iK ⟨rfl,rfl⟩
theorem rP(NO:j0 l gs os)(hc:l.length=c)(hc1:c≤10)(ho:∀x∈os,1≤x.2.length∧x.2.length≤3)(hg:gs.length≤12)(hm:m≤3)(hS:ll S){Q:V3→aN→Prop}(h:Q (.loc (S.length+2)) (YS S c l gs os (vU safe c l gs os m))) :
 W3 (gc [.d (bM l gs os), .d (nI m), .d (.str (k6 safe))] S) Q:=by
 have hz:sizeLine=16777216:=sizeLine_eq
 have hul:(l_ gs).length≤12:=Nat.le_trans uM hg
 unfold gc
 refine sQ rfl ?_
 simp only[bS,g7,List.map_cons,List.map_nil,List.length_cons,List.length_nil,List.replicate,List.cons_append,List.nil_append,Nat.reduceAdd,Nat.reduceSub]
 unfold kF
 refine aF <| bj (by simp only[List.length_cons,List.length_nil,List.length_set];omega) <| AE <| aA <| cy (d:=bM l gs os) rfl <| cu <| Bm NO hc hc1 ho hS ⟨rfl,_,rfl,?_⟩
 simp only[List.set_cons_succ,List.set_cons_zero]
 refine aF <| bj (by simp only[List.length_cons,List.length_nil,List.length_set];omega) <| ik (ds:=[]) rfl ⟨_,rfl,?_⟩
 simp only[List.set_cons_succ,List.set_cons_zero]
 have e0:TS S c l gs os++[SO.lst []]=YS S c l gs os []:=by unfold TS YS;simp
 have el:(TS S c l gs os).length=S.length+2:=by unfold TS;simp
 rw[e0,el]
 show W3 (bb _ _ (yE (bM l gs os) (nI m) (.str (k6 safe)) S.length none none) _) _
 generalize hB:BT safe c l gs os=B
 have hbl:∀i,i≤4→∀j,(nu B ((List.range i).flatMap (iB (l_ gs))++(iB (l_ gs) i).take j)).length≤32768:=fun i hi j=>by
  have h1:=nO B ((List.range i).flatMap (iB (l_ gs))++(iB (l_ gs) i).take j) []
  have h2:(List.range i).flatMap (iB (l_ gs))=if i=0 then [] else lI (l_ gs) (i - 1):=by
   cases i with
   | zero=>rfl
   | succ i=>rw [if_neg (by omega)];rfl
  have h3:((List.range i).flatMap (iB (l_ gs))).length≤16384:=by
   rw[h2]
   split
   ·simp
   ·have:=lX hul (i - 1)
    have:(i - 1+1)*4096≤4*4096:=Nat.mul_le_mul_right _ (by omega)
    omega
  have h4:((iB (l_ gs) i).take j).length≤4096:=by
   rw[List.length_take]
   have:=jG i (l_ gs)
   have:2 ^ (l_ gs).length≤4096:=Nat.pow_le_pow_right (by omega) (by omega:(l_ gs).length≤12)
   omega
  rw[List.length_append] at h1
  unfold nu
  simp only[List.length_nil] at h1
  omega
 refine aF <| gR <| my (ds:=e_ 0 (m+1)) (kJ (n:=m+1) (aw (a:=nI m) (b:= .int 1) rfl rfl rfl) (by omega)) ?_
 refine(b_ (fun i δ S2=>S2=YS S c l gs os (nu B ((List.range i).flatMap (iB (l_ gs))))∧∃a5 a6,δ=yE (bM l gs os) (nI m) (.str (k6 safe)) S.length a5 a6)
  ⟨rfl,_,_,rfl⟩ ?_).mono fun o S2 ⟨δ2,e2',hS2,a5,a6,hδ⟩=>⟨δ2,e2',?_⟩
 ·rintro i v δ S2 hv ⟨rfl,a5,a6,rfl⟩
  obtain⟨hi,rfl⟩:=NT.ky hv
  refine⟨yE (bM l gs os) (nI m) (.str (k6 safe)) S.length (some (.d (.int i))) a6,rfl,?_⟩
  have hcs:d6 4 [.lst ((l_ gs).map nI), .int i]= .ok (.lst ((iB (l_ gs) i).map aU)):=rY 3 i (l_ gs) (by omega) (by omega) (by omega)
  unfold nW
  refine gR <| uW <| qu <| aA <| w_fld (k:=S.length) <| w_var (v:= .loc S.length) rfl ⟨_,_,rfl,t1,G8,aA <| cy (d:= .int i) rfl <| cu ⟨[.lst ((l_ gs).map nI), .int i],_,rfl,hcs,_,rfl,?_⟩⟩
  refine(b_ (fun j δ S3=>S3=YS S c l gs os (nu B ((List.range i).flatMap (iB (l_ gs))++(iB (l_ gs) i).take j))∧∃a6,δ=yE (bM l gs os) (nI m) (.str (k6 safe)) S.length (some (.d (.int i))) a6)
   ⟨by simp,_,rfl⟩ ?_).mono fun o S3 ⟨δ3,e3,hS3,b6,hδ3⟩=>⟨δ3,e3,?_,_,_,hδ3⟩
  ·rintro j v δ S3 hv ⟨rfl,b6,rfl⟩
   obtain⟨T,hT,rfl⟩:=NT.jV hv
   refine⟨yE (bM l gs os) (nI m) (.str (k6 safe)) S.length (some (.d (.int i))) (some (.d (aU T))),rfl,?_⟩
   refine(Cg NO hc ho hS (m5 fun o ho'=>?_) (Nat.lt_of_le_of_lt (hbl i (by omega) j) (by omega))).mono fun o S4 ⟨e4,hS4⟩=>⟨_,e4,?_,_,rfl⟩
   ·rcases List.mem_append.mp ho' with q | q
    ·obtain⟨s,hs,hq⟩:=List.mem_flatMap.mp q
     rw[List.mem_range] at hs
     rw[(nv hq).1];omega
    ·rw[(nv (List.mem_of_mem_take q)).1];omega
   ·rw[hS4,hB,List.take_add_one,hT,←List.append_assoc,show(some T).toList=[T] from rfl,sL]
  ·rw[List.length_map,List.length_map,List.take_length] at hS3
   rw[hS3,List.range_succ,List.flatMap_append]
   simp
 ·subst hδ hS2
  rw[NT.je]
  unfold yE
  refine fN <| w_var (v:= .loc (S.length+2)) rfl ⟨_,rfl,?_⟩
  rw[←hB]
  exact h
theorem yj(NO:j0 l gs os)(hc:l.length=c)(hc1:c≤10)(ho:∀x∈os,1≤x.2.length∧x.2.length≤3)(hg:gs.length≤12)(hm:m≤3)(hS:ll S){Q:V3→aN→Prop}(h:Q (.d (.lst ((vU safe c l gs os m).map aU))) S) :
 W3 (il [.d (bM l gs os), .d (nI m), .d (.str (k6 safe))] S) Q:=by
 have e:il [.d (bM l gs os), .d (nI m), .d (.str (k6 safe))] S=nE g7 kF [.d (bM l gs os), .d (nI m), .d (.str (k6 safe))] S:=rfl
 rw[e]
 refine lQ hS ?_
 refine rP NO hc hc1 ho hg hm hS ⟨?_,⟨_,rfl⟩,_,cX t3,h⟩
 show decide (S.length≤S.length+2)=true
 exact decide_eq_true (by omega)
end
end K21
end
section
set_option maxRecDepth 100000
set_option maxHeartbeats 4000000
namespace K21
open PySem PySem.Spec PyProof.Rows L2 L3 MT
section
variable {c:Nat} {ins:List (Str × Nat)} {gs:List Gt} {os:List (Str × List Nat)}
theorem Bs{x:Str × List Nat}{p:Nat}(hl:1≤x.2.length∧x.2.length≤3)(h2:∀a b,x.2=[a,b]→cS (Wd c ins gs [] []) a p=cS (Wd c ins gs [] []) b p):(pt (Wd c ins gs [] []) x p).2=!(pt (Wd c ins gs [] []) x p).1:=by
 unfold pt tell
 rw[List.map_map]
 obtain⟨s,ws⟩:=x
 match ws,hl,h2 with
 | [a],_,_=>show cS _ a p=!(!(cS _ a p));rw [Bool.not_not]
 | [a,b],_,h2=>
   show(cS (Wd c ins gs [] []) a p && cS (Wd c ins gs [] []) b p)=!(!(cS (Wd c ins gs [] []) a p || cS (Wd c ins gs [] []) b p))
   rw[h2 a b rfl]
   cases cS (Wd c ins gs [] []) b p <;> rfl
 | [a,b,d],_,_=>
   show _=!(!_)
   rw[Bool.not_not];rfl
theorem DN.no(h:DN ins gs os)(hi:ins.length < 100)(hg:gs.length < 1000):j0 ins gs os:=⟨hi,fun x hx=>by have:=(h.li x hx).1;omega,hg,h.gg,by have:=h.oL;omega,fun x hx=>⟨by have:=(h.oo x hx).1.1;omega,(h.oo x hx).1.2.1⟩⟩
theorem DN.w3(h:DN ins gs os):∀x∈os,1≤x.2.length∧x.2.length≤3:=fun x hx=>(h.oo x hx).1.1
theorem DN.sd(h:DN ins gs os)(hc:ins.length=c):∀x∈os,∀p,(pt (Wd c ins gs [] []) x p).2=!(pt (Wd c ins gs [] []) x p).1:=fun x hx p=>Bs (h.w3 x hx) fun a b hab=>(h.oo x hx).1.2.2 a b hab (iy c) (by rw[lW,hc]) p
theorem Hq{x:Str × Nat}(h:C3 x):dY 1 (MT.inD x):=dY.tup fun d hd=>by
 simp only[List.mem_cons,List.not_mem_nil,or_false] at hd
 rcases hd with rfl | rfl
 ·exact h.2
 ·exact dY.int _
theorem Hs{x:Str × List Nat}(h:dY 0 (.str x.1)):dY 2 (wY x):=dY.tup fun d hd=>by
 simp only[List.mem_cons,List.not_mem_nil,or_false] at hd
 rcases hd with rfl | rfl
 ·exact h.mono (by omega)
 ·exact dY.tup fun d hd=>by obtain⟨z,_,rfl⟩:=List.mem_map.mp hd;exact dY.int _
theorem DN.fit(h:DN ins gs os):dY 4 (bM ins gs os):=dY.tup fun d hd=>by
 simp only[List.mem_cons,List.not_mem_nil,or_false] at hd
 rcases hd with rfl | rfl | rfl
 ·exact dY.lst fun d hd=>by obtain⟨x,hx,rfl⟩:=List.mem_map.mp hd;exact(Hq (h.li x hx)).mono (by omega)
 ·exact dY.lst fun d hd=>by obtain⟨x,hx,rfl⟩:=List.mem_map.mp hd;exact B6
 ·exact dY.lst fun d hd=>by obtain⟨x,hx,rfl⟩:=List.mem_map.mp hd;exact Hs (h.oo x hx).2
theorem DN.eq(h:DN ins gs os):gO (bM ins gs os) (bM ins gs os)= .ok (.bl true):=NT.eq_self h.fit (by omega)
end
theorem Fg(xs:List (List Nat)):dY 2 (.lst (xs.map aU)):=dY.lst fun d hd=>by
 obtain⟨x,_,rfl⟩:=List.mem_map.mp hd
 exact dY.tup fun d hd=>by obtain⟨x,_,rfl⟩:=List.mem_map.mp hd;exact dY.int _
noncomputable def Bk(n:Nat)(S:aN):Prop:=Flat S∧S.length=n∧∀k,k < n→u9 k S
theorem C7(cs:List Int)(hc:cs.length≤63){Q:V3→aN→Prop}(h:∀(n:Nat) S1,0 < n→Bk n S1→Q (.lst ((List.range n).map .loc)) S1):W3 (iu [.d (.lst (cs.map .int))] []) Q:=by
 have hz:sizeLine=16777216:=sizeLine_eq
 unfold iu
 refine sQ rfl ?_
 simp only[bS,jw,List.map_cons,List.map_nil,List.length_cons,List.length_nil,List.replicate,List.cons_append,List.nil_append,Nat.reduceAdd,Nat.reduceSub]
 unfold nD
 cases cs with
 | nil=>
   refine Av (lU (eJ (b:=true) rfl ?_))
   rw[if_pos rfl]
   refine fN (HX (aA (ik (ds:=[.int 0, .int 0]) (jM rfl (by simp;omega)) (cu ⟨by simp;omega,_,rfl,_,rfl,?_⟩))))
   refine h 1 _ (by omega) ⟨wO _,rfl,fun k hk=>⟨wO _,0,0,?_⟩⟩
   ·obtain rfl:k=0:=by omega
    rfl
 | cons c cs=>
   refine aF (lU (eJ (b:=false) ?_ ?_))
   ·refine f_ (a:= .int ((c ::cs).length:Nat)) (b:= .int 0) ?_ rfl ?_
    ·exact bp (ds:=[.lst ((c ::cs).map .int)]) rfl (by rw[qd,List.length_map])
    ·have:¬(((c ::cs).length:Int)=0):=by rw[List.length_cons];omega
     show R.ok (D.bl (decide (((c ::cs).length:Int)=0)))=_
     rw[decide_eq_false this]
   rw[if_neg (by decide)]
   refine iK ⟨_,rfl,fN (A3 (my (ds:=(c ::cs).map .int) ?_ ⟨by simp at hc ⊢;omega,?_⟩))⟩
   ·refine kC (x4 (d:= .lst ((c ::cs).map .int)) (lo:=none) (hi:=some 63) rfl rfl rfl ?_)
    show R.ok (D.lst (L2.cutD _ none (some 63)))=_
    rw[CH _ (by omega),List.take_of_length_le (by simp at hc ⊢;omega)]
   generalize hcc:c ::cs=cc at hc
   have hpos:0 < cc.length:=by rw[←hcc];simp
   refine(sS (fun i ys S=>ys=(List.range i).map V3.loc∧Flat S∧S.length=i∧∀k,k < i→∃a c,S[k]? =some (.lst [.int a, .int c])) ⟨rfl,(by intro o ho;cases ho),rfl,fun k hk=>(by omega)⟩ ?_).mono fun ys S2 ⟨e,hL,hl,hp⟩=>⟨_,rfl,?_⟩
   ·rintro i v ys S hv ⟨rfl,hL,hl,hp⟩
    obtain⟨d,hd,rfl⟩:=List.mem_map.mp (List.mem_of_getElem? hv)
    obtain⟨x,_,rfl⟩:=List.mem_map.mp hd
    refine⟨_,rfl,tJ ?_⟩
    rw[if_pos rfl]
    refine ik (ds:=[.int x, .int 0]) (jM rfl (by simp;omega)) ⟨?_,hL.push (mR _),by simp [hl],fun k hk=>?_⟩
    ·rw[List.range_succ,List.map_append,hl];rfl
    ·by_cases hki:k < i
     ·obtain⟨a,c,e⟩:=hp k hki
      exact⟨a,c,by rw[List.getElem?_append_left (by omega)];exact e⟩
     ·obtain rfl:k=i:=by omega
      refine⟨x,0,?_⟩
      rw[←hl]
      exact bc _ _
   ·rw[List.length_map,List.length_map] at e hl hp
    have hm:jt ys= .lst ((List.range cc.length).map .loc):=by
     rw[e]
     obtain⟨m,hm⟩:∃m,cc.length=m+1:=⟨cc.length - 1,by omega⟩
     rw[hm,List.range_succ_eq_map,List.map_cons]
     rfl
    rw[hm]
    exact h cc.length S2 hpos ⟨hL,hl,fun k hk=>⟨hL,hp k hk⟩⟩
theorem Bk.ev{n k:Nat}{S S1:aN}(h:Bk n S)(hk:k < n)(v:Ev k S S1):Bk n S1:=⟨v.p.1,by rw[v.len];exact h.2.1,fun j hj=>by
 by_cases q:j=k
 ·subst q;exact v.p
 ·obtain⟨_,a,c,e⟩:=h.2.2 j hj
  exact⟨v.p.1,a,c,by rw[v.oth j q];exact e⟩⟩
end K21
end
section
set_option maxRecDepth 100000
set_option maxHeartbeats 4000000
namespace K21
open PySem PySem.Spec PyProof.Rows L2 L3 MT
theorem AH{f g:ax→R Bool}{δ:ax}{a b:Bool}(h1:f δ= .ok a)(h2:g δ= .ok b):wX f g δ= .ok (a || b):=by
 unfold wX
 rw[h1,R.aY]
 cases a with
 | true=>rw [if_pos rfl];rfl
 | false=>rw [if_neg (by decide),h2];rfl
theorem Bi{f:FD}{δ:ax}(h:f δ= .ok (.bl true)):ke (iX f) δ= .ok false:=by unfold ke iX;rw [h];rfl
theorem DW{ins:List (Str × Nat)}{gs:List Gt}{os:List (Str × List Nat)}:jk [bM ins gs os]= .ok (bM ins gs os):=rfl
theorem su{T:List Nat}(h:T.length < 1000):df [aU T]= .ok (.bl true):=by
 have hz:sizeLine=16777216:=sizeLine_eq
 unfold df kg
 refine d9 (bY (jr rfl rfl) (cZ (aw (a:= .lst (([]:List Nat).map nI)) (b:= .lst []) (eu (dN (ds:=T.map nI) (nC rfl) (by rw[List.length_map];omega) ?_)) rfl (uw (EM [])))))
 have:=NT.ic (t:=aR 0) (c:=wX (iX (nq "bool" (ae 0))) (ke (iX (nq "int" (ae 0))))) (f:=ae 0) (δ:=[.un]) (fun _:Nat=>false) nI nI (xs:=T) fun x _=>⟨[.val (nI x)],rfl,rfl,fun z=>by cases z⟩
 have hf:T.filter (fun _=>false)=[]:=by simp
 rw[hf] at this
 exact this
theorem Ef{S:aN}{k:Nat}(p:u9 k S){Q:V3→aN→Prop}(h:∀S1,Ev k S S1→Q (.d (.bl true)) S1):W3 (jD [.loc k] S) Q:=by
 have hz:sizeLine=16777216:=sizeLine_eq
 have hk:=p.lt
 unfold jD
 refine ET (sQ rfl ?_)
 simp only[bS,ji,List.map_cons,List.map_nil,List.length_cons,List.length_nil,List.replicate,List.cons_append,List.nil_append,Nat.reduceAdd,Nat.reduceSub]
 unfold mV
 refine aF <| bj (by simp only[List.length_cons,List.length_nil,List.length_set];omega) <| cV <| aA <| w_var (v:= .loc k) rfl <| aA <| cy (d:= .int 6) rfl <| aA <| cy (d:= .int 9) rfl <| aA <| cy (d:= .int 3) rfl <| cu <| vy p ⟨by omega,by omega⟩ ⟨by omega,by omega⟩ fun l gs os S1 hl1 hl6 hgl hD v1=>⟨_,rfl,?_⟩
 simp only[List.set_cons_succ,List.set_cons_zero]
 refine aF <| bj (by simp only[List.length_cons,List.length_nil,List.length_set];omega) <| draw (k:=k) rfl v1.p rfl (by omega) (by omega) fun r S2 h1 h2 v2=>⟨_,rfl,?_⟩
 simp only[List.set_cons_succ,List.set_cons_zero]
 obtain⟨m,rfl⟩:=Int.eq_ofNat_of_zero_le h1
 refine aF <| bj (by simp only[List.length_cons,List.length_nil,List.length_set];omega) <| DG <| cy (d:= .lst [.str (Str.ofString "right"), .str (Str.ofString "safe")]) rfl <| draw (k:=k) rfl v2.p rfl (by omega) (by omega) fun r3 S3 h3 h4 v3=>?_
 obtain⟨safe,es⟩:∃safe,bZ (.lst [.str (Str.ofString "right"), .str (Str.ofString "safe")]) (.int r3)= .ok (.str (k6 safe)):=by
  have:r3=0∨r3=1:=by omega
  rcases this with rfl | rfl
  ·exact⟨false,rfl⟩
  ·exact⟨true,rfl⟩
 refine⟨_,_,_,rfl,rfl,es,_,rfl,?_⟩
 simp only[List.set_cons_succ,List.set_cons_zero]
 have v3':=(v1.trans v2).trans v3
 have hcl:ll S3:=v3.p.1.LQ
 have l3:=v3'.len
 generalize hc:l.length=c at hl1 hl6
 have NO:=hD.no (by omega) (by omega)
 have hgl':gs.length≤12:=by omega
 refine aF <| bj (by simp only[List.length_cons,List.length_nil,List.length_set];omega) <| cV <| aA <| cy (d:=bM l gs os) rfl <| aA <| cy (d:=nI m) rfl <| aA <| cy (d:= .str (k6 safe)) rfl <| cu <| p6 NO hc (by omega) hD.w3 (hD.sd hc) hgl' (by omega) hcl ⟨_,rfl,?_⟩
 simp only[List.set_cons_succ,List.set_cons_zero]
 refine aF <| bj (by simp only[List.length_cons,List.length_nil,List.length_set];omega) <| cy (d:=bM l gs os) (bp (ds:=[bM l gs os]) rfl DW) ⟨_,rfl,?_⟩
 simp only[List.set_cons_succ,List.set_cons_zero]
 refine aF <| bj (by simp only[List.length_cons,List.length_nil,List.length_set];omega) <| cV <| aA <| cy (d:=bM l gs os) rfl <| aA <| cy (d:=nI m) rfl <| aA <| cy (d:= .str (k6 safe)) rfl <| cu <| rP NO hc (by omega) hD.w3 hgl' (by omega) hcl ⟨_,rfl,?_⟩
 simp only[List.set_cons_succ,List.set_cons_zero]
 have hsm:∀o∈vU safe c l gs os m,o.length < 1000:=m5 (qV (by omega))
 have hfl:(vU safe c l gs os m).length≤16384:=by
  have h1:=nO (BT safe c l gs os) (lI (l_ gs) m) []
  have h2:=lX (free:=l_ gs) (Nat.le_trans uM hgl') m
  have h3:(m+1)*4096≤4*4096:=Nat.mul_le_mul_right _ (by omega)
  unfold vU nu
  simp only[List.length_nil] at h1
  omega
 generalize hF:vU safe c l gs os m=F at hsm hfl
 have hY:(YS S3 c l gs os F)[S3.length+2]? =some (.lst (F.map aU)):=t3
 have hclY:∀f,ll (YS S3 c l gs os f):=fun f=>Aw hcl f
 refine aF <| lU <| Bc (b:=false) (AH (a:=false) (b:=false) ?_ (AH (a:=false) (b:=false) ?_ ?_)) ?_
 ·refine Bi ?_
  unfold nq
  rw[kW (d:= .lst (F.map aU)) rfl (cX hY)];rfl
 ·refine Bi (bp (g:=BH) (ds:=[.lst ((F.map fun _=>true).map .bl)]) (r:= .ok (.bl true)) (aZ (eu (dN (ds:=F.map aU) (kC (kW rfl (cX hY))) (by rw[List.length_map];omega) ?_)) rfl) ?_)
  ·rw[List.map_map]
   exact NT.er aU _ fun o ho=>⟨[.val (aU o)],rfl,rfl,bp (ds:=[aU o]) rfl (su (hsm o ho))⟩
  ·show(match bls? ((F.map fun _=>true).map D.bl) with | some bs=>R.ok (D.bl (bs.all id)) | none=> .no)=_
   rw[qw]
   show R.ok (D.bl ((F.map fun _=>true).all id))=_
   rw[List.all_map]
   congr 2
   rw[List.all_eq_true]
   intro x _;rfl
 ·exact f_ (a:= .lst (F.map aU)) (b:= .lst (F.map aU)) (kW rfl (cX hY)) (kW rfl (by unfold res;rfl)) (Gp (dY.Kx (Fg F) (by omega)))
 rw[if_neg (by decide)]
 refine iK ⟨_,rfl,?_⟩
 refine aF <| j7 (k:=S3.length+2) rfl ⟨_,t3⟩ <| cy (d:=aU [0]) (dH rfl (by simp;omega)) ⟨_,_,rfl,t3,by rw[List.length_map];omega,_,rfl,?_⟩
 have hst:(YS S3 c l gs os F).set (S3.length+2) (.lst (F.map aU++[aU [0]]))=YS S3 c l gs os (F++[[0]]):=by
  unfold YS
  rw[u3,List.map_append];rfl
 rw[hst]
 refine fN <| w_and <| cy (d:= .bl true) (aw (a:=bM l gs os) (b:=bM l gs os) rfl rfl hD.eq) ⟨rfl,?_⟩
 refine ES <| cV <| aA <| cy (d:=bM l gs os) rfl <| aA <| cy (d:=nI m) rfl <| aA <| cy (d:= .str (k6 safe)) rfl <| cu <| yj NO hc (by omega) hD.w3 hgl' (by omega) (hclY _) <| cy (d:= .lst (F.map aU)) rfl ⟨_,_, .bl true,rfl,rfl,?_,_,rfl,?_⟩
 ·rw[hF]
  exact uw (dY.Kx (Fg F) (by omega))
 ·have htk:(YS S3 c l gs os (F++[[0]])).take S.length=S3:=by
   unfold YS
   rw[←l3,List.take_left]
  rw[htk]
  exact⟨fun o ho=>v3.p.1 o ho _,by unfold gQ;rfl,_,by unfold res;rfl,h S3 v3'⟩
theorem AI(ns:List Int)(hn:ns.length≤63):zh [.lst (ns.map D.int)]= .ok (.bl true):=by
 have hz:sizeLine=16777216:=sizeLine_eq
 have key:W3 (nE qJ tR [.d (.lst (ns.map .int))] []) fun v S1=>v= .d (.bl true)∧S1=[]:=by
  refine tQ (sQ rfl ?_)
  simp only[bS,qJ,List.map_cons,List.map_nil,List.length_cons,List.length_nil,List.replicate,List.cons_append,List.nil_append,Nat.reduceAdd,Nat.reduceSub]
  unfold tR
  refine aF (gR (C6 (cV (aA (cy (d:= .lst ((ns.take 4).map .int)) ?_ (cu (C7 _ ?_ fun n S1 hn0 hP=>⟨_,rfl,?_⟩)))))))
  ·refine x4 (d:= .lst (ns.map .int)) (lo:=none) (hi:=some 4) rfl rfl rfl ?_
   show R.ok (D.lst (L2.cutD _ none (some 4)))=_
   rw[CH _ (by omega),List.map_take]
   rfl
  ·rw[List.length_take];omega
  refine(b_ (fun i δ S2=>(∃x,δ=[some (.d (.lst (ns.map .int))),x])∧Bk n S2) ⟨⟨_,rfl⟩,hP⟩ ?_).mono fun o S2 ⟨δ2,e,⟨x,hδ⟩,hP2⟩=>⟨δ2,e,?_⟩
  ·rintro i v δ S2 hv ⟨⟨x,rfl⟩,hP2⟩
   obtain⟨k,hk,rfl⟩:=List.mem_map.mp (List.mem_of_getElem? hv)
   rw[List.mem_range] at hk
   refine⟨_,rfl,?_⟩
   unfold zu
   refine lU (w_not (Ib (cV (aA (w_var (v:= .loc k) rfl (cu (Ef (hP2.2.2 k hk) fun S3 v3=>⟨_,true,rfl,rfl,?_⟩)))))))
   rw[if_neg (by decide)]
   exact iK ⟨_,rfl,⟨_,rfl⟩,hP2.ev hk v3⟩
  ·subst hδ
   refine fN (cy (d:= .bl true) rfl ⟨_,rfl,hP2.1,by unfold gQ;rfl, .bl true,by unfold res;rfl,rfl,?_⟩)
   rfl
 obtain⟨v,S1,e,rfl,rfl⟩:=key
 unfold zh Jg
 simp only[List.map_cons,List.map_nil]
 rw[e]
 rfl
end K21
end
open PySem PySem.W PyProof.Rows
set_option maxRecDepth 100000 in
set_option maxHeartbeats 0 in
theorem PySem.Challenge.cw_bearfaults_k21_breaking_sets_holds : PySem.Challenge.rw_bearfaults_k21_breaking_sets.Holds := by
 w_on;o_law;k_head;(case hw=>w_witness2)
 k_fill
 refine L2.IA (l:=PySem.Challenge.rw_bearfaults_k21_breaking_sets) (n:=63) (k:=10) (x:=Str.ofString "script") (g:=K21.zh) rfl (by decide) rfl ⟨rfl,by decide,by decide⟩ (fun w h Y=>PySem.W.kIn_of Y) ?F K21.AI
 case F=>
  intro w mg fa h KX G hmg
  have D_vote_of:L2.Def (L2.fX KX) mg (Str.ofString "vote_of") K21.fI:=by
   dsimp only[L2.fX]
   refine' L2.cx KX G ?a ?l ?c ?k
   (case a=>k_is);(case l=>k_is);(case c=>k_is);(case k=>k_is)
  have D_gate_mask:L2.Def (L2.fX KX) mg (Str.ofString "gate_mask") K21.dk:=by
   dsimp only[L2.fX]
   refine' L2.cx KX G ?a ?l ?c ?k
   (case a=>k_is);(case l=>k_is);(case c=>k_is);(case k=>k_is)
  have D_in_wire_masks:L2.Def (L2.fX KX) mg (Str.ofString "in_wire_masks") K21.cg:=by
   dsimp only[L2.fX]
   refine' L2.cx KX G ?a ?l ?c ?k
   (case a=>k_is);(case l=>k_is);(case c=>k_is);(case k=>k_is)
  have D_masks_at:L2.Def (L2.fX KX) mg (Str.ofString "masks_at") K21.ei:=by
   dsimp only[L2.fX]
   refine' L2.cx KX G ?a ?l ?c ?k
   (case a=>k_is);(case l=>k_is);(case c=>k_is);(case k=>k_is)
  have D_wire_masks:L2.Def (L2.fX KX) mg (Str.ofString "wire_masks") K21.cY:=by
   dsimp only[L2.fX]
   refine' L2.cx KX G ?a ?l ?c ?k
   (case a=>k_is);(case l=>k_is);(case c=>k_is);(case k=>k_is)
  have D_out_masks:L2.Def (L2.fX KX) mg (Str.ofString "out_masks") K21.dq:=by
   dsimp only[L2.fX]
   refine' L2.cx KX G ?a ?l ?c ?k
   (case a=>k_is);(case l=>k_is);(case c=>k_is);(case k=>k_is)
  have D_reading:L2.Def (L2.fX KX) mg (Str.ofString "reading") K21.fL:=by
   dsimp only[L2.fX]
   refine' L2.cx KX G ?a ?l ?c ?k
   (case a=>k_is);(case l=>k_is);(case c=>k_is);(case k=>k_is)
  have D_all_inputs:L2.Def (L2.fX KX) mg (Str.ofString "all_inputs") K21.cW:=by
   dsimp only[L2.fX]
   refine' L2.cx KX G ?a ?l ?c ?k
   (case a=>k_is);(case l=>k_is);(case c=>k_is);(case k=>k_is)
  have D_mask_of:L2.Def (L2.fX KX) mg (Str.ofString "mask_of") K21.fJ:=by
   dsimp only[L2.fX]
   refine' L2.cx KX G ?a ?l ?c ?k
   (case a=>k_is);(case l=>k_is);(case c=>k_is);(case k=>k_is)
  have D_in_mask:L2.Def (L2.fX KX) mg (Str.ofString "in_mask") K21.fG:=by
   dsimp only[L2.fX]
   refine' L2.cx KX G ?a ?l ?c ?k
   (case a=>k_is);(case l=>k_is);(case c=>k_is);(case k=>k_is)
  have D_choices:L2.Def (L2.fX KX) mg (Str.ofString "choices") K21.fH:=by
   dsimp only[L2.fX]
   refine' L2.cx KX G ?a ?l ?c ?k
   (case a=>k_is);(case l=>k_is);(case c=>k_is);(case k=>k_is)
  have D_has_all:L2.Def (L2.fX KX) mg (Str.ofString "has_all") K21.fD:=by
   dsimp only[L2.fX]
   refine' L2.cx KX G ?a ?l ?c ?k
   (case a=>k_is);(case l=>k_is);(case c=>k_is);(case k=>k_is)
  have D_breaking:L2.Def (L2.fX KX) mg (Str.ofString "breaking") K21.et:=by
   dsimp only[L2.fX]
   refine' L2.cx KX G ?a ?l ?c ?k
   (case a=>k_is);(case l=>k_is);(case c=>k_is);(case k=>k_is)
  have D_law_next:L2.Def (L2.fX KX) mg (Str.ofString "_law_next") K21.eo:=by
   dsimp only[L2.fX]
   refine' L2.cx KX G ?a ?l ?c ?k
   (case a=>k_is);(case l=>k_is);(case c=>k_is);(case k=>k_is)
  have D_law_pots:L2.Def (L2.fX KX) mg (Str.ofString "_law_pots") K21.eA:=by
   dsimp only[L2.fX]
   refine' L2.cx KX G ?a ?l ?c ?k
   (case a=>k_is);(case l=>k_is);(case c=>k_is);(case k=>k_is)
  have D_law_some_ins:L2.Def (L2.fX KX) mg (Str.ofString "_law_some_ins") K21.cE:=by
   dsimp only[L2.fX]
   refine' L2.cx KX G ?a ?l ?c ?k
   (case a=>k_is);(case l=>k_is);(case c=>k_is);(case k=>k_is)
  have D_law_gate:L2.Def (L2.fX KX) mg (Str.ofString "_law_gate") K21.eB:=by
   dsimp only[L2.fX]
   refine' L2.cx KX G ?a ?l ?c ?k
   (case a=>k_is);(case l=>k_is);(case c=>k_is);(case k=>k_is)
  have D_law_twin:L2.Def (L2.fX KX) mg (Str.ofString "_law_twin") K21.d_:=by
   dsimp only[L2.fX]
   refine' L2.cx KX G ?a ?l ?c ?k
   (case a=>k_is);(case l=>k_is);(case c=>k_is);(case k=>k_is)
  have D_law_some_net:L2.Def (L2.fX KX) mg (Str.ofString "_law_some_net") K21.cI:=by
   dsimp only[L2.fX]
   refine' L2.cx KX G ?a ?l ?c ?k
   (case a=>k_is);(case l=>k_is);(case c=>k_is);(case k=>k_is)
  have D_law_ins_bits:L2.Def (L2.fX KX) mg (Str.ofString "_law_ins_bits") K21.cC:=by
   dsimp only[L2.fX]
   refine' L2.cx KX G ?a ?l ?c ?k
   (case a=>k_is);(case l=>k_is);(case c=>k_is);(case k=>k_is)
  have D_law_all_wires:L2.Def (L2.fX KX) mg (Str.ofString "_law_all_wires") K21.ck:=by
   dsimp only[L2.fX]
   refine' L2.cx KX G ?a ?l ?c ?k
   (case a=>k_is);(case l=>k_is);(case c=>k_is);(case k=>k_is)
  have D_law_reads:L2.Def (L2.fX KX) mg (Str.ofString "_law_reads") K21.dv:=by
   dsimp only[L2.fX]
   refine' L2.cx KX G ?a ?l ?c ?k
   (case a=>k_is);(case l=>k_is);(case c=>k_is);(case k=>k_is)
  have D_law_broken:L2.Def (L2.fX KX) mg (Str.ofString "_law_broken") K21.c9:=by
   dsimp only[L2.fX]
   refine' L2.cx KX G ?a ?l ?c ?k
   (case a=>k_is);(case l=>k_is);(case c=>k_is);(case k=>k_is)
  have D_law_all_sets:L2.Def (L2.fX KX) mg (Str.ofString "_law_all_sets") K21.cA:=by
   dsimp only[L2.fX]
   refine' L2.cx KX G ?a ?l ?c ?k
   (case a=>k_is);(case l=>k_is);(case c=>k_is);(case k=>k_is)
  have D_law_free_ones:L2.Def (L2.fX KX) mg (Str.ofString "_law_free_ones") K21.cm:=by
   dsimp only[L2.fX]
   refine' L2.cx KX G ?a ?l ?c ?k
   (case a=>k_is);(case l=>k_is);(case c=>k_is);(case k=>k_is)
  have D_law_breaking:L2.Def (L2.fX KX) mg (Str.ofString "_law_breaking") K21.cF:=by
   dsimp only[L2.fX]
   refine' L2.cx KX G ?a ?l ?c ?k
   (case a=>k_is);(case l=>k_is);(case c=>k_is);(case k=>k_is)
  have D_law_copy:L2.Def (L2.fX KX) mg (Str.ofString "_law_copy") K21.ef:=by
   dsimp only[L2.fX]
   refine' L2.cx KX G ?a ?l ?c ?k
   (case a=>k_is);(case l=>k_is);(case c=>k_is);(case k=>k_is)
  have D_law_are_places:L2.Def (L2.fX KX) mg (Str.ofString "_law_are_places") K21.bX:=by
   dsimp only[L2.fX]
   refine' L2.cx KX G ?a ?l ?c ?k
   (case a=>k_is);(case l=>k_is);(case c=>k_is);(case k=>k_is)
  have D_law_case:L2.Def (L2.fX KX) mg (Str.ofString "_law_case") K21.ee:=by
   dsimp only[L2.fX]
   refine' L2.cx KX G ?a ?l ?c ?k
   (case a=>k_is);(case l=>k_is);(case c=>k_is);(case k=>k_is)
  have D_law:L2.Def (L2.fX KX) mg (Str.ofString "law") K21.pz:=by
   dsimp only[L2.fX]
   refine' L2.cx KX G ?a ?l ?c ?k
   (case a=>k_is);(case l=>k_is);(case c=>k_is);(case k=>k_is)
  obtain⟨cl,CF⟩:∃cl,K21.Cf (L2.fX KX) mg cl:=by
   dsimp only[L2.fX]
   refine' K21.Il KX G ?aC0 ?pg0 ?hd0 ?po0 ?sa0 ?mk0 ?kc0 ?n0_net ?n0_many_inputs ?n0_full ?n0_in_masks ?aC1 ?pg1 ?hd1 ?po1 ?sa1 ?mk1 ?kc1 ?n1_bench ?n1_plain ?n1_unsure ?a_Bench___init__ ?i_Bench___init__ ?l_Bench___init__ ?dO ?k_Bench___init__ ?a_Bench_tells ?i_Bench_tells ?l_Bench_tells ?fV ?k_Bench_tells ?a_Bench_readings ?i_Bench_readings ?l_Bench_readings ?dU ?k_Bench_readings ?a_Trial___init__ ?i_Trial___init__ ?l_Trial___init__ ?dR ?k_Trial___init__ ?a_Trial_breaks_at ?i_Trial_breaks_at ?l_Trial_breaks_at ?dn ?k_Trial_breaks_at
   (case aC0=>k_is)
   (case pg0=>k_is)
   (case hd0=>k_is)
   (case po0=>k_is)
   (case sa0=>k_is)
   (case mk0=>k_is)
   (case kc0=>k_is)
   (case n0_net=>k_is)
   (case n0_many_inputs=>k_is)
   (case n0_full=>k_is)
   (case n0_in_masks=>k_is)
   (case aC1=>k_is)
   (case pg1=>k_is)
   (case hd1=>k_is)
   (case po1=>k_is)
   (case sa1=>k_is)
   (case mk1=>k_is)
   (case kc1=>k_is)
   (case n1_bench=>k_is)
   (case n1_plain=>k_is)
   (case n1_unsure=>k_is)
   (case a_Bench___init__=>k_is)
   (case i_Bench___init__=>k_is)
   (case l_Bench___init__=>k_is)
   (case dO=>k_is)
   (case k_Bench___init__=>k_is)
   (case a_Bench_tells=>k_is)
   (case i_Bench_tells=>k_is)
   (case l_Bench_tells=>k_is)
   (case fV=>k_is)
   (case k_Bench_tells=>k_is)
   (case a_Bench_readings=>k_is)
   (case i_Bench_readings=>k_is)
   (case l_Bench_readings=>k_is)
   (case dU=>k_is)
   (case k_Bench_readings=>k_is)
   (case a_Trial___init__=>k_is)
   (case i_Trial___init__=>k_is)
   (case l_Trial___init__=>k_is)
   (case dR=>k_is)
   (case k_Trial___init__=>k_is)
   (case a_Trial_breaks_at=>k_is)
   (case i_Trial_breaks_at=>k_is)
   (case l_Trial_breaks_at=>k_is)
   (case dn=>k_is)
   (case k_Trial_breaks_at=>k_is)
  have D_Bench___init__:=CF.D_Bench___init__
  have D_Bench_tells:=CF.D_Bench_tells
  have D_Bench_readings:=CF.D_Bench_readings
  have D_Trial___init__:=CF.D_Trial___init__
  have D_Trial_breaks_at:=CF.D_Trial_breaks_at
  have T:K21.Tp (L2.fX KX) mg cl:=by
   dsimp only[L2.fX]
   refine' ⟨PySem.W.mg_none_of KX G ?z_enumerate,PySem.W.mg_none_of KX G ?z_range,PySem.W.mg_none_of KX G ?z_len,PySem.W.mg_none_of KX G ?z_tuple,PySem.W.mg_none_of KX G ?z_reversed,PySem.W.mg_none_of KX G ?z_all,PySem.W.mg_none_of KX G ?z_zip,PySem.W.mg_none_of KX G ?z_any,PySem.W.mg_none_of KX G ?z_min,PySem.W.mg_none_of KX G ?z_list,PySem.W.mg_none_of KX G ?z_isinstance,PySem.W.mg_none_of KX G ?z_bool,PySem.W.mg_none_of KX G ?z_int,CF.C_Bench,CF.N_Bench_net,CF.N_Bench_many_inputs,CF.N_Bench_full,CF.N_Bench_in_masks,CF.M_Bench,CF.C_Trial,CF.N_Trial_bench,CF.N_Trial_plain,CF.N_Trial_unsure,CF.M_Trial⟩
   (case z_enumerate=>k_is);(case z_range=>k_is);(case z_len=>k_is);(case z_tuple=>k_is);(case z_reversed=>k_is);(case z_all=>k_is);(case z_zip=>k_is);(case z_any=>k_is);(case z_min=>k_is);(case z_list=>k_is);(case z_isinstance=>k_is);(case z_bool=>k_is);(case z_int=>k_is)
  obtain⟨fl,fd,Fl,hl⟩:=D_law
  have e0:=hmg.symm.trans hl
  cases e0
  refine' ⟨fd,?b,fun base kb nb=>K21.GN T D_vote_of D_gate_mask D_in_wire_masks D_masks_at D_wire_masks D_out_masks D_reading D_all_inputs D_mask_of D_in_mask D_choices D_has_all D_Bench___init__ D_Bench_tells D_Bench_readings D_Trial___init__ D_Trial_breaks_at D_breaking D_law_next D_law_pots D_law_some_ins D_law_gate D_law_twin D_law_some_net D_law_ins_bits D_law_all_wires D_law_reads D_law_broken D_law_all_sets D_law_free_ones D_law_breaking D_law_copy D_law_are_places D_law_case Fl⟩
  obtain⟨_,_,_,_,_,_,_,_,_,e,_,_⟩:=Fl.ex
  subst e
  exact fun s u=> .of_eq rfl
