import PyProof.Rows.All
import Wide.All
import OpenK.AllK
import Wide.FinOn
import Lean
import PyProof.EqAt
import PyProof.EqKinds
import PyProof.TupleCall
import PyProof.Rows.StrJoin2
import PyProof.TupleOfGen
import PyProof.ListRange
import PyProof.Draws
import PyProof.Rows.StrClose3
import KE.KSortedM
import PyProof.Rows.SortWalk
import PyProof.WalkInts
import PyProof.Rows.Range3
import PyProof.ZipIter
import PyProof.ConsumeWalk
import PyProof.Rows.SeqMore
import KE.KRevIter
import KE.KRevSl
import KE.KUnpack
import PySem.Challenge.RW_bearfaults_k14_faults_by_trial
noncomputable section
set_option bootstrap.genMatcherCode false
def PySem.W.Fast.tw16446909762473207528:=0
def PySem.W.Fast.tw3335135934588649042:=0
def PySem.W.Fast.tw5182114457527661:=0
def PySem.W.Fast.tw8987895994906902706:=0
def PySem.W.Fast.tw15440673916692282194:=0
def PySem.W.Fast.tw15862536967319534312:=0
def PySem.W.Fast.tw6106026701444192424:=0
def PySem.W.Fast.tw7177104629779228382:=0
def PySem.W.Fast.tw3107059491612109694:=0
def PySem.W.Fast.tw2624582456628895185:=0
def PySem.W.Fast.tw7222812168263058504:=0
def PySem.W.Fast.tw18185820550980324248:=0
def PySem.W.Fast.tw6144889969785801878:=0
def PySem.W.Fast.tw4917123429660235782:=0
def PySem.W.Fast.tw1480620692636806786:=0
def PySem.W.Fast.tw3774077898150542881:=0
def PySem.W.Fast.tw647243320348961316:=0
def PySem.W.Fast.tw15211083732322605934:=0
def PySem.W.Fast.tw14409534714698046895:=0
def PySem.W.Fast.tw17166774818121520422:=0
def PySem.W.Fast.tw15071130170486240660:=0
def PySem.W.Fast.tw5420335601221910200:=0
def PySem.W.Fast.tw2156031453312352676:=0
def PySem.W.Fast.tw10931444000535220598:=0
def PySem.W.Fast.tw7734891590129418667:=0
def PySem.W.Fast.tw10937494705467862143:=0
def PySem.W.Fast.tw13913084621204440334:=0
def PySem.W.Fast.tw1847715373310064587:=0
def PySem.W.Fast.tw991962258265346734:=0
def PySem.W.Fast.tw15305926186721165323:=0
def PySem.W.Fast.tw872831588402680190:=0
def PySem.W.Fast.tw13666276458769058449:=0
def PySem.W.Fast.tw7973470701308455566:=0
def PySem.W.Fast.tw7029587202747281009:=0
def PySem.W.Fast.tw10064323473970884416:=0
def PySem.W.Fast.tw1933093686754283066:=0
def PySem.W.Fast.tw16838296710478384413:=0
def PySem.W.Fast.tw7060493363598829844:=0
def PySem.W.Fast.tw14065306761712713126:=0
def PySem.W.Fast.tw13294000666499488004:=0
set_option Elab.async false
set_option linter.all false
set_option maxRecDepth 100000
set_option maxHeartbeats 4000000
section
set_option maxRecDepth 100000
namespace L2
open PySem PySem.Spec PyProof.Rows
noncomputable abbrev Key:=Sum Int Str
noncomputable def tS:Key→Value→Bool
 | .inl k,v=>Value.isInt k v
 | .inr x,v=>Value.isStrOf x v
noncomputable def Kl(w:World):Key→Int
 | .inl k=>hashInt k
 | .inr x=>hashStr w x
theorem dJ:∀{k:Key} {v:Value},tS k v=true→(∃i t,k=Sum.inl i∧v=Value.int i t)∨(∃x t,k=Sum.inr x∧v=Value.str x t)
 | .inl i,v,h=>by
   obtain⟨t,e⟩:=Value.isInt_shape (k:=i) (v:=v) h
   exact .inl ⟨i,t,rfl,e⟩
 | .inr x,v,h=>by
   obtain⟨t,e⟩:=Value.isStrOf_shape (x:=x) (v:=v) h
   exact .inr ⟨x,t,rfl,e⟩
theorem zC(i:Int)(t:Tok):tS (.inl i) (.int i t)=true:=by simp [tS,Value.isInt]
theorem Av(x:Str)(t:Tok):tS (.inr x) (.str x t)=true:=by simp [tS,Value.isStrOf]
theorem HD(a b:Int):decide ((Sum.inl a:Key)=Sum.inl b)=(a==b):=by
 by_cases e:a=b
 ·subst e;simp
 ·have h:¬(Sum.inl a:Key)=Sum.inl b:=fun q=>e (Sum.inl.inj q)
  rw[decide_eq_false h]
  exact(beq_eq_false_iff_ne.mpr e).symm
theorem Gw(a b:Str):decide ((Sum.inr a:Key)=Sum.inr b)=decide (a=b):=by
 by_cases e:a=b
 ·subst e;simp
 ·have h:¬(Sum.inr a:Key)=Sum.inr b:=fun q=>e (Sum.inr.inj q)
  rw[decide_eq_false h,decide_eq_false e]
theorem Gg(a:Int)(b:Str):decide ((Sum.inl a:Key)=Sum.inr b)=false:=decide_eq_false (fun q=>nomatch q)
theorem HI(a:Str)(b:Int):decide ((Sum.inr a:Key)=Sum.inl b)=false:=decide_eq_false (fun q=>nomatch q)
noncomputable def dQ(prog:Program)(w:World):PySem.KeyKind prog w Key where
 is:=tS
 hash:=Kl w
 inj:=fun v a b ha hb=>by
  rcases dJ ha with⟨i,t,rfl,rfl⟩ | ⟨x,t,rfl,rfl⟩
  ·rcases dJ hb with⟨j,u,rfl,e⟩ | ⟨y,u,rfl,e⟩
   ·injection e with e1 _;rw [e1]
   ·exact nomatch e
  ·rcases dJ hb with⟨j,u,rfl,e⟩ | ⟨y,u,rfl,e⟩
   ·exact nomatch e
   ·injection e with e1 _;rw [e1]
 byValue:=fun k v h=>by
  rcases dJ h with⟨i,t,rfl,rfl⟩ | ⟨x,t,rfl,rfl⟩ <;> rfl
 pyHash:=fun hv h=>by
  rcases dJ hv with⟨i,t,rfl,rfl⟩ | ⟨x,t,rfl,rfl⟩
  ·exact wpAny_pyHash_int h
  ·exact wpAny_pyHash_str h
 eqBool:=fun hu hv h=>by
  rcases dJ hu with⟨i,t,rfl,rfl⟩ | ⟨x,t,rfl,rfl⟩
  ·rcases dJ hv with⟨j,u,rfl,rfl⟩ | ⟨y,u,rfl,rfl⟩
   ·rw[HD] at h;exact wpAny_eqBool_int h
   ·rw[Gg] at h;exact SeqAt.EqAt.int_str i t y u _ _ _ _ h
  ·rcases dJ hv with⟨j,u,rfl,rfl⟩ | ⟨y,u,rfl,rfl⟩
   ·rw[HI] at h;exact SeqAt.EqAt.str_int x t j u _ _ _ _ h
   ·rw[Gw] at h;exact wpAny_eqBool_str h
 «strs»:=fun k x t v h=>by
  rcases dJ h with⟨i,u,rfl,e⟩ | ⟨y,u,rfl,e⟩
  ·exact nomatch e
  ·injection e with e1 _
   subst e1
   cases v <;> rfl
theorem vp(prog:Program)(w:World)(i:Int)(t:Tok):(dQ prog w).is (.inl i) (.int i t)=true:=zC i t
theorem wt(prog:Program)(w:World)(x:Str)(t:Tok):(dQ prog w).is (.inr x) (.str x t)=true:=Av x t
end L2
namespace L2
open PySem PySem.Spec PyProof.Rows
inductive V where
 | cI | bl (b:Bool) | int (i:Int) | str (x:Str) | byt (b:Array UInt8) | flt (b:UInt64) | ref (a:Addr) | ty (n:String)
 deriving DecidableEq
noncomputable def RelV:V→Value→Prop
 | .cI,u=>u=Value.none
 | .bl b,u=>u=Value.bool b
 | .int i,u=>∃t,u=Value.int i t
 | .str x,u=>∃t,u=Value.str x t
 | .byt b,u=>∃t,u=Value.bytes b t
 | .flt b,u=>∃t,u=Value.float b t
 | .ref a,u=>u=Value.ref a
 | .ty n,u=>u=Value.type n
noncomputable abbrev Vals:List V→List Value→Prop:=Paired RelV
theorem Vals.length{xs:List V}{us:List Value}(r:Vals xs us):xs.length=us.length:=Paired.length r
theorem Vals.get:∀{xs:List V} {us:List Value} {i:Nat} {x:V},Vals xs us→xs[i]? =some x→∃u,us[i]? =some u∧RelV x u
 | _,_,_,_, .nil,e=>by simp at e
 | _,_,0,_, .cons r _,e=>by simp at e;subst e;exact⟨_,rfl,r⟩
 | _,_,i+1,x, .cons _ t,e=>by
   obtain⟨u,h1,h2⟩:=Vals.get (i:=i) (x:=x) t (by simpa using e)
   exact⟨u,by simpa using h1,h2⟩
theorem Vals.set{x:V}{u:Value}(r:RelV x u):∀{xs:List V} {us:List Value} (i:Nat),Vals xs us→Vals (xs.set i x) (us.set i u)
 | _,_,_, .nil=> .nil
 | _,_,0, .cons _ t=> .cons r t
 | _,_,i+1, .cons q t=> .cons q (Vals.set r i t)
theorem Vals.append:∀{xs ys:List V} {us ws:List Value},Vals xs us→Vals ys ws→Vals (xs++ys) (us++ws)
 | _,_,_,_, .nil,s=>s
 | _,_,_,_, .cons r t,s=> .cons r (Vals.append t s)
theorem Vals.take:∀{xs:List V} {us:List Value} (n:Nat),Vals xs us→Vals (xs.take n) (us.take n)
 | _,_,0,_=> .nil
 | _,_,_+1, .nil=> .nil
 | _,_,n+1, .cons r t=> .cons r (Vals.take n t)
theorem Vals.drop:∀{xs:List V} {us:List Value} (n:Nat),Vals xs us→Vals (xs.drop n) (us.drop n)
 | _,_,0,r=>r
 | _,_,_+1, .nil=> .nil
 | _,_,n+1, .cons _ t=>Vals.drop n t
noncomputable def nS:Option V→Option Value→Prop
 | some v,some u=>RelV v u
 | none,none=>True
 | _,_=>False
noncomputable def KV{κ:Type}:List (κ × V)→List (κ × Value)→Prop:=Paired fun(p:κ × V) (q:κ × Value)=>p.1=q.1∧RelV p.2 q.2
noncomputable def kV:Key→V
 | .inl i=> .int i
 | .inr x=> .str x
inductive HO where
 | lst (xs:List V)
 | tup (xs:List V)
 | dK (kvs:List (Key × V)) | dT (kvs:List (List Key × V))
 | set (S:Int→Bool) (n:Nat)
 | ins (C dx:Addr) (fs:List (Str × V))
 | own (x:Addr)
 | xd (fs:List (Str × V))
 | met (f x:Addr)
 | rng (lo hi:Int)
 | iz (o:Obj) (u:HO)
 | tbl (ps:Array Value)
 | ext (φ:Heap→Prop)
noncomputable abbrev Hp:=Addr→Option HO
noncomputable def upd(H:Hp)(a:Addr)(o:HO):Hp:=fun b=>if b=a then some o else H b
theorem bf{H:Hp}{a:Addr}{o:HO}:upd H a o a=some o:=by unfold upd;rw [if_pos rfl]
theorem br{H:Hp}{a b:Addr}{o:HO}(h:b≠a):upd H a o b=H b:=by unfold upd;rw [if_neg h]
theorem Dw{H:Hp}{a:Addr}{o u:HO}:upd (upd H a o) a u=upd H a u:=by
 funext b;unfold upd;split <;> rfl
theorem cv{H:Hp}{a b:Addr}{o:HO}(h:H a=some o)(h':H b=none):a≠b:=by
 intro e;subst e;rw [h] at h';cases h'
section
variable (P:Program) (w:World)
noncomputable def dZ(H:Hp)(h:Heap)(a:Addr):HO→Prop
 | .lst xs=>xs.length≤sizeLine∧∃(its:List Value) (n:Nat),Vals xs its∧h.get? a=some {cls:= .type "list",data:= .seq its.toArray n}
 | .tup xs=>xs.length≤sizeLine∧∃its:List Value,Vals xs its∧IsTup h a its.toArray
 | .dK kvs=>kvs.length≤sizeLine∧(a==sysModules)=false∧∃vs,KV kvs vs∧h.DictOf (dQ P w) a vs
 | .dT kvs=>kvs.length≤sizeLine∧(a==sysModules)=false∧∃xs:List (List Key × Addr × Value),
    Paired (fun(p:List Key × V) (q:List Key × Addr × Value)=>p.1=q.1∧H q.2.1=some (.tup (p.1.map kV))∧RelV p.2 q.2.2) kvs xs∧
    ∃o es ep,h.get? a=some o∧o.ExactDict∧o.data= .dict es ep∧es.toList=xs.map (entryOfKey (tupleKind (dQ P w)))∧(xs.map (·.1)).Nodup
 | .set S n=>h.SetOf (intKind P w) a S n
 | .ins C dx fs=>H dx=some (.own a)∧fs.length≤1000∧dx≠a∧h.get? a=some (PySem.W.instObj C dx)∧
    ∃mA,h.Ns1 dx mA∧(∀f,nS (fs.lookup f) (mA f))∧PySem.Within mA (fs.map (·.1))
 | .own _=>∃o,h.get? a=some o
 | .xd fs=>∃mA,h.Ns1 a mA∧∀f,nS (fs.lookup f) (mA f)
 | .rng lo hi=>∃t u v,h.get? a=some {cls:= .type "range",data:= .fields #[.int lo t, .int hi u, .int 1 v]}
 | .iz o u=>h.get? a=some o∧dZ H h a u
 | .tbl ps=>h.get? a=some {cls:= .none,data:= .fields ps}
 | .met f x=>h.get? a=some (PySem.W.methodObj (.ref f) (.ref x))
 | .ext φ=>φ h∧(∃o,h.get? a=some o)∧∀h1 h2:Heap,φ h1→(∀o,h1.get? a=some o→h2.get? a=some o)→φ h2
noncomputable def mG(H:Hp)(h:Heap):Prop:=∀a o,H a=some o→dZ P w H h a o
end
section
variable {P:Program} {w:World} {H H':Hp} {h h':Heap} {a:Addr} {o:HO}
theorem dZ.lt(x:dZ P w H h a o):a < h.objs.size:=by
 cases o with
 | lst xs=>obtain⟨_,_,_,_,e⟩:=x;exact Heap.lt_size e
 | tup xs=>obtain⟨_,_,_,p⟩:=x;exact p.lt
 | dK kvs=>obtain⟨_,_,_,_,o,_,_,e,_⟩:=x;exact Heap.lt_size e
 | dT kvs=>obtain⟨_,_,_,_,o,_,_,e,_⟩:=x;exact Heap.lt_size e
 | set S n=>obtain⟨o,_,_,_,e,_⟩:=x;exact Heap.lt_size e
 | ins C dx fs=>obtain⟨_,_,_,e,_⟩:=x;exact Heap.lt_size e
 | own y=>obtain⟨_,e⟩:=x;exact Heap.lt_size e
 | xd fs=>obtain⟨_,⟨_,_,_,e,_⟩,_⟩:=x;exact Heap.lt_size e
 | rng lo hi=>obtain⟨_,_,_,e⟩:=x;exact Heap.lt_size e
 | iz ob u=>obtain⟨e,_⟩:=x;exact Heap.lt_size e
 | tbl ps=>exact Heap.lt_size (show h.get? a=some _ from x)
 | met f y=>exact Heap.lt_size (show h.get? a=some _ from x)
 | ext φ=>obtain⟨_,⟨_,e⟩,_⟩:=x;exact Heap.lt_size e
theorem Paired.Ij{α β:Type}{F G:α→β→Prop}:∀{l₁:List α} {l₂:List β},Paired F l₁ l₂→(∀a b,F a b→G a b)→Paired G l₁ l₂
 | _,_, .nil,_=> .nil
 | _,_, .cons r t,f=> .cons (f _ _ r) (Paired.Ij t f)
theorem dZ.uR(x:dZ P w H h a o)(k:∀b u,(b=a∨H b=some (.own a))→h.get? b=some u→h'.get? b=some u)
 (ho:∀b,H b=some (.own a)→H' b=some (.own a)) (ht:∀b xs,H b=some (.tup xs)→H' b=some (.tup xs)):dZ P w H' h' a o:=by
 induction o with
 | lst xs=>obtain⟨z,its,n,r,e⟩:=x;exact⟨z,its,n,r,k _ _ (.inl rfl) e⟩
 | tup xs=>obtain⟨z,its,r,ob,e,c⟩:=x;exact⟨z,its,r,ob,k _ _ (.inl rfl) e,c⟩
 | dK kvs=>obtain⟨z,y,vs,r,ob,es,ep,e,c⟩:=x;exact⟨z,y,vs,r,ob,es,ep,k _ _ (.inl rfl) e,c⟩
 | dT kvs=>
   obtain⟨z,y,xs,r,ob,es,ep,e,c⟩:=x
   exact⟨z,y,xs,Paired.Ij r fun p q z=>⟨z.1,ht _ _ z.2.1,z.2.2⟩,ob,es,ep,k _ _ (.inl rfl) e,c⟩
 | set S n=>obtain⟨ob,es,ep,t,e,c⟩:=x;exact⟨ob,es,ep,t,k _ _ (.inl rfl) e,c⟩
 | ins C dx fs=>
   obtain⟨d,z,ne,e,mA,⟨od,es,ep,e2,c⟩,r⟩:=x
   exact⟨ho _ d,z,ne,k _ _ (.inl rfl) e,mA,⟨od,es,ep,k _ _ (.inr d) e2,c⟩,r⟩
 | own y=>obtain⟨ob,e⟩:=x;exact⟨ob,k _ _ (.inl rfl) e⟩
 | xd fs=>obtain⟨mA,⟨od,es,ep,e,c⟩,r⟩:=x;exact⟨mA,⟨od,es,ep,k _ _ (.inl rfl) e,c⟩,r⟩
 | rng lo hi=>obtain⟨t,u,v,e⟩:=x;exact⟨t,u,v,k _ _ (.inl rfl) e⟩
 | iz ob u ih=>obtain⟨e,q⟩:=x;exact⟨k _ _ (.inl rfl) e,ih q⟩
 | tbl ps=>
   have e:h.get? a=some {cls:= .none,data:= .fields ps}:=x
   show h'.get? a=some {cls:= .none,data:= .fields ps}
   exact k a _ (.inl rfl) e
 | met f y=>
   have e:h.get? a=some (PySem.W.methodObj (.ref f) (.ref y)):=x
   show h'.get? a=some (PySem.W.methodObj (.ref f) (.ref y))
   exact k a _ (.inl rfl) e
 | ext φ=>obtain⟨p,⟨o,e⟩,st⟩:=x;exact⟨st _ _ p fun o q=>k _ _ (.inl rfl) q,⟨o,k _ _ (.inl rfl) e⟩,st⟩
theorem mG.lt(x:mG P w H h)(e:H a=some o):a < h.objs.size:=(x a o e).lt
theorem mG.fresh(x:mG P w H h)(e:h.objs.size≤a):H a=none:=by
 cases q:H a with
 | none=>rfl
 | some u=>exact absurd (Nat.lt_of_lt_of_le (x.lt q) e) (Nat.lt_irrefl _)
theorem mG.kept(x:mG P w H h)(k:∀b u,h.get? b=some u→h'.get? b=some u):mG P w H h':=fun a o e=>
 (x a o e).uR (fun b u _ q=>k b u q) (fun _ q=>q) fun _ _ q=>q
theorem mG.laid(x:mG P w H h)(k:∀b u,h.get? b=some u→h'.get? b=some u)(hp:h.objs.size≤a)(new:dZ P w (upd H a o) h' a o):mG P w (upd H a o) h':=fun b u e=>by
 have hn:=x.fresh hp
 by_cases hb:b=a
 ·subst hb;rw [bf] at e;cases e;exact new
 ·rw[br hb] at e
  exact(x b u e).uR (fun c v _ q=>k c v q) (fun c q=>by rw[br (cv q hn)];exact q) fun c xs q=>by rw[br (cv q hn)];exact q
end
noncomputable def Rd(H:Hp)(a:Addr)(u:HO):Prop:=H a=some u∨∃o,H a=some (.iz o u)
theorem Rd.ok{P:Program}{w:World}{H:Hp}{h:Heap}{a:Addr}{u:HO}(r:Rd H a u)(x:mG P w H h):dZ P w H h a u:=by
 rcases r with r | ⟨o,r⟩
 ·exact x a u r
 ·obtain⟨_,q⟩:=x a _ r
  exact q
noncomputable def Jd:Option HO→Prop
 | some (.lst _)=>True
 | some (.dK _)=>True
 | some (.dT _)=>True
 | some (.set _ _)=>True
 | some (.ins _ _ _)=>True
 | some (.ext _)=>True
 | _=>False
section
variable {P:Program} {w:World} {H:Hp} {h h':Heap} {x e:Addr} {o':HO}
theorem mG.write(ok:mG P w H h)(mu:Jd (H x))(he:e=x∨H e=some (.own x))(k:∀b u,b≠e→h.get? b=some u→h'.get? b=some u)(heo:∃u,h'.get? e=some u)
 (new:dZ P w (upd H x o') h' x o'):mG P w (upd H x o') h':=fun b u q=>by
 have nown:∀c y,H c=some (.own y)→c≠x:=fun c y r z=>by subst z;rw [r] at mu;exact mu
 have ntup:∀c xs,H c=some (.tup xs)→c≠x:=fun c xs r z=>by subst z;rw [r] at mu;exact mu
 by_cases hb:b=x
 ·subst hb;rw [bf] at q;cases q;exact new
 ·rw[br hb] at q
  by_cases hbe:b=e
  ·have q':H b=some (.own x):=by
    rcases he with z | z
    ·exact absurd (hbe.trans z) hb
    ·rw[hbe];exact z
   rw[q] at q';cases q'
   obtain⟨v,hv⟩:=heo
   exact⟨v,by rw[hbe];exact hv⟩
  ·refine(ok b u q).uR (fun c v hc r=>k c v ?_ r) (fun c r=>by rw[br (nown c b r)];exact r) fun c xs r=>by rw[br (ntup c xs r)];exact r
   rcases hc with rfl | hc
   ·exact hbe
   ·rintro rfl
    rcases he with z | z
    ·exact nown c b hc z
    ·rw[hc] at z;cases z;exact hb rfl
end
structure Un (fs ex:List Addr) (H H':Hp) (h h':Heap):Prop where
 keep:∀b o,h.get? b=some o→H b=none→b ∉ fs→b ∉ ex→h'.get? b=some o
 slot:∀b o,h.get? b=some o→H b=none→b∈fs→b ∉ ex→∃sl,h'.get? b=some {o with slots:=sl}
 free:∀b o,h.get? b=some o→H b=none→b ∉ ex→H' b=none
 there:∀b o,h.get? b=some o→b ∉ ex→∃o',h'.get? b=some o'
 tups:∀b xs,H b=some (.tup xs)→H' b=some (.tup xs)
 frzs:∀b o u,H b=some (.iz o u)→H' b=some (.iz o u)
 tbls:∀b ps,H b=some (.tbl ps)→∃more,H' b=some (.tbl (ps++more))
section
variable {fs fs' ex ex':List Addr} {H H1 H2:Hp} {h h1 h2 h':Heap} {a x e:Addr} {o:HO}
theorem Un.any(u:Un fs ex H H1 h h1){b:Addr}{ob:Obj}(q:h.get? b=some ob)(n:H b=none)(hx:b ∉ ex):∃sl,h1.get? b=some {ob with slots:=sl}:=by
 by_cases hb:b∈fs
 ·exact u.slot b ob q n hb hx
 ·exact⟨ob.slots,u.keep b ob q n hb hx⟩
theorem Un.kept(k:∀b u,h.get? b=some u→h'.get? b=some u):Un fs ex H H h h':=
 ⟨fun b ob q _ _ _=>k b ob q,fun b ob q _ _ _=>⟨ob.slots,k b ob q⟩,fun _ _ _ n _=>n,fun b ob q _=>⟨ob,k b ob q⟩,fun _ _ q=>q,fun _ _ _ q=>q,fun _ ps q=>⟨#[],by rw[q];simp⟩⟩
theorem Un.refl:Un fs ex H H h h:=Un.kept fun _ _ q=>q
theorem Un.laid(k:∀b u,h.get? b=some u→h'.get? b=some u)(hp:h.objs.size≤a)(hn:H a=none):Un fs ex H (upd H a o) h h' where
 keep:=fun b u q _ _ _=>k b u q
 slot:=fun b u q _ _ _=>⟨u.slots,k b u q⟩
 free:=fun b u q n _=>by rw[br (Nat.ne_of_lt (Nat.lt_of_lt_of_le (Heap.lt_size q) hp))];exact n
 there:=fun b u q _=>⟨u,k b u q⟩
 tups:=fun b xs q=>by rw[br (cv q hn)];exact q
 frzs:=fun b u xs q=>by rw[br (cv q hn)];exact q
 tbls:=fun b ps q=>⟨#[],by rw[br (cv q hn),q];simp⟩
theorem Un.write(mu:Jd (H x))(he:e=x∨H e=some (.own x))(k:∀b u,b≠e→h.get? b=some u→h'.get? b=some u)(heo:∃u,h'.get? e=some u):Un fs ex H (upd H x o) h h':=by
 have hx:∀b,H b=none→b≠x:=fun b n z=>by subst z;rw [n] at mu;exact mu
 have hb:∀b,H b=none→b≠e:=fun b n z=>by
  subst z
  rcases he with r | r
  ·exact hx b n r
  ·rw[n] at r;cases r
 have hm:∀b u,H b=some u→¬Jd (some u)→b≠x:=fun b u q nm z=>by subst z;rw [q] at mu;exact nm mu
 refine⟨fun b u q n _ _=>k b u (hb b n) q,fun b u q n _ _=>⟨u.slots,k b u (hb b n) q⟩,fun b u q n _=>by rw[br (hx b n)];exact n,fun b u q _=>?_,
  fun b xs q=>by rw[br (hm b _ q fun z=>z)];exact q,fun b u xs q=>by rw[br (hm b _ q fun z=>z)];exact q,fun b ps q=>⟨#[],by rw[br (hm b _ q fun z=>z),q];simp⟩⟩
 by_cases hbe:b=e
 ·subst hbe;exact heo
 ·exact⟨u,k b u hbe q⟩
end
noncomputable def JX(h:Heap)(H:Hp):List Addr:=(List.range h.objs.size).filter fun a=>(H a).isSome
noncomputable def uE(h:Heap)(H:Hp):Heap:=PySem.W.hideAll h (JX h H)
theorem z7(h:Heap)(H:Hp):(uE h H).objs.size=h.objs.size:=PySem.W.hideAll_size _ _
theorem Dc{h:Heap}{H:Hp}{b:Addr}{o:Obj}(e:h.get? b=some o)(n:H b=none):(uE h H).get? b=some o:=
 PySem.W.hideAll_get _ e fun hm=>by
  have q:(H b).isSome=true:=(List.mem_filter.mp hm).2
  rw[n] at q;simp at q
theorem Ew{h:Heap}{H:Hp}{b:Addr}{o:Obj}(e:(uE h H).get? b=some o):h.get? b=some o∧H b=none:=by
 have e':h.get? b=some o:=PySem.W.of_hideAll (JX h H) e
 refine⟨e',?_⟩
 cases q:H b with
 | none=>rfl
 | some x=>
   have hm:b∈JX h H:=List.mem_filter.mpr ⟨List.mem_range.mpr (Heap.lt_size e'),by simp [q]⟩
   have z:(uE h H).get? b=none:=PySem.W.hideAll_none (JX h H) hm
   rw[z] at e;cases e
noncomputable def D9(g h:Heap)(L:Addr):List (Addr × Obj):=(List.range h.objs.size).filterMap fun a=>if a=L∨(g.get? a).isSome=true then none else(h.get? a).map fun o=>(a,o)
noncomputable def rest(g h:Heap)(L d:Addr):List (Addr × Obj):=(D9 g h L).filter fun p=>decide (p.1≠d)
end L2
namespace L2
open PySem PySem.Spec PyProof.Rows
structure Mod (K:PySem.W.Frag) (mg:Str→Option Value) (base:Heap):Prop where
 kin:K.In base
 glob:base.Ns mainGlobals mg
 blt:∃mb,base.Ns builtinsNs mb∧∀x:Str,x≠"__name__"→mb x=bootBuiltins x
 nolimit:base.NoLimit
structure Cx where
 prog:Program
 w:World
 K:PySem.W.Frag
 mg:Str→Option Value
 base:Heap
 A:Around
 N:List Str
 s₀:Shared
 H₀:Hp
 env:Env
 outer:List Env
 stack:List Env
 ex:List Addr
 fn:Str→Bool
 calm:Bool
 pn:List (Addr × Obj)
 xe:Value→Shared→Prop
noncomputable def AJ(l:List Env):List Addr:=l.filterMap (·.frame)
noncomputable abbrev Cx.fs(X:Cx):List Addr:=AJ X.outer
noncomputable def FU(sc:Scope)(x:Str):Prop:=sc.names.lookup x=some .local∨sc.names.lookup x=some .cell∨sc.names.lookup x=some .free
noncomputable def Loc(sc:Scope)(x:Str):Prop:=sc.names.lookup x=some .local∨sc.names.lookup x=some .cell
noncomputable def Look(env:Env)(h:Heap)(m:Str→Option Value)(x:Str)(u:Value):Prop:=
 (env.kindOf x=some .local∧m x=some u)∨((env.kindOf x=some .cell∨env.kindOf x=some .free)∧∃c,env.cells.lookup x=some c∧h.IsCell c (some u))
structure Cx.Ok (X:Cx):Prop where
 mod:Mod X.K X.mg X.base
 kind:X.env.scope.kind= .function
 glob:X.env.globals=mainGlobals
 blt:X.env.builtins=builtinsNs
 above:X.s₀.heap.objs.size≤X.env.locals
 inj:∀x y c,X.env.cells.lookup x=some c→X.env.cells.lookup y=some c→x=y
 has:∀x,(X.env.kindOf x=some .cell∨X.env.kindOf x=some .free)→∃c,X.env.cells.lookup x=some c
 cab:∀x c,X.fn x=true→X.env.cells.lookup x=some c→X.s₀.heap.objs.size≤c
 hd:X.calm=true→X.A.handled=none
 frames:X.A.frames=some X.stack
 stk:X.stack=X.outer∨(X.stack=X.env ::X.outer∧X.env.frame=some X.env.locals)
 exf:∀b∈X.ex,b≠X.env.locals∧∀x c,X.env.cells.lookup x=some c→c≠b
 bs:∀b o,X.base.get? b=some o→X.s₀.heap.get? b=some o∧X.H₀ b=none
 bsz:X.base.objs.size≤X.s₀.heap.objs.size
 noex:∀b o,X.base.get? b=some o→b ∉ X.ex
 exfs:∀b∈X.ex,b ∉ X.fs
 qa:X.s₀.heap.FunFrames X.base X.outer
 frf:∀b∈X.fs,X.H₀ b=none
structure Inv (X:Cx) (pins:List (Addr × Obj)) (σ:List (Option V)) (H:Hp) (s:Shared):Prop where
 ok:X.Ok
 os:s.os=X.s₀.os
 bare:AllBare s.gens
 base:Un X.fs X.ex X.H₀ H X.s₀.heap s.heap
 loc:∃m,s.heap.Ns X.env.locals m∧∀(i:Nat) (x:Str) (v:V),X.N[i]? =some x→σ[i]? =some (some v)→FU X.env.scope x→∃u,RelV v u∧Look X.env s.heap m x u
 cell:∀x c,X.env.cells.lookup x=some c→∃v,s.heap.IsCell c v
 free:H X.env.locals=none
 freeC:∀x c,X.env.cells.lookup x=some c→H c=none
 pin:∀p∈X.pn++pins,s.heap.get? p.1=some p.2∧H p.1=none∧p.1≠X.env.locals∧p.1 ∉ X.fs∧∀v,p.2.data≠ .cell v
 hok:mG X.prog X.w H s.heap
 len:σ.length=X.N.length
section
variable {X:Cx} {pins:List (Addr × Obj)} {σ:List (Option V)} {H H':Hp} {s:Shared} {h':Heap}
theorem Cx.Ok.K7(ok:X.Ok){b:Addr}{o:Obj}(e:X.base.get? b=some o):b ∉ X.fs:=fun hb=>by
 have:=(ok.qa.mem hb).1
 rw[e] at this;cases this
theorem Inv.bs(I:Inv X pins σ H s):∀b o,X.base.get? b=some o→s.heap.get? b=some o∧H b=none:=fun b o e=>
 ⟨I.base.keep b o (I.ok.bs b o e).1 (I.ok.bs b o e).2 (I.ok.K7 e) (I.ok.noex b o e),I.base.free b o (I.ok.bs b o e).1 (I.ok.bs b o e).2 (I.ok.noex b o e)⟩
theorem Inv.bk(I:Inv X pins σ H s):∀b o,X.base.get? b=some o→s.heap.get? b=some o:=fun b o e=>(I.bs b o e).1
theorem Inv.mod(I:Inv X pins σ H s):Mod X.K X.mg X.base:=I.ok.mod
theorem Inv.oX(I:Inv X pins σ H s):X.K.In s.heap:=I.ok.mod.kin.keeps I.bk
theorem Inv.lt(I:Inv X pins σ H s):X.env.locals < s.heap.objs.size:=let⟨_,hn,_⟩:=I.loc;hn.lt
theorem Inv.sz(I:Inv X pins σ H s):X.s₀.heap.objs.size≤s.heap.objs.size:=Nat.le_trans I.ok.above (Nat.le_of_lt I.lt)
theorem Inv.KN(I:Inv X pins σ H s){a:Addr}(h:s.heap.objs.size≤a):a ∉ X.fs:=fun hb=>by
 obtain⟨_,o,ho,_⟩:=I.ok.qa.mem hb
 exact absurd (Nat.lt_of_lt_of_le (Heap.lt_size ho) (Nat.le_trans I.sz h)) (Nat.lt_irrefl _)
theorem Inv.GI(I:Inv X pins σ H s):∀x c,X.env.cells.lookup x=some c→c≠X.env.locals:=fun x c e z=>by
 obtain⟨v,o,ho,hd⟩:=I.cell x c e
 obtain⟨m,⟨o',es,ep,ho',hd',_⟩,_⟩:=I.loc
 rw[z,ho'] at ho;cases ho;rw [hd'] at hd;cases hd
theorem Inv.qa(I:Inv X pins σ H s):s.heap.FunFrames X.base X.outer:=by
 have all:∀(l:List Env),(∀b∈AJ l,b∈X.fs)→X.s₀.heap.FunFrames X.base l→s.heap.FunFrames X.base l:=by
  intro l
  induction l with
  | nil=>intro _ _;trivial
  | cons env r ih=>
    intro hs hl
    obtain⟨hk,⟨L,o,hf,hn,ho,hd⟩,hr⟩:=hl
    have hL:L∈X.fs:=hs L (by unfold AJ;rw [List.filterMap_cons,hf];exact List.mem_cons_self)
    obtain⟨sl,e⟩:=I.base.slot L o ho (I.ok.frf L hL) hL fun z=>I.ok.exfs L z hL
    exact⟨hk,⟨L,_,hf,hn,e,hd⟩,ih (fun b hb=>hs b (by unfold AJ;rw [List.filterMap_cons,hf];exact List.mem_cons_of_mem _ hb)) hr⟩
 exact all X.outer (fun _ hb=>hb) I.ok.qa
theorem Inv.stack(I:Inv X pins σ H s):s.heap.FunFrames X.base X.stack:=by
 rcases I.ok.stk with e | ⟨e,hf⟩
 ·rw[e];exact I.qa
 ·rw[e]
  obtain⟨m,hn,_⟩:=I.loc
  refine .cons (by rw[I.ok.kind];decide) hf hn ?_ I.qa
  exact Heap.get?_none_of_le (Nat.le_trans I.ok.bsz I.ok.above)
theorem Inv.xq(I:Inv X pins σ H s):∀b∈AJ X.stack,b∈X.env.locals ::X.fs:=fun b hb=>by
 rcases I.ok.stk with e | ⟨e,hf⟩
 ·rw[e] at hb;exact List.mem_cons_of_mem _ hb
 ·rw[e] at hb
  unfold AJ at hb
  rw[List.filterMap_cons,hf] at hb
  exact hb
theorem Inv.zy(I:Inv X pins σ H s):∀b∈AJ X.stack,H b=none:=fun b hb=>by
 rcases List.mem_cons.mp (I.xq b hb) with e | hb
 ·rw[e];exact I.free
 ·obtain⟨_,o,ho,_⟩:=I.ok.qa.mem hb
  exact I.base.free b o ho (I.ok.frf b hb) fun z=>I.ok.exfs b z hb
theorem Inv.step{g':Array GenState}{t':Nat}{d':Drawn}{ch:List Addr}(I:Inv X pins σ H s)
 (hch:∀b∈ch,(b∈X.ex∨X.s₀.heap.objs.size≤b)∧b≠X.env.locals∧(∀x c,X.env.cells.lookup x=some c→c≠b)∧∀p∈X.pn++pins,p.1≠b)
 (keep:∀b o,b≠X.env.locals→b ∉ X.fs→b ∉ ch→s.heap.get? b=some o→H b=none→h'.get? b=some o)
 (slot:∀b o,b≠X.env.locals→b∈X.fs→b ∉ ch→s.heap.get? b=some o→H b=none→∃sl,h'.get? b=some {o with slots:=sl}) (free:∀b o,b ∉ ch→s.heap.get? b=some o→H b=none→H' b=none)
 (there:∀b o,b ∉ ch→s.heap.get? b=some o→∃o',h'.get? b=some o')
 (tups:∀b xs,H b=some (.tup xs)→H' b=some (.tup xs)) (frzs:∀b o u,H b=some (.iz o u)→H' b=some (.iz o u)) (tbls:∀b ps,H b=some (.tbl ps)→∃more,H' b=some (.tbl (ps++more)))
 (ns:∀m,s.heap.Ns X.env.locals m→h'.Ns X.env.locals m) (hok:mG X.prog X.w H' h') (hg:AllBare g') :
 Inv X pins σ H' {s with heap:=h',gens:=g',drawn:=d',toks:=t'}:=by
 have neL:∀b o,X.s₀.heap.get? b=some o→b≠X.env.locals:=fun b o e=>Nat.ne_of_lt (Nat.lt_of_lt_of_le (Heap.lt_size e) I.ok.above)
 have neC:∀b o,X.s₀.heap.get? b=some o→b ∉ X.ex→b ∉ ch:=fun b o e hx hb=>by
  rcases(hch b hb).1 with z | z
  ·exact hx z
  ·exact absurd (Nat.lt_of_lt_of_le (Heap.lt_size e) z) (Nat.lt_irrefl _)
 have cellK:∀x c,X.env.cells.lookup x=some c→∀v,s.heap.IsCell c v→h'.IsCell c v:=fun x c e v ⟨o,ho,hd⟩=>by
  have nch:c ∉ ch:=fun z=>(hch c z).2.2.1 x c e rfl
  by_cases hc:c∈X.fs
  ·obtain⟨sl,q⟩:=slot c o (I.GI x c e) hc nch ho (I.freeC x c e)
   exact⟨_,q,hd⟩
  ·exact⟨o,keep c o (I.GI x c e) hc nch ho (I.freeC x c e),hd⟩
 refine⟨I.ok,I.os,hg,⟨fun b o e n hb hx=>?_,fun b o e n hb hx=>?_,fun b o e n hx=>?_,fun b o e hx=>?_,fun b xs e=>tups b xs (I.base.tups b xs e),fun b o xs e=>frzs b o xs (I.base.frzs b o xs e),fun b ps e=>?_⟩,?_,fun x c e=>?_,?_,fun x c e=>?_,fun p hp=>?_,hok,I.len⟩
 ·exact keep b o (neL b o e) hb (neC b o e hx) (I.base.keep b o e n hb hx) (I.base.free b o e n hx)
 ·obtain⟨sl,e1⟩:=I.base.slot b o e n hb hx
  obtain⟨sl',e2⟩:=slot b _ (neL b o e) hb (neC b o e hx) e1 (I.base.free b o e n hx)
  exact⟨sl',e2⟩
 ·obtain⟨o',e1⟩:=I.base.there b o e hx
  exact free b o' (neC b o e hx) e1 (I.base.free b o e n hx)
 ·obtain⟨o',e1⟩:=I.base.there b o e hx
  exact there b o' (neC b o e hx) e1
 ·obtain⟨m1,e1⟩:=I.base.tbls b ps e
  obtain⟨m2,e2⟩:=tbls b _ e1
  exact⟨m1++m2,by rw[e2,Array.append_assoc]⟩
 ·obtain⟨m,hn,hl⟩:=I.loc
  refine⟨m,ns m hn,fun i x v e1 e2 e3=>?_⟩
  obtain⟨u,r,l⟩:=hl i x v e1 e2 e3
  refine⟨u,r,?_⟩
  rcases l with l | ⟨k,c,e,z⟩
  ·exact .inl l
  ·exact .inr ⟨k,c,e,cellK x c e _ z⟩
 ·obtain⟨v,z⟩:=I.cell x c e
  exact⟨v,cellK x c e v z⟩
 ·obtain⟨m,⟨o,_,_,ho,_⟩,_⟩:=I.loc
  exact free _ o (fun z=>(hch _ z).2.1 rfl) ho I.free
 ·obtain⟨v,o,ho,hd⟩:=I.cell x c e
  exact free c o (fun z=>(hch c z).2.2.1 x c e rfl) ho (I.freeC x c e)
 ·obtain⟨e,n,ne,nf,d⟩:=I.pin p hp
  have nch:p.1 ∉ ch:=fun z=>(hch p.1 z).2.2.2 p hp rfl
  exact⟨keep p.1 p.2 ne nf nch e n,free p.1 p.2 nch e n,ne,nf,d⟩
theorem Inv.un{t':Nat}(I:Inv X pins σ H s)(u:Un X.fs [] H H' s.heap h')(hok:mG X.prog X.w H' h'):Inv X pins σ H' {s with heap:=h',toks:=t'}:=by
 obtain⟨m,⟨o,es,ep,ho,r⟩,_⟩:=id I.loc
 obtain⟨sl,hL⟩:=u.any ho I.free (by simp)
 exact I.step (g':=s.gens) (d':=s.drawn) (ch:=[]) (fun _ z=>nomatch z) (fun b o _ hb _ e n=>u.keep b o e n hb (by simp)) (fun b o _ hb _ e n=>u.slot b o e n hb (by simp)) (fun b o _ e n=>u.free b o e n (by simp)) (fun b o _ e=>u.there b o e (by simp)) u.tups u.frzs u.tbls (fun m' hm=>by
  obtain⟨o',es',ep',ho',r'⟩:=hm
  rw[ho] at ho';cases ho'
  exact⟨_,es',ep',hL,r'⟩) hok I.bare
theorem Inv.call{g':Array GenState}{t':Nat}{d':Drawn}{ch:List Addr}(I:Inv X pins σ H s)(u:Un (AJ X.stack) ch H H' s.heap h')(hok:mG X.prog X.w H' h')(hg:AllBare g')
 (hch:∀b∈ch,(b∈X.ex∨X.s₀.heap.objs.size≤b)∧b≠X.env.locals∧(∀x c,X.env.cells.lookup x=some c→c≠b)∧∀p∈X.pn++pins,p.1≠b) :
 Inv X pins σ H' {s with heap:=h',gens:=g',drawn:=d',toks:=t'}:=by
 obtain⟨m,⟨o,es,ep,ho,r⟩,_⟩:=id I.loc
 obtain⟨sl,hL⟩:=u.any ho I.free fun z=>(hch _ z).2.1 rfl
 exact I.step (ch:=ch) hch (fun b o hL hb hc e n=>u.keep b o e n (fun z=>(List.mem_cons.mp (I.xq b z)).elim hL hb) hc) (fun b o _ _ hc e n=>u.any e n hc) (fun b o hc e n=>u.free b o e n hc) (fun b o hc e=>u.there b o e hc) u.tups u.frzs u.tbls (fun m' hm=>by
  obtain⟨o',es',ep',ho',r'⟩:=hm
  rw[ho] at ho';cases ho'
  exact⟨_,es',ep',hL,r'⟩) hok hg
theorem Inv.turned{t':Nat}{it:Addr}(I:Inv X pins σ H s)(k:∀b o,b≠it→s.heap.get? b=some o→h'.get? b=some o)(hn:H it=none)(hL:it≠X.env.locals)
 (h1:it∈X.ex∨X.s₀.heap.objs.size≤it) (h2:∀x c,X.env.cells.lookup x=some c→c≠it) (h3:∀p∈X.pn++pins,p.1≠it):Inv X pins σ H {s with heap:=h',toks:=t'}:=by
 have nit:∀b u,H b=some u→b≠it:=fun b u e z=>by rw[z,hn] at e;cases e
 refine I.step (g':=s.gens) (d':=s.drawn) (ch:=[it]) (fun b hb=>?_) (fun b o _ _ hc e _=>k b o (fun z=>hc (by simp [z])) e) (fun b o _ _ hc e _=>⟨o.slots,k b o (fun z=>hc (by simp [z])) e⟩) (fun _ _ _ _ n=>n)
  (fun b o hc e=>⟨o,k b o (fun z=>hc (by simp [z])) e⟩) (fun _ _ e=>e) (fun _ _ _ e=>e) (fun b ps e=>⟨#[],by rw[e];simp⟩) (fun m hm=>?_) (fun b u e=>?_) I.bare
 ·have e:b=it:=by simpa using hb
  subst e
  exact⟨h1,hL,h2,h3⟩
 ·obtain⟨o,es,ep,ho,r⟩:=hm
  exact⟨o,es,ep,k _ o (Ne.symm hL) ho,r⟩
 ·refine(I.hok b u e).uR (fun c v hc q=>k c v ?_ q) (fun _ q=>q) fun _ _ q=>q
  rcases hc with z | z
  ·rw[z];exact nit b u e
  ·exact nit c _ z
theorem Inv.tok(I:Inv X pins σ H s)(t:Nat):Inv X pins σ H {s with toks:=t}:=I.un (h':=s.heap) (t':=t) Un.refl I.hok
theorem Inv.kept{t':Nat}(I:Inv X pins σ H s)(k:∀b u,s.heap.get? b=some u→h'.get? b=some u):Inv X pins σ H {s with heap:=h',toks:=t'}:=I.un (Un.kept k) (I.hok.kept k)
theorem Inv.laid{a:Addr}{o:HO}{t':Nat}(I:Inv X pins σ H s)(k:∀b u,s.heap.get? b=some u→h'.get? b=some u)(hp:s.heap.objs.size≤a)(new:dZ X.prog X.w (upd H a o) h' a o) :
 Inv X pins σ (upd H a o) {s with heap:=h',toks:=t'}:=I.un (Un.laid k hp (I.hok.fresh hp)) (I.hok.laid k hp new)
theorem Inv.write{x e:Addr}{o:HO}{t':Nat}(I:Inv X pins σ H s)(mu:Jd (H x))(he:e=x∨H e=some (.own x))(k:∀b u,b≠e→s.heap.get? b=some u→h'.get? b=some u)(heo:∃u,h'.get? e=some u)
 (new:dZ X.prog X.w (upd H x o) h' x o):Inv X pins σ (upd H x o) {s with heap:=h',toks:=t'}:=I.un (Un.write mu he k heo) (I.hok.write mu he k heo new)
theorem Inv.yS{pins':List (Addr × Obj)}(I:Inv X pins σ H s)(h:∀p∈pins',s.heap.get? p.1=some p.2∧H p.1=none∧p.1≠X.env.locals∧p.1 ∉ X.fs∧∀v,p.2.data≠ .cell v):Inv X pins' σ H s:=
 ⟨I.ok,I.os,I.bare,I.base,I.loc,I.cell,I.free,I.freeC,fun p hp=>(List.mem_append.mp hp).elim (fun z=>I.pin p (List.mem_append_left _ z)) (h p),I.hok,I.len⟩
theorem wR{N:List Str}(hN:N.Nodup){i j:Nat}{x:Str}(a:N[i]? =some x)(b:N[j]? =some x):i=j:=by
 obtain⟨h1,e1⟩:=List.getElem?_eq_some_iff.mp a
 obtain⟨h2,e2⟩:=List.getElem?_eq_some_iff.mp b
 exact(List.getElem_inj hN).mp (e1.trans e2.symm)
theorem tw{M:Model}{A:Around}{E:Value→Shared→Prop}{i:Nat}{x:Str}{v:V}{u:Value}{Q:Unit→Shared→Prop}(I:Inv X pins σ H s)(hN:X.N.Nodup)(hi:X.N[i]? =some x)(hx:Loc X.env.scope x)(r:RelV v u)
 (h:∀s',Inv X pins (σ.set i (some v)) H s'→(∃a,Heap.SameBut a s.heap s'.heap∧(a=X.env.locals∨X.env.cells.lookup x=some a))→Q () s') (hf:X.fn x=true∨X.env.scope.names.lookup x=some .local:=by first | exact .inl rfl | exact .inr rfl | assumption):wpAny M A (storeName X.env x u) Q E s:=by
 obtain⟨m,hn,hl⟩:=id I.loc
 have hcls:(X.env.scope.kind== .class || (X.env.scope.kind== .module && X.env.locals !=X.env.globals))=false:=by rw[I.ok.kind];rfl
 have hiσ:i < σ.length:=by rw[I.len];exact(List.getElem?_eq_some_iff.mp hi).1
 have GI:=I.GI
 have tracked:∀{a:Addr} {h':Heap},(∃o,s.heap.get? a=some o∧H a=none)→Heap.SameBut a s.heap h'→mG X.prog X.w H h':=fun {a h'} ha hs b ob e=>by
  obtain⟨_,_,hfree⟩:=ha
  refine(I.hok b ob e).uR (fun c w' hc q=>(hs.2 c ?_).trans q) (fun _ q=>q) fun _ _ q=>q
  rintro rfl
  rcases hc with rfl | hc
  ·rw[hfree] at e;cases e
  ·rw[hfree] at hc;cases hc
 rcases hx with hk | hk
 ·refine wpAny_storeName_local hk hn (fun h' hn' hs=>?_) hcls
  obtain⟨oL,_,_,hoL,_⟩:=id hn
  refine h _ ⟨I.ok,I.os,I.bare,⟨fun b o e n hb hx=>?_,fun b o e n hb hx=>?_,I.base.free,fun b o e hx=>?_,I.base.tups,I.base.frzs,I.base.tbls⟩,⟨_,hn',fun j y v' e1 e2 e3=>?_⟩,fun y c e=>?_,I.free,I.freeC,fun p hp=>?_,tracked ⟨oL,hoL,I.free⟩ hs,by simpa using I.len⟩ ⟨_,hs, .inl rfl⟩
  ·exact(hs.2 b (Nat.ne_of_lt (Nat.lt_of_lt_of_le (Heap.lt_size e) I.ok.above))).trans (I.base.keep b o e n hb hx)
  ·obtain⟨sl,e1⟩:=I.base.slot b o e n hb hx
   exact⟨sl,(hs.2 b (Nat.ne_of_lt (Nat.lt_of_lt_of_le (Heap.lt_size e) I.ok.above))).trans e1⟩
  ·obtain⟨o',e1⟩:=I.base.there b o e hx
   exact⟨o',(hs.2 b (Nat.ne_of_lt (Nat.lt_of_lt_of_le (Heap.lt_size e) I.ok.above))).trans e1⟩
  ·by_cases hj:j=i
   ·subst hj
    rw[hi] at e1;cases e1
    rw[List.getElem?_set_self hiσ] at e2
    cases e2
    exact⟨u,r, .inl ⟨hk,by simp⟩⟩
   ·rw[List.getElem?_set_ne (Ne.symm hj)] at e2
    obtain⟨u',r',q⟩:=hl j y v' e1 e2 e3
    refine⟨u',r',?_⟩
    rcases q with⟨k,e⟩ | ⟨k,c,e,z⟩
    ·refine .inl ⟨k,?_⟩
     have:y≠x:=fun e=>hj (wR hN e1 (e▸hi))
     simp [this,e]
    ·exact .inr ⟨k,c,e,z.sameBut hs (GI y c e)⟩
  ·obtain⟨w',z⟩:=I.cell y c e
   exact⟨w',z.sameBut hs (GI y c e)⟩
  ·obtain⟨e,n,ne,nf,d⟩:=I.pin p hp
   exact⟨(hs.2 p.1 ne).trans e,n,ne,nf,d⟩
 ·have hfn:X.fn x=true:=by
   rcases hf with z | z
   ·exact z
   ·rw[z] at hk;cases hk
  obtain⟨c,hc⟩:=I.ok.has x (.inl hk)
  obtain⟨w',z⟩:=I.cell x c hc
  refine wpAny_storeName_cell I.ok.kind hk hc z (fun h' hc' hs=>?_)
  obtain⟨oc,hoc,hocd⟩:=id z
  refine h {s with heap:=h'} ⟨I.ok,I.os,I.bare,⟨fun b o e n hb hx=>?_,fun b o e n hb hx=>?_,I.base.free,fun b o e hx=>?_,I.base.tups,I.base.frzs,I.base.tbls⟩,⟨m,hn.sameBut hs (Ne.symm (GI x c hc)),fun j y v' e1 e2 e3=>?_⟩,fun y c' e=>?_,I.free,I.freeC,fun p hp=>?_,tracked ⟨oc,hoc,I.freeC x c hc⟩ hs,by simpa using I.len⟩ ⟨c,hs, .inr hc⟩
  ·exact(hs.2 b (Nat.ne_of_lt (Nat.lt_of_lt_of_le (Heap.lt_size e) (I.ok.cab x c hfn hc)))).trans (I.base.keep b o e n hb hx)
  ·obtain⟨sl,e1⟩:=I.base.slot b o e n hb hx
   exact⟨sl,(hs.2 b (Nat.ne_of_lt (Nat.lt_of_lt_of_le (Heap.lt_size e) (I.ok.cab x c hfn hc)))).trans e1⟩
  ·obtain⟨o',e1⟩:=I.base.there b o e hx
   exact⟨o',(hs.2 b (Nat.ne_of_lt (Nat.lt_of_lt_of_le (Heap.lt_size e) (I.ok.cab x c hfn hc)))).trans e1⟩
  ·by_cases hj:j=i
   ·subst hj
    rw[hi] at e1;cases e1
    rw[List.getElem?_set_self hiσ] at e2
    cases e2
    exact⟨u,r, .inr ⟨.inl hk,c,hc,hc'⟩⟩
   ·rw[List.getElem?_set_ne (Ne.symm hj)] at e2
    obtain⟨u',r',q⟩:=hl j y v' e1 e2 e3
    refine⟨u',r',?_⟩
    rcases q with q | ⟨k,c',e,z'⟩
    ·exact .inl q
    ·refine .inr ⟨k,c',e,z'.sameBut hs ?_⟩
     rintro rfl
     exact hj (wR hN e1 (I.ok.inj _ _ _ e hc▸hi))
  ·by_cases hcc:c'=c
   ·subst hcc;exact⟨_,hc'⟩
   ·obtain⟨w2,z2⟩:=I.cell y c' e
    exact⟨w2,z2.sameBut hs hcc⟩
  ·obtain⟨e,n,ne,nf,d⟩:=I.pin p hp
   refine⟨(hs.2 p.1 ?_).trans e,n,ne,nf,d⟩
   intro q
   rw[q,hoc] at e
   have q':oc=p.2:=Option.some.inj e
   exact d w' (by rw[←q'];exact hocd)
theorem vB{M:Model}{A:Around}{E:Value→Shared→Prop}{i:Nat}{x:Str}{v:V}{u:Value}{Q:Unit→Shared→Prop}(I:Inv X pins σ H s)(hN:X.N.Nodup)(hi:X.N[i]? =some x)(hx:Loc X.env.scope x)(r:RelV v u)
 (h:∀s',Inv X pins (σ.set i (some v)) H s'→Q () s') (hf:X.fn x=true∨X.env.scope.names.lookup x=some .local:=by first | exact .inl rfl | exact .inr rfl | assumption):wpAny M A (storeName X.env x u) Q E s:=
 tw I hN hi hx r (fun s' I' _=>h s' I') hf
theorem Inv.IF{s':Shared}{ch:List Addr}(I:Inv X pins σ H s)(ho:s'.os=s.os)(u:Un (AJ X.stack) ch H H' s.heap s'.heap)(hok:mG X.prog X.w H' s'.heap)(hg:AllBare s'.gens)
 (hch:∀b∈ch,(b∈X.ex∨X.s₀.heap.objs.size≤b)∧b≠X.env.locals∧(∀x c,X.env.cells.lookup x=some c→c≠b)∧∀p∈X.pn++pins,p.1≠b):Inv X pins σ H' s':=by
 obtain⟨h',g',d',t',o'⟩:=s'
 have e:o'=s.os:=ho
 subst e
 exact I.call (g':=g') (t':=t') (d':=d') u hok hg hch
end
noncomputable abbrev XK:=Value→Option Addr→Hp→Prop
noncomputable abbrev St:=List (Option V)
noncomputable abbrev VK:=V→Hp→Prop
noncomputable abbrev TE:=St→Hp→VK→Prop
noncomputable abbrev TT:=St→Hp→(Bool→Hp→Prop)→Prop
noncomputable abbrev TA:=St→Hp→(List V→Hp→Prop)→Prop
structure Ends where
 nx:St→Hp→Prop
 rt:VK
 bk:St→Hp→Prop:=fun _ _=>False
 ct:St→Hp→Prop:=fun _ _=>False
noncomputable abbrev TS:=Ends→St→Hp→Prop
noncomputable def EP(X:Cx)(pins:List (Addr × Obj))(σ:St)(Q:VK)(u:Value)(s':Shared):Prop:=∃v H',Inv X pins σ H' s'∧RelV v u∧Q v H'
noncomputable def TP(X:Cx)(pins:List (Addr × Obj))(σ:St)(Q:Bool→Hp→Prop)(b:Bool)(s':Shared):Prop:=∃H',Inv X pins σ H' s'∧Q b H'
noncomputable def AP(X:Cx)(pins:List (Addr × Obj))(σ:St)(Q:List V→Hp→Prop)(us:List Value)(s':Shared):Prop:=∃vs H',Inv X pins σ H' s'∧Vals vs us∧Q vs H'
noncomputable def SP(X:Cx)(pins:List (Addr × Obj))(D:Ends)(f:Flow)(s':Shared):Prop:=
 match f with
 | .next=>∃σ' H',Inv X pins σ' H' s'∧D.nx σ' H'
 | .brk=>∃σ' H',Inv X pins σ' H' s'∧D.bk σ' H'
 | .cont=>∃σ' H',Inv X pins σ' H' s'∧D.ct σ' H'
 | .ret u=>∃v σ' H',Inv X pins σ' H' s'∧RelV v u∧D.rt v H'
noncomputable def PE(X:Cx)(e:Expr)(t:TE):Prop:=
 ∀(pins:List (Addr × Obj)) (s:Shared) (σ:St) (H:Hp) (Q:VK),Inv X pins σ H s→t σ H Q→wpAny (model X.prog X.w) X.A (eval e X.env) (EP X pins σ Q) X.xe s
noncomputable def PT(X:Cx)(e:Expr)(t:TT):Prop:=
 ∀(pins:List (Addr × Obj)) (s:Shared) (σ:St) (H:Hp) (Q:Bool→Hp→Prop),Inv X pins σ H s→t σ H Q→wpAny (model X.prog X.w) X.A (isTrue e X.env (eval e X.env)) (TP X pins σ Q) X.xe s
noncomputable def PW(X:Cx)(e:Expr)(t:TT):Prop:=
 ∀(whole:Sem Value) (pins:List (Addr × Obj)) (s:Shared) (σ:St) (H:Hp) (Q:Bool→Hp→Prop),Inv X pins σ H s→t σ H Q→wpAny (model X.prog X.w) X.A (isTrue e X.env whole) (TP X pins σ Q) X.xe s
theorem PW.pt{X:Cx}{e:Expr}{t:TT}(h:PW X e t):PT X e t:=h _
noncomputable def PA(X:Cx)(es:List Expr)(t:TA):Prop:=
 ∀(pos:Pos) (pins:List (Addr × Obj)) (s:Shared) (σ:St) (H:Hp) (Q:List V→Hp→Prop),Inv X pins σ H s→t σ H Q→wpAny (model X.prog X.w) X.A (spliced (backTo pos (starEach es X.env))) (AP X pins σ Q) X.xe s
noncomputable def PS(X:Cx)(st:Stmt)(t:TS):Prop:=
 ∀(pins:List (Addr × Obj)) (s:Shared) (σ:St) (H:Hp) (D:Ends),Inv X pins σ H s→t D σ H→wpAny (model X.prog X.w) X.A (exec st X.env) (SP X pins D) X.xe s
noncomputable def uZ(X:Cx)(st:List Stmt)(t:TS):Prop:=
 ∀(pins:List (Addr × Obj)) (s:Shared) (σ:St) (H:Hp) (D:Ends),Inv X pins σ H s→t D σ H→wpAny (model X.prog X.w) X.A (execs st X.env) (SP X pins D) X.xe s
theorem dY{α:Type}{t:Sem α}{Q Q':α→Shared→Prop}{M:Model}{A:Around}{E:Value→Shared→Prop}{s:Shared}(h:wpAny M A t Q E s)(hQ:∀a s,Q a s→Q' a s):wpAny M A t Q' E s:=wpAny_mono h hQ fun _ _ x=>x
end L2
namespace L2
open PySem PySem.Spec PyProof.Rows
section
variable {X:Cx}
noncomputable def KZ(i:Nat):TE:=fun σ H Q=>∃v,σ[i]? =some (some v)∧Q v H
noncomputable def tC(v:V):TE:=fun _ H Q=>Q v H
theorem uf{i:Nat}{x:Str}{pos:Pos}(hN:X.N[i]? =some x)(hv:FU X.env.scope x)(hd:(x==("__debug__":Str))=false:=by decide)(hcd:(x==("__classdict__":Str))=false:=by decide):PE X (.Name x pos) (KZ i):=by
 intro pins s σ H Q I h
 obtain⟨v,e,h⟩:=h
 obtain⟨m,hn,hl⟩:=I.loc
 obtain⟨u,r,l⟩:=hl i x v hN e hv
 have fin:EP X pins σ Q u s:=⟨v,H,I,r,h⟩
 rcases l with⟨hk,hm⟩ | ⟨hk,c,hc,hcell⟩
 ·exact wpAny_Name (wpAny_loadName_local I.ok.kind hk hn hm fin) hd
 ·rcases hk with hk | hk
  ·exact wpAny_Name (wpAny_loadName_cell I.ok.kind hk hc hcell fin) hd
  ·exact wpAny_Name (wpAny_loadName_free I.ok.kind hk hc hcell fin hcd) hd
theorem qI{i j pos}:PE X (.Constant (.int i) j pos) (tC (.int i)):=fun _ _ _ H _ I h=>wpAny_Constant_int ⟨.int i,H,I.tok _,⟨_,rfl⟩,h⟩
theorem IX{b j pos}:PE X (.Constant (.bool b) j pos) (tC (.bl b)):=fun _ _ _ H _ I h=>Constant_bool ⟨.bl b,H,I,rfl,h⟩
theorem GO{j pos}:PE X (.Constant .none j pos) (tC .cI):=fun _ _ _ H _ I h=>Constant_none ⟨.cI,H,I,rfl,h⟩
theorem rS{x j pos}:PE X (.Constant (.str x) j pos) (tC (.str x)):=fun _ _ _ H _ I h=>Calls.Constant_str ⟨.str x,H,I.tok _,⟨_,rfl⟩,h⟩
noncomputable def Gl(X:Cx)(x:Str):Prop:=X.env.kindOf x=some .globalImplicit
theorem zl{E:Value→Shared→Prop}{pins:List (Addr × Obj)}{s:Shared}{σ:St}{H:Hp}{x:Str}{u:Value}{pos:Pos}{Q:Value→Shared→Prop}(I:Inv X pins σ H s)(hg:Gl X x)(hm:X.mg x=some u)(h:Q u s)
 (hd:(x==("__debug__":Str))=false:=by decide):wpAny (model X.prog X.w) X.A (eval (.Name x pos) X.env) Q E s:=
 Calls.Name_function_global I.ok.kind hg (Calls.loadGlobal_global (by rw[I.ok.glob];exact I.mod.glob.keeps I.bk) hm h) hd
theorem jN{E:Value→Shared→Prop}{pins:List (Addr × Obj)}{s:Shared}{σ:St}{H:Hp}{x:Str}{u:Value}{pos:Pos}{Q:Value→Shared→Prop}(I:Inv X pins σ H s)(hg:Gl X x)(hm:X.mg x=none)(hv:bootBuiltins x=some u)(h:Q u s)
 (hn:x≠"__name__":=by decide) (hd:(x==("__debug__":Str))=false:=by decide):wpAny (model X.prog X.w) X.A (eval (.Name x pos) X.env) Q E s:=by
 obtain⟨mb,h1,h2⟩:=I.mod.blt
 exact Calls.Name_function_global I.ok.kind hg (Calls.loadGlobal_builtin (by rw[I.ok.glob];exact I.mod.glob.keeps I.bk) hm (by rw[I.ok.blt];exact h1.keeps I.bk) ((h2 x hn).trans hv) h) hd
theorem Ed{x:Str}{v:V}{u:Value}{pos:Pos}(hg:Gl X x)(hm:X.mg x=none)(hv:bootBuiltins x=some u)(r:RelV v u)(hn:x≠"__name__":=by decide)(hd:(x==("__debug__":Str))=false:=by decide):PE X (.Name x pos) (tC v):=
 fun _ _ _ H _ I h=>jN I hg hm hv ⟨v,H,I,r,h⟩ hn hd
noncomputable def J6(ta tb:TE)(k:Int→Int→Hp→Prop):St→Hp→Prop:=fun σ H=>ta σ H fun x H1=>tb σ H1 fun y H2=>∃i j,x= .int i∧y= .int j∧k i j H2
noncomputable def Me(ta tb:TE):TE:=fun σ H Q=>J6 ta tb (fun i j H2=>Q (.int (i+j)) H2) σ H
noncomputable def MO(ta tb:TE):TE:=fun σ H Q=>J6 ta tb (fun i j H2=>Q (.int (i - j)) H2) σ H
noncomputable def MA(ta tb:TE):TE:=fun σ H Q=>J6 ta tb (fun i j H2=>(-(2 ^ 64) < i∧i < 2 ^ 64)∧Q (.int (i*j)) H2) σ H
variable {a b:Expr} {ta tb:TE} {pos:Pos}
noncomputable def PC(X:Cx)(op:CmpOp)(a b:Expr)(t:TE):Prop:=
 ∀(pins:List (Addr × Obj)) (s:Shared) (σ:St) (H:Hp) (Q:VK),Inv X pins σ H s→t σ H Q→
  wpAny (model X.prog X.w) X.A (eval a X.env) (fun v s₁=>wpAny (model X.prog X.w) X.A (eval b X.env) (fun u s₂=>wpAny (model X.prog X.w) X.A (compareOp op v u) (EP X pins σ Q) X.xe s₂) X.xe s₁) X.xe s
noncomputable def Ah(p:Int→Int→Bool)(ta tb:TE):TE:=fun σ H Q=>J6 ta tb (fun i j H2=>Q (.bl (p i j)) H2) σ H
noncomputable abbrev MV:TE→TE→TE:=Ah fun i j=>decide (i < j)
noncomputable abbrev M4:TE→TE→TE:=Ah fun i j=>decide (i≤j)
noncomputable abbrev M9:TE→TE→TE:=Ah fun i j=>decide (j < i)
noncomputable abbrev M5:TE→TE→TE:=Ah fun i j=>decide (j≤i)
noncomputable abbrev Ms:TE→TE→TE:=Ah fun i j=>decide (i=j)
noncomputable abbrev MH:TE→TE→TE:=Ah fun i j=>!decide (i=j)
noncomputable def Mm(ta:TE):TE:=fun σ H Q=>ta σ H fun x H1=>Q (.bl (decide (x= .cI))) H1
noncomputable def Ll(ta:TE):TE:=fun σ H Q=>ta σ H fun x H1=>Q (.bl (!decide (x= .cI))) H1
noncomputable def tB(t:TE):TT:=fun σ H Q=>t σ H fun x H1=>∃c,x= .bl c∧Q c H1
variable {tA tB':TT} {rest:List Expr}
noncomputable def Ka(t u:TT):TT:=fun σ H Q=>t σ H fun c H1=>if c=true then u σ H1 Q else Q false H1
noncomputable def LU(t u:TT):TT:=fun σ H Q=>t σ H fun c H1=>if c=true then Q true H1 else u σ H1 Q
noncomputable def J9(t:TT):TT:=fun σ H Q=>t σ H fun c H1=>Q (!c) H1
theorem yU(ha:PT X a tA):PW X (.BoolOp .And [a] pos) tA:=by
 intro wh pins s σ H Q I h
 refine isTrue_and (dY (ha pins s σ H Q I h) fun c s1 e=>?_)
 cases c with
 | true=>exact isTrue_and_nil e
 | false=>exact e
theorem Hs(ha:PT X a tA):PW X (.BoolOp .Or [a] pos) tA:=by
 intro wh pins s σ H Q I h
 refine isTrue_or (dY (ha pins s σ H Q I h) fun c s1 e=>?_)
 cases c with
 | false=>exact isTrue_or_nil e
 | true=>exact e
theorem Df(ha:PT X a tA)(hb:PW X (.BoolOp .And (b ::rest) pos) tB'):PW X (.BoolOp .And (a ::b ::rest) pos) (Ka tA tB'):=by
 intro wh pins s σ H Q I h
 refine isTrue_and (dY (ha pins s σ H _ I h) fun c s1 ⟨H1,I1,q1⟩=>?_)
 cases c with
 | true=>exact hb wh pins s1 σ H1 Q I1 q1
 | false=>exact⟨H1,I1,q1⟩
theorem JI(ha:PT X a tA)(hb:PW X (.BoolOp .Or (b ::rest) pos) tB'):PW X (.BoolOp .Or (a ::b ::rest) pos) (LU tA tB'):=by
 intro wh pins s σ H Q I h
 refine isTrue_or (dY (ha pins s σ H _ I h) fun c s1 ⟨H1,I1,q1⟩=>?_)
 cases c with
 | true=>exact⟨H1,I1,q1⟩
 | false=>exact hb wh pins s1 σ H1 Q I1 q1
theorem Bq(ha:PT X a tA):PT X (.UnaryOp .Not a pos) (J9 tA):=by
 intro pins s σ H Q I h
 exact isTrue_not (ha pins s σ H (fun c H1=>Q (!c) H1) I h)
noncomputable def JF(ta tb:TE):TE:=fun σ H Q=>ta σ H fun x H1=>∃c,x= .bl c∧if c=true then tb σ H1 Q else Q (.bl false) H1
noncomputable def Mw(ta tb:TE):TE:=fun σ H Q=>ta σ H fun x H1=>∃c,x= .bl c∧if c=true then Q (.bl true) H1 else tb σ H1 Q
noncomputable def Iq(ta:TE):TE:=fun σ H Q=>ta σ H fun x H1=>∃c,x= .bl c∧Q (.bl (!c)) H1
theorem Hr{op}{t:TE}(h:PE X a t):PE X (.BoolOp op [a] pos) t:=fun pins s σ H Q I hw=>BoolOp_one (h pins s σ H Q I hw)
theorem Gj(ha:PE X a ta)(hb:PE X (.BoolOp .And (b ::rest) pos) tb):PE X (.BoolOp .And (a ::b ::rest) pos) (JF ta tb):=by
 intro pins s σ H Q I h
 refine BoolOp_and (dY (ha pins s σ H _ I h) fun v s1 ⟨x,H1,I1,r1,q1⟩=>?_)
 obtain⟨c,rfl,q1⟩:=q1
 cases r1
 refine wpAny_truthy_bool ?_
 cases c with
 | true=>exact hb pins s1 σ H1 Q I1 q1
 | false=>exact⟨.bl false,H1,I1,rfl,q1⟩
theorem Hm(ha:PE X a ta):PE X (.UnaryOp .Not a pos) (Iq ta):=by
 intro pins s σ H Q I h
 refine UnaryOp_ (dY (ha pins s σ H _ I h) fun v s1 ⟨x,H1,I1,r1,q1⟩=>?_)
 obtain⟨c,rfl,q1⟩:=q1
 cases r1
 exact not_of (wpAny_truthy_bool ⟨.bl (!c),H1,I1,rfl,q1⟩)
noncomputable def LW(t:TT)(ta tb:TE):TE:=fun σ H Q=>t σ H fun c H1=>if c=true then ta σ H1 Q else tb σ H1 Q
theorem AK{c:Expr}(hc:PT X c tA)(ha:PE X a ta)(hb:PE X b tb):PE X (.IfExp c a b pos) (LW tA ta tb):=by
 intro pins s σ H Q I h
 refine wpAny_IfExp (dY (hc pins s σ H _ I h) fun d s1 ⟨H1,I1,q1⟩=>?_)
 cases d with
 | true=>exact ha pins s1 σ H1 Q I1 q1
 | false=>exact hb pins s1 σ H1 Q I1 q1
end
end L2
namespace L2
open PySem PySem.Spec PyProof.Rows
noncomputable def ny(K:PySem.W.Frag)(H:Hp)(a:Addr)(xs:List V):Prop:=
 Rd H a (.lst xs)∨
  ∃(o:Obj) (its:Array Value) (n:Nat),K.lookup a=some o∧o.cls= .type "list"∧o.dict=none∧o.data= .seq its n∧its.size≤sizeLine∧Vals xs its.toList
noncomputable def pK(K:PySem.W.Frag)(H:Hp)(a:Addr)(xs:List V):Prop:=
 Rd H a (.tup xs)∨
  ∃(o:Obj) (its:Array Value) (n:Nat),K.lookup a=some o∧o.cls= .type "tuple"∧o.data= .seq its n∧its.size≤sizeLine∧Vals xs its.toList
noncomputable def K9:Value→Option V
 | .none=>some .cI
 | .bool b=>some (.bl b)
 | .int i _=>some (.int i)
 | .str x _=>some (.str x)
 | .bytes b _=>some (.byt b)
 | .float b _=>some (.flt b)
 | .ref a=>some (.ref a)
 | .type n=>some (.ty n)
 | _=>none
theorem RelV.abs{x:V}{u:Value}(r:RelV x u):K9 u=some x:=by
 cases x with
 | cI=>cases r;rfl
 | bl _=>cases r;rfl
 | int _=>obtain⟨t,rfl⟩:=r;rfl
 | str _=>obtain⟨t,rfl⟩:=r;rfl
 | byt _=>obtain⟨t,rfl⟩:=r;rfl
 | flt _=>obtain⟨t,rfl⟩:=r;rfl
 | ref _=>cases r;rfl
 | ty _=>cases r;rfl
theorem RelV.inj{x y:V}{u:Value}(r:RelV x u)(q:RelV y u):x=y:=Option.some.inj (r.abs.symm.trans q.abs)
theorem Vals.inj:∀{xs ys:List V} {us:List Value},Vals xs us→Vals ys us→xs=ys
 | _,_,_, .nil, .nil=>rfl
 | _,_,_, .cons r t, .cons r' t'=>by rw[r.inj r',Vals.inj t t']
section
variable {X:Cx} {pins:List (Addr × Obj)} {σ:St} {H:Hp} {s:Shared} {a:Addr} {xs ys:List V}
theorem ny.of{K:PySem.W.Frag}(h:H a=some (.lst xs)):ny K H a xs:= .inl (.inl h)
theorem Inv.list(I:Inv X pins σ H s)(h:ny X.K H a xs):∃its:List Value,Vals xs its∧PlainL s.heap a its.toArray∧xs.length≤sizeLine:=by
 rcases h with h | ⟨o,its,n,hk,hc,hd,hs,hz,r⟩
 ·obtain⟨z,its,n,r,e⟩:=h.ok I.hok
  exact⟨its,r,⟨_,n,e,rfl,rfl,rfl⟩,z⟩
 ·refine⟨its.toList,r,⟨o,n,I.oX a o hk,hc,hd,by simpa using hs⟩,?_⟩
  have e:=r.length
  simp only[Array.length_toList] at e
  omega
theorem Inv.tuple(I:Inv X pins σ H s)(h:pK X.K H a xs):∃its:List Value,Vals xs its∧IsTup s.heap a its.toArray∧xs.length≤sizeLine:=by
 rcases h with h | ⟨o,its,n,hk,hc,hs,hz,r⟩
 ·obtain⟨z,its,r,p⟩:=h.ok I.hok
  exact⟨its,r,p,z⟩
 ·refine⟨its.toList,r,⟨o,I.oX a o hk,hc,n,by simpa using hs⟩,?_⟩
  have e:=r.length
  simp only[Array.length_toList] at e
  omega
theorem Inv.ox(I:Inv X pins σ H s)(h:ny X.K H a xs)(h':ny X.K H a ys):xs=ys:=by
 obtain⟨its,r,⟨o,n,e,_,_,d⟩,_⟩:=I.list h
 obtain⟨its',r',⟨o',n',e',_,_,d'⟩,_⟩:=I.list h'
 rw[e] at e';cases e'
 rw[d] at d'
 injection d' with d1 _
 have:its=its':=by simpa using congrArg Array.toList d1
 subst this
 exact r.inj r'
theorem Inv.oQ(I:Inv X pins σ H s)(h:pK X.K H a xs)(h':pK X.K H a ys):xs=ys:=by
 obtain⟨its,r,⟨o,e,_,n,d⟩,_⟩:=I.tuple h
 obtain⟨its',r',⟨o',e',_,n',d'⟩,_⟩:=I.tuple h'
 rw[e] at e';cases e'
 rw[d] at d'
 injection d' with d1 _
 have:its=its':=by simpa using congrArg Array.toList d1
 subst this
 exact r.inj r'
end
noncomputable abbrev Cx.sf(X:Cx)(E:Value→Shared→Prop):Cx:={X with xe:=E}
noncomputable abbrev Cx.Fj(X:Cx):Cx:=X.sf fun _ _=>False
theorem Cx.Ok.sf{X:Cx}(ok:X.Ok)(E:Value→Shared→Prop):(X.sf E).Ok:=
 ⟨ok.mod,ok.kind,ok.glob,ok.blt,ok.above,ok.inj,ok.has,ok.cab,ok.hd,ok.frames,ok.stk,ok.exf,ok.bs,ok.bsz,ok.noex,ok.exfs,ok.qa,ok.frf⟩
theorem Cx.Ok.lD{X:Cx}{E:Value→Shared→Prop}(ok:(X.sf E).Ok):X.Ok:=
 ⟨ok.mod,ok.kind,ok.glob,ok.blt,ok.above,ok.inj,ok.has,ok.cab,ok.hd,ok.frames,ok.stk,ok.exf,ok.bs,ok.bsz,ok.noex,ok.exfs,ok.qa,ok.frf⟩
section
variable {X:Cx} {pins:List (Addr × Obj)} {σ:St} {H:Hp} {s:Shared} {E:Value→Shared→Prop}
theorem Inv.sf(I:Inv X pins σ H s)(E:Value→Shared→Prop):Inv (X.sf E) pins σ H s:=⟨I.ok.sf E,I.os,I.bare,I.base,I.loc,I.cell,I.free,I.freeC,I.pin,I.hok,I.len⟩
theorem Inv.lD(I:Inv (X.sf E) pins σ H s):Inv X pins σ H s:=⟨I.ok.lD,I.os,I.bare,I.base,I.loc,I.cell,I.free,I.freeC,I.pin,I.hok,I.len⟩
theorem SP.lD{D:Ends}{f:Flow}{s':Shared}(h:SP (X.sf E) pins D f s'):SP X pins D f s':=by
 cases f with
 | next=>obtain⟨σ',H',I,q⟩:=h;exact⟨σ',H',I.lD,q⟩
 | brk=>obtain⟨σ',H',I,q⟩:=h;exact⟨σ',H',I.lD,q⟩
 | cont=>obtain⟨σ',H',I,q⟩:=h;exact⟨σ',H',I.lD,q⟩
 | ret u=>obtain⟨v,σ',H',I,r,q⟩:=h;exact⟨v,σ',H',I.lD,r,q⟩
theorem uZ.Fj{st:List Stmt}{t:TS}(h:uZ X.Fj st t):uZ X st t:=fun pins s σ H D I hw=>
 wpAny_mono (h pins s σ H D (I.sf _) hw) (fun _ _ q=>q.lD) fun _ _ z=>False.elim z
end
section
variable {X:Cx} {st:Stmt} {rest:List Stmt} {t u:TS} {e:Expr} {te:TE} {pos:Pos}
noncomputable def Jj:TS:=fun D σ H=>D.nx σ H
noncomputable def IJ(t u:TS):TS:=fun D σ H=>t {D with nx:=u D} σ H
theorem yC:uZ X [] Jj:=fun _ _ σ H _ I h=>wpAny_execs_nil ⟨σ,H,I,h⟩
theorem wV(h1:PS X st t)(h2:uZ X rest u):uZ X (st ::rest) (IJ t u):=by
 intro pins s σ H D I h
 refine wpAny_execs_cons (dY (h1 pins s σ H {D with nx:=u D} I h) fun f s1 q=>?_)
 cases f with
 | next=>
   obtain⟨σ',H',I',q⟩:=q
   exact h2 pins s1 σ' H' D I' q
 | ret v=>exact q
 | brk=>exact q
 | cont=>exact q
theorem zi(h1:PS X st t):uZ X [st] t:=by
 intro pins s σ H D I h
 refine wpAny_execs_cons (dY (h1 pins s σ H D I h) fun f s1 q=>?_)
 cases f with
 | next=>exact wpAny_execs_nil q
 | ret v=>exact q
 | brk=>exact q
 | cont=>exact q
noncomputable def K6:TS:=fun D σ H=>D.bk σ H
noncomputable def LO:TS:=fun D σ H=>D.ct σ H
theorem Inv.quiet{pins:List (Addr × Obj)}{σ:St}{H:Hp}{s:Shared}(I:Inv X pins σ H s):interactive X.env=false:=by simp [interactive,I.ok.kind]
noncomputable def Ji(te:TE):TS:=fun D σ H=>te σ H fun _ H1=>D.nx σ H1
theorem zj(he:PE X e te)(hs:swapsWith e none pos.line X.env=pure false:=by rfl):PS X (.Expr e pos) (Ji te):=by
 intro pins s σ H D I h
 exact wpAny_Expr_any (dY (he pins s σ H _ I h) fun v s1 ⟨x,H1,I1,r1,q1⟩=>⟨σ,H1,I1,q1⟩) I.quiet hs
noncomputable def Lc(te:TE):TS:=fun D σ H=>te σ H D.rt
theorem Cz(he:PE X e te):PS X (.Return (some e) pos) (Lc te):=by
 intro pins s σ H D I h
 exact wpAny_Return_some (dY (he pins s σ H _ I h) fun v s1 ⟨x,H1,I1,r1,q1⟩=>⟨x,σ,H1,I1,r1,q1⟩)
noncomputable def Le:TS:=fun D _ H=>D.rt .cI H
noncomputable def KP(c:TT)(t u:TS):TS:=fun D σ H=>c σ H fun b H1=>if b=true then t D σ H1 else u D σ H1
theorem FI{c:Expr}{a b:List Stmt}{tc:TT}(hc:PT X c tc)(ha:uZ X a t)(hb:uZ X b u):PS X (.If c a b pos) (KP tc t u):=by
 intro pins s σ H D I h
 refine wpAny_If (dY (hc pins s σ H _ I h) fun d s1 ⟨H1,I1,q1⟩=>?_)
 cases d with
 | true=>exact ha pins s1 σ H1 D I1 q1
 | false=>exact hb pins s1 σ H1 D I1 q1
noncomputable def Ks:TS:=fun _ _ _=>False
end
noncomputable abbrev TG:=V→St→Hp→(St→Hp→Prop)→Prop
noncomputable abbrev CJ:=List V→St→Hp→(St→Hp→Prop)→Prop
noncomputable def PG(X:Cx)(target:Expr)(t:TG):Prop:=
 ∀(pins:List (Addr × Obj)) (s:Shared) (σ:St) (H:Hp) (v:V) (u:Value) (Q:St→Hp→Prop),Inv X pins σ H s→RelV v u→t v σ H Q→
  wpAny (model X.prog X.w) X.A (assign target X.env u) (fun _ s'=>∃σ' H',Inv X pins σ' H' s'∧Q σ' H') X.xe s
noncomputable def Dx(X:Cx)(ts:List Expr)(t:CJ):Prop:=
 ∀(pins:List (Addr × Obj)) (s:Shared) (σ:St) (H:Hp) (vs:List V) (us:List Value) (Q:St→Hp→Prop),Inv X pins σ H s→Vals vs us→t vs σ H Q→
  wpAny (model X.prog X.w) X.A (assignInOrder ((assignEach ts X.env).map (·.2)) us) (fun _ s'=>∃σ' H',Inv X pins σ' H' s'∧Q σ' H') X.xe s
noncomputable abbrev ET:=V→V→V→Hp→(Hp→Prop)→Prop
noncomputable def Je(X:Cx)(t:ET):Prop:=
 ∀(pins:List (Addr × Obj)) (s:Shared) (σ:St) (H:Hp) (o i v:V) (ov iv u:Value) (Q:Hp→Prop),Inv X pins σ H s→RelV o ov→RelV i iv→RelV v u→t o i v H Q→
  wpAny (model X.prog X.w) X.A (setItem ov iv u) (fun _ s'=>∃H',Inv X pins σ H' s'∧Q H') X.xe s
noncomputable abbrev JO:=V→V→Hp→VK→Prop
noncomputable def MZ(X:Cx)(op:Operator)(t:JO):Prop:=
 ∀(pins:List (Addr × Obj)) (s:Shared) (σ:St) (H:Hp) (x y:V) (v u:Value) (Q:VK),Inv X pins σ H s→RelV x v→RelV y u→t x y H Q→
  wpAny (model X.prog X.w) X.A (inplaceOp op v u) (EP X pins σ Q) X.xe s
section
variable {X:Cx} {pos:Pos}
noncomputable def rE(i:Nat):TG:=fun v σ H Q=>Q (σ.set i (some v)) H
theorem yR{i:Nat}{x:Str}(hN:X.N.Nodup)(hi:X.N[i]? =some x)(hx:Loc X.env.scope x)(hf:X.fn x=true∨X.env.scope.names.lookup x=some .local:=by first | exact .inl rfl | exact .inr rfl | assumption):PG X (.Name x pos) (rE i):=by
 intro pins s σ H v u Q I r h
 exact wpAny_assign_Name (vB I hN hi hx r (fun s' I'=>⟨_,H,I',h⟩) hf)
noncomputable def K5:CJ:=fun vs σ H Q=>vs=[]∧Q σ H
noncomputable def Jf(t:TG)(u:CJ):CJ:=fun vs σ H Q=>∃v r,vs=v ::r∧t v σ H fun σ' H'=>u r σ' H' Q
theorem zu:Dx X [] K5:=by
 intro pins s σ H vs us Q I r h
 obtain⟨e,h⟩:=h
 subst e
 cases r
 exact assignInOrder_nil ⟨σ,H,I,h⟩
theorem vP{e:Expr}{es:List Expr}{t:TG}{u:CJ}(h1:PG X e t)(h2:Dx X es u)
 (hs:(assignEach (e ::es) X.env).map (·.2)=assign e X.env ::(assignEach es X.env).map (·.2):=by rfl):Dx X (e ::es) (Jf t u):=by
 intro pins s σ H vs us Q I r h
 obtain⟨v,vr,e1,h⟩:=h
 subst e1
 cases r with
 | cons r rr=>
   rw[hs]
   refine assignInOrder_cons (dY (h1 pins s σ H _ _ _ I r h) fun _ s1 ⟨σ1,H1,I1,q1⟩=>?_)
   exact h2 pins s1 σ1 H1 _ _ Q I1 rr q1
noncomputable def K4(K:PySem.W.Frag)(n:Nat)(t:CJ):TG:=fun v σ H Q=>∃a xs,v= .ref a∧pK K H a xs∧xs.length=n∧t xs σ H Q
theorem Bw{es:List Expr}{k:Nat}{t:CJ}{n:Nat}(hc:X.calm=true)(h:Dx X es t)
 (hn:(assignEach es X.env).length=n:=by rfl) (hst:(assignEach es X.env).findIdx? (·.1)=none:=by rfl):PG X (.Tuple es k pos) (K4 X.K n t):=by
 intro pins s σ H v u Q I r hw
 obtain⟨a,xs,e1,hq,hl,hw⟩:=hw
 subst e1
 cases r
 obtain⟨its,rv,ht,hz⟩:=I.tuple hq
 refine assign_Tuple_tuple (I.ok.hd hc) ht (by simp [hn,←hl,rv.length]) hst fun h' hx=>?_
 have I1:Inv X pins σ H {s with heap:=h'}:=I.kept (t':=s.toks) fun b o e=>hx b o (Nat.ne_of_lt (Heap.lt_size e)) e
 exact h pins _ σ H xs _ Q I1 (by simpa using rv) hw
noncomputable def Jz(to ti:TE)(t:ET):TG:=fun v σ H Q=>to σ H fun o H1=>ti σ H1 fun i H2=>t o i v H2 fun H3=>Q σ H3
theorem ur{o i:Expr}{to ti:TE}{t:ET}(ho:PE X o to)(hi:PE X i ti)(hs:Je X t)
 (ha:∀v,assign (.Subscript o i pos) X.env v=(do
   let ov ←holding [v] (eval o X.env)
   let iv ←holding [v,ov] (eval i X.env)
   standAt pos
   holding [v,ov,iv] (setItem ov iv v)
   release [v,ov,iv] []):=by intro _;rfl):PG X (.Subscript o i pos) (Jz to ti t):=by
 intro pins s σ H v u Q I r h
 rw[ha]
 refine wpAny_bind (wpAny_holding (dY (ho pins s σ H _ I h) fun ov s1 ⟨x,H1,I1,r1,q1⟩=>?_))
 refine wpAny_bind (wpAny_holding (dY (hi pins s1 σ H1 _ I1 q1) fun iv s2 ⟨y,H2,I2,r2,q2⟩=>?_))
 refine wpAny_bind (wpAny_standAt (wpAny_bind (wpAny_holding (dY (hs pins s2 σ H2 x y v ov iv u _ I2 r1 r2 r q2) fun _ s3 ⟨H3,I3,q3⟩=>?_))))
 exact wpAny_release ⟨σ,H3,I3,q3⟩
noncomputable def zK(te:TE)(g:TG):TS:=fun D σ H=>te σ H fun x H1=>g x σ H1 D.nx
theorem BQ{tg e:Expr}{te:TE}{g:TG}(he:PE X e te)(hg:PG X tg g)(hs:swapsWithSole [tg] e pos.line X.env=pure false:=by rfl)(hw:swappedStores [tg] e X.env=pure none:=by rfl)
 (h1:(assignEach [tg] X.env).map (·.2)=[assign tg X.env]:=by rfl):PS X (.Assign [tg] e pos) (zK te g):=by
 intro pins s σ H D I h
 refine wpAny_Assign_stores (dY (he pins s σ H _ I h) fun v s1 ⟨x,H1,I1,r1,q1⟩=>?_) hs hw
 rw[h1]
 exact dY (hg pins s1 σ H1 x v _ I1 r1 q1) fun _ s2 q=>q
theorem yh{i:Nat}{x:Str}{e:Expr}{te:TE}{pos':Pos}(hN:X.N.Nodup)(hi:X.N[i]? =some x)(hx:Loc X.env.scope x)(he:PE X e te)(hs:swapsWith e (some (.Name x pos')) pos.line X.env=pure false:=by rfl)(hf:X.fn x=true∨X.env.scope.names.lookup x=some .local:=by first | exact .inl rfl | exact .inr rfl | assumption) :
 PS X (.Assign [.Name x pos'] e pos) (zK te (rE i)):=by
 intro pins s σ H D I h
 refine wpAny_Assign_Name (dY (he pins s σ H _ I h) fun v s1 ⟨y,H1,I1,r1,q1⟩=>?_) hs
 exact vB I1 hN hi hx r1 (fun s2 I2=>⟨_,H1,I2,q1⟩) hf
noncomputable def Mv(i j:Nat)(ta:TA):TS:=fun D σ H=>ta σ H fun vs H1=>∃v w,vs=[v,w]∧D.nx ((σ.set i (some v)).set j (some w)) H1
noncomputable def L5(i:Nat)(te:TE)(ti:JO):TS:=fun D σ H=>∃x,σ[i]? =some (some x)∧te σ H fun y H1=>ti x y H1 fun z H2=>D.nx (σ.set i (some z)) H2
noncomputable def Lj(to ti te:TE)(tget:V→V→Hp→VK→Prop)(tip:JO)(tset:ET):TS:=fun D σ H=>to σ H fun o H1=>ti σ H1 fun i H2=>tget o i H2 fun x H3=>te σ H3 fun y H4=>tip x y H4 fun z H5=>tset o i z H5 fun H6=>D.nx σ H6
noncomputable def MP(X:Cx)(t:V→V→Hp→VK→Prop):Prop:=
 ∀(pins:List (Addr × Obj)) (s:Shared) (σ:St) (H:Hp) (o i:V) (ov iv:Value) (Q:VK),Inv X pins σ H s→RelV o ov→RelV i iv→t o i H Q→
  wpAny (model X.prog X.w) X.A (getItem ov iv) (EP X pins σ Q) X.xe s
noncomputable def MX(f:Int→Int→Int):JO:=fun x y H Q=>∃i j,x= .int i∧y= .int j∧Q (.int (f i j)) H
end
section
variable {X:Cx} {pos:Pos}
noncomputable def F7(c:TT)(tb:TS):TS:=fun D σ H=>∃W:Nat→St→Hp→Prop,(∃m,W m σ H)∧∀m σ H,W m σ H→
 c σ H fun b H1=>if b=true then ∃N:St→Hp→Prop,(∀σ' H',N σ' H'→∃m',m' < m∧W m' σ' H')∧tb {D with nx:=N,ct:=N,bk:=D.nx} σ H1 else D.nx σ H1
theorem BZ{c:Expr}{body:List Stmt}{tc:TT}{tb:TS}(hp:PassesOwn (model X.prog X.w) X.A X.env X.xe)(hc:PT X c tc)(hb:uZ X body tb):PS X (.While c body [] pos) (F7 tc tb):=by
 intro pins s σ H D I h
 obtain⟨W,⟨m0,w0⟩,turn⟩:=h
 refine wpAny_While (codeAny_whileLoop (fun n s'=>∃σ' H',Inv X pins σ' H' s'∧W n σ' H') ?_ m0 ⟨σ,H,I,w0⟩)
 rintro n s1 ⟨σ1,H1,I1,w1⟩
 refine wpAny_passesOwn hp (dY (hc pins s1 σ1 H1 _ I1 (turn n σ1 H1 w1)) fun b s2 ⟨H2,I2,q2⟩=>?_)
 cases b with
 | true=>
   obtain⟨N,hN,q2⟩:=q2
   rw[if_pos rfl]
   refine wpAny_passesOwn hp (dY (hb pins s2 σ1 H2 _ I2 q2) fun f s3 q3=>?_)
   cases f with
   | next=>
     obtain⟨σ3,H3,I3,n3⟩:=q3
     obtain⟨m',hm,w3⟩:=hN σ3 H3 n3
     exact⟨m',hm,σ3,H3,I3,w3⟩
   | cont=>
     obtain⟨σ3,H3,I3,n3⟩:=q3
     obtain⟨m',hm,w3⟩:=hN σ3 H3 n3
     exact⟨m',hm,σ3,H3,I3,w3⟩
   | brk=>exact q3
   | ret v=>exact q3
 | false=>
   rw[if_neg Bool.false_ne_true]
   exact wpAny_execs_nil ⟨σ1,H2,I2,q2⟩
end
structure It where
 go:Nat→Hp→Prop
 yld:Nat→Hp→V→Hp→Prop
 stop:Nat→Hp→Prop
noncomputable def pV(X:Cx)(pins:List (Addr × Obj))(H:Hp)(b:Addr):Prop:=
 H b=none∧b≠X.env.locals∧b ∉ X.fs∧(b∈X.ex∨X.s₀.heap.objs.size≤b)∧(∀x c,X.env.cells.lookup x=some c→c≠b)∧∀p∈X.pn++pins,p.1≠b
theorem Inv.qC{X:Cx}{pins:List (Addr × Obj)}{σ:St}{H H':Hp}{s:Shared}{b:Addr}(I:Inv X pins σ H s)(hb:s.heap.objs.size≤b)(hn:H' b=none):pV X pins H' b:=by
 refine⟨hn,Nat.ne_of_gt (Nat.lt_of_lt_of_le I.lt hb),I.KN hb, .inr (Nat.le_trans I.sz hb),fun x c e z=>?_,fun p hp z=>?_⟩
 ·obtain⟨v,q⟩:=I.cell x c e
  exact absurd (Nat.lt_of_lt_of_le q.lt (by rw[z];exact hb)) (Nat.lt_irrefl _)
 ·exact absurd (Nat.lt_of_lt_of_le (Heap.lt_size (I.pin p hp).1) (by rw[z];exact hb)) (Nat.lt_irrefl _)
structure Turn (P:Program) (w:World) (K:PySem.W.Frag) (tg:Expr) (J:It) (fp:List Addr) (it:Addr) (tn:Nat→Heap→Prop):Prop where
 mem:it∈fp
 obj:∀i h,tn i h→∀b∈fp,∃o,h.get? b=some o∧∀v,o.data≠ .cell v
 keep:∀i h h',tn i h→(∀b∈fp,∀o,h.get? b=some o→h'.get? b=some o)→tn i h'
 item:∀(X:Cx),X.prog=P→X.w=w→X.K=K→X.calm=true→∀(i:Nat) (pins:List (Addr × Obj)) (s:Shared) (σ:St) (H:Hp) (E:Value→Shared→Prop),Inv X pins σ H s→(∀b∈fp,pV X pins H b)→tn i s.heap→J.go i H→
  wpAny (model P w) X.A (pyNext (.ref it)) (fun r s1=>∃u,r=some u∧
   wpAny (model P w) X.A (letOwnedTupleGo tg (.ref it) u) (fun _ s2=>∃x H',Inv X pins σ H' s2∧RelV x u∧J.yld i H x H'∧tn (i+1) s2.heap∧∀b∈fp,H' b=none) E s1) E s
 done:∀(X:Cx),X.prog=P→X.w=w→X.K=K→X.calm=true→∀(i:Nat) (pins:List (Addr × Obj)) (s:Shared) (σ:St) (H:Hp) (E:Value→Shared→Prop),Inv X pins σ H s→(∀b∈fp,pV X pins H b)→tn i s.heap→J.stop i H→
  wpAny (model P w) X.A (pyNext (.ref it)) (fun r s1=>r=none∧Inv X pins σ H s1) E s
 self:∀(A:Around) (i:Nat) (s:Shared) (Q:Value→Shared→Prop) (E:Value→Shared→Prop),tn i s.heap→Q (.ref it) s→wpAny (model P w) A (pyIter (.ref it)) Q E s
noncomputable abbrev TI:=St→Hp→(It→Hp→Prop)→Prop
noncomputable def Lm(X:Cx)(pins:List (Addr × Obj))(σ:St)(tg:Expr)(R:It→Hp→Prop)(itv:Value)(s2:Shared):Prop:=
 ∃(it:Addr) (fp:List Addr) (tn:Nat→Heap→Prop) (J:It) (H':Hp),itv= .ref it∧Inv X pins σ H' s2∧Turn X.prog X.w X.K tg J fp it tn∧tn 0 s2.heap∧(∀b∈fp,pV X pins H' b)∧R J H'
noncomputable def PI(X:Cx)(tg iter:Expr)(wi:TI):Prop:=
 ∀(pins:List (Addr × Obj)) (s:Shared) (σ:St) (H:Hp) (R:It→Hp→Prop),Inv X pins σ H s→wi σ H R→
  wpAny (model X.prog X.w) X.A (eval iter X.env) (fun v s1=>wpAny (model X.prog X.w) X.A (pyIter v) (Lm X pins σ tg R) X.xe s1) X.xe s
theorem yG{M:Model}{A:Around}{E:Value→Shared→Prop}{s:Shared}{tg:Expr}{it:Addr}{u:Value}{o:Obj}{n:String}{vs:Array Value}{Q:Unit→Shared→Prop}(ho:s.heap.get? it=some o)(hc:o.cls= .type n)(hd:o.data= .fields vs)
 (hn:["enumerate","zip","dict_itemiterator","dict_reverseitemiterator","odict_iterator","itertools.zip_longest","itertools.pairwise"].contains n=false) (hQ:Q () s):wpAny M A (letOwnedTupleGo tg (.ref it) u) Q E s:=by
 unfold letOwnedTupleGo
 cases tg <;> first
  | exact wpAny_pure hQ
  | (cases u <;> first
      | exact wpAny_pure hQ
      | (refine wpAny_bind (wpAny_load ho ?_)
         rw[hc,hd]
         show wpAny M A (if(["enumerate","zip","dict_itemiterator","dict_reverseitemiterator","odict_iterator","itertools.zip_longest","itertools.pairwise"].contains n && vs[0]? ==some (rawInt _))=true then _ else _) Q E s
         rw[if_neg (by intro h;rw [hn,Bool.false_and] at h;cases h)]
         exact wpAny_pure hQ))
noncomputable def Lg(K:PySem.W.Frag)(a:Addr):It:=
 ⟨fun i H=>∃xs x,ny K H a xs∧xs[i]? =some x,fun i H x H'=>H'=H∧∀xs,ny K H a xs→xs[i]? =some x,fun i H=>∃xs,ny K H a xs∧xs.length≤i⟩
noncomputable def LJ(K:PySem.W.Frag)(a:Addr):It:=
 ⟨fun i H=>∃xs x,pK K H a xs∧xs[i]? =some x,fun i H x H'=>H'=H∧∀xs,pK K H a xs→xs[i]? =some x,fun i H=>∃xs,pK K H a xs∧xs.length≤i⟩
noncomputable def Ip(lo:Int)(n:Nat):It:=⟨fun i _=>i < n,fun i H x H'=>H'=H∧x= .int (lo+i),fun i _=>n≤i⟩
theorem tp{P:Program}{w:World}{K:PySem.W.Frag}{tg:Expr}(a it:Addr):Turn P w K tg (Lg K a) [it] it (fun i h=>h.IsListIter it a i) where
 mem:=by simp
 obj:=fun i h st b hb=>by
  have e:b=it:=by simpa using hb
  subst e
  obtain⟨o,e,c,d⟩:=st
  exact⟨o,e,fun v z=>by rw[d] at z;cases z⟩
 keep:=fun i h h' st k=>st.at fun o e=>k it (by simp) o e
 item:=by
  intro X hP hw hK hc i pins s σ H E I hf st hg
  subst hP hw hK
  obtain⟨xs,x,hq,hx⟩:=hg
  obtain⟨its,rv,p,hz⟩:=I.list hq
  obtain⟨u,hu,ru⟩:=rv.get hx
  obtain⟨f0,f1,f2,f3,f4,f5⟩:=hf it (by simp)
  refine wpAny_pyNext_list_item st p.isList (x:=u) (by simpa using hu) fun h' st' sb=>?_
  have I1:Inv X pins σ H {s with heap:=h'}:=I.turned (t':=s.toks) (fun b o hb e=>(sb.2 b hb).trans e) f0 f1 f3 f4 f5
  obtain⟨o,e,c,d⟩:=id st'
  exact⟨u,rfl,yG (s:={s with heap:=h'}) e c d (by decide) ⟨x,H,I1,ru,⟨rfl,fun ys hy=>by rw[I.ox hy hq];exact hx⟩,st',fun b hb=>(hf b hb).1⟩⟩
 done:=by
  intro X hP hw hK hc i pins s σ H E I hf st hg
  subst hP hw hK
  obtain⟨xs,hq,hx⟩:=hg
  obtain⟨its,rv,p,hz⟩:=I.list hq
  obtain⟨f0,f1,f2,f3,f4,f5⟩:=hf it (by simp)
  have hl:=rv.length
  exact wpAny_pyNext_list_end (I.ok.hd hc) st p.isList (by simp;omega) fun h' eb=>⟨rfl,I.turned (t':=s.toks) (fun b o hb e=>eb b o hb e) f0 f1 f3 f4 f5⟩
 self:=fun _ _ _ _ _ st h=>wpAny_pyIter_listiter st h
theorem xf{P:Program}{w:World}{K:PySem.W.Frag}{tg:Expr}(a it:Addr):Turn P w K tg (LJ K a) [it] it (fun i h=>h.IsTupleIter it a i) where
 mem:=by simp
 obj:=fun i h st b hb=>by
  have e:b=it:=by simpa using hb
  subst e
  obtain⟨o,e,c,d⟩:=st
  exact⟨o,e,fun v z=>by rw[d] at z;cases z⟩
 keep:=fun i h h' st k=>st.at fun o e=>k it (by simp) o e
 item:=by
  intro X hP hw hK hc i pins s σ H E I hf st hg
  subst hP hw hK
  obtain⟨xs,x,hq,hx⟩:=hg
  obtain⟨its,rv,p,hz⟩:=I.tuple hq
  obtain⟨u,hu,ru⟩:=rv.get hx
  obtain⟨f0,f1,f2,f3,f4,f5⟩:=hf it (by simp)
  refine wpAny_pyNext_tuple_item st (show s.heap.IsTuple a its.toArray from p) (x:=u) (by simpa using hu) fun h' st' sb=>?_
  have I1:Inv X pins σ H {s with heap:=h'}:=I.turned (t':=s.toks) (fun b o hb e=>(sb.2 b hb).trans e) f0 f1 f3 f4 f5
  obtain⟨o,e,c,d⟩:=id st'
  exact⟨u,rfl,yG (s:={s with heap:=h'}) e c d (by decide) ⟨x,H,I1,ru,⟨rfl,fun ys hy=>by rw[I.oQ hy hq];exact hx⟩,st',fun b hb=>(hf b hb).1⟩⟩
 done:=by
  intro X hP hw hK hc i pins s σ H E I hf st hg
  subst hP hw hK
  obtain⟨xs,hq,hx⟩:=hg
  obtain⟨its,rv,p,hz⟩:=I.tuple hq
  obtain⟨f0,f1,f2,f3,f4,f5⟩:=hf it (by simp)
  have hl:=rv.length
  exact wpAny_pyNext_tuple_end (I.ok.hd hc) st (show s.heap.IsTuple a its.toArray from p) (by simp;omega) fun h' eb=>⟨rfl,I.turned (t':=s.toks) (fun b o hb e=>eb b o hb e) f0 f1 f3 f4 f5⟩
 self:=fun _ _ _ _ _ st h=>wpAny_pyIter_tupleiter st h
theorem xo{P:Program}{w:World}{K:PySem.W.Frag}{tg:Expr}(it:Addr)(lo:Int)(n:Nat):Turn P w K tg (Ip lo n) [it] it (fun i h=>IsRangeIter h it (lo+(i:Nat)*1) ((n:Int) - (i:Nat)) 1) where
 mem:=by simp
 obj:=fun i h st b hb=>by
  have e:b=it:=by simpa using hb
  subst e
  exact⟨_,st,fun v z=>by
   have z':Data.fields _=Data.cell v:=z
   cases z'⟩
 keep:=fun i h h' st k=>k it (by simp) _ st
 item:=by
  intro X hP hw hK hc i pins s σ H E I hf st hg
  subst hP hw hK
  obtain⟨f0,f1,f2,f3,f4,f5⟩:=hf it (by simp)
  have W:=Walks.range (prog:=X.prog) (w:=X.w) (I.ok.hd hc) it lo 1 n
  refine W.item i s _ _ hg st fun v h' tk hv st' kk=>?_
  obtain⟨t,rfl⟩:=hv
  have I1:Inv X pins σ H {s with heap:=h',toks:=tk}:=I.turned (fun b o hb e=>kk b o (by simpa using hb) e) f0 f1 f3 f4 f5
  refine⟨_,rfl,yG (s:={s with heap:=h',toks:=tk}) (n:="range_iterator") st' rfl rfl (by decide) ⟨.int (lo+i),H,I1,⟨t,?_⟩,⟨rfl,rfl⟩,st',fun b hb=>(hf b hb).1⟩⟩
  rw[Int.mul_one]
 done:=by
  intro X hP hw hK hc i pins s σ H E I hf st hg
  subst hP hw hK
  obtain⟨f0,f1,f2,f3,f4,f5⟩:=hf it (by simp)
  exact wpAny_pyNext_range_end (I.ok.hd hc) st (by have:n≤i:=hg;omega) fun h' eb=>⟨rfl,I.turned (t':=s.toks) (fun b o hb e=>eb b o hb e) f0 f1 f3 f4 f5⟩
 self:=fun _ _ _ _ _ st h=>wpAny_pyIter_rangeiter st h
end L2
namespace L2
open PySem PySem.Spec PyProof.Rows
section
variable {X:Cx} {tg:Expr}
noncomputable def LH(K:PySem.W.Frag)(tl:TE):TI:=fun σ H R=>tl σ H fun x H1=>∃a,x= .ref a∧(∃xs,ny K H1 a xs)∧R (Lg K a) H1
noncomputable def KQ(K:PySem.W.Frag)(tl:TE):TI:=fun σ H R=>tl σ H fun x H1=>∃a,x= .ref a∧(∃xs,pK K H1 a xs)∧R (LJ K a) H1
theorem u6{pins:List (Addr × Obj)}{σ:St}{H:Hp}{s:Shared}{R:It→Hp→Prop}{E:Value→Shared→Prop}{lo hi:Int}{t u v:Tok}{tk:Nat}(I:Inv X pins σ H s)(h1: -(2 ^ 62)≤lo)(h2:lo < 2 ^ 62)(h3: -(2 ^ 62)≤hi)(h4:hi < 2 ^ 62)
 (q:R (Ip lo (hi - lo).toNat) H):wpAny (model X.prog X.w) X.A (pyIter (.ref s.heap.objs.size)) (Lm X pins σ tg R) E {s with heap:=s.heap.push {cls:= .type "range",data:= .fields #[.int lo t, .int hi u, .int 1 v]},toks:=tk}:=by
 refine wpAny_pyIter_range (IsRange.new ..) (small_one h1 h2 h3 h4) ?_
 have I1:Inv X pins σ H {s with heap:=s.heap.push {cls:= .type "range",data:= .fields #[.int lo t, .int hi u, .int 1 v]},toks:=tk}:=I.kept fun b o e=>Heap.get?_push_of_some _ e
 refine⟨(s.heap.push {cls:= .type "range",data:= .fields #[.int lo t, .int hi u, .int 1 v]}).objs.size,[(s.heap.push {cls:= .type "range",data:= .fields #[.int lo t, .int hi u, .int 1 v]}).objs.size],_,_,H,rfl,
  I1.kept (t':=tk) fun b o e=>Heap.get?_push_of_some _ e,xo _ lo (hi - lo).toNat,?_,fun b hb=>?_,q⟩
 ·have e1:lo+((0:Nat):Int)*1=lo:=by simp
  have e2:(((hi - lo).toNat:Nat):Int) - ((0:Nat):Int)=Builtin.Range.rangeSize lo hi 1:=by rw[rangeSize_one];split <;> omega
  show IsRangeIter _ _ (lo+((0:Nat):Int)*1) ((((hi - lo).toNat:Nat):Int) - ((0:Nat):Int)) 1
  rw[e1,e2]
  exact Heap.get?_push_size _ rfl
 ·have e:b=(s.heap.push {cls:= .type "range",data:= .fields #[.int lo t, .int hi u, .int 1 v]}).objs.size:=by simpa using hb
  subst e
  exact I1.qC (Nat.le_refl _) (I1.hok.fresh (Nat.le_refl _))
noncomputable def mj(ta:TA):TI:=fun σ H R=>ta σ H fun vs H1=>∃j:Int,vs=[.int j]∧ -(2 ^ 62)≤j∧j < 2 ^ 62∧R (Ip 0 j.toNat) H1
noncomputable def Jy(ta:TA):TI:=fun σ H R=>ta σ H fun vs H1=>∃i j:Int,vs=[.int i, .int j]∧(-(2 ^ 62)≤i∧i < 2 ^ 62∧ -(2 ^ 62)≤j∧j < 2 ^ 62)∧R (Ip i (j - i).toNat) H1
theorem tR{a:Expr}{ta:TA}{p pos:Pos}(hg:Gl X "range")(hm:X.mg "range"=none)(ha:PA X [a] ta)(hs:starEach [a] X.env=[(false,eval a X.env)]:=by rfl):PI X tg (.Call (.Name "range" p) [a] [] pos) (mj ta):=by
 intro pins s σ H R I h
 refine Call_ (jN I hg hm boot_range (PyProof.Rows.callWith_type1 (dY (ha pos pins s σ H _ I h) fun us s1 ⟨vs,H1,I1,r1,q1⟩=>?_) hs rfl))
 obtain⟨j,e,q1,q2,q⟩:=q1
 subst e
 cases r1 with
 | cons r rr=>
   cases rr
   obtain⟨t,rfl⟩:=r
   exact call_range_1 (u6 I1 (by omega) (by omega) q1 q2 (by simpa using q))
theorem Au{a b:Expr}{ta:TA}{p pos:Pos}(hg:Gl X "range")(hm:X.mg "range"=none)(ha:PA X [a,b] ta)(hs:starEach [a,b] X.env=[(false,eval a X.env),(false,eval b X.env)]:=by rfl)(hs2:starEach [b] X.env=[(false,eval b X.env)]:=by rfl) :
 PI X tg (.Call (.Name "range" p) [a,b] [] pos) (Jy ta):=by
 intro pins s σ H R I h
 refine Call_ (jN I hg hm boot_range (PyProof.Rows.callWith_type1 (dY (ha pos pins s σ H _ I h) fun us s1 ⟨vs,H1,I1,r1,q1⟩=>?_) (by rw[hs,hs2]) (by rw[hs2];rfl)))
 obtain⟨i,j,e,⟨q1,q2,q3,q4⟩,q⟩:=q1
 subst e
 cases r1 with
 | cons r rr=>
   cases rr with
   | cons r' rr=>
     cases rr
     obtain⟨t,rfl⟩:=r
     obtain⟨t',rfl⟩:=r'
     exact call_range_2 (u6 I1 q1 q2 q3 q4 q)
noncomputable def KG(wi:TI)(g:TG)(tb:TS):TS:=fun D σ H=>wi σ H fun J H1=>∃W:Nat→Nat→St→Hp→Prop,(∃m,W 0 m σ H1)∧∀i m σ H,W i m σ H→
 (J.stop i H∧D.nx σ H)∨(J.go i H∧∃N:St→Hp→Prop,(∀σ' H',N σ' H'→∃m',m' < m∧W (i+1) m' σ' H')∧∀x H',J.yld i H x H'→g x σ H' fun σ2 H2=>tb {D with nx:=N,ct:=N,bk:=D.nx} σ2 H2)
noncomputable def mM(fp:List Addr)(h:Heap):List (Addr × Obj):=fp.filterMap fun b=>(h.get? b).map fun o=>(b,o)
theorem kM{fp:List Addr}{h:Heap}{b:Addr}{o:Obj}(hb:b∈fp)(e:h.get? b=some o):(b,o)∈mM fp h:=List.mem_filterMap.mpr ⟨b,hb,by rw[e];rfl⟩
theorem zB{fp:List Addr}{h:Heap}{p:Addr × Obj}(hp:p∈mM fp h):p.1∈fp∧h.get? p.1=some p.2:=by
 obtain⟨b,hb,e⟩:=List.mem_filterMap.mp hp
 cases q:h.get? b with
 | none=>rw [q] at e;cases e
 | some o=>
   rw[q] at e
   have e':(b,o)=p:=Option.some.inj e
   subst e'
   exact⟨hb,q⟩
theorem Inv.pinned{pins:List (Addr × Obj)}{σ:St}{H:Hp}{s:Shared}{fp:List Addr}(I:Inv X pins σ H s)(hf:∀b∈fp,pV X pins H b)(ho:∀b∈fp,∃o,s.heap.get? b=some o∧∀v,o.data≠ .cell v):Inv X (pins++mM fp s.heap) σ H s:=
 I.yS fun p hp=>(List.mem_append.mp hp).elim (fun z=>I.pin p (List.mem_append_right _ z)) fun z=>by
  obtain⟨hb,e⟩:=zB z
  obtain⟨f0,f1,f2,_⟩:=hf p.1 hb
  obtain⟨o,e',d⟩:=ho p.1 hb
  rw[e] at e';cases e'
  exact⟨e,f0,f1,f2,d⟩
theorem Inv.nK{pins pl:List (Addr × Obj)}{σ:St}{H:Hp}{s:Shared}(I:Inv X (pins++pl) σ H s):Inv X pins σ H s:=I.yS fun p hp=>I.pin p (List.mem_append_right _ (List.mem_append_left _ hp))
theorem CB{iter:Expr}{body:List Stmt}{wi:TI}{g:TG}{tb:TS}{pos:Pos}(hp:PassesOwn (model X.prog X.w) X.A X.env X.xe)(hc:X.calm=true)(hi:PI X tg iter wi)(hg:PG X tg g)(hb:uZ X body tb)
 (hs:∀x,foldedSetIterable iter X.env x=pure x:=by intro _;rfl):PS X (.For tg iter body [] pos) (KG wi g tb):=by
 intro pins s σ H D I h
 refine wpAny_For (dY (hi pins s σ H _ I h) fun v s1 h1=>dY h1 fun itv s2 h2=>?_) hs
 obtain⟨it,fp,tn,J,H2,e,I2,T,st2,f2,W,⟨m0,w0⟩,turn⟩:=h2
 subst e
 have stat:∀{H':Hp},(∀b∈fp,H' b=none)→∀b∈fp,pV X pins H' b:=fun hn b hb=>⟨hn b hb,(f2 b hb).2⟩
 refine codeAny_forLoop_any (fun n s'=>∃i σ' H',Inv X pins σ' H' s'∧tn i s'.heap∧(∀b∈fp,H' b=none)∧W i n σ' H') ?_ m0 ⟨0,σ,H2,I2,st2,fun b hb=>(f2 b hb).1,w0⟩
 rintro n s3 ⟨i,σ3,H3,I3,st3,fr3,w3⟩
 rcases turn i n σ3 H3 w3 with⟨stop,qn⟩ | ⟨go,N,hN,step⟩
 ·refine wpAny_passesOwn hp (dY (T.done X rfl rfl rfl hc i pins s3 σ3 H3 X.xe I3 (stat fr3) st3 stop) fun r s4 ⟨hr,I4⟩=>?_)
  subst hr
  exact wpAny_execs_nil ⟨σ3,H3,I4,qn⟩
 ·refine wpAny_passesOwn hp (dY (T.item X rfl rfl rfl hc i pins s3 σ3 H3 X.xe I3 (stat fr3) st3 go) fun r s4 ⟨u,hr,h4⟩=>?_)
  subst hr
  refine wpAny_passesOwn hp (dY h4 fun _ s5 ⟨x,H5,I5,r5,y5,st5,fr5⟩=>?_)
  have I5':=I5.pinned (stat fr5) (T.obj _ _ st5)
  refine wpAny_passesOwn hp (dY (hg _ s5 σ3 H5 x u _ I5' r5 (step x H5 y5)) fun _ s6 ⟨σ6,H6,I6,q6⟩=>?_)
  refine wpAny_passesOwn hp (dY (hb _ s6 σ6 H6 _ I6 q6) fun f s7 q7=>?_)
  have again:∀{σ7:St} {H7:Hp},Inv X (pins++mM fp s5.heap) σ7 H7 s7→N σ7 H7→∃m,m < n∧∃i σ' H',Inv X pins σ' H' s7∧tn i s7.heap∧(∀b∈fp,H' b=none)∧W i m σ' H':=fun {σ7 H7} I7 n7=>by
   obtain⟨m',hm,w7⟩:=hN σ7 H7 n7
   refine⟨m',hm,i+1,σ7,H7,I7.nK,T.keep _ _ _ st5 fun b hb o e=>(I7.pin (b,o) (List.mem_append_right _ (List.mem_append_right _ (kM hb e)))).1,fun b hb=>?_,w7⟩
   obtain⟨o,e,d⟩:=T.obj _ _ st5 b hb
   exact(I7.pin (b,o) (List.mem_append_right _ (List.mem_append_right _ (kM hb e)))).2.1
  cases f with
  | next=>obtain⟨σ7,H7,I7,n7⟩:=q7;exact again I7 n7
  | cont=>obtain⟨σ7,H7,I7,n7⟩:=q7;exact again I7 n7
  | brk=>obtain⟨σ7,H7,I7,q7⟩:=q7;exact⟨σ7,H7,I7.nK,q7⟩
  | ret v=>obtain⟨x7,σ7,H7,I7,r7,q7⟩:=q7;exact⟨x7,σ7,H7,I7.nK,r7,q7⟩
end
end L2
namespace L2
open PySem PySem.Spec PyProof.Rows
noncomputable abbrev R2:=V→V→Hp→VK→Prop
noncomputable def k6(X:Cx)(f:Value→Value→Sem Value)(r:R2):Prop:=
 ∀(pins:List (Addr × Obj)) (s:Shared) (σ:St) (H:Hp) (x y:V) (v u:Value) (Q:VK),Inv X pins σ H s→RelV x v→RelV y u→r x y H Q→
  wpAny (model X.prog X.w) X.A (f v u) (EP X pins σ Q) X.xe s
noncomputable def Kp(X:Cx)(f:Value→Sem Value)(r:V→Hp→VK→Prop):Prop:=
 ∀(pins:List (Addr × Obj)) (s:Shared) (σ:St) (H:Hp) (x:V) (v:Value) (Q:VK),Inv X pins σ H s→RelV x v→r x H Q→
  wpAny (model X.prog X.w) X.A (f v) (EP X pins σ Q) X.xe s
noncomputable def jR(X:Cx)(f:Value)(r:List V→Hp→VK→Prop):Prop:=
 ∀(pins:List (Addr × Obj)) (s:Shared) (σ:St) (H:Hp) (xs:List V) (us:List Value) (Q:VK),Inv X pins σ H s→Vals xs us→r xs H Q→
  wpAny (model X.prog X.w) X.A (call f us) (EP X pins σ Q) X.xe s
noncomputable def Kh(X:Cx)(r:V→Hp→(Bool→Hp→Prop)→Prop):Prop:=
 ∀(pins:List (Addr × Obj)) (s:Shared) (σ:St) (H:Hp) (x:V) (v:Value) (Q:Bool→Hp→Prop),Inv X pins σ H s→RelV x v→r x H Q→
  wpAny (model X.prog X.w) X.A (truthy v) (TP X pins σ Q) X.xe s
noncomputable def HZ(r:R2)(ta tb:TE):TE:=fun σ H Q=>ta σ H fun x H1=>tb σ H1 fun y H2=>r x y H2 Q
noncomputable def Mo(r:V→Hp→VK→Prop)(ta:TE):TE:=fun σ H Q=>ta σ H fun x H1=>r x H1 Q
noncomputable def rI(C:Int→Int→Prop)(g:Int→Int→V):R2:=fun x y H Q=>∃i j,x= .int i∧y= .int j∧C i j∧Q (g i j) H
noncomputable def AI(g:Int→Int→V):R2:=fun x y H Q=>∃i j,x= .int i∧y= .int j∧Q (g i j) H
noncomputable def rU(g:Int→V):V→Hp→VK→Prop:=fun x H Q=>∃i,x= .int i∧Q (g i) H
section
variable {X:Cx} {a b c:Expr} {ta tb tc:TE} {pos:Pos}
theorem GB(ha:PE X a ta)(hb:PE X b tb){pins:List (Addr × Obj)}{s:Shared}{σ:St}{H:Hp}{R:V→V→Hp→Prop}(I:Inv X pins σ H s)
 (h:ta σ H fun x H1=>tb σ H1 fun y H2=>R x y H2) {Q:Value→Shared→Prop} {f:Value→Value→Sem Value}
 (hf:∀v u s2 x y H2,Inv X pins σ H2 s2→RelV x v→RelV y u→R x y H2→wpAny (model X.prog X.w) X.A (f v u) Q X.xe s2) :
 wpAny (model X.prog X.w) X.A (eval a X.env) (fun v s₁=>wpAny (model X.prog X.w) X.A (eval b X.env) (fun u s₂=>wpAny (model X.prog X.w) X.A (f v u) Q X.xe s₂) X.xe s₁) X.xe s:=by
 refine dY (ha pins s σ H _ I h) fun v s1 ⟨x,H1,I1,r1,q1⟩=>?_
 refine dY (hb pins s1 σ H1 _ I1 q1) fun u s2 ⟨y,H2,I2,r2,q2⟩=>?_
 exact hf v u s2 x y H2 I2 r1 r2 q2
theorem zh{op:Operator}{r:R2}(ho:k6 X (binaryOp op) r)(ha:PE X a ta)(hb:PE X b tb):PE X (.BinOp a op b pos) (HZ r ta tb):=by
 intro pins s σ H Q I h
 exact wpAny_BinOp (GB ha hb I h fun v u s2 x y H2 I2 rx ry q=>ho pins s2 σ H2 x y v u Q I2 rx ry q)
theorem JB{op:UnaryOp}{r:V→Hp→VK→Prop}(ho:Kp X (unaryOp op) r)(ha:PE X a ta):PE X (.UnaryOp op a pos) (Mo r ta):=by
 intro pins s σ H Q I h
 exact UnaryOp_ (dY (ha pins s σ H _ I h) fun v s1 ⟨x,H1,I1,r1,q1⟩=>ho pins s1 σ H1 x v Q I1 r1 q1)
theorem Ju{f:Value→Value→Sem Value}{C:Int→Int→Prop}{g:Int→Int→Int}
 (rule:∀(i j:Int) (t u:Tok) (s:Shared) (Q:Value→Shared→Prop) (E:Value→Shared→Prop),C i j→Q (.int (g i j) s.toks) {s with toks:=s.toks+1}→wpAny (model X.prog X.w) X.A (f (.int i t) (.int j u)) Q E s) :
 k6 X f (rI C fun i j=> .int (g i j)):=by
 intro pins s σ H x y v u Q I rx ry h
 obtain⟨i,j,rfl,rfl,hc,q⟩:=h
 obtain⟨t,rfl⟩:=rx
 obtain⟨t',rfl⟩:=ry
 exact rule i j t t' s _ _ hc ⟨.int (g i j),H,I.tok _,⟨_,rfl⟩,q⟩
theorem Bi{f:Value→Value→Sem Value}{g:Int→Int→Int}
 (rule:∀(i j:Int) (t u:Tok) (s:Shared) (Q:Value→Shared→Prop) (E:Value→Shared→Prop),Q (.int (g i j) s.toks) {s with toks:=s.toks+1}→wpAny (model X.prog X.w) X.A (f (.int i t) (.int j u)) Q E s) :
 k6 X f (AI fun i j=> .int (g i j)):=by
 intro pins s σ H x y v u Q I rx ry h
 obtain⟨i,j,rfl,rfl,q⟩:=h
 obtain⟨t,rfl⟩:=rx
 obtain⟨t',rfl⟩:=ry
 exact rule i j t t' s _ _ ⟨.int (g i j),H,I.tok _,⟨_,rfl⟩,q⟩
theorem Hh{f:Value→Value→Sem Value}{g:Int→Int→Bool}
 (rule:∀(i j:Int) (t u:Tok) (s:Shared) (Q:Value→Shared→Prop) (E:Value→Shared→Prop),Q (.bool (g i j)) s→wpAny (model X.prog X.w) X.A (f (.int i t) (.int j u)) Q E s) :
 k6 X f (AI fun i j=> .bl (g i j)):=by
 intro pins s σ H x y v u Q I rx ry h
 obtain⟨i,j,rfl,rfl,q⟩:=h
 obtain⟨t,rfl⟩:=rx
 obtain⟨t',rfl⟩:=ry
 exact rule i j t t' s _ _ ⟨.bl (g i j),H,I,rfl,q⟩
noncomputable def Mu(i j:Int):Prop:=0 < j∧j < 1073741824
noncomputable def LB(i j:Int):Prop:=j≠0∧j.natAbs < 1073741824
noncomputable def KY(i j:Int):Prop:=0≤j∧j≤1000000∧i.natAbs < 2 ^ 64
noncomputable def GG(i j:Int):Prop:=(-(2 ^ 64) < i∧i < 2 ^ 64)∨(-(2 ^ 64) < j∧j < 2 ^ 64)
theorem GG.ok{i j:Int}(h:GG i j):IntMulOk i j:=by
 rcases h with⟨h1,h2⟩ | ⟨h1,h2⟩
 ·exact .of_left (intBits_le_64 h1 h2)
 ·exact .of_right (intBits_le_64 h1 h2)
theorem xI(k:Nat):(0:Int)≤2 ^ k:=by
 rw[two_pow_cast]
 exact Int.natCast_nonneg _
theorem Hg:k6 X (binaryOp .Add) (AI fun i j=> .int (i+j)):=Bi fun _ _ _ _ _ _ _ q=>add_int q
theorem G1:k6 X (binaryOp .Sub) (AI fun i j=> .int (i - j)):=Bi fun _ _ _ _ _ _ _ q=>sub_int q
theorem GH:k6 X (binaryOp .Mult) (rI GG fun i j=> .int (i*j)):=Ju fun _ _ _ _ _ _ _ hc q=>mul_int q hc.ok
theorem Gd:k6 X (binaryOp .Mod) (rI (fun _ j=>0 < j) fun i j=> .int (i % j)):=Ju fun i j _ _ _ _ _ hc q=>by
 have h1:(0:Int) < j:=hc
 exact mod_int' (by omega) (by rw[Int.fmod_eq_emod_of_nonneg i (by omega)];exact q)
theorem HJ:k6 X (binaryOp .Pow) (rI KY fun i j=> .int (i ^ j.toNat)):=Ju fun _ _ _ _ _ _ _ hc q=>pow_int_small hc.1 hc.2.1 hc.2.2 q
theorem HE:k6 X (binaryOp .RShift) (rI (fun _ j=>0≤j) fun i j=> .int (i / 2 ^ j.toNat)):=Ju fun i j _ _ _ _ _ hc q=>
 rshift_int hc (by rw[Int.fdiv_eq_ediv_of_nonneg i (xI _)];exact q)
theorem Gk:k6 X (binaryOp .BitAnd) (AI fun i j=> .int (Builtin.bitAnd i j)):=Bi fun _ _ _ _ _ _ _ q=>and_int q
theorem Iu:k6 X (binaryOp .BitOr) (AI fun i j=> .int (Builtin.bitOr i j)):=Bi fun _ _ _ _ _ _ _ q=>or_int q
theorem Hc:k6 X (binaryOp .BitXor) (AI fun i j=> .int (Builtin.bitXor i j)):=Bi fun _ _ _ _ _ _ _ q=>xor_int q
theorem MI{f:Value→Sem Value}{g:Int→Int}
 (rule:∀(i:Int) (t:Tok) (s:Shared) (Q:Value→Shared→Prop) (E:Value→Shared→Prop),Q (.int (g i) s.toks) {s with toks:=s.toks+1}→wpAny (model X.prog X.w) X.A (f (.int i t)) Q E s) :
 Kp X f (rU fun i=> .int (g i)):=by
 intro pins s σ H x v Q I rx h
 obtain⟨i,rfl,q⟩:=h
 obtain⟨t,rfl⟩:=rx
 exact rule i t s _ _ ⟨.int (g i),H,I.tok _,⟨_,rfl⟩,q⟩
theorem Gs:Kp X (unaryOp .USub) (rU fun i=> .int (-i)):=MI fun _ _ _ _ _ q=>neg_int q
end
noncomputable def Jc:V→V→Bool
 | .cI, .cI=>true | .cI, .int _=>true | .int _, .cI=>true | .cI, .bl _=>true | .bl _, .cI=>true | .cI, .str _=>true | .str _, .cI=>true
 | .int _, .int _=>true | .bl _, .bl _=>true | .str _, .str _=>true | .byt _, .byt _=>true
 | .int _, .str _=>true | .str _, .int _=>true | .bl _, .str _=>true | .str _, .bl _=>true
 | _,_=>false
noncomputable def Mj:R2:=fun x y H Q=>Jc x y=true∧Q (.bl (decide (x=y))) H
noncomputable def MC:R2:=fun x y H Q=>Jc x y=true∧Q (.bl (!decide (x=y))) H
theorem zf{i j:Int}:decide (V.int i=V.int j)=(i==j):=by
 rw[Bool.eq_iff_iff]
 simp
theorem C7{i j:Bool}:decide (V.bl i=V.bl j)=(i==j):=by
 rw[Bool.eq_iff_iff]
 simp
theorem y6{i j:Str}:decide (V.str i=V.str j)=(i==j):=by
 rw[Bool.eq_iff_iff]
 simp
theorem yu{i j:Array UInt8}:decide (V.byt i=V.byt j)=(i.toList==j.toList):=by
 rw[Bool.eq_iff_iff]
 cases i
 cases j
 simp
section
variable {X:Cx} {a b c:Expr} {ta tb tc:TE} {pos:Pos}
theorem cc{pins:List (Addr × Obj)}{σ:St}{H:Hp}{s:Shared}{Q:VK}{k k':Bool}(I:Inv X pins σ H s)(q:Q (.bl k) H)(e:k=k'):EP X pins σ Q (.bool k') s:=by
 subst e
 exact⟨.bl k,H,I,rfl,q⟩
theorem BU:k6 X (compareOp .Eq) Mj:=by
 intro pins s σ H x y v u Q I rx ry h
 obtain⟨hs,q⟩:=h
 cases x with
 | cI=>
   cases rx
   cases y with
   | cI=>cases ry;exact PySem.EqNone.eq_none_none (cc I q (by simp))
   | bl j=>cases ry;exact PySem.EqNone.eq_none_bool (cc I q (by simp))
   | int j=>obtain⟨t',rfl⟩:=ry;exact PySem.EqNone.eq_none_int (cc I q (by simp))
   | str j=>obtain⟨t',rfl⟩:=ry;exact PySem.EqNone.eq_none_str (cc I q (by simp))
   | _=>exact absurd (show false=true from hs) Bool.false_ne_true
 | bl i=>
   cases rx
   cases y with
   | cI=>cases ry;exact PySem.EqNone.eq_bool_none (cc I q (by simp))
   | bl j=>cases ry;exact eq_bool (cc I q C7)
   | str j=>obtain⟨t',rfl⟩:=ry;exact PySem.EqMixed.eq_bool_str (cc I q (by simp))
   | _=>exact absurd (show false=true from hs) Bool.false_ne_true
 | int i=>
   obtain⟨t,rfl⟩:=rx
   cases y with
   | cI=>cases ry;exact PySem.EqNone.eq_int_none (cc I q (by simp))
   | int j=>obtain⟨t',rfl⟩:=ry;exact eq_int (cc I q zf)
   | str j=>obtain⟨t',rfl⟩:=ry;exact PySem.EqMixed.eq_int_str (cc I q (by simp))
   | _=>exact absurd (show false=true from hs) Bool.false_ne_true
 | str i=>
   obtain⟨t,rfl⟩:=rx
   cases y with
   | cI=>cases ry;exact PySem.EqNone.eq_str_none (cc I q (by simp))
   | bl j=>cases ry;exact PySem.EqMixed.eq_str_bool (cc I q (by simp))
   | int j=>obtain⟨t',rfl⟩:=ry;exact PySem.EqMixed.eq_str_int (cc I q (by simp))
   | str j=>obtain⟨t',rfl⟩:=ry;exact eq_str (cc I q y6)
   | _=>exact absurd (show false=true from hs) Bool.false_ne_true
 | byt i=>
   obtain⟨t,rfl⟩:=rx
   cases y with
   | byt j=>obtain⟨t',rfl⟩:=ry;exact PySem.W.eq_bytes (cc I q yu)
   | _=>exact absurd (show false=true from hs) Bool.false_ne_true
 | _=>cases y <;> exact absurd (show false=true from hs) Bool.false_ne_true
theorem BD:k6 X (compareOp .NotEq) MC:=by
 intro pins s σ H x y v u Q I rx ry h
 obtain⟨hs,q⟩:=h
 cases x with
 | cI=>
   cases rx
   cases y with
   | cI=>cases ry;exact PySem.EqNone.ne_none_none (cc I q (by simp))
   | bl j=>cases ry;exact PySem.EqNone.ne_none_bool (cc I q (by simp))
   | int j=>obtain⟨t',rfl⟩:=ry;exact PySem.EqNone.ne_none_int (cc I q (by simp))
   | str j=>obtain⟨t',rfl⟩:=ry;exact PySem.EqNone.ne_none_str (cc I q (by simp))
   | _=>exact absurd (show false=true from hs) Bool.false_ne_true
 | bl i=>
   cases rx
   cases y with
   | cI=>cases ry;exact PySem.EqNone.ne_bool_none (cc I q (by simp))
   | bl j=>cases ry;exact ne_bool (cc I q (congrArg not C7))
   | str j=>obtain⟨t',rfl⟩:=ry;exact PySem.EqMixed.ne_bool_str (cc I q (by simp))
   | _=>exact absurd (show false=true from hs) Bool.false_ne_true
 | int i=>
   obtain⟨t,rfl⟩:=rx
   cases y with
   | cI=>cases ry;exact PySem.EqNone.ne_int_none (cc I q (by simp))
   | int j=>obtain⟨t',rfl⟩:=ry;exact ne_int (cc I q (congrArg not zf))
   | str j=>obtain⟨t',rfl⟩:=ry;exact PySem.EqMixed.ne_int_str (cc I q (by simp))
   | _=>exact absurd (show false=true from hs) Bool.false_ne_true
 | str i=>
   obtain⟨t,rfl⟩:=rx
   cases y with
   | cI=>cases ry;exact PySem.EqNone.ne_str_none (cc I q (by simp))
   | bl j=>cases ry;exact PySem.EqMixed.ne_str_bool (cc I q (by simp))
   | int j=>obtain⟨t',rfl⟩:=ry;exact PySem.EqMixed.ne_str_int (cc I q (by simp))
   | str j=>obtain⟨t',rfl⟩:=ry;exact ne_str (cc I q (congrArg not y6))
   | _=>exact absurd (show false=true from hs) Bool.false_ne_true
 | byt i=>
   obtain⟨t,rfl⟩:=rx
   cases y with
   | byt j=>obtain⟨t',rfl⟩:=ry;exact PySem.W.ne_bytes (cc I q (congrArg not yu))
   | _=>exact absurd (show false=true from hs) Bool.false_ne_true
 | _=>cases y <;> exact absurd (show false=true from hs) Bool.false_ne_true
theorem JG:k6 X (compareOp .Lt) (AI fun i j=> .bl (decide (i < j))):=Hh fun _ _ _ _ _ _ _ q=>lt_int q
theorem JA:k6 X (compareOp .Gt) (AI fun i j=> .bl (decide (j < i))):=Hh fun _ _ _ _ _ _ _ q=>gt_int q
theorem I_:k6 X (compareOp .GtE) (AI fun i j=> .bl (decide (j≤i))):=Hh fun _ _ _ _ _ _ _ q=>ge_int q
theorem zW:k6 X (compareOp .In) (fun x y H Q=>∃i j,x= .str i∧y= .str j∧Q (.bl (!(Builtin.Str.occurrences j i 0 j.length 1).isEmpty)) H):=by
 intro pins s σ H x y v u Q I rx ry h
 obtain⟨i,j,rfl,rfl,q⟩:=h
 obtain⟨t,rfl⟩:=rx
 obtain⟨t',rfl⟩:=ry
 exact in_str (cc I q rfl)
theorem Hk:k6 X (compareOp .Is) (fun x y H Q=>y= .cI∧Q (.bl (decide (x= .cI))) H):=by
 intro pins s σ H x y v u Q I rx ry h
 obtain⟨rfl,q⟩:=h
 cases ry
 refine is_none_gen (cc I q ?_)
 cases x <;> first
  | (cases rx;rfl)
  | (obtain⟨t,rfl⟩:=rx;rfl)
theorem Fe:k6 X (compareOp .IsNot) (fun x y H Q=>y= .cI∧Q (.bl (!decide (x= .cI))) H):=by
 intro pins s σ H x y v u Q I rx ry h
 obtain⟨rfl,q⟩:=h
 cases ry
 refine isnot_none_gen (cc I q ?_)
 cases x <;> first
  | (cases rx;rfl)
  | (obtain⟨t,rfl⟩:=rx;rfl)
noncomputable def isObj:HO→Bool
 | .lst _=>true
 | .ins _ _ _=>true
 | _=>false
theorem bF(b:Expr){op:CmpOp}(h:op≠ .In:=by decide)(h2:op≠ .NotIn:=by decide):behindInMarks op b=false:=by
 have e1:(op==CmpOp.In)=false:=by cases op <;> first | rfl | exact absurd rfl h
 have e2:(op==CmpOp.NotIn)=false:=by cases op <;> first | rfl | exact absurd rfl h2
 cases b <;> simp [behindInMarks,e1,e2]
theorem yZ{op:CmpOp}{r:R2}(ho:k6 X (compareOp op) r)(ha:PE X a ta)(hb:PE X b tb)(hm:behindInMarks op b=false):PE X (.Compare a [op] [b] pos) (HZ r ta tb):=by
 intro pins s σ H Q I h
 exact wpAny_Compare1 (GB ha hb I h fun v u s2 x y H2 I2 rx ry q=>ho pins s2 σ H2 x y v u Q I2 rx ry q) hm
noncomputable def IP(t:TE):TT:=fun σ H Q=>t σ H fun x H'=>∃k,x= .bl k∧Q k H'
theorem y9{op:CmpOp}{r:R2}(ho:k6 X (compareOp op) r)(ha:PE X a ta)(hb:PE X b tb)(hm:behindInMarks op b=false):PT X (.Compare a [op] [b] pos) (IP (HZ r ta tb)):=by
 intro pins s σ H Q I h
 refine wpAny_isTrue_Compare1 (dY (ha pins s σ H _ I h) fun v s1 ⟨x,H1,I1,r1,q1⟩=>dY (hb pins s1 σ H1 _ I1 q1) fun u s2 ⟨y,H2,I2,r2,q2⟩=>
  dY (ho pins s2 σ H2 x y v u _ I2 r1 r2 q2) fun c s3 ⟨z,H3,I3,r3,k,e,q3⟩=>?_) hm
 subst e
 cases r3
 exact wpAny_truthy_bool ⟨H3,I3,q3⟩
noncomputable def Kb(r r':R2)(ta tb tc:TE):TE:=fun σ H Q=>ta σ H fun x H1=>tb σ H1 fun y H2=>r x y H2 fun z H3=>∃k,z= .bl k∧
 (if k=true then tc σ H3 fun w' H4=>r' y w' H4 Q else Q (.bl false) H3)
noncomputable def Fw(K:PySem.W.Frag)(x:V)(H:Hp)(k:Bool):Prop:=
 match x with
 | .cI=>k=false
 | .bl b=>k=b
 | .int i=>k=(i !=0)
 | .str y=>y.length≤sizeLine∧k=((y.length:Int) !=0)
 | .byt y=>y.size≤sizeLine∧k=((y.size:Int) !=0)
 | .ref p=>(∃xs,ny K H p xs∧k=!xs.isEmpty)∨(∃xs,pK K H p xs∧k=!xs.isEmpty)∨∃kvs,H p=some (.dK kvs)∧k=!kvs.isEmpty
 | _=>False
theorem xQ{κ:Type}{kvs:List (κ × V)}{vs:List (κ × Value)}(r:KV kvs vs):(!vs.isEmpty)=!kvs.isEmpty:=by
 cases r <;> rfl
theorem q8{xs:List V}{its:List Value}(r:Vals xs its):(!its.toArray.isEmpty)=!xs.isEmpty:=by
 cases r <;> simp
theorem oF:(sizeLine:Nat) < 2 ^ 63:=by rw[sizeLine_eq];decide
theorem F6:Kh X (fun x H Q=>∃k,Fw X.K x H k∧Q k H):=by
 intro pins s σ H x v Q I rx h
 obtain⟨k,e,q⟩:=h
 have hl:=oF
 have hs:sizeLine=16777216:=sizeLine_eq
 cases x with
 | cI=>
   cases rx
   have e':k=false:=e
   subst e'
   exact truthy_none ⟨H,I,q⟩
 | bl b=>
   cases rx
   have e':k=b:=e
   subst e'
   exact wpAny_truthy_bool ⟨H,I,q⟩
 | int i=>
   obtain⟨t,rfl⟩:=rx
   have e':k=(i !=0):=e
   subst e'
   exact PySem.P.truthy_int ⟨H,I,q⟩
 | str y=>
   obtain⟨t,rfl⟩:=rx
   obtain⟨hy,e'⟩:y.length≤sizeLine∧k=((y.length:Int) !=0):=e
   subst e'
   exact PySem.P.truthy_str (by omega) ⟨H,I.tok _,q⟩
 | byt y=>
   obtain⟨t,rfl⟩:=rx
   obtain⟨hy,e'⟩:y.size≤sizeLine∧k=((y.size:Int) !=0):=e
   subst e'
   exact PySem.W.truthy_bytes (by omega) ⟨H,I.tok _,q⟩
 | ref p=>
   cases rx
   have e':(∃xs,ny X.K H p xs∧k=!xs.isEmpty)∨(∃xs,pK X.K H p xs∧k=!xs.isEmpty)∨∃kvs,H p=some (.dK kvs)∧k=!kvs.isEmpty:=e
   rcases e' with⟨xs,hx,e'⟩ | ⟨xs,hx,e'⟩ | ⟨kvs,hx,e'⟩
   ·subst e'
    obtain⟨its,r,pl,hz⟩:=I.list hx
    have hlen:=r.length
    exact wpAny_truthy_list pl.isList (by simp only[List.size_toArray];omega) ⟨H,I.tok _,by rw[q8 r];exact q⟩
   ·subst e'
    obtain⟨its,r,pl,hz⟩:=I.tuple hx
    have hlen:=r.length
    exact truthy_tuple pl (by simp only[List.size_toArray];omega) ⟨H,I.tok _,by rw[q8 r];exact q⟩
   ·subst e'
    obtain⟨hz,hS,vs,r,m⟩:kvs.length≤sizeLine∧(p==sysModules)=false∧∃vs,KV kvs vs∧s.heap.DictOf (dQ X.prog X.w) p vs:=I.hok p _ hx
    have hlen:kvs.length=vs.length:=Paired.length r
    exact wpAny_truthy_dict hS m (by omega) ⟨H,I.tok _,by rw[xQ r];exact q⟩
 | _=>exact(show False from e).elim
theorem v_(ha:PE X a ta)(he:∀whole,isTrue a X.env whole=(do let v ←whole;standAt a.pos;holding [v] (truthy v))) :
 PT X a (fun σ H Q=>ta σ H fun x H'=>∃k,Fw X.K x H' k∧Q k H'):=by
 intro pins s σ H Q I h
 exact isTrue_plain (dY (ha pins s σ H _ I h) fun v s1 ⟨x,H1,I1,r1,q1⟩=>F6 pins s1 σ H1 x v Q I1 r1 q1) (he _)
theorem xr:k6 X (binaryOp .Add) (fun x y H Q=>∃i j,x= .str i∧y= .str j∧i.length+j.length≤sizeLine∧Q (.str (i++j)) H):=by
 intro pins s σ H x y v u Q I rx ry h
 obtain⟨i,j,rfl,rfl,hz,q⟩:=h
 obtain⟨t,rfl⟩:=rx
 obtain⟨t',rfl⟩:=ry
 exact add_str (fun t' tk=>⟨.str (i++j),H,I.tok _,⟨_,rfl⟩,q⟩) hz
noncomputable def Io(b:Expr):Prop:=∀o i,subscripted b false o i=operate [o,i] (getItem o i)
theorem vals1{x:V}{us:List Value}(r:Vals [x] us):∃u,us=[u]∧RelV x u:=by
 cases r with
 | cons r1 r2=>cases r2;exact⟨_,rfl,r1⟩
theorem vals2{x y:V}{us:List Value}(r:Vals [x,y] us):∃u w',us=[u,w']∧RelV x u∧RelV y w':=by
 cases r with
 | cons r1 r2=>
   cases r2 with
   | cons r3 r4=>cases r4;exact⟨_,_,rfl,r1,r3⟩
theorem Co:jR X (.builtin "abs") (fun xs H Q=>∃i,xs=[.int i]∧Q (.int (if i < 0 then -i else i)) H):=by
 intro pins s σ H xs us Q I r h
 obtain⟨i,rfl,q⟩:=h
 obtain⟨u,rfl,t,rfl⟩:=vals1 r
 exact call_abs_int fun u tk=>⟨.int (if i < 0 then -i else i),H,I.tok _,⟨_,rfl⟩,q⟩
theorem zV(hc:X.calm=true):jR X (.builtin "max") (fun xs H Q=>∃i j,xs=[.int i, .int j]∧Q (.int (if j > i then j else i)) H):=by
 intro pins s σ H xs us Q I r h
 obtain⟨i,j,rfl,q⟩:=h
 obtain⟨u,w',rfl,⟨t,rfl⟩,⟨t',rfl⟩⟩:=vals2 r
 refine max_two_ints (I.ok.hd hc) fun h' tk k=>⟨_,H,I.kept k,?_,q⟩
 by_cases hj:j > i
 ·rw[if_pos hj,if_pos hj];exact⟨_,rfl⟩
 ·rw[if_neg hj,if_neg hj];exact⟨_,rfl⟩
theorem Az(hc:X.calm=true):jR X (.builtin "min") (fun xs H Q=>∃i j,xs=[.int i, .int j]∧Q (.int (if j < i then j else i)) H):=by
 intro pins s σ H xs us Q I r h
 obtain⟨i,j,rfl,q⟩:=h
 obtain⟨u,w',rfl,⟨t,rfl⟩,⟨t',rfl⟩⟩:=vals2 r
 refine min_two_ints (I.ok.hd hc) fun h' tk k=>⟨_,H,I.kept k,?_,q⟩
 by_cases hj:j < i
 ·rw[if_pos hj,if_pos hj];exact⟨_,rfl⟩
 ·rw[if_neg hj,if_neg hj];exact⟨_,rfl⟩
theorem Aj:jR X (.type "int") (fun xs H Q=>(∃i,xs=[.int i]∧Q (.int i) H)∨∃k,xs=[.bl k]∧Q (.int (if k then 1 else 0)) H):=by
 intro pins s σ H xs us Q I r h
 rcases h with⟨i,rfl,q⟩ | ⟨k,rfl,q⟩
 ·obtain⟨u,rfl,t,rfl⟩:=vals1 r
  exact call_int_int ⟨.int i,H,I,⟨_,rfl⟩,q⟩
 ·obtain⟨u,rfl,r1⟩:=vals1 r
  cases r1
  exact call_int_bool ⟨.int (if k then 1 else 0),H,I.tok _,⟨_,rfl⟩,q⟩
noncomputable def Kg(K:PySem.W.Frag)(x:V)(H:Hp)(n:Nat):Prop:=
 match x with
 | .str y=>y.length≤sizeLine∧n=y.length
 | .byt y=>y.size≤sizeLine∧n=y.size
 | .ref p=>(∃xs,ny K H p xs∧n=xs.length)∨∃xs,pK K H p xs∧n=xs.length
 | _=>False
theorem Ba:jR X (.builtin "len") (fun xs H Q=>∃x n,xs=[x]∧Kg X.K x H n∧Q (.int n) H):=by
 intro pins s σ H xs us Q I r h
 obtain⟨x,n,rfl,e,q⟩:=h
 obtain⟨u,rfl,rx⟩:=vals1 r
 have hl:=oF
 have hs:sizeLine=16777216:=sizeLine_eq
 cases x with
 | str y=>
   obtain⟨t,rfl⟩:=rx
   obtain⟨hy,e'⟩:y.length≤sizeLine∧n=y.length:=e
   subst e'
   exact len_str (by omega) ⟨.int _,H,I.tok _,⟨_,rfl⟩,q⟩
 | byt y=>
   obtain⟨t,rfl⟩:=rx
   obtain⟨hy,e'⟩:y.size≤sizeLine∧n=y.size:=e
   subst e'
   exact PySem.W.len_bytes (by omega) ⟨.int _,H,I.tok _,⟨_,rfl⟩,q⟩
 | ref p=>
   cases rx
   have e':(∃xs,ny X.K H p xs∧n=xs.length)∨∃xs,pK X.K H p xs∧n=xs.length:=e
   rcases e' with⟨xs,hx,e'⟩ | ⟨xs,hx,e'⟩
   ·subst e'
    obtain⟨its,r',pl,hz⟩:=I.list hx
    have hlen:=r'.length
    exact Calls.call_len_list pl.isList (by simp only[List.size_toArray];omega) ⟨.int xs.length,H,I.tok _,⟨_,by simp only[List.size_toArray];rw [hlen]⟩,q⟩
   ·subst e'
    obtain⟨its,r',pl,hz⟩:=I.tuple hx
    have hlen:=r'.length
    exact len_tuple pl (by simp only[List.size_toArray];omega) ⟨.int xs.length,H,I.tok _,⟨_,by simp only[List.size_toArray];rw [hlen]⟩,q⟩
 | _=>exact(show False from e).elim
end
end L2
namespace L2
open PySem PySem.Spec PyProof.Rows
structure xG (h:Heap) (x dx C:Addr) (mA:Str→Option Value):Prop where
 obj:h.get? x=some (PySem.W.instObj C dx)
 ns:h.Ns1 dx mA
 ne:dx≠x
theorem zE{h:Heap}{dx:Addr}{mA:Str→Option Value}(n:h.Ns1 dx mA):∃od,h.get? dx=some od∧∀name,PySem.W.lookIn name od=some (mA name):=by
 obtain⟨o,es,ep,ho,hd,hk,_,hm⟩:=n
 refine⟨o,ho,fun name=>?_⟩
 have e:=hm name
 unfold nsFind findBy at e
 rw[←Array.find?_toList] at e
 unfold PySem.W.lookIn
 rw[hd]
 dsimp only
 split
 ·rename_i y q
  rw[q] at e
  exact congrArg some e
 ·rename_i q
  rw[q] at e
  have a:es.toList.any (·.refKey)=false:=by
   rw[List.any_eq_false]
   intro y hy
   obtain⟨z,t,hkey⟩:=hk y (Array.mem_toList_iff.mp hy)
   simp [DictEntry.refKey,hkey]
  have a':¬es.toList.any (·.refKey)=true:=by rw[a];exact Bool.false_ne_true
  rw[if_neg a']
  exact congrArg some e
theorem xG.look{h:Heap}{x dx C:Addr}{mA:Str→Option Value}(I:xG h x dx C mA):∃od,PySem.W.InstAt h x (PySem.W.instObj C dx) C (some od)∧∀name,PySem.W.lookIn name od=some (mA name):=
 let⟨od,ho,hl⟩:=zE I.ns
 ⟨od,⟨I.obj,rfl,rfl,ho⟩,hl⟩
section
variable {prog:Program} {w:World} {A:Around} {E:Value→Shared→Prop} {s:Shared} {K:PySem.W.Frag} {x dx C f:Addr} {mA:Str→Option Value} {name:Str} {v:Value}
theorem get_map{expr:Bool}{Q:Value→Shared→Prop}(X:K.In s.heap)(I:xG s.heap x dx C mA)(hg:PySem.W.plainGet K C name=true)(hh:PySem.W.hasDictIn K C=true)
 (ha:PySem.W.findIn K (.ref C) name=some none) (hv:mA name=some v) (hv':PySem.W.handedIn v=true) (h:Q v {s with toks:=s.toks+1}) :
 wpAny (model prog w) A (getAttr (.ref x) name expr) Q E s:=by
 obtain⟨od,J,hl⟩:=I.look
 exact PySem.W.get_value X J (PySem.W.plainGet_of hg).1 (PySem.W.findObj_own hh ha rfl (by rw[hl,hv])) hv' h
theorem AY{pl:Sem Bool}{Q:Value × List Value→Shared→Prop}(X:K.In s.heap)(I:xG s.heap x dx C mA)(hg:PySem.W.plainGet K C name=true)
 (hf:PySem.W.findIn K (.ref C) name=some (some (.ref f))) (ht:PySem.W.isFn K (.ref f)=true) (hv:mA name=none) (h:Q (.ref f,[.ref x]) s) :
 wpAny (model prog w) A (getMethod (.ref x) name pl) Q E s:=by
 obtain⟨od,J,hl⟩:=I.look
 exact PySem.W.method_fn X J (PySem.W.plainGet_of hg).1 (PySem.W.plainGet_of hg).2 hf (beq_iff_eq.mp ht) (by show(PySem.W.lookIn name od).map (·.isSome)=some false;rw [hl,hv];rfl) h
theorem DL{ns:List Str}{Q:Unit→Shared→Prop}(X:K.In s.heap)(I:xG s.heap x dx C mA)
 (hs:PySem.W.findIn K (.ref C) "__setattr__"=some (some (.builtin "object.__setattr__"))) (hp:PySem.W.plainOver K C=true) (ht:PySem.W.takerIn K C name=some none) (hh:PySem.W.hasDictIn K C=true)
 (hw:PySem.Within mA ns) (hsz:ns.length≤sizeLine)
 (h:∀h',xG h' x dx C (fun y=>if y=name then some v else mA y)→Heap.SameBut dx s.heap h'→Q () {s with heap:=h',toks:=s.toks+2}) :
 wpAny (model prog w) A (setAttr (.ref x) name v) Q E s:=by
 obtain⟨od,J,hl⟩:=I.look
 refine PySem.W.set_plain X J hs (PySem.W.osa_open (s:={s with toks:=s.toks+1}) (r:=none) X J hp ht fun b=>?_)
 obtain⟨cd,hc,hd'⟩:=PySem.W.any_some hh
 have hx:s.heap.get? x=some ⟨.ref C,some dx, .plain,#[]⟩:=I.obj
 refine wpAny_bind (wpAny_pure (wpAny_bind (wpAny_bind (wpAny_loadPart hx (wpAny_bind (PySem.W.Looks.here (s:={s with toks:=s.toks+1}) (PySem.W.looks_clsIn X hc) ?_))))))
 rw[hd']
 refine wpAny_pure (a:=some dx) (wpAny_bind (wpAny_pure (wpAny_bind ?_)))
 refine wpAny_nsSet1 (s:={s with toks:=s.toks+1}) I.ns fun h' hn2 hs2=>?_
 obtain⟨oD,esD,epD,hoD,hdD,hcD⟩:=hn2.count (PySem.Within.cons name v hw)
 refine wpAny_bind (wpAny_lookBehind hoD (by rw[hdD];exact pastItsLine_dict (Nat.le_trans hcD (by rw[List.length_cons];omega))) ?_)
 exact wpAny_pure (h _ ⟨(hs2.2 _ (Ne.symm I.ne)).trans I.obj,hn2,I.ne⟩ hs2)
theorem Cq{R:Result→Shared→Prop}{vs:List Value}{kw:List (Str × Value)}(X:K.In s.heap)(hm:PySem.W.makesIn K C=true)
 (hi:PySem.W.findIn K (.ref C) "__init__"=some (some (.ref f))) (hf:PySem.W.typeIn K (.ref f)=some (.type "function"))
 (h:codeAny (model prog w) (A.under (.builtin "type.__call__" ⟨.ref C ::vs,kw⟩)) (.call (.ref f) ⟨.ref (s.heap.objs.size+1) ::vs,kw⟩) (PySem.W.InitBack (s.heap.objs.size+1) R)
   {s with heap:=(s.heap.push PySem.W.emptyDict).push (PySem.W.instObj C s.heap.objs.size)}) :
 codeAny (model prog w) A (.call (.ref C) ⟨vs,kw⟩) R s:=by
 obtain⟨hh,g,d,t,os⟩:=s
 exact PySem.W.make_core (PySem.W.makes_of X hm) (PySem.W.looks_findIn X hi) (fun self=>PySem.W.bind_fn X self hf) (.inl rfl) h
end
noncomputable def jO(f:Str)(v:V):List (Str × V)→List (Str × V)
 | []=>[(f,v)]
 | (g,x) ::r=>if g=f then(g,v) ::r else(g,x) ::jO f v r
theorem pf(f g:Str)(v:V):∀fs:List (Str × V),(jO f v fs).lookup g=if g=f then some v else fs.lookup g
 | []=>by
   show List.lookup g [(f,v)]=_
   by_cases h:g=f
   ·have hb:(g==f)=true:=beq_iff_eq.mpr h
    simp only[List.lookup,hb,if_pos h]
   ·have hb:(g==f)=false:=beq_eq_false_iff_ne.mpr h
    simp only[List.lookup,hb,if_neg h]
 | (k,x) ::r=>by
   have ih:=pf f g v r
   rw[show jO f v ((k,x) ::r)=(if k=f then(k,v) ::r else(k,x) ::jO f v r) from rfl]
   by_cases hk:k=f
   ·rw[if_pos hk]
    by_cases h:g=k
    ·have hb:(g==k)=true:=beq_iff_eq.mpr h
     simp only[List.lookup,hb,if_pos (h.trans hk)]
    ·have hb:(g==k)=false:=beq_eq_false_iff_ne.mpr h
     simp only[List.lookup,hb,if_neg (fun e:g=f=>h (e.trans hk.symm))]
   ·rw[if_neg hk]
    by_cases h:g=k
    ·have hb:(g==k)=true:=beq_iff_eq.mpr h
     simp only[List.lookup,hb,if_neg (fun e:g=f=>hk (h.symm.trans e))]
    ·have hb:(g==k)=false:=beq_eq_false_iff_ne.mpr h
     simp only[List.lookup,hb]
     exact ih
theorem o4(f:Str)(v:V):∀fs:List (Str × V),f∈(jO f v fs).map (·.1)∧∀g,g∈fs.map (·.1)→g∈(jO f v fs).map (·.1)
 | []=>⟨by simp [jO],fun g h=>by simp at h⟩
 | (k,x) ::r=>by
   obtain⟨i1,i2⟩:=o4 f v r
   rw[show jO f v ((k,x) ::r)=(if k=f then(k,v) ::r else(k,x) ::jO f v r) from rfl]
   by_cases hk:k=f
   ·rw[if_pos hk]
    subst hk
    exact⟨by simp,fun g h=>by simpa using h⟩
   ·rw[if_neg hk]
    refine⟨?_,fun g h=>?_⟩
    ·rw[List.map_cons]
     exact List.mem_cons_of_mem _ i1
    ·rw[List.map_cons] at h ⊢
     rcases List.mem_cons.mp h with e | e
     ·exact List.mem_cons.mpr (.inl e)
     ·exact List.mem_cons_of_mem _ (i2 g e)
theorem pE(f:Str)(v:V):∀fs:List (Str × V),(jO f v fs).length≤fs.length+1
 | []=>by simp [jO]
 | (k,x) ::r=>by
   have ih:=pE f v r
   rw[show jO f v ((k,x) ::r)=(if k=f then(k,v) ::r else(k,x) ::jO f v r) from rfl]
   by_cases hk:k=f
   ·rw[if_pos hk,List.length_cons,List.length_cons];omega
   ·rw[if_neg hk,List.length_cons,List.length_cons];omega
theorem nS.some_of{v:V}{o:Option Value}(r:nS (some v) o):∃u,o=some u∧RelV v u:=by
 cases o with
 | none=>exact(show False from r).elim
 | some u=>exact⟨u,rfl,r⟩
theorem nS.none_of{o:Option Value}(r:nS none o):o=none:=by
 cases o with
 | none=>rfl
 | some u=>exact(show False from r).elim
theorem zU{v:V}{u:Value}(r:RelV v u):PySem.W.handedIn u=true:=by
 cases v with
 | cI=>cases(show u=Value.none from r);rfl
 | bl b=>cases(show u=Value.bool b from r);rfl
 | int i=>obtain⟨t,e⟩:=(show ∃t,u=Value.int i t from r);cases e;rfl
 | str x=>obtain⟨t,e⟩:=(show ∃t,u=Value.str x t from r);cases e;rfl
 | byt b=>obtain⟨t,e⟩:=(show ∃t,u=Value.bytes b t from r);cases e;rfl
 | flt b=>obtain⟨t,e⟩:=(show ∃t,u=Value.float b t from r);cases e;rfl
 | ref a=>cases(show u=Value.ref a from r);rfl
 | ty n=>cases(show u=Value.type n from r);rfl
section
variable {P:Program} {w:World} {H H':Hp} {h h':Heap} {a C dx:Addr} {fs fs':List (Str × V)}
theorem qm(hok:mG P w H h)(e:H a=some (.ins C dx fs)):∃mA,xG h a dx C mA∧(∀f,nS (fs.lookup f) (mA f))∧PySem.Within mA (fs.map (·.1))∧fs.length≤1000∧H dx=some (.own a):=by
 obtain⟨d,z,ne,ob,mA,n,r,q⟩:=(show dZ P w H h a (.ins C dx fs) from hok a _ e)
 exact⟨mA,⟨ob,n,ne⟩,r,q,z,d⟩
end
structure u0 (K:PySem.W.Frag) (C:Addr):Prop where
 pg:PySem.W.plainGet K C Str.empty=true
 hd:PySem.W.hasDictIn K C=true
 po:PySem.W.plainOver K C=true
 sa:PySem.W.findIn K (.ref C) "__setattr__"=some (some (.builtin "object.__setattr__"))
theorem u0.get{K:PySem.W.Frag}{C:Addr}(c:u0 K C)(f:Str):PySem.W.plainGet K C f=true:=c.pg
noncomputable def dk(K:PySem.W.Frag)(C:Addr)(f:Str):Prop:=PySem.W.findIn K (.ref C) f=some none
theorem dk.IC{K:PySem.W.Frag}{C:Addr}{f:Str}(n:dk K C f):PySem.W.takerIn K C f=some none:=by
 unfold PySem.W.takerIn
 rw[show PySem.W.findIn K (.ref C) f=some none from n]
 rfl
structure MN (K:PySem.W.Frag) (C:Addr) (f:Str) (v:V) (u:Value):Prop where
 at_:PySem.W.findIn K (.ref C) f=some (some u)
 rel:RelV v u
 get:PySem.W.specialIn K u "__get__"=some none
 cp:PySem.W.copiedNames.contains f=false
structure Meth (K:PySem.W.Frag) (C:Addr) (m:Str) (f:Addr):Prop where
 at_:PySem.W.findIn K (.ref C) m=some (some (.ref f))
 fn:PySem.W.isFn K (.ref f)=true
 kp:PySem.W.keepIn K (.ref f)=true
section
variable {X:Cx} {pins:List (Addr × Obj)} {σ:St} {H:Hp} {s:Shared} {a C dx:Addr} {fs:List (Str × V)} {f:Str} {v:V} {A:Around} {E:Value→Shared→Prop}
theorem ym{b:Bool}{Q:Value→Shared→Prop}(I:Inv X pins σ H s)(e:H a=some (.ins C dx fs))(c:u0 X.K C)(n:dk X.K C f)(l:fs.lookup f=some v)
 (h:∀u s',Inv X pins σ H s'→RelV v u→Q u s'):wpAny (model X.prog X.w) A (getAttr (.ref a) f b) Q E s:=by
 obtain⟨mA,O,r,_,_,_⟩:=qm I.hok e
 obtain⟨u,hu,ru⟩:=nS.some_of (v:=v) (o:=mA f) (by rw[←l];exact r f)
 exact get_map I.oX O (c.get f) c.hd n hu (zU ru) (h u _ (I.tok _) ru)
theorem yc{m:Str}{g:Addr}{pl:Sem Bool}{Q:Value × List Value→Shared→Prop}(I:Inv X pins σ H s)(e:H a=some (.ins C dx fs))(c:u0 X.K C)(k:Meth X.K C m g)(l:fs.lookup m=none)
 (h:Q (.ref g,[.ref a]) s):wpAny (model X.prog X.w) A (getMethod (.ref a) m pl) Q E s:=by
 obtain⟨mA,O,r,_,_,_⟩:=qm I.hok e
 have hn:mA m=none:=nS.none_of (by rw[←l];exact r m)
 exact AY I.oX O (c.get m) k.at_ k.fn hn h
theorem xl{y:V}{u:Value}{Q:Unit→Shared→Prop}(I:Inv X pins σ H s)(e:H a=some (.ins C dx fs))(c:u0 X.K C)(n:dk X.K C f)(hl:fs.length < 1000)(ry:RelV y u)
 (h:∀s',Inv X pins σ (upd H a (.ins C dx (jO f y fs))) s'→Q () s'):wpAny (model X.prog X.w) A (setAttr (.ref a) f u) Q E s:=by
 obtain⟨mA,O,r,wi,_,ho⟩:=qm I.hok e
 have hz:(fs.map (·.1)).length≤sizeLine:=by rw[List.length_map,sizeLine_eq];omega
 refine DL I.oX O c.sa c.po n.IC c.hd wi hz fun h' O' sb=>h _ ?_
 have hd:∃o,h'.get? dx=some o:=let⟨o,_,_,e',_⟩:=O'.ns;⟨o,e'⟩
 refine I.write (x:=a) (e:=dx) (by rw[e];exact True.intro) (.inr ho) (fun b q hb z=>(sb.2 b hb).trans z) hd ?_
 refine⟨by rw[br O.ne];exact ho,?_,O.ne,O'.obj,_,O'.ns,fun g=>?_,fun g hg=>?_⟩
 ·have:=pE f y fs;omega
 ·show nS ((jO f y fs).lookup g) (if g=f then some u else mA g)
  rw[pf]
  by_cases q:g=f
  ·rw[if_pos q,if_pos q];exact ry
  ·rw[if_neg q,if_neg q];exact r g
 ·by_cases q:g=f
  ·rw[q];exact(o4 f y fs).1
  ·refine(o4 f y fs).2 g (wi g fun z=>hg ?_)
   show(if g=f then some u else mA g)=none
   rw[if_neg q];exact z
theorem Inv.made(I:Inv X pins σ H s):Inv X pins σ (upd (upd H s.heap.objs.size (.own (s.heap.objs.size+1))) (s.heap.objs.size+1) (.ins C s.heap.objs.size []))
 {s with heap:=(s.heap.push PySem.W.emptyDict).push (PySem.W.instObj C s.heap.objs.size)}:=by
 have e1:(s.heap.push PySem.W.emptyDict).get? s.heap.objs.size=some PySem.W.emptyDict:=Heap.get?_push_size s.heap rfl
 have e2:((s.heap.push PySem.W.emptyDict).push (PySem.W.instObj C s.heap.objs.size)).get? (s.heap.objs.size+1)=some (PySem.W.instObj C s.heap.objs.size):=by
  have:=Heap.get?_push_size (s.heap.push PySem.W.emptyDict) (o:=PySem.W.instObj C s.heap.objs.size) rfl
  rwa [Heap.size_push] at this
 have e3:(s.heap.push PySem.W.emptyDict).Ns s.heap.objs.size (fun _=>none):=⟨PySem.W.emptyDict,#[],_,e1,rfl,(fun e he=>absurd he (by simp)),fun _=>rfl⟩
 have I1:=I.laid (a:=s.heap.objs.size) (o:= .own (s.heap.objs.size+1)) (h':=s.heap.push PySem.W.emptyDict) (t':=s.toks) (fun b u q=>Heap.get?_push_of_some _ q) (Nat.le_refl _) ⟨_,e1⟩
 refine I1.laid (a:=s.heap.objs.size+1) (o:= .ins C s.heap.objs.size []) (t':=s.toks) (fun b u q=>Heap.get?_push_of_some _ q) (Nat.le_of_eq (Heap.size_push _ _)) ?_
 have ne:s.heap.objs.size≠s.heap.objs.size+1:=Nat.ne_of_lt (Nat.lt_succ_self _)
 refine⟨by rw[br ne,bf],Nat.zero_le _,ne,e2,fun _=>none,(Heap.Ns1.of_empty e3).at fun o q=>Heap.get?_push_of_some _ q,fun _=>True.intro,fun y hy=>absurd rfl hy⟩
theorem Em{prog:Program}{w:World}{env:Env}{e:Expr}{f:Str}{pos:Pos}{s:Shared}{Q:Value→Shared→Prop}(hb:attributeBase e f env (eval e env)=eval e env)
 (h:wpAny (model prog w) A (eval e env) (fun o s₁=>wpAny (model prog w) A (getAttr o f true) Q E s₁) E s):wpAny (model prog w) A (eval (.Attribute e f pos) env) Q E s:=
 Attribute_any_ h (by rw[arm_eval_Attribute,hb])
end
noncomputable def Kz(K:PySem.W.Frag)(ta:TE)(f:Str):TE:=fun σ H Q=>ta σ H fun x H1=>∃a C dx fs v,x= .ref a∧H1 a=some (.ins C dx fs)∧u0 K C∧dk K C f∧fs.lookup f=some v∧Q v H1
noncomputable def Mc(K:PySem.W.Frag)(ta:TE)(f:Str):TE:=fun σ H Q=>ta σ H fun x H1=>∃a C dx fs v u,x= .ref a∧H1 a=some (.ins C dx fs)∧u0 K C∧MN K C f v u∧fs.lookup f=none∧Q v H1
noncomputable def J7(K:PySem.W.Frag)(ta tv:TE)(f:Str):TS:=fun D σ H=>tv σ H fun y H1=>ta σ H1 fun x H2=>∃a C dx fs,x= .ref a∧H2 a=some (.ins C dx fs)∧u0 K C∧dk K C f∧fs.length < 1000∧
 D.nx σ (upd H2 a (.ins C dx (jO f y fs)))
noncomputable def Mx(X:Cx)(op:Operator)(rd:V→V→Hp→VK→Prop):Prop:=
 ∀(pins:List (Addr × Obj)) (s:Shared) (σ:St) (H:Hp) (x y:V) (u v:Value) (Q:VK),Inv X pins σ H s→RelV x u→RelV y v→rd x y H Q→wpAny (model X.prog X.w) X.A (inplaceOp op u v) (EP X pins σ Q) X.xe s
noncomputable def JQ(K:PySem.W.Frag)(ta tv:TE)(rd:V→V→Hp→VK→Prop)(f:Str):TS:=fun D σ H=>ta σ H fun x H1=>∃a C dx fs v,x= .ref a∧H1 a=some (.ins C dx fs)∧u0 K C∧dk K C f∧fs.lookup f=some v∧
 tv σ H1 fun y H2=>rd v y H2 fun z H3=>∃dx' fs',H3 a=some (.ins C dx' fs')∧fs'.length < 1000∧D.nx σ (upd H3 a (.ins C dx' (jO f z fs')))
section
variable {X:Cx} {o e value:Expr} {f:Str} {pos pos' tpos:Pos} {ta tv:TE}
theorem HC(he:PE X e ta)(hb:attributeBase e f X.env (eval e X.env)=eval e X.env):PE X (.Attribute e f pos) (Kz X.K ta f):=by
 intro pins s σ H Q I h
 refine Em hb (dY (he pins s σ H _ I h) fun u s1 ⟨x,H1,I1,rx,a,C,dx,fs,v,ex,ea,c,n,l,q⟩=>?_)
 subst ex
 obtain rfl:u=Value.ref a:=rx
 exact ym I1 ea c n l fun u' s2 I2 ru=>⟨v,H1,I2,ru,q⟩
theorem Gu(ha:PE X o ta)(hv:PE X value tv)(hs:swapsWith value (some (.Attribute o f pos')) pos.line X.env=pure false):PS X (.Assign [.Attribute o f pos'] value pos) (J7 X.K ta tv f):=by
 intro pins s σ H D I h
 refine plainObj_wpAny_Assign_Attribute (dY (hv pins s σ H _ I h) fun u s1 ⟨y,H1,I1,ry,q⟩=>dY (ha pins s1 σ H1 _ I1 q) fun ov s2 ⟨x,H2,I2,rx,a,C,dx,fs,ex,ea,c,n,l,q2⟩=>?_) hs
 subst ex
 obtain rfl:ov=Value.ref a:=rx
 exact xl I2 ea c n l ry fun s3 I3=>⟨σ,_,I3,q2⟩
noncomputable def LX:V→V→Hp→VK→Prop:=fun x y H Q=>∃i j,x= .int i∧y= .int j∧Q (.int (i+j)) H
noncomputable def LY:V→V→Hp→VK→Prop:=fun x y H Q=>∃i j,x= .int i∧y= .int j∧Q (.int (i - j)) H
end
section
variable {X:Cx} {pins:List (Addr × Obj)} {σ:St} {H:Hp} {s:Shared} {A:Around} {E:Value→Shared→Prop} {Q:Value→Shared→Prop} {c:Value} {b:Bool}
inductive p7 (K:PySem.W.Frag) (H:Hp):V→Value→Prop where
 | cI:p7 K H .cI (.type "NoneType")
 | bl (x:Bool):p7 K H (.bl x) (.type "bool")
 | int (i:Int):p7 K H (.int i) (.type "int")
 | str (x:Str):p7 K H (.str x) (.type "str")
 | flt (x:UInt64):p7 K H (.flt x) (.type "float")
 | lst {a:Addr} {xs:List V} (e:H a=some (.lst xs)):p7 K H (.ref a) (.type "list")
 | iz {a:Addr} {o:Obj} {xs:List V} (e:H a=some (.iz o (.lst xs))):p7 K H (.ref a) (.type "list")
 | tup {a:Addr} {xs:List V} (e:H a=some (.tup xs)):p7 K H (.ref a) (.type "tuple")
 | dK {a:Addr} {kvs:List (Key × V)} (e:H a=some (.dK kvs)):p7 K H (.ref a) (.type "dict")
 | dT {a:Addr} {kvs:List (List Key × V)} (e:H a=some (.dT kvs)):p7 K H (.ref a) (.type "dict")
 | ins {a C dx:Addr} {fs:List (Str × V)} (e:H a=some (.ins C dx fs)) (cl:u0 K C) (ha:PySem.W.findIn K (.ref C) "__class__"=some (some (.builtin "object.__class__")))
    (hn:PySem.W.specialIn K (.builtin "object.__class__") "__get__"=some (some (.builtin "getset_descriptor.__get__"))) (htk:PySem.W.takesIn K (.builtin "object.__class__")=some true)
    (hm:PySem.W.mroIn K C (.type "object")=some true):p7 K H (.ref a) (.ref C)
theorem l4{x:V}{u t:Value}(I:Inv X pins σ H s)(rx:RelV x u)(ty:p7 X.K H x t)(e:PySem.W.kitOne X.K t c=some b)(h:∀tk,Q (.bool b) {s with toks:=tk}) :
 wpAny (model X.prog X.w) A (call (.builtin "isinstance") [u,c]) Q E s:=by
 cases ty with
 | cI=>cases(show u=Value.none from rx);exact PySem.W.kia_one PySem.W.kitx_none I.oX True.intro e (fun z=>nomatch z) h
 | bl y=>cases(show u=Value.bool y from rx);exact PySem.W.kia_one PySem.W.kitx_bool I.oX True.intro e (fun z=>nomatch z) h
 | int i=>obtain⟨t,q⟩:=(show ∃t,u=Value.int i t from rx);cases q;exact PySem.W.kia_one PySem.W.kitx_int I.oX True.intro e (fun z=>nomatch z) h
 | str y=>obtain⟨t,q⟩:=(show ∃t,u=Value.str y t from rx);cases q;exact PySem.W.kia_one PySem.W.kitx_str I.oX True.intro e (fun z=>nomatch z) h
 | flt y=>obtain⟨t,q⟩:=(show ∃t,u=Value.float y t from rx);cases q;exact PySem.W.kia_one PySem.W.kitx_float I.oX True.intro e (fun z=>nomatch z) h
 | @lst a xs ea=>
   cases(show u=Value.ref a from rx)
   obtain⟨_,_,n,_,h1⟩:=(show dZ X.prog X.w H s.heap a (.lst xs) from I.hok a _ ea)
   exact PySem.W.kia_one PySem.W.kitx_list I.oX ⟨_,h1,rfl⟩ e (fun z=>nomatch z) h
 | @iz a ob xs ea=>
   cases(show u=Value.ref a from rx)
   obtain⟨_,_,_,n,_,h1⟩:=(show dZ X.prog X.w H s.heap a (.iz ob (.lst xs)) from I.hok a _ ea)
   exact PySem.W.kia_one PySem.W.kitx_list I.oX ⟨_,h1,rfl⟩ e (fun z=>nomatch z) h
 | @tup a xs ea=>
   cases(show u=Value.ref a from rx)
   obtain⟨_,_,_,p⟩:=(show dZ X.prog X.w H s.heap a (.tup xs) from I.hok a _ ea)
   obtain⟨o,h1,h2,_⟩:=p
   exact PySem.W.kia_one PySem.W.kitx_tuple I.oX ⟨o,h1,h2⟩ e (fun z=>nomatch z) h
 | @dK a kvs ea=>
   cases(show u=Value.ref a from rx)
   obtain⟨_,_,vs,_,p⟩:=(show dZ X.prog X.w H s.heap a (.dK kvs) from I.hok a _ ea)
   obtain⟨o,es,ep,h1,h2,_⟩:=p
   exact PySem.W.kia_one PySem.W.kitx_dict I.oX ⟨o,h1,h2.1⟩ e (fun z=>nomatch z) h
 | @dT a kvs ea=>
   cases(show u=Value.ref a from rx)
   obtain⟨_,_,xs,_,o,es,ep,h1,h2,_⟩:=(show dZ X.prog X.w H s.heap a (.dT kvs) from I.hok a _ ea)
   exact PySem.W.kia_one PySem.W.kitx_dict I.oX ⟨o,h1,h2.1⟩ e (fun z=>nomatch z) h
 | @ins a C dx fs ea cl ha hn htk hm=>
   cases(show u=Value.ref a from rx)
   obtain⟨mA,O,_⟩:=qm I.hok ea
   obtain⟨od,J,_⟩:=O.look
   exact PySem.W.kia_one (PySem.W.kitx_own (cl.get _) cl.hd ha hn htk hm) I.oX J e (fun z=>nomatch z) h
end
end L2
namespace L2
open PySem PySem.Spec PyProof.Rows
structure eQ (k:Nat) (A:Around):Prop where
 hd:A.handled=none
 dp:A.depth+3*k+5 < recursionLimit
 un:A.units+16*k+200 < cLine
theorem eQ.mono{j k:Nat}{A:Around}(r:eQ k A)(h:j≤k):eQ j A:=⟨r.hd,by have:=r.dp;omega,by have:=r.un;omega⟩
theorem eQ.deeper{k:Nat}{A:Around}(r:eQ (k+1) A)(env:Env):eQ k (A.deeper env):=
 ⟨r.hd,by have:=r.dp;show A.depth+1+3*k+5 < _;omega,by have:=r.un;show A.units+3+16*k+200 < _;omega⟩
theorem ye{A:Around}{C:Addr}{us:List Value}{kw:List (Str × Value)}:(A.under (.builtin "type.__call__" ⟨.ref C ::us,kw⟩)).depth=A.depth+1:=by
 first | rfl | simp [Around.under,Code.weight,Code.isCreation,Code.isGuard,Code.isCaller,Code.frames,Code.isFrame,guardIds]
theorem x6{A:Around}{C:Addr}{us:List Value}{kw:List (Str × Value)}:(A.under (.builtin "type.__call__" ⟨.ref C ::us,kw⟩)).units=A.units+1:=by
 first | rfl | simp [Around.under,Code.cUnits,Code.frames,Code.isFrame]
theorem eQ.make{k:Nat}{A:Around}(r:eQ (k+1) A)(C:Addr)(us:List Value)(kw:List (Str × Value)):eQ k (A.under (.builtin "type.__call__" ⟨.ref C ::us,kw⟩)):=
 ⟨r.hd,by have:=r.dp;rw [ye];omega,by have:=r.un;rw [x6];omega⟩
theorem eQ.depth{k:Nat}{A:Around}(r:eQ k A):A.depth < recursionLimit:=by have:=r.dp;omega
theorem eQ.units{k:Nat}{A:Around}(r:eQ k A):A.units+64 < cLine:=by have:=r.un;omega
noncomputable def KS:TA:=fun _ H Q=>Q [] H
noncomputable def Jn(ta:TE)(tr:TA):TA:=fun σ H Q=>ta σ H fun x H1=>tr σ H1 fun xs H2=>Q (x ::xs) H2
section
variable {X:Cx} {e:Expr} {es:List Expr} {te:TE} {t:TA} {pos:Pos}
theorem iA:PA X [] KS:=fun _ _ _ _ H Q I h=>Calls.spliced_nil ⟨[],H,I, .nil,h⟩
theorem eA(ha:PE X e te)(hr:PA X es t)(hs:starEach (e ::es) X.env=(false,eval e X.env) ::starEach es X.env:=by rfl):PA X (e ::es) (Jn te t):=by
 intro pos pins s σ H Q I h
 rw[hs]
 show wpAny _ _ (spliced ((false,eval e X.env) ::backTo pos (starEach es X.env))) _ _ s
 refine Calls.spliced_cons (dY (ha pins s σ H _ I h) fun u s1 ⟨x,H1,I1,r1,q1⟩=>?_)
 exact dY (hr pos pins s1 σ H1 _ I1 q1) fun us s2 ⟨xs,H2,I2,r2,q2⟩=>⟨x ::xs,H2,I2, .cons r1 r2,q2⟩
noncomputable def KL(t:TA):TE:=fun σ H Q=>t σ H fun xs H1=>xs.length≤sizeLine∧∀p,H1 p=none→Q (.ref p) (upd H1 p (.tup xs))
noncomputable def Lb(t:TA):TE:=fun σ H Q=>t σ H fun xs H1=>xs.length≤sizeLine∧∀p,H1 p=none→Q (.ref p) (upd H1 p (.lst xs))
theorem A9{x1}(h:PA X es t):PE X (.Tuple es x1 pos) (KL t):=by
 intro pins s σ H Q I hq
 refine wpAny_Tuple_spliced (dY (h pos pins s σ H _ I hq) fun us s1 ⟨xs,H1,I1,r,z,q⟩=>⟨by rw[←r.length];exact z,?_⟩)
 have hf:H1 s1.heap.objs.size=none:=I1.hok.fresh (Nat.le_refl _)
 refine⟨.ref s1.heap.objs.size,upd H1 s1.heap.objs.size (.tup xs),I1.laid (t':=s1.toks) (fun b u e=>Heap.get?_push_of_some _ e) (Nat.le_refl _) ?_,rfl,q _ hf⟩
 exact⟨z,us,r,⟨_,Heap.get?_push_size _ rfl,rfl,_,rfl⟩⟩
theorem Bk(h:PA X es t):PE X (.List es pos) (Lb t):=by
 intro pins s σ H Q I hq
 refine wpAny_List_spliced (dY (h pos pins s σ H _ I hq) fun us s1 ⟨xs,H1,I1,r,z,q⟩=>⟨by rw[←r.length];exact z,?_⟩)
 have hf:H1 s1.heap.objs.size=none:=I1.hok.fresh (Nat.le_refl _)
 refine⟨.ref s1.heap.objs.size,upd H1 s1.heap.objs.size (.lst xs),I1.laid (t':=s1.toks) (fun b u e=>Heap.get?_push_of_some _ e) (Nat.le_refl _) ?_,rfl,q _ hf⟩
 exact⟨z,us,0,r,Heap.get?_push_size _ rfl⟩
end
noncomputable abbrev Sp:=List V→Hp→VK→XK→Prop
noncomputable abbrev Bs:=List Env→Hp→Shared→XK→Value→Shared→Prop
structure xp (P:Program) (w:World) (K:PySem.W.Frag) (mg:Str→Option Value) (base:Heap) (A:Around) (outer:List Env) (s:Shared) (H:Hp):Prop where
 frames:A.frames=some outer
 mod:Mod K mg base
 bs:∀b o,base.get? b=some o→s.heap.get? b=some o∧H b=none
 bsz:base.objs.size≤s.heap.objs.size
 qa:s.heap.FunFrames base outer
 frf:∀b∈AJ outer,H b=none
 hok:mG P w H s.heap
 bare:AllBare s.gens
noncomputable def CE(outer:List Env)(P:Program)(w:World)(H:Hp)(s:Shared)(Q:VK)(u:Value)(s':Shared):Prop:=
 ∃v H',s'.os=s.os∧AllBare s'.gens∧Un (AJ outer) [] H H' s.heap s'.heap∧mG P w H' s'.heap∧RelV v u∧Q v H'
noncomputable def CR(CX:Bs)(outer:List Env)(P:Program)(w:World)(H:Hp)(s:Shared)(Q:VK)(E:XK)(r:Result)(s':Shared):Prop:=
 match r with
 | .ok (.ret u)=>CE outer P w H s Q u s'
 | .ok _=>False
 | .error e=>CX outer H s E e s'
structure iQ (P:Program) (w:World) (K:PySem.W.Frag) (mg:Str→Option Value) (base:Heap) (CX:Bs) (k:Nat) (f:Addr) (fd:FuncData) (ps:List Str) (sp:Sp):Prop where
 len:∀vs H Q E,sp vs H Q E→vs.length=ps.length
 run:∀(A:Around) (outer:List Env) (s:Shared) (H:Hp) (args:Args) (us:List Value) (vs:List V) (Q:VK) (E:XK),eQ k A→xp P w K mg base A outer s H→BindsTo s fd args (ps.zip us)→Vals vs us→sp vs H Q E→
  codeAny (model P w) A (.call (.ref f) args) (CR CX outer P w H s Q E) s
theorem iQ.imp{P:Program}{w:World}{K:PySem.W.Frag}{mg:Str→Option Value}{base:Heap}{CX:Bs}{k:Nat}{f:Addr}{fd:FuncData}{ps:List Str}{sp sp':Sp}(F:iQ P w K mg base CX k f fd ps sp)
 (h:∀vs H Q E,sp' vs H Q E→sp vs H Q E):iQ P w K mg base CX k f fd ps sp':=
 ⟨fun vs H Q E q=>F.len vs H Q E (h _ _ _ _ q),fun A outer s H args us vs Q E hr he hb hv hs=>F.run A outer s H args us vs Q E hr he hb hv (h _ _ _ _ hs)⟩
theorem xp.make{P:Program}{w:World}{K:PySem.W.Frag}{mg:Str→Option Value}{base:Heap}{A:Around}{outer:List Env}{s:Shared}{H:Hp}(e:xp P w K mg base A outer s H)(C:Addr)(us:List Value)(kw:List (Str × Value)) :
 xp P w K mg base (A.under (.builtin "type.__call__" ⟨.ref C ::us,kw⟩)) outer s H:=⟨by first | exact e.frames | (simpa [Around.under,Code.envs,Code.isFrame,pushEnvs] using e.frames),e.mod,e.bs,e.bsz,e.qa,e.frf,e.hok,e.bare⟩
section
variable {X:Cx} {pins:List (Addr × Obj)} {σ:St} {H:Hp} {s s':Shared}
theorem Inv.Jr(I:Inv X pins σ H s):xp X.prog X.w X.K X.mg X.base X.A X.stack s H:=
 ⟨I.ok.frames,I.ok.mod,I.bs,Nat.le_trans I.ok.bsz I.sz,I.stack,I.zy,I.hok,I.bare⟩
theorem Inv.after{Q:VK}{u:Value}(I:Inv X pins σ H s)(h:CE X.stack X.prog X.w H s Q u s'):EP X pins σ Q u s':=by
 obtain⟨v,H',os,bare,un,hok,r,q⟩:=h
 obtain⟨hh,g,d,t,os'⟩:=s'
 obtain rfl:os'=s.os:=os
 exact⟨v,H',I.call (h':=hh) (g':=g) (d':=d) (t':=t) (ch:=[]) un hok bare (fun b z=>absurd z (by simp)),r,q⟩
end
noncomputable def IG(sp:Sp)(dvs:List V)(E:XK)(t:TA):TE:=fun σ H Q=>t σ H fun vs H1=>sp (vs++dvs) H1 Q E
noncomputable def Ig(C:Addr)(m:Str)(sp:Sp)(dvs:List V)(E:XK)(ta:TE)(t:TA):TE:=fun σ H Q=>ta σ H fun x H1=>∃a dx fs,x= .ref a∧H1 a=some (.ins C dx fs)∧fs.lookup m=none∧
 t σ H1 fun vs H2=>sp (x ::(vs++dvs)) H2 Q E
noncomputable def Iw(C:Addr)(sp:Sp)(dvs:List V)(E:XK)(t:TA):TE:=fun σ H Q=>t σ H fun vs H1=>∀x dx,H1 x=none→H1 dx=none→dx≠x→
 sp (.ref x ::(vs++dvs)) (upd (upd H1 dx (.own x)) x (.ins C dx [])) (fun v H2=>v= .cI∧Q (.ref x) H2) E
noncomputable def Binds(K:PySem.W.Frag)(fd:FuncData)(ps:List Str)(ds:List Value):Prop:=
 ∀(s:Shared) (us:List Value),K.In s.heap→(us++ds).length=ps.length→BindsTo s fd ⟨us,[]⟩ (ps.zip (us++ds))
theorem Binds.all{K:PySem.W.Frag}{fd:FuncData}{ps:List Str}(h:∀us:List Value,us.length=ps.length→bindArgs fd ⟨us,[]⟩=pure (ps.zip us)):Binds K fd ps []:=fun s us _ hl=>by
 rw[List.append_nil] at hl ⊢
 exact .of_eq (h us hl)
noncomputable def Passes(CX:Bs)(X:Cx)(E:XK):Prop:=∀(pins:List (Addr × Obj)) (σ:St) (H:Hp) (s:Shared) (e:Value) (s':Shared),Inv X pins σ H s→CX X.stack H s E e s'→X.xe e s'
section
variable {X:Cx} {CX:Bs} {k:Nat} {f C:Addr} {fd:FuncData} {ps:List Str} {sp:Sp} {dvs:List V} {ds:List Value} {E:XK} {x m:Str} {p pos apos:Pos} {e o:Expr} {es:List Expr} {ta:TE} {t:TA}
theorem C6{pins:List (Addr × Obj)}{σ:St}{H:Hp}{s:Shared}{Q:VK}{us:List Value}{vs:List V}(F:iQ X.prog X.w X.K X.mg X.base CX k f fd ps sp)(hr:eQ k X.A)(hb:Binds X.K fd ps ds)(hd:Vals dvs ds)(hx:Passes CX X E)
 (I:Inv X pins σ H s) (r:Vals vs us) (h:sp (vs++dvs) H Q E):wpAny (model X.prog X.w) X.A (call (.ref f) us) (EP X pins σ Q) X.xe s:=by
 have r2:Vals (vs++dvs) (us++ds):=r.append hd
 have hl:(us++ds).length=ps.length:=by rw[←r2.length];exact F.len _ _ _ _ h
 refine wpAny_call (codeAny_mono (F.run X.A X.stack s H ⟨us,[]⟩ (us++ds) (vs++dvs) Q E hr I.Jr (hb s us I.oX hl) r2 h) fun r s' hq=>?_)
 cases r with
 | error e=>exact hx pins σ H s e s' I hq
 | ok fl=>
   cases fl with
   | ret u=>exact I.after hq
   | next=>exact False.elim hq
   | brk=>exact False.elim hq
   | cont=>exact False.elim hq
theorem uJ(F:iQ X.prog X.w X.K X.mg X.base CX k f fd ps sp)(hr:eQ k X.A)(hg:Gl X x)(hm:X.mg x=some (.ref f))(hk:PySem.W.keepIn X.K (.ref f)=true)(hb:Binds X.K fd ps ds)(hd:Vals dvs ds)(hx:Passes CX X E)
 (ha:PA X (e ::es) t) (hdb:(x==("__debug__":Str))=false:=by decide) (he:starEach (e ::es) X.env=(false,eval e X.env) ::starEach es X.env:=by rfl) (hpl:(backTo pos (starEach es X.env)).any (·.1)=false:=by rfl) :
 PE X (.Call (.Name x p) (e ::es) [] pos) (IG sp dvs E t):=by
 intro pins s σ H Q I h
 refine wpAny_Call_Name_kw (zl I hg hm ?_ hdb)
 refine PySem.W.callWith_K (h₀:=X.base) I.ok.mod.kin hk (dY (ha pos pins s σ H _ I h) fun us s1 ⟨vs,H1,I1,r,q⟩=>⟨I1.oX,?_⟩) he hpl
 exact C6 F hr hb hd hx I1 r q
theorem EE{pl:Sem Bool}(he:PE X o ta)(c:u0 X.K C)(hm:Meth X.K C m f)(F:iQ X.prog X.w X.K X.mg X.base CX k f fd ps sp)(hr:eQ k X.A)(hb:Binds X.K fd ps ds)(hd:Vals dvs ds)(hx:Passes CX X E)(ha:PA X (e ::es) t)
 (hst:starEach (e ::es) X.env=(false,eval e X.env) ::starEach es X.env:=by rfl) (hpl:(backTo pos (starEach es X.env)).any (·.1)=false:=by rfl)
 (ht:eval (.Call (.Attribute o m apos) (e ::es) [] pos) X.env=(do
   let ov ←eval o X.env
   standAt apos.atName
   let(f,first) ←holding [ov] (getMethod ov m pl)
   callWith pos f first (backTo pos (starEach (e ::es) X.env)) (backToKw pos (keywordEach [] X.env))):=by rfl) :
 PE X (.Call (.Attribute o m apos) (e ::es) [] pos) (Ig C m sp dvs E ta t):=by
 intro pins s σ H Q I h
 refine PySem.W.methodCall_KW (pl:=pl) (dY (he pins s σ H _ I h) fun u s1 ⟨x,H1,I1,rx,a,dx,fs,ex,ea,l,q⟩=>?_) ht
 subst ex
 obtain rfl:u=Value.ref a:=rx
 refine yc I1 ea c hm l ?_
 refine PySem.W.callWith_K (first:=[.ref a]) (h₀:=X.base) I.ok.mod.kin hm.kp (dY (ha pos pins s1 σ H1 _ I1 q) fun us s2 ⟨vs,H2,I2,r,q2⟩=>⟨I2.oX,?_⟩) hst hpl
 exact C6 (us:= .ref a ::us) (vs:= .ref a ::vs) F hr hb hd hx I2 (.cons rfl r) q2
structure Mk (K:PySem.W.Frag) (C f:Addr):Prop where
 makes:PySem.W.makesIn K C=true
 init:PySem.W.findIn K (.ref C) "__init__"=some (some (.ref f))
 fn:PySem.W.isFn K (.ref f)=true
 kp:PySem.W.keepIn K (.ref C)=true
theorem CO{pins:List (Addr × Obj)}{σ:St}{H:Hp}{s:Shared}{Q:VK}{us:List Value}{vs:List V}(M:Mk X.K C f)(F:iQ X.prog X.w X.K X.mg X.base CX k f fd ps sp)(hr:eQ (k+1) X.A)(hb:Binds X.K fd ps ds)(hd:Vals dvs ds)
 (hx:Passes CX X E) (I:Inv X pins σ H s) (r:Vals vs us)
 (h:∀x dx,H x=none→H dx=none→dx≠x→sp (.ref x ::(vs++dvs)) (upd (upd H dx (.own x)) x (.ins C dx [])) (fun v H2=>v= .cI∧Q (.ref x) H2) E) :
 wpAny (model X.prog X.w) X.A (call (.ref C) us) (EP X pins σ Q) X.xe s:=by
 have hq:=h (s.heap.objs.size+1) s.heap.objs.size (I.hok.fresh (Nat.le_succ _)) (I.hok.fresh (Nat.le_refl _)) (Nat.ne_of_lt (Nat.lt_succ_self _))
 have I2:=Inv.made (C:=C) I
 have r2:Vals (V.ref (s.heap.objs.size+1) ::(vs++dvs)) (Value.ref (s.heap.objs.size+1) ::(us++ds)):= .cons rfl (r.append hd)
 have hl:(Value.ref (s.heap.objs.size+1) ::us++ds).length=ps.length:=by
  have e:=r2.length
  rw[F.len _ _ _ _ hq] at e
  exact e.symm
 refine wpAny_call (Cq (f:=f) I.oX M.makes M.init (beq_iff_eq.mp M.fn) (codeAny_mono (F.run _ X.stack _ _ ⟨Value.ref (s.heap.objs.size+1) ::us,[]⟩ (Value.ref (s.heap.objs.size+1) ::(us++ds)) _ _ E (hr.make C us [])
  (I2.Jr.make C us []) (hb _ (Value.ref (s.heap.objs.size+1) ::us) I2.oX hl) r2 hq) fun r s' hq'=>?_))
 cases r with
 | error e=>exact hx pins σ _ _ e s' I2 hq'
 | ok fl=>
   cases fl with
   | ret u=>
     obtain⟨v,H',I3,rv,ev,q3⟩:=I2.after hq'
     subst ev
     exact⟨rv,⟨V.ref (s.heap.objs.size+1),H',I3,rfl,q3⟩⟩
   | next=>exact False.elim hq'
   | brk=>exact False.elim hq'
   | cont=>exact False.elim hq'
theorem ES(M:Mk X.K C f)(F:iQ X.prog X.w X.K X.mg X.base CX k f fd ps sp)(hr:eQ (k+1) X.A)(hg:Gl X x)(hm:X.mg x=some (.ref C))(hb:Binds X.K fd ps ds)(hd:Vals dvs ds)(hx:Passes CX X E)
 (ha:PA X (e ::es) t) (hdb:(x==("__debug__":Str))=false:=by decide) (he:starEach (e ::es) X.env=(false,eval e X.env) ::starEach es X.env:=by rfl) (hpl:(backTo pos (starEach es X.env)).any (·.1)=false:=by rfl) :
 PE X (.Call (.Name x p) (e ::es) [] pos) (Iw C sp dvs E t):=by
 intro pins s σ H Q I h
 refine wpAny_Call_Name_kw (zl I hg hm ?_ hdb)
 refine PySem.W.callWith_K (h₀:=X.base) I.ok.mod.kin M.kp (dY (ha pos pins s σ H _ I h) fun us s1 ⟨vs,H1,I1,r,q⟩=>⟨I1.oX,?_⟩) he hpl
 exact CO M F hr hb hd hx I1 r q
end
noncomputable def PK(X:Cx)(kws:List Keyword)(t:TA):Prop:=
 ∀(pos:Pos) (pins:List (Addr × Obj)) (s:Shared) (σ:St) (H:Hp) (Q:List V→Hp→Prop),Inv X pins σ H s→t σ H Q→wpAny (model X.prog X.w) X.A (evalAll ((backToKw pos (keywordEach kws X.env)).map (·.2))) (AP X pins σ Q) X.xe s
section
variable {X:Cx} {CX:Bs} {k:Nat} {f C:Addr} {fd:FuncData} {ps ks:List Str} {sp:Sp} {E:XK} {x m:Str} {p pos apos kpos:Pos} {e o:Expr} {es:List Expr} {kws:List Keyword} {te ta:TE} {t tk:TA} {nm:Option Str}
structure KU (K:PySem.W.Frag) (fd:FuncData) (ps ks:List Str) (g:List Value→List Value→List Value) (gV:List V→List V→List V):Prop where
 to:∀(s:Shared) (us ws:List Value),K.In s.heap→(g us ws).length=ps.length→BindsTo s fd ⟨us,ks.zip ws⟩ (ps.zip (g us ws))
 rel:∀{vs:List V} {us:List Value} {zs:List V} {ws:List Value},Vals vs us→Vals zs ws→Vals (gV vs zs) (g us ws)
noncomputable def Ke(sp:Sp)(gV:List V→List V→List V)(E:XK)(t tk:TA):TE:=fun σ H Q=>t σ H fun vs H1=>tk σ H1 fun zs H2=>sp (gV vs zs) H2 Q E
variable {g:List Value→List Value→List Value} {gV:List V→List V→List V}
end
structure aZ (N P:List Str) (sc:Scope):Prop where
 kind:sc.kind= .function
 co:sc.isCoroutine=false
 gen:sc.isGenerator=false
 nd:N.Nodup
 pre:N.take P.length=P
 par:∀x∈P,sc.names.lookup x=some .local∨sc.names.lookup x=some .cell
 nofree:∀y∈sc.names,y.2≠ .free
theorem tT{kindOf:Str→Option NameKind}{x:Str}:∀{binds:List (Str × Value)} {m:Str→Option Value},(∀v,(x,v) ∉ binds)→bindL kindOf binds m x=m x
 | [],_,_=>rfl
 | (n,v) ::r,m,h=>by
   unfold bindL
   rw[tT fun w hw=>h w (List.mem_cons_of_mem _ hw)]
   split
   ·have:x≠n:=by rintro rfl;exact h v List.mem_cons_self
    simp [this]
   ·rfl
theorem tO{kindOf:Str→Option NameKind}{x:Str}:∀{binds:List (Str × Value)} {m:Str→Option Value},(∀v,(x,v) ∉ binds)→bindC kindOf binds m x=m x
 | [],_,_=>rfl
 | (n,v) ::r,m,h=>by
   unfold bindC
   rw[tO fun w hw=>h w (List.mem_cons_of_mem _ hw)]
   split
   ·rfl
   ·have:x≠n:=by rintro rfl;exact h v List.mem_cons_self
    simp [this]
theorem tf{kindOf:Str→Option NameKind}{x:Str}{v:Value}:∀{P:List Str} {vs:List Value} {i:Nat} {m:Str→Option Value},P.Nodup→P[i]? =some x→vs[i]? =some v→kindOf x=some .local→
 bindL kindOf (P.zip vs) m x=some v
 | [],_,_,_,_,h,_,_=>by simp at h
 | _ ::_,[],_,_,_,_,h,_=>by simp at h
 | p ::P,w ::vs,0,m,nd,h1,h2,hk=>by
   simp at h1 h2;subst h1;subst h2
   show bindL kindOf ((p,w) ::P.zip vs) m p=_
   unfold bindL
   rw[tT fun v hv=>(List.nodup_cons.mp nd).1 (List.of_mem_zip hv).1,if_pos hk]
   simp
 | p ::P,w ::vs,i+1,m,nd,h1,h2,hk=>by
   show bindL kindOf ((p,w) ::P.zip vs) m x=_
   unfold bindL
   exact tf (i:=i) (List.nodup_cons.mp nd).2 (by simpa using h1) (by simpa using h2) hk
theorem tK{kindOf:Str→Option NameKind}{x:Str}{v:Value}:∀{P:List Str} {vs:List Value} {i:Nat} {m:Str→Option Value},P.Nodup→P[i]? =some x→vs[i]? =some v→kindOf x≠some .local→
 bindC kindOf (P.zip vs) m x=some v
 | [],_,_,_,_,h,_,_=>by simp at h
 | _ ::_,[],_,_,_,_,h,_=>by simp at h
 | p ::P,w ::vs,0,m,nd,h1,h2,hk=>by
   simp at h1 h2;subst h1;subst h2
   show bindC kindOf ((p,w) ::P.zip vs) m p=_
   unfold bindC
   rw[tO fun v hv=>(List.nodup_cons.mp nd).1 (List.of_mem_zip hv).1,if_neg hk]
   simp
 | p ::P,w ::vs,i+1,m,nd,h1,h2,hk=>by
   show bindC kindOf ((p,w) ::P.zip vs) m x=_
   unfold bindC
   exact tK (i:=i) (List.nodup_cons.mp nd).2 (by simpa using h1) (by simpa using h2) hk
noncomputable def start(N:List Str)(vs:List V):St:=vs.map some++List.replicate (N.length - vs.length) none
noncomputable def qX(CX:Bs)(P:Program)(w:World)(K:PySem.W.Frag)(mg:Str→Option Value)(base:Heap)(N:List Str)(qual:Str)(scope:Scope)(f:Addr)(cd:Value)(A:Around)(outer:List Env)(s:Shared)(H:Hp)(E:XK):Cx where
 prog:=P
 w:=w
 K:=K
 mg:=mg
 base:=base
 A:=A.deeper (envOfC qual scope s.heap.objs.size f cd)
 N:=N
 s₀:=s
 H₀:=H
 env:=envOfC qual scope s.heap.objs.size f cd
 outer:=outer
 stack:=envOfC qual scope s.heap.objs.size f cd ::outer
 ex:=[]
 calm:=true
 fn:=fun _=>true
 pn:=[]
 xe:=fun e s'=>wpAny (model P w) (A.deeper (envOfC qual scope s.heap.objs.size f cd)) (leaving (envOfC qual scope s.heap.objs.size f cd) e) (fun _ s''=>CX outer H s E e s'') (fun e' s''=>CX outer H s E e' s'') s'
theorem wj{sc:Scope}{n:Nat}{x:Str}(h:sc.names.lookup x=some .cell):∃c,(cellsFrom n sc.names []).lookup x=some c:=by
 have q:=PySem.W.cellsFrom_some sc.names n [] (.inl h)
 exact Option.isSome_iff_exists.mp q
theorem zZ{CX:Bs}{P:Program}{w:World}{K:PySem.W.Frag}{mg:Str→Option Value}{base:Heap}{N ps:List Str}{qual:Str}{scope:Scope}{f:Addr}{cd:Value}{A:Around}{outer:List Env}{s s1:Shared}{H:Hp}{E:XK}{us:List Value}{vs:List V}
 (S:aZ N ps scope) (hd:A.handled=none) (e0:xp P w K mg base A outer s H) (hl:vs.length=ps.length) (r:Vals vs us)
 (x:InCallC s s.heap.objs.size (bindL (envOfC qual scope s.heap.objs.size f cd).kindOf (ps.zip us) fun _=>none) (cellsFrom (s.heap.objs.size+1) scope.names []) (bindC (envOfC qual scope s.heap.objs.size f cd).kindOf (ps.zip us) fun _=>none) s1) :
 Inv (qX CX P w K mg base N qual scope f cd A outer s H E) [] (start N vs) H s1:=by
 have hpl:ps.length≤N.length:=by have:=congrArg List.length S.pre;rw [List.length_take] at this;omega
 obtain⟨h1,tk,rfl,hk⟩:=x.done
 have noA:∀b:Addr,b ∉ (qX CX P w K mg base N qual scope f cd A outer s H E).ex:=fun b z=>absurd (show b∈([]:List Addr) from z) (by simp)
 refine⟨⟨e0.mod,S.kind,rfl,rfl,Nat.le_refl _,fun y z c h1 h2=>?_,fun y hy=>?_,fun y c _ h=>?_,fun _=>hd,Around.frames_deeper e0.frames, .inr ⟨rfl,rfl⟩,fun b z=>absurd z (noA b),e0.bs,e0.bsz,fun b _ _=>noA b,fun b z=>absurd z (noA b),e0.qa,e0.frf⟩,
  rfl,e0.bare,Un.kept hk,⟨_,x.toInCall.ns,fun i y v h1 h2 h3=>?_⟩,fun y c h=>⟨_,x.cell y c h⟩,e0.hok.fresh (Nat.le_refl _),fun y c h=>?_,fun p hp=>absurd (show p∈([]:List (Addr × Obj)) from hp) (by simp),e0.hok.kept hk,?_⟩
 ·exact name_of_addr x.apart (PySem.mem_of_lookup h1) (PySem.mem_of_lookup h2)
 ·have hy:scope.names.lookup y=some .cell∨scope.names.lookup y=some .free:=hy
  rcases hy with hy | hy
  ·exact wj hy
  ·exact absurd rfl (S.nofree _ (PySem.mem_of_lookup hy))
 ·exact Nat.le_of_lt (x.above y c (PySem.mem_of_lookup h))
 ·have hi:i < vs.length:=by
   unfold start at h2
   by_cases hi:i < vs.length
   ·exact hi
   ·rw[List.getElem?_append_right (by simpa using hi)] at h2
    rw[List.getElem?_replicate] at h2
    split at h2 <;> cases h2
  have ha:vs[i]? =some v:=by
   unfold start at h2
   rw[List.getElem?_append_left (by simpa using hi),List.getElem?_map] at h2
   cases e:vs[i]? with
   | none=>rw [e] at h2;cases h2
   | some a=>rw [e] at h2;cases h2;rfl
  obtain⟨u,hu,rv⟩:=r.get ha
  have hp:ps[i]? =some y:=by
   rw[←S.pre,List.getElem?_take_of_lt (by omega)];exact h1
  have ndP:ps.Nodup:=by rw[←S.pre];exact S.nd.sublist (List.take_sublist _ _)
  refine⟨u,rv,?_⟩
  rcases S.par y (List.mem_of_getElem? hp) with k | k
  ·exact .inl ⟨k,tf ndP hp hu k⟩
  ·obtain⟨c,e⟩:=wj (n:=s.heap.objs.size+1) k
   refine .inr ⟨.inl k,c,e,?_⟩
   have q:=x.cell y c e
   rw[tK ndP hp hu (by show scope.names.lookup y≠_;rw [k];decide)] at q
   exact q
 ·exact e0.hok.fresh (Nat.le_of_lt (x.above y c (PySem.mem_of_lookup h)))
 ·unfold start
  show _=N.length
  rw[List.length_append,List.length_map,List.length_replicate]
  omega
theorem IY{CX:Bs}{P:Program}{w:World}{K:PySem.W.Frag}{mg:Str→Option Value}{base:Heap}{k:Nat}{f:Addr}{name qual:Str}{params:Arguments}{body:List Stmt}{scope:Scope}{dV kV doc pm cdv ct oc:Value}{an od:Option Addr}
 {osl:Array (Option Value)} {N ps:List Str} {sp:Sp} (lk:K.lookup f=some ⟨oc,od, .func (PySem.W.fnOf name qual params body scope dV kV doc pm an cdv ct),osl⟩) (hcd:PySem.W.codeIn K cdv qual=true) (S:aZ N ps scope)
 (len:∀vs H Q E,sp vs H Q E→vs.length=ps.length)
 (hbody:∀(A:Around) (outer:List Env) (s:Shared) (H:Hp) (vs:List V) (Q:VK) (E:XK),eQ k (A.deeper (envOfC qual scope s.heap.objs.size f cdv))→sp vs H Q E→
   ∃t,uZ (qX CX P w K mg base N qual scope f cdv A outer s H E) body t∧t {nx:=fun _ H'=>Q .cI H',rt:=Q} (start N vs) H) :
 iQ P w K mg base CX (k+1) f (PySem.W.fnOf name qual params body scope dV kV doc pm an cdv ct) ps sp:=by
 refine⟨len,fun A outer s H args us vs Q E hr e0 hb r hsp=>?_⟩
 have hl:=len _ _ _ _ hsp
 have KX:K.In s.heap:=e0.mod.kin.keeps fun b o e=>(e0.bs b o e).1
 have lim:s.heap.NoLimit:=e0.mod.nolimit.keeps fun b o e=>(e0.bs b o e).1
 have hkind:∀y∈ps.zip us,scope.names.lookup y.1=some .local∨(scope.names.lookup y.1=some .cell∧((cellsFrom (s.heap.objs.size+1) scope.names []).lookup y.1).isSome=true):=fun⟨n,v⟩ hy=>by
  rcases S.par n (List.of_mem_zip hy).1 with q | q
  ·exact .inl q
  ·exact .inr ⟨q,PySem.W.cellsFrom_some _ _ _ (.inl q)⟩
 refine codeAny_call_function hr.depth (KX _ _ lk) rfl S.co S.gen rfl (PySem.W.codeRec_of KX hcd) (hb _ _ _ _ ?_)
 refine wpAny_newFunctionEnv_cells S.kind hkind fun env he s1 x=>?_
 subst he
 refine⟨lim.keeps x.toInCall.keep,codeAny_func ?_⟩
 obtain⟨t,ht,hq⟩:=hbody A outer s H vs Q E (hr.deeper _) hsp
 have I:Inv (qX CX P w K mg base N qual scope f cdv A outer s H E) [] (start N vs) H s1:=zZ S hr.hd e0 hl r x
 refine wpAny_mono (ht [] s1 (start N vs) H _ I hq) (fun fl s' hs=>?_) fun e s' hs=>hs
 have fin:∀{σ':St} {H':Hp} {v:V} {u:Value},Inv (qX CX P w K mg base N qual scope f cdv A outer s H E) [] σ' H' s'→RelV v u→Q v H'→CE outer P w H s Q u s':=
  fun {σ' H' v u} J rv q=>⟨v,H',J.os,J.bare,J.base,J.hok,rv,q⟩
 cases fl with
 | ret u=>
   obtain⟨v,σ',H',J,rv,q⟩:=hs
   exact fin J rv q
 | next=>
   obtain⟨σ',H',J,q⟩:=hs
   exact fin (v:=V.cI) (u:=Value.none) J rfl q
 | brk=>
   obtain⟨_,_,_,q⟩:=hs
   exact False.elim q
 | cont=>
   obtain⟨_,_,_,q⟩:=hs
   exact False.elim q
end L2
namespace L2
open PySem PySem.Spec PyProof.Rows
section
variable {X:Cx} {x:Str} {p pos:Pos} {e:Expr} {es:List Expr} {t:TA} {id T:String} {r:List V→Hp→VK→Prop}
noncomputable def Lk(r:List V→Hp→VK→Prop)(t:TA):TE:=fun σ H Q=>t σ H fun vs H1=>r vs H1 Q
theorem wb(hc:jR X (.builtin id) r)(hg:Gl X x)(hm:X.mg x=none)(hv:bootBuiltins x=some (.builtin id))(ha:PA X (e ::es) t)(hn:x≠"__name__":=by decide)(hdb:(x==("__debug__":Str))=false:=by decide)
 (he:starEach (e ::es) X.env=(false,eval e X.env) ::starEach es X.env:=by rfl) (hpl:(backTo pos (starEach es X.env)).any (·.1)=false:=by rfl):PE X (.Call (.Name x p) (e ::es) [] pos) (Lk r t):=by
 intro pins s σ H Q I h
 refine wpAny_Call_Name_kw (jN I hg hm hv ?_ hn hdb)
 exact PyProof.Rows.callWith_builtin1 (dY (ha pos pins s σ H _ I h) fun us s1 ⟨vs,H1,I1,r1,q1⟩=>hc pins s1 σ H1 vs us Q I1 r1 q1) he hpl
theorem Ag(hc:jR X (.type T) r)(hg:Gl X x)(hm:X.mg x=none)(hv:bootBuiltins x=some (.type T))(ha:PA X (e ::es) t)(hn:x≠"__name__":=by decide)(hdb:(x==("__debug__":Str))=false:=by decide)
 (he:starEach (e ::es) X.env=(false,eval e X.env) ::starEach es X.env:=by rfl) (hpl:(backTo pos (starEach es X.env)).any (·.1)=false:=by rfl):PE X (.Call (.Name x p) (e ::es) [] pos) (Lk r t):=by
 intro pins s σ H Q I h
 refine wpAny_Call_Name_kw (jN I hg hm hv ?_ hn hdb)
 exact PyProof.Rows.callWith_type1 (dY (ha pos pins s σ H _ I h) fun us s1 ⟨vs,H1,I1,r1,q1⟩=>hc pins s1 σ H1 vs us Q I1 r1 q1) he hpl
end
end L2
namespace L2
open PySem PySem.Spec PyProof.Rows
section
variable {κ:Type} [DecidableEq κ]
noncomputable def lI(kvs:List (κ × V))(k:κ):Option V:=(kvs.find? fun kv=>decide (kv.1=k)).map (·.2)
noncomputable def putK(kvs:List (κ × V))(k:κ)(v:V):List (κ × V):=
 if(kvs.any fun kv=>decide (kv.1=k))=true then kvs.map (fun kv=>if kv.1=k then(kv.1,v) else kv) else kvs++[(k,v)]
noncomputable def CT(kvs:List (κ × V))(k:κ):List (κ × V):=kvs.filter fun kv=>decide (kv.1≠k)
theorem u7{p:κ × V}{r:List (κ × V)}{k:κ}(e:p.1=k):lI (p ::r) k=some p.2:=by simp [lI,List.find?_cons,e]
theorem vF{p:κ × V}{r:List (κ × V)}{k:κ}(e:¬p.1=k):lI (p ::r) k=lI r k:=by simp [lI,List.find?_cons,e]
theorem wU(kvs:List (κ × V))(k:κ)(v:V):(putK kvs k v).length≤kvs.length+1:=by
 unfold putK
 split
 ·rw[List.length_map];omega
 ·rw[List.length_append,List.length_cons,List.length_nil];omega
theorem nS.getD{o:Option V}{u:Option Value}{d:V}{d':Value}(r:nS o u)(rd:RelV d d'):RelV (o.getD d) (u.getD d'):=by
 cases o with
 | none=>cases u with
   | none=>exact rd
   | some _=>exact(show False from r).elim
 | some _=>cases u with
   | none=>exact(show False from r).elim
   | some _=>exact r
theorem KV.val{kvs:List (κ × V)}{vs:List (κ × Value)}(r:KV kvs vs)(k:κ):nS (lI kvs k) (valueAt vs k):=by
 unfold KV at r
 induction r with
 | nil=>exact True.intro
 | @cons p q ps qs h t ih=>
   obtain⟨h1,h2⟩:=h
   by_cases e:p.1=k
   ·have e':q.1=k:=h1.symm.trans e
    have b:valueAt (q ::qs) k=some q.2:=by simp [valueAt,List.find?_cons,e']
    rw[u7 e,b];exact h2
   ·have e':¬q.1=k:=fun z=>e (h1.trans z)
    have b:valueAt (q ::qs) k=valueAt qs k:=by simp [valueAt,List.find?_cons,e']
    rw[vF e,b];exact ih
theorem KV.any{kvs:List (κ × V)}{vs:List (κ × Value)}(r:KV kvs vs)(k:κ):(kvs.any fun kv=>decide (kv.1=k))=vs.any fun kv=>decide (kv.1=k):=by
 unfold KV at r
 induction r with
 | nil=>rfl
 | cons h t ih=>rw [List.any_cons,List.any_cons,ih,h.1]
theorem KV.K8{kvs:List (κ × V)}{vs:List (κ × Value)}(r:KV kvs vs)(k:κ){y:V}{u:Value}(ry:RelV y u) :
 KV (kvs.map fun kv=>if kv.1=k then(kv.1,y) else kv) (vs.map fun kv=>if kv.1=k then(kv.1,u) else kv):=by
 unfold KV at r ⊢
 induction r with
 | nil=>exact .nil
 | @cons p q ps qs h t ih=>
   rw[List.map_cons,List.map_cons]
   refine .cons ?_ ih
   obtain⟨h1,h2⟩:=h
   by_cases e:p.1=k
   ·rw[if_pos e,if_pos (h1.symm.trans e)];exact⟨h1,ry⟩
   ·rw[if_neg e,if_neg (fun z=>e (h1.trans z))];exact⟨h1,h2⟩
theorem KV.put{kvs:List (κ × V)}{vs:List (κ × Value)}(r:KV kvs vs)(k:κ){y:V}{u:Value}(ry:RelV y u):KV (putK kvs k y) (stored vs k u):=by
 unfold putK stored
 rw[r.any k]
 by_cases e:(vs.any fun kv=>decide (kv.1=k))=true
 ·rw[if_pos e,if_pos e];exact r.K8 k ry
 ·rw[if_neg e,if_neg e];exact Paired.snoc r ⟨rfl,ry⟩
end
theorem Ca{P:Program}{w:World}{k:Key}{u:Value}(r:RelV (kV k) u):(dQ P w).is k u=true:=by
 cases k with
 | inl i=>obtain⟨t,e⟩:=(show ∃t,u=Value.int i t from r);subst e;exact vp P w i t
 | inr x=>obtain⟨t,e⟩:=(show ∃t,u=Value.str x t from r);subst e;exact wt P w x t
theorem sZ{P:Program}{w:World}:∀{ks:List Key} {us:List Value},Vals (ks.map kV) us→ItemsAre (dQ P w) ks us
 | [],_,r=>by rw[List.map_nil] at r;cases r;exact .nil
 | k ::ks,_,r=>by
   rw[List.map_cons] at r
   cases r with
   | cons h t=>exact .cons (Ca h) (sZ t)
noncomputable abbrev KT(H:Hp):List (List Key × V)→List (List Key × Addr × Value)→Prop:=Paired fun p q=>p.1=q.1∧H q.2.1=some (.tup (p.1.map kV))∧RelV p.2 q.2.2
theorem KT.val{H:Hp}{kvs:List (List Key × V)}{xs:List (List Key × Addr × Value)}(r:KT H kvs xs)(k:List Key):nS (lI kvs k) ((atKey xs k).map (·.2)):=by
 induction r with
 | nil=>exact True.intro
 | @cons p q ps qs h t ih=>
   obtain⟨h1,_,h2⟩:=h
   by_cases e:p.1=k
   ·have e':q.1=k:=h1.symm.trans e
    have b:atKey (q ::qs) k=some q.2:=by simp [atKey,List.find?_cons,e']
    rw[u7 e,b];exact h2
   ·have e':¬q.1=k:=fun z=>e (h1.trans z)
    have b:atKey (q ::qs) k=atKey qs k:=by simp [atKey,List.find?_cons,e']
    rw[vF e,b];exact ih
section
variable {P:Program} {w:World} {H:Hp} {h:Heap} {a:Addr}
theorem FE{u:HO}(ok:mG P w H h)(e:Rd H a u):dZ P w H h a u:=e.ok ok
theorem Bp{kvs:List (Key × V)}(ok:mG P w H h)(e:Rd H a (.dK kvs)):kvs.length≤sizeLine∧(a==sysModules)=false∧∃vs,KV kvs vs∧h.DictOf (dQ P w) a vs:=
 show dZ P w H h a (.dK kvs) from FE ok e
theorem IV{kvs:List (Key × V)}(ok:mG P w H h)(e:H a=some (.dK kvs)):kvs.length≤sizeLine∧(a==sysModules)=false∧∃vs,KV kvs vs∧h.DictOf (dQ P w) a vs:=Bp ok (.inl e)
theorem Cm{ks:List Key}(ok:mG P w H h)(e:H a=some (.tup (ks.map kV))):(tupleKind (dQ P w)).is h ks a:=by
 obtain⟨_,its,r,o,h1,h2,n,h3⟩:=(show dZ P w H h a (.tup (ks.map kV)) from ok a _ e)
 exact⟨o,its.toArray,n,h1,h2,h3,by simpa using sZ r⟩
theorem FL{kvs:List (List Key × V)}(ok:mG P w H h)(e:Rd H a (.dT kvs)):kvs.length≤sizeLine∧(a==sysModules)=false∧
 ∃xs,KT H kvs xs∧h.DictOfH (tupleKind (dQ P w)) a xs:=by
 obtain⟨z,y,xs,r,o,es,ep,h1,h2,h3,h4,h5⟩:=(show dZ P w H h a (.dT kvs) from FE ok e)
 refine⟨z,y,xs,r,o,es,ep,h1,h2,h3,h4,fun x hx=>?_,h5⟩
 have all:∀{l:List (List Key × V)} {m:List (List Key × Addr × Value)},KT H l m→∀x∈m,(tupleKind (dQ P w)).is h x.1 x.2.1:=by
  intro l m q
  induction q with
  | nil=>intro x hx;exact nomatch hx
  | @cons p q ps qs hq t ih=>
    intro x hx
    rcases List.mem_cons.mp hx with e | hx
    ·subst e
     exact Cm ok (by rw[←hq.1];exact hq.2.1)
    ·exact ih x hx
 exact all r x hx
end
noncomputable def sj(H:Hp)(a:Addr)(y:V)(r:Option V):Prop:=
 (∃kvs k,Rd H a (.dK kvs)∧y=kV k∧r=lI kvs k)∨∃kvs k b,Rd H a (.dT kvs)∧y= .ref b∧H b=some (.tup (k.map kV))∧r=lI kvs k
noncomputable def Ik(H:Hp)(a:Addr)(y v:V)(H':Hp):Prop:=
 (∃kvs k,H a=some (.dK kvs)∧y=kV k∧kvs.length < sizeLine∧H'=upd H a (.dK (putK kvs k v)))∨
 ∃kvs k b,H a=some (.dT kvs)∧y= .ref b∧H b=some (.tup (k.map kV))∧kvs.length < sizeLine∧H'=upd H a (.dT (putK kvs k v))
theorem sj.k{H:Hp}{a:Addr}{kvs:List (Key × V)}{k:Key}(e:H a=some (.dK kvs)):sj H a (kV k) (lI kvs k):= .inl ⟨kvs,k, .inl e,rfl,rfl⟩
section
variable {X:Cx} {pins:List (Addr × Obj)} {σ:St} {H:Hp} {s:Shared} {a:Addr} {y v:V} {u r:Value} {o:Option V} {A:Around} {E:Value→Shared→Prop}
theorem Inv.big(I:Inv X pins σ H s):sysModules < s.heap.objs.size:=by
 have h:mainGlobals < s.heap.objs.size:=(I.mod.glob.keeps I.bk).lt
 exact Nat.lt_trans (by decide) h
theorem Fq{h':Heap}{t':Nat}{ob:HO}(I:Inv X pins σ H s)(mu:Jd (H a))(hs:Heap.SameBut a s.heap h')(he:∃q,h'.get? a=some q)(new:dZ X.prog X.w (upd H a ob) h' a ob) :
 Inv X pins σ (upd H a ob) {s with heap:=h',toks:=t'}:=
 I.write (x:=a) (e:=a) mu (.inl rfl) (fun b q hb z=>(hs.2 b hb).trans z) he new
theorem HH{P:Program}{w:World}{H':Hp}{h':Heap}{kvs:List (Key × V)}{vs:List (Key × Value)}(z:kvs.length≤sizeLine)(hd:(a==sysModules)=false)(rel:KV kvs vs)(dd:h'.DictOf (dQ P w) a vs) :
 dZ P w H' h' a (.dK kvs):=⟨z,hd,vs,rel,dd⟩
end
section
variable {X:Cx} {pins:List (Addr × Obj)} {σ:St} {H:Hp} {s:Shared} {a:Addr} {kvs:List (Key × V)} {k:Key} {u:Value} {A:Around} {E:Value→Shared→Prop}
end
noncomputable def Mh(i:Expr):Prop:=∀ov iv,subscripted i false ov iv=operate [ov,iv] (getItem ov iv)
noncomputable def Lz(td ty:TE):TE:=fun σ H Q=>td σ H fun x H1=>ty σ H1 fun y H2=>∃a v,x= .ref a∧sj H2 a y (some v)∧Q v H2
noncomputable def Md(ty td:TE):TE:=fun σ H Q=>ty σ H fun y H1=>td σ H1 fun x H2=>∃a o,x= .ref a∧sj H2 a y o∧Q (.bl o.isSome) H2
noncomputable def J3(ty td:TE):TE:=fun σ H Q=>ty σ H fun y H1=>td σ H1 fun x H2=>∃a o,x= .ref a∧sj H2 a y o∧Q (.bl (!o.isSome)) H2
noncomputable def Lr(td ty tv:TE):TS:=fun D σ H=>tv σ H fun v H1=>td σ H1 fun x H2=>ty σ H2 fun y H3=>∃a H4,x= .ref a∧Ik H3 a y v H4∧D.nx σ H4
noncomputable def LG(td ty tv:TE)(rd:V→V→Hp→VK→Prop):TS:=fun D σ H=>td σ H fun x H1=>ty σ H1 fun y H2=>∃a v,x= .ref a∧sj H2 a y (some v)∧
 tv σ H2 fun y2 H3=>rd v y2 H3 fun z H4=>∃H5,Ik H4 a y z H5∧D.nx σ H5
noncomputable def LM(td ty:TE):TS:=fun D σ H=>td σ H fun x H1=>ty σ H1 fun y H2=>∃a kvs k,x= .ref a∧H2 a=some (.dK kvs)∧y=kV k∧(lI kvs k).isSome=true∧D.nx σ (upd H2 a (.dK (CT kvs k)))
section
variable {X:Cx} {o i e value:Expr} {pos pos' tpos:Pos} {td ty tv:TE}
end
theorem Dj{P:Program}{w:World}{H:Hp}(h:Heap)(hb:sysModules < h.objs.size):dZ P w H (h.push {cls:= .type "dict",data:= .dict #[]}) h.objs.size (.dK []):=
 ⟨Nat.zero_le _,beq_eq_false_iff_ne.mpr (Ne.symm (Nat.ne_of_lt hb)),[], .nil,Heap.DictOf.new h⟩
noncomputable def K0:TE:=fun _ H Q=>∀p,H p=none→Q (.ref p) (upd H p (.dK []))
noncomputable def Ky:TE:=fun _ H Q=>∀p,H p=none→Q (.ref p) (upd H p (.dT []))
section
variable {X:Cx} {pos:Pos}
end
noncomputable def qQ:List (TE × TE)→St→Hp→(List (V × V)→Hp→Prop)→Prop
 | [],_,H,Q=>Q [] H
 | (tk,tv) ::r,σ,H,Q=>tk σ H fun x H1=>tv σ H1 fun y H2=>qQ r σ H2 fun ps H3=>Q ((x,y) ::ps) H3
noncomputable abbrev VV:List (V × V)→List (Value × Value)→Prop:=Paired fun p q=>RelV p.1 q.1∧RelV p.2 q.2
noncomputable def HY(X:Cx)(pos:Pos)(keys:List (Option Expr))(values:List Expr)(trs:List (TE × TE)):Prop:=
 ∀(pins:List (Addr × Obj)) (s:Shared) (σ:St) (H:Hp) (Q:List (V × V)→Hp→Prop),Inv X pins σ H s→qQ trs σ H Q→
  wpAny (model X.prog X.w) X.A (evalPairs (pairTrees keys values X.env pos)) (fun vs s'=>∃ps H',Inv X pins σ H' s'∧VV ps vs∧Q ps H') X.xe s
theorem y3{X:Cx}{pos:Pos}:HY X pos [] [] []:=fun pins s σ H Q I h=>pairTrees_nil_walk ⟨[],H,I, .nil,h⟩
theorem nB{X:Cx}{pos:Pos}{k v:Expr}{ks:List (Option Expr)}{vs:List Expr}{tk tv:TE}{trs:List (TE × TE)}(hk:PE X k tk)(hv:PE X v tv)(hr:HY X pos ks vs trs) :
 HY X pos (some k ::ks) (v ::vs) ((tk,tv) ::trs):=fun pins s σ H Q I h=>
 pairTrees_cons_walk (dY (hk pins s σ H _ I h) fun u s1 ⟨x,H1,I1,rx,q1⟩=>dY (hv pins s1 σ H1 _ I1 q1) fun w2 s2 ⟨y,H2,I2,ry,q2⟩=>
  dY (hr pins s2 σ H2 _ I2 q2) fun ws s3 ⟨ps,H3,I3,rel,q3⟩=>⟨(x,y) ::ps,H3,I3, .cons ⟨rx,ry⟩ rel,q3⟩)
noncomputable def jI(kvs more:List (Key × V)):List (Key × V):=more.foldl (fun acc kv=>putK acc kv.1 kv.2) kvs
theorem KV.merge:∀{more:List (Key × V)} {rs:List (Key × Value)} {kvs:List (Key × V)} {vs:List (Key × Value)},KV more rs→KV kvs vs→KV (jI kvs more) (merged vs rs):=by
 intro more rs kvs vs r
 unfold KV at r
 induction r generalizing kvs vs with
 | nil=>intro q;exact q
 | @cons p q ps qs h t ih=>
   intro r0
   have e:KV (putK kvs p.1 p.2) (stored vs q.1 q.2):=by
    have:=r0.put p.1 h.2
    rw[←h.1];exact this
   exact ih e
theorem ml:∀(more kvs:List (Key × V)),(jI kvs more).length≤kvs.length+more.length
 | [],kvs=>by show kvs.length≤kvs.length+0;omega
 | p ::r,kvs=>by
   have h1:=ml r (putK kvs p.1 p.2)
   have h2:=wU kvs p.1 p.2
   show(jI (putK kvs p.1 p.2) r).length≤_
   rw[List.length_cons];omega
theorem rQ{P:Program}{w:World}:∀{kvs:List (Key × V)} {ws:List (Value × Value)},VV (kvs.map fun kv=>(kV kv.1,kv.2)) ws→∃rs,Carries (dQ P w) ws rs∧KV kvs rs
 | [],_,r=>by rw[List.map_nil] at r;cases r;exact⟨[],True.intro, .nil⟩
 | p ::kvs,_,r=>by
   rw[List.map_cons] at r
   cases r with
   | @cons a b as bs h t=>
     obtain⟨rs,c,q⟩:=rQ (P:=P) (w:=w) t
     obtain⟨b1,b2⟩:=b
     exact⟨(p.1,b2) ::rs,⟨Ca h.1,rfl,c⟩, .cons ⟨rfl,h.2⟩ q⟩
noncomputable def Ck(trs:List (TE × TE)):TE:=fun σ H Q=>∀p,H p=none→qQ trs σ (upd H p (.dK [])) fun ps H2=>H2 p=some (.dK [])∧∃kvs:List (Key × V),ps=kvs.map (fun kv=>(kV kv.1,kv.2))∧kvs.length≤15∧Q (.ref p) (upd H2 p (.dK (jI [] kvs)))
theorem DV{X:Cx}{pos:Pos}{keys:List (Option Expr)}{values:List Expr}{trs:List (TE × TE)}(h:HY X pos keys values trs)(hall:keys.all (·.isSome)=true)(hl:keys.length=values.length)(h0:keys≠[])
 (h15:keys.length≤15):PE X (.Dict keys values pos) (Ck trs):=by
 intro pins s σ H Q I q
 have hn:=I.hok.fresh (Nat.le_refl s.heap.objs.size)
 have I1:=I.laid (a:=s.heap.objs.size) (o:= .dK []) (h':=s.heap.push {cls:= .type "dict",data:= .dict #[]}) (t':=s.toks) (fun _ _ q=>Heap.get?_push_of_some _ q) (Nat.le_refl _) (Dj s.heap I.big)
 refine wpAny_Dict_walk (knd:=dQ X.prog X.w) hall hl h0 h15 (dY (h pins _ σ _ _ I1 (q _ hn)) fun ws s2 ⟨ps,H2,I2,rel,e,kvs,ep,lk,q2⟩=>?_)
 subst ep
 obtain⟨rs,c,rk⟩:=rQ (P:=X.prog) (w:=X.w) rel
 obtain⟨z,hd,vs0,r0,dd⟩:=IV I2.hok e
 cases r0
 refine⟨rs,c,dd,fun h' dd' hs=>⟨.ref s.heap.objs.size,_,?_,rfl,q2⟩⟩
 have hz:(jI [] kvs).length≤sizeLine:=by
  have h1:=ml kvs []
  rw[List.length_nil] at h1
  rw[sizeLine_eq];omega
 have he:∃q,h'.get? s.heap.objs.size=some q:=let⟨q,_,_,hq,_⟩:=dd';⟨q,hq⟩
 exact Fq I2 (by rw[e];exact True.intro) hs he (HH hz hd (rk.merge .nil) dd')
structure M1 (X:Cx) (o:Expr) (m:Str) (apos:Pos) (e:Expr) (cpos:Pos):Prop where
 base:attributeBase o m X.env (eval o X.env)=eval o X.env
 few:((backTo cpos (starEach [e] X.env)).all (fun x=>!x.1) && (backToKw cpos (keywordEach [] X.env)).all (fun x=>x.1.isSome)
  && decide (([e]:List Expr).length+([]:List Keyword).length+(if([]:List Keyword).isEmpty then 0 else 1) < 30))=true
 line:(apos.endLine==cpos.line)=true
 trees:backTo cpos (starEach [e] X.env)=[(false,eval e X.env)]
structure M2 (X:Cx) (o:Expr) (m:Str) (apos:Pos) (e f:Expr) (cpos:Pos):Prop where
 base:attributeBase o m X.env (eval o X.env)=eval o X.env
 few:((backTo cpos (starEach [e,f] X.env)).all (fun x=>!x.1) && (backToKw cpos (keywordEach [] X.env)).all (fun x=>x.1.isSome)
  && decide (([e,f]:List Expr).length+([]:List Keyword).length+(if([]:List Keyword).isEmpty then 0 else 1) < 30))=true
 line:(apos.endLine==cpos.line)=true
 trees:backTo cpos (starEach [e,f] X.env)=[(false,eval e X.env),(false,eval f X.env)]
noncomputable def Js(H:Hp)(a:Addr):Prop:=(∃kvs,Rd H a (.dK kvs))∨∃kvs,Rd H a (.dT kvs)
theorem GD{X:Cx}{pins:List (Addr × Obj)}{σ:St}{H:Hp}{s:Shared}{a:Addr}(I:Inv X pins σ H s)(d:Js H a) :
 s.TypeIs (.ref a) "dict"∧(∀b,Value.ref a= .ref b→∃ob,s.heap.get? b=some ob∧ob.dict=none)∧(a==sysModules)=false:=by
 rcases d with⟨kvs,e⟩ | ⟨kvs,e⟩
 ·obtain⟨_,hd,vs,_,dd⟩:=Bp I.hok e
  refine⟨dd.typeIs,fun b q=>?_,hd⟩
  cases q
  obtain⟨ob,_,_,h1,h2,_⟩:=dd
  exact⟨ob,h1,h2.2.1⟩
 ·obtain⟨_,hd,xs,_,dd⟩:=FL I.hok e
  refine⟨dd.typeIs,fun b q=>?_,hd⟩
  cases q
  obtain⟨ob,_,_,h1,h2,_⟩:=dd
  exact⟨ob,h1,h2.2.1⟩
section
variable {X:Cx} {pins:List (Addr × Obj)} {σ:St} {H:Hp} {s:Shared} {a:Addr} {y d:V} {u r:Value} {o:Option V} {A:Around} {E:Value→Shared→Prop}
theorem Ga{Q:Value→Shared→Prop}(hu:A.units+1 < cLine)(I:Inv X pins σ H s)(g:sj H a y o)(ry:RelV y u)(rd:RelV d r)(h:∀w' s',Inv X pins σ H s'→RelV (o.getD d) w'→Q w' s') :
 wpAny (model X.prog X.w) A (call (.builtin "dict.get") [.ref a,u,r]) Q E s:=by
 rcases g with⟨kvs,k,e,ey,l⟩ | ⟨kvs,k,b,e,ey,eb,l⟩
 ·subst ey
  obtain⟨z,hd,vs,rel,dd⟩:=Bp I.hok e
  refine call_meetsIn PySem.F.slot_dict_get dd.typeIs PySem.F.entry_dict_get (PySem.F.args_dict_get_3 _ _ _) (meets_dict_get_default (dQ X.prog X.w) a (Ca ry) hd r) ⟨_,dd.mapOf,h _ _ (I.tok _) ?_⟩
  rw[l]
  exact(rel.val k).getD rd
 ·subst ey
  cases(show u=Value.ref b from ry)
  obtain⟨z,hd,xs,rel,dd⟩:=FL I.hok e
  refine call_meetsIn PySem.F.slot_dict_get dd.typeIs PySem.F.entry_dict_get (PySem.F.args_dict_get_3 _ _ _) (meetsH_dict_get_default (tupleKind (dQ X.prog X.w)) a b hd r) ⟨tupleKind_room_in1 hu,k,xs,Cm I.hok eb,dd,h _ _ (I.tok _) ?_⟩
  rw[l]
  exact(rel.val k).getD rd
end
noncomputable def KD(td ty:TE):TE:=fun σ H Q=>td σ H fun x H1=>∃a,x= .ref a∧Js H1 a∧ty σ H1 fun y H2=>∃o,sj H2 a y o∧Q (o.getD .cI) H2
noncomputable def Gx(td ty tx:TE):TE:=fun σ H Q=>td σ H fun x H1=>∃a,x= .ref a∧Js H1 a∧ty σ H1 fun y H2=>tx σ H2 fun z H3=>∃o,sj H3 a y o∧Q (o.getD z) H3
noncomputable def Ko(td ty:TE):TE:=fun σ H Q=>td σ H fun x H1=>∃a,x= .ref a∧Js H1 a∧ty σ H1 fun y H2=>∃kvs k v,H2 a=some (.dK kvs)∧y=kV k∧lI kvs k=some v∧Q v (upd H2 a (.dK (CT kvs k)))
noncomputable def K3(td ty tx:TE):TE:=fun σ H Q=>td σ H fun x H1=>∃a,x= .ref a∧Js H1 a∧ty σ H1 fun y H2=>tx σ H2 fun z H3=>∃kvs k,H3 a=some (.dK kvs)∧y=kV k∧
 (∀v,lI kvs k=some v→Q v (upd H3 a (.dK (CT kvs k))))∧(lI kvs k=none→Q z H3)
section
variable {X:Cx} {o e f:Expr} {apos cpos:Pos} {td ty tx:TE}
theorem B4(hu:X.A.units+1 < cLine)(ho:PE X o td)(he:PE X e ty)(hf:PE X f tx)(m:M2 X o "get" apos e f cpos):PE X (.Call (.Attribute o "get" apos) [e,f] [] cpos) (Gx td ty tx):=by
 intro pins s σ H Q I h
 refine wpAny_Call_method m.base m.few m.line PySem.F.plainAttrs_dict PySem.F.slot_dict_get PySem.F.type_dict_get (dY (ho pins s σ H _ I h) fun u s1 ⟨x,H1,I1,rx,a,ex,d,q1⟩=>?_)
 subst ex
 obtain rfl:u=Value.ref a:=rx
 obtain⟨t1,t2,_⟩:=GD I1 d
 refine⟨t1,t2,?_⟩
 rw[m.trees]
 refine Calls.callWith_builtin rfl (Calls.evalArgs_plain (Calls.spliced_cons (dY (he pins s1 σ H1 _ I1 q1) fun iv s2 ⟨y,H2,I2,ry,q2⟩=>
  Calls.spliced_cons (dY (hf pins s2 σ H2 _ I2 q2) fun fv s3 ⟨z,H3,I3,rz,ov,g,q3⟩=>Calls.spliced_nil ?_))))
 exact Ga hu I3 g ry rz fun w' s4 I4 rw'=>⟨_,H3,I4,rw',q3⟩
end
section
variable {X:Cx} {pins:List (Addr × Obj)} {σ:St} {H:Hp} {s:Shared} {a:Addr} {kvs:List (Key × V)} {A:Around} {E:Value→Shared→Prop}
end
section
variable {X:Cx} {pins:List (Addr × Obj)} {σ:St} {H:Hp} {s:Shared} {a:Addr} {y:V} {u:Value} {A:Around} {E:Value→Shared→Prop}
end
end L2
namespace HT
open PySem PyProof.Rows
noncomputable def lexLt:List Int→List Int→Bool
 | [],[]=>false
 | [],_ ::_=>true
 | _ ::_,[]=>false
 | x ::xs,y ::ys=>if x=y then lexLt xs ys else decide (x < y)
section
open PySem.SeqAt
open PySem.AutoSeq1 (wpAny_loadPart')
open PySem.MeetsSeq PySem.MeetsSeq2 PySem.MeetsSeq3
end
section
variable {prog:Program} {w:World} {A:Around} {E:Value→Shared→Prop} {s:Shared}
theorem DY{t b:Addr}{vs ws:List Value}{Q:Value→Shared→Prop}(ht:IsTup s.heap t vs.toArray)(hb:IsTup s.heap b ws.toArray)(hv:vs≠[])
 (h1:ws=[]→Q (.ref t) s) (h2:ws≠[]→Q (.ref s.heap.objs.size) {s with heap:=s.heap.push {cls:= .type "tuple",data:= .seq (vs++ws).toArray}})
 (hsz:vs.length+ws.length≤sizeLine):wpAny (model prog w) A (binaryOp .Add (.ref t) (.ref b)) Q E s:=by
 obtain⟨⟨cls,dd,data,sl⟩,ho,hc,n,hd⟩:=id ht
 obtain⟨⟨cls2,dd2,data2,sl2⟩,ho2,hc2,n2,hd2⟩:=id hb
 simp only at hc hd hc2 hd2
 subst hc hd hc2 hd2
 have e:vs.toArray++ws.toArray=(vs++ws).toArray:=by simp
 by_cases hw:ws=[]
 ·exact concat_meets ⟨_,ho,rfl⟩ ⟨_,ho2,rfl⟩ noFill_tuple_add seq_tuple_add PySem.F.slot_tuple_add PySem.F.entry_tuple_add (PySem.F.args_tuple_add_2 _ _)
   (tuple_addW1 t b vs.toArray ws.toArray n n2 dd dd2 sl sl2 (by simpa using hv) (by simp [hw])) ⟨ho,ho2,h1 hw⟩
 ·refine concat_meets ⟨_,ho,rfl⟩ ⟨_,ho2,rfl⟩ noFill_tuple_add seq_tuple_add PySem.F.slot_tuple_add PySem.F.entry_tuple_add (PySem.F.args_tuple_add_2 _ _)
   (tuple_addW2 t b vs.toArray ws.toArray n n2 dd dd2 sl sl2 (by simpa using hv) (by simpa using hw) (by rw[List.size_toArray,List.size_toArray];exact hsz)) ⟨ho,ho2,?_⟩
  rw[e]
  exact h2 hw
noncomputable def sd(n d:Nat):Option Int→Nat
 | none=>d
 | some v=>if v < 0 then(v+(n:Int)).toNat else min v.toNat n
theorem Bz(n d:Nat):sd n d none=d:=rfl
theorem uM(n d k:Nat):sd n d (some (k:Int))=min k n:=by
 show(if(k:Int) < 0 then((k:Int)+(n:Int)).toNat else min (k:Int).toNat n)=min k n
 rw[if_neg (by omega),Int.toNat_natCast]
end
end HT
namespace L2
open PySem PySem.Spec PyProof.Rows
noncomputable abbrev TO:=St→Hp→(Option Int→Hp→Prop)→Prop
noncomputable def PO(X:Cx)(e:Option Expr)(t:TO):Prop:=
 ∀(pins:List (Addr × Obj)) (s:Shared) (σ:St) (H:Hp) (Q:Option Int→Hp→Prop),Inv X pins σ H s→t σ H Q→
  wpAny (model X.prog X.w) X.A (evalPart e X.env) (fun u s'=>∃o H',Inv X pins σ H' s'∧IsPart u o∧Q o H') X.xe s
noncomputable def EB:TO:=fun _ H Q=>Q none H
noncomputable def Iv(t:TE):TO:=fun σ H Q=>t σ H fun x H1=>∃i,x= .int i∧Q (some i) H1
section
variable {X:Cx} {e:Expr} {te:TE} {lo hi:Option Expr} {tl th:TO} {pos p2:Pos}
theorem DG:PO X none EB:=by
 intro pins s σ H Q I h
 rw[evalPart_none]
 exact wpAny_pure ⟨none,H,I, .none,h⟩
theorem Ei(h:PE X e te):PO X (some e) (Iv te):=by
 intro pins s σ H Q I hw
 rw[evalPart_some]
 refine dY (h pins s σ H _ I hw) fun u s1 ⟨x,H1,I1,r1,q1⟩=>?_
 obtain⟨i,rfl,q⟩:=q1
 obtain⟨t,rfl⟩:=r1
 exact⟨some i,H1,I1, .int i t,q⟩
noncomputable def HQ(X:Cx)(r:V→Option Int→Option Int→Hp→VK→Prop):Prop:=
 ∀(pins:List (Addr × Obj)) (s:Shared) (σ:St) (H:Hp) (x:V) (v vl vu:Value) (lo hi:Option Int) (sl:Addr) (Q:VK),Inv X pins σ H s→RelV x v→s.heap.IsSliceOf sl vl vu .none→IsPart vl lo→IsPart vu hi→r x lo hi H Q→
  ∃T id,typeLookup (.type T) "__getitem__"=pure (some (.builtin id))∧s.TypeIs v T∧wpAny (model X.prog X.w) X.A (getItem v (.ref sl)) (EP X pins σ Q) X.xe s
theorem HQ.or{r r':V→Option Int→Option Int→Hp→VK→Prop}(h:HQ X r)(h':HQ X r'):HQ X (fun x lo hi H Q=>r x lo hi H Q∨r' x lo hi H Q):=by
 intro pins s σ H x v vl vu lo hi sl Q I rx hs pl pu q
 rcases q with q | q
 ·exact h pins s σ H x v vl vu lo hi sl Q I rx hs pl pu q
 ·exact h' pins s σ H x v vl vu lo hi sl Q I rx hs pl pu q
noncomputable def L_(r:V→Option Int→Option Int→Hp→VK→Prop)(te:TE)(tl th:TO):TE:=fun σ H Q=>te σ H fun x H1=>tl σ H1 fun l H2=>th σ H2 fun u H3=>r x l u H3 Q
theorem CK{r:V→Option Int→Option Int→Hp→VK→Prop}(hr:HQ X r)(he:PE X e te)(hl:PO X lo tl)(hu:PO X hi th):PE X (.Subscript e (.Slice lo hi none p2) pos) (L_ r te tl th):=by
 intro pins s σ H Q I h
 refine Subscript_ (dY (he pins s σ H _ I h) fun v s1 ⟨x,H1,I1,r1,q1⟩=>?_)
 refine wpAny_Slice (dY (hl pins s1 σ H1 _ I1 q1) fun vl s2 ⟨l,H2,I2,pl,q2⟩=>dY (hu pins s2 σ H2 _ I2 q2) fun vu s3 ⟨u,H3,I3,pu,q3⟩=>?_)
 rw[evalPart_none]
 refine wpAny_pure ?_
 have I4:Inv X pins σ H3 {s3 with heap:=s3.heap.push {cls:= .type "slice",data:= .fields #[vl,vu, .none]}}:=I3.kept (t':=s3.toks) fun b ob q=>Heap.get?_push_of_some _ q
 obtain⟨T,id,hT,ht,hg⟩:=hr pins {s3 with heap:=s3.heap.push {cls:= .type "slice",data:= .fields #[vl,vu, .none]}} σ H3 x v vl vu l u s3.heap.objs.size Q I4 r1 (Heap.IsSliceOf.new ..) pl pu q3
 show wpAny (model X.prog X.w) X.A (subscriptTail e (.Slice lo hi none p2) v (.ref s3.heap.objs.size)) (EP X pins σ Q) X.xe {s3 with heap:=s3.heap.push {cls:= .type "slice",data:= .fields #[vl,vu, .none]}}
 exact tail_any (ops:=[.ref s3.heap.objs.size,v]) ht hT hg (by with_unfolding_all rfl)
noncomputable def xA(xs:List V)(lo hi:Option Int):List V:=(xs.drop (HT.sd xs.length 0 lo)).take (HT.sd xs.length xs.length hi - HT.sd xs.length 0 lo)
theorem vN(xs:List V)(lo hi:Option Int):(xA xs lo hi).length≤xs.length:=by
 unfold xA
 rw[List.length_take,List.length_drop]
 omega
noncomputable def LQ(K:PySem.W.Frag):V→Option Int→Option Int→Hp→VK→Prop:=fun x lo hi H Q=>∃a xs,x= .ref a∧pK K H a xs∧
 ¬(HT.sd xs.length 0 lo=0∧HT.sd xs.length xs.length hi=xs.length)∧∀p,H p=none→Q (.ref p) (upd H p (.tup (xA xs lo hi)))
noncomputable def L4(K:PySem.W.Frag):R2:=fun x y H Q=>∃a b ns ms,x= .ref a∧y= .ref b∧pK K H a (ns.map V.int)∧pK K H b (ms.map V.int)∧Q (.bl (HT.lexLt ns ms)) H
noncomputable def LK(K:PySem.W.Frag):R2:=fun x y H Q=>∃a b xs ys,x= .ref a∧y= .ref b∧pK K H a xs∧pK K H b ys∧xs≠[]∧xs.length+ys.length≤sizeLine∧
 (ys=[]→Q (.ref a) H)∧(ys≠[]→∀p,H p=none→Q (.ref p) (upd H p (.tup (xs++ys))))
end
end L2
namespace L2
open PySem PySem.Spec PyProof.Rows
noncomputable def qp(n:Nat)(i:Int):Option Nat:=if 0≤i then(if i < n then some i.toNat else none) else if -(n:Int)≤i then some (i+n).toNat else none
noncomputable def o_{α:Type}(xs:List α)(i:Int):Option α:=(qp xs.length i).bind fun j=>xs[j]?
theorem yK{n:Nat}{i:Int}{j:Nat}(h:qp n i=some j):seqIndex? i n=some j∧j < n∧ -(n:Int)≤i∧i < n:=by
 unfold qp at h
 by_cases h0:0≤i
 ·rw[if_pos h0] at h
  by_cases h1:i < n
  ·rw[if_pos h1] at h
   have e:i.toNat=j:=Option.some.inj h
   exact⟨by rw[seqIndex_of h0 h1,e],by omega,by omega,h1⟩
  ·rw[if_neg h1] at h;cases h
 ·rw[if_neg h0] at h
  by_cases h1: -(n:Int)≤i
  ·rw[if_pos h1] at h
   have e:(i+n).toNat=j:=Option.some.inj h
   exact⟨by rw[seqIndex_neg (by omega) h1,e],by omega,h1,by omega⟩
  ·rw[if_neg h1] at h;cases h
theorem uA{α:Type}{xs:List α}{i:Int}{v:α}(h:o_ xs i=some v):∃j,seqIndex? i xs.length=some j∧xs[j]? =some v∧j < xs.length∧ -(xs.length:Int)≤i∧i < xs.length:=by
 unfold o_ at h
 cases e:qp xs.length i with
 | none=>rw [e] at h;cases h
 | some j=>
   rw[e] at h
   obtain⟨h1,h2,h3,h4⟩:=yK e
   exact⟨j,h1,h,h2,h3,h4⟩
noncomputable def qj(b:Expr):Prop:=∀o i,subscripted b false o i=operate [o,i] (getItem o i)
noncomputable def DB(X:Cx)(r:R2):Prop:=
 ∀(value slice:Expr) (pins:List (Addr × Obj)) (s:Shared) (σ:St) (H:Hp) (x y:V) (v u:Value) (Q:VK),Inv X pins σ H s→RelV x v→RelV y u→r x y H Q→
  subscripted slice false v u=operate [v,u] (getItem v u)→wpAny (model X.prog X.w) X.A (subscriptTail value slice v u) (EP X pins σ Q) X.xe s
noncomputable def Lp(X:Cx)(id:String)(r:V→List V→Hp→VK→Prop):Prop:=
 ∀(pins:List (Addr × Obj)) (s:Shared) (σ:St) (H:Hp) (x:V) (xs:List V) (v:Value) (us:List Value) (Q:VK),Inv X pins σ H s→RelV x v→Vals xs us→r x xs H Q→
  wpAny (model X.prog X.w) X.A (call (.builtin id) (v ::us)) (EP X pins σ Q) X.xe s
section
variable {X:Cx} {a b:Expr} {ta tb:TE} {pos:Pos}
theorem DB.or{r r':R2}(h:DB X r)(h':DB X r'):DB X (fun x y H Q=>r x y H Q∨r' x y H Q):=by
 intro value slice pins s σ H x y v u Q I rx ry q hs
 rcases q with q | q
 ·exact h value slice pins s σ H x y v u Q I rx ry q hs
 ·exact h' value slice pins s σ H x y v u Q I rx ry q hs
theorem FW{r:R2}(hr:DB X r)(ha:PE X a ta)(hb:PE X b tb)(hs:qj b):PE X (.Subscript a b pos) (HZ r ta tb):=by
 intro pins s σ H Q I h
 exact Subscript_ (GB ha hb I h fun v u s2 x y H2 I2 rx ry q=>hr a b pins s2 σ H2 x y v u Q I2 rx ry q (hs _ _))
noncomputable def IT(K:PySem.W.Frag):R2:=fun x y H Q=>∃p xs i v,x= .ref p∧y= .int i∧ny K H p xs∧o_ xs i=some v∧Q v H
noncomputable def ID(K:PySem.W.Frag):R2:=fun x y H Q=>∃p xs i v,x= .ref p∧y= .int i∧pK K H p xs∧o_ xs i=some v∧Q v H
noncomputable def IW:R2:=fun x y H Q=>∃z i c,x= .str z∧y= .int i∧z.length≤sizeLine∧o_ z.cps.toList i=some c∧Q (.str ⟨#[c]⟩) H
theorem Et:DB X (IT X.K):=by
 intro value slice pins s σ H x y v u Q I rx ry h hs
 obtain⟨p,xs,i,z,rfl,rfl,hq,he,q⟩:=h
 cases rx
 obtain⟨t,rfl⟩:=ry
 obtain⟨its,r,pl,hz⟩:=I.list hq
 obtain⟨j,h1,h2,h3,h4,h5⟩:=uA he
 obtain⟨w,ew,rw'⟩:=r.get h2
 have hl:=r.length
 have hn:=oF
 have fin:EP X pins σ Q w s:=⟨z,H,I,rw',q⟩
 by_cases h0:0≤i
 ·have hj:i.toNat=j:=by
   rw[seqIndex_of h0 h5] at h1
   exact Option.some.inj h1
  exact item_listR pl.isList h0 (by omega) (by rw[hj];simpa using ew) fin hs
 ·have hj:(i+(its.toArray.size:Int)).toNat=j:=by
   rw[seqIndex_neg (by omega) h4] at h1
   rw[List.size_toArray,←hl]
   exact Option.some.inj h1
  exact subscriptTail_builtinR (x:=w) pl.isList.typeIs slot_list_getitem.lookup
   (wpAny_getItem_list_neg (Q:=fun r s'=>r=w∧EP X pins σ Q r s') pl.isList (by omega) (by rw[List.size_toArray] <;> omega) (by omega) (by rw[hj];simpa using ew) ⟨rfl,fin⟩) hs
theorem Gp:DB X (ID X.K):=by
 intro value slice pins s σ H x y v u Q I rx ry h hs
 obtain⟨p,xs,i,z,rfl,rfl,hq,he,q⟩:=h
 cases rx
 obtain⟨t,rfl⟩:=ry
 obtain⟨its,r,pl,hz⟩:=I.tuple hq
 obtain⟨j,h1,h2,h3,h4,h5⟩:=uA he
 obtain⟨w,ew,rw'⟩:=r.get h2
 have hl:=r.length
 have hn:=oF
 have fin:EP X pins σ Q w s:=⟨z,H,I,rw',q⟩
 exact subscriptTail_builtinR (x:=w) pl.typeIs slot_tuple_getitem.lookup
  (getItem_tuple (j:=j) (Q:=fun r s'=>r=w∧EP X pins σ Q r s') pl (by omega) (by omega) (by rw[List.size_toArray,←hl];exact h1) (by simpa using ew) ⟨rfl,fin⟩) hs
theorem HK:DB X IW:=by
 intro value slice pins s σ H x y v u Q I rx ry h hs
 obtain⟨z,i,c,rfl,rfl,hz,he,q⟩:=h
 obtain⟨t,rfl⟩:=rx
 obtain⟨t',rfl⟩:=ry
 obtain⟨j,h1,h2,h3,h4,h5⟩:=uA he
 have hl:z.cps.toList.length=z.length:=by simp [Str.length]
 rw[hl] at h1 h4 h5
 have hn:=oF
 exact tail_any (typeIs_str s z t) slot_str_getitem.lookup (getItem_str (c:=c) (by
  have e1:decide (i < -(2 ^ 63:Int))=false:=decide_eq_false (by omega)
  have e2:decide (i≥2 ^ 63)=false:=decide_eq_false (by omega)
  rw[e1,e2,Bool.or_false]) (by rw[h1];simpa using h2) ⟨.str ⟨#[c]⟩,H,I.tok _,⟨_,rfl⟩,q⟩) hs
noncomputable def Kt(K:PySem.W.Frag):R2:=fun x y H Q=>IT K x y H Q∨ID K x y H Q∨IW x y H Q
theorem CZ:DB X (Kt X.K):=Et.or (Gp.or HK)
theorem x3(its:List Value)(n j:Nat)(u:Value):Obj.mapSeq (·.setIfInBounds j u) {cls:= .type "list",data:= .seq its.toArray n}={cls:= .type "list",data:= .seq (its.set j u).toArray n}:=by
 simp [Obj.mapSeq]
theorem Inv.lst{pins:List (Addr × Obj)}{σ:St}{H:Hp}{s:Shared}{p:Addr}{xs:List V}(I:Inv X pins σ H s)(h:H p=some (.lst xs)) :
 ∃(its:List Value) (n:Nat),Vals xs its∧s.heap.get? p=some {cls:= .type "list",data:= .seq its.toArray n}∧xs.length≤sizeLine:=by
 obtain⟨z,its,n,r,e⟩:=I.hok p _ h
 exact⟨its,n,r,e,z⟩
theorem Inv.GY{pins:List (Addr × Obj)}{σ:St}{H:Hp}{s:Shared}{p:Addr}{xs ys:List V}{its its':List Value}{n n':Nat}{f:Obj→Obj}(I:Inv X pins σ H s)(h:H p=some (.lst xs))
 (ho:s.heap.get? p=some {cls:= .type "list",data:= .seq its.toArray n}) (hf:f {cls:= .type "list",data:= .seq its.toArray n}={cls:= .type "list",data:= .seq its'.toArray n'}) (r:Vals ys its') (hz:ys.length≤sizeLine) (t:Nat) :
 Inv X pins σ (upd H p (.lst ys)) {s with heap:=s.heap.update p f,toks:=t}:=by
 have e:(s.heap.update p f).get? p=some {cls:= .type "list",data:= .seq its'.toArray n'}:=by
  rw[Heap.get?_update_self f ho (by rw[hf] <;> rfl),hf]
 refine I.write (x:=p) (e:=p) (by rw[h];trivial) (.inl rfl) (fun b u hb q=>(Heap.get?_update_other _ _ (Ne.symm hb)).trans q) ⟨_,e⟩ ?_
 exact⟨hz,its',n',r,e⟩
noncomputable def FV:V→V→V→Hp→(Hp→Prop)→Prop:=fun o i v H Q=>∃p xs k j,o= .ref p∧i= .int k∧H p=some (.lst xs)∧qp xs.length k=some j∧Q (upd H p (.lst (xs.set j v)))
theorem set_list:Je X FV:=by
 intro pins s σ H o i v ov iv u Q I ro ri rv h
 obtain⟨p,xs,k,j,rfl,rfl,hp,hj,q⟩:=h
 cases ro
 obtain⟨t,rfl⟩:=ri
 obtain⟨its,n,r,ho,hz⟩:=I.lst hp
 obtain⟨h1,h2,h3,h4⟩:=yK hj
 have hl:=r.length
 have hn:=oF
 have I':Inv X pins σ (upd H p (.lst (xs.set j v))) {s with heap:=s.heap.update p (Obj.mapSeq (·.setIfInBounds j u))}:=
  I.GY hp ho (x3 its n j u) (r.set rv j) (by rw[List.length_set];exact hz) s.toks
 by_cases h0:0≤k
 ·have hk:k.toNat=j:=by
   rw[seqIndex_of h0 h4] at h1
   exact Option.some.inj h1
  exact PySem.W.ki_setAt ho h0 (by omega) (by rw[List.size_toArray,←hl];exact h4) (by rw[hk];exact⟨_,I',q⟩)
 ·have hk:(k+(its.toArray.size:Int)).toNat=j:=by
   rw[seqIndex_neg (by omega) h3] at h1
   rw[List.size_toArray,←hl]
   exact Option.some.inj h1
  exact PySem.W.ki_setBack ho (by omega) (by rw[List.size_toArray,←hl];exact h3) (by omega) (by rw[hk];exact⟨_,I',q⟩)
theorem t5(lo hi:Option Int)(n:Nat):(sliceBounds lo hi none n).1=((HT.sd n 0 lo:Nat):Int)∧(sliceBounds lo hi none n).2.1=((HT.sd n n hi:Nat):Int)∧(sliceBounds lo hi none n).2.2=1:=by
 refine⟨?_,?_,rfl⟩
 ·cases lo with
  | none=>simp [sliceBounds,HT.sd]
  | some i=>
    simp only[sliceBounds,HT.sd,Option.getD_none,show(1:Int) > 0 by decide,if_true]
    by_cases h:i < 0
    ·simp only[h,if_true] <;> omega
    ·simp only[h,if_false] <;> omega
 ·cases hi with
  | none=>simp [sliceBounds,HT.sd]
  | some i=>
    simp only[sliceBounds,HT.sd,Option.getD_none,show(1:Int) > 0 by decide,if_true]
    by_cases h:i < 0
    ·simp only[h,if_true] <;> omega
    ·simp only[h,if_false] <;> omega
theorem sx(its:List Value)(lo hi:Option Int):slicePick its.toArray lo hi none=((its.drop (HT.sd its.length 0 lo)).take (HT.sd its.length its.length hi - HT.sd its.length 0 lo)).toArray:=by
 obtain⟨h1,h2,h3⟩:=t5 lo hi its.toArray.size
 unfold slicePick
 rw[h1,h2,h3]
 simp only[sliceRange_one,pick_run,List.size_toArray] <;> rfl
noncomputable def J_(K:PySem.W.Frag):V→Option Int→Option Int→Hp→VK→Prop:=fun x lo hi H Q=>∃a xs,x= .ref a∧ny K H a xs∧∀p,H p=none→Q (.ref p) (upd H p (.lst (xA xs lo hi)))
theorem DC:HQ X (J_ X.K):=by
 intro pins s σ H x v vl vu lo hi sl Q I rx hs pl pu h
 obtain⟨a,xs,rfl,hx,q⟩:=h
 cases rx
 obtain⟨its,r,ht,hz⟩:=I.list hx
 have hlen:=r.length
 refine⟨"list",_,slot_list_getitem.lookup,ht.isList.typeIs,?_⟩
 refine wpAny_getItem_list_slice ht.isList hs pl pu .none (by simp) ?_ (by rw[List.size_toArray] <;> omega)
 rw[sx,←hlen]
 refine⟨.ref s.heap.objs.size,_,I.laid (t':=s.toks) (o:= .lst (xA xs lo hi)) (fun b ob q=>Heap.get?_push_of_some _ q) (Nat.le_refl _) ?_,rfl,q _ (I.hok.fresh (Nat.le_refl _))⟩
 exact⟨Nat.le_trans (vN xs lo hi) hz,_,0,(r.drop (HT.sd xs.length 0 lo)).take (HT.sd xs.length xs.length hi - HT.sd xs.length 0 lo),Heap.get?_push_size _ rfl⟩
noncomputable def kY:V→Bool
 | .cI=>true
 | .bl _=>true
 | .int _=>true
 | .str _=>true
 | _=>false
noncomputable def Fy:V→V→Bool
 | .cI, .cI=>true
 | .bl a, .bl b=>a==b
 | .bl a, .int b=>(if a then 1 else 0)==b
 | .int a, .bl b=>a==(if b then 1 else 0)
 | .int a, .int b=>a==b
 | .str a, .str b=>a==b
 | _,_=>false
theorem G4{A:Around}{s:Shared}{y x:V}{u v:Value}(ry:RelV y u)(rx:RelV x v)(fy:kY y=true)(fx:kY x=true):SeqAt.EqAt A s u v (Fy y x):=by
 cases y with
 | cI=>
   cases ry
   cases x with
   | cI=>cases rx;exact SeqAt.EqAt.same _
   | bl b=>cases rx;exact SeqAt.EqAt.none_bool b
   | int b=>obtain⟨t,rfl⟩:=rx;exact SeqAt.EqAt.none_int b t
   | str b=>obtain⟨t,rfl⟩:=rx;exact SeqAt.EqAt.none_str b t
   | _=>exact absurd (show false=true from fx) Bool.false_ne_true
 | bl a=>
   cases ry
   cases x with
   | cI=>cases rx;exact SeqAt.EqAt.bool_none a
   | bl b=>cases rx;exact SeqAt.EqAt.bool_bool a b
   | int b=>obtain⟨t,rfl⟩:=rx;exact SeqAt.EqAt.bool_int a b t
   | str b=>obtain⟨t,rfl⟩:=rx;exact SeqAt.EqAt.bool_str a b t
   | _=>exact absurd (show false=true from fx) Bool.false_ne_true
 | int a=>
   obtain⟨t',rfl⟩:=ry
   cases x with
   | cI=>cases rx;exact SeqAt.EqAt.int_none a t'
   | bl b=>cases rx;exact SeqAt.EqAt.int_bool a t' b
   | int b=>obtain⟨t,rfl⟩:=rx;exact SeqAt.EqAt.int_int a t' b t
   | str b=>obtain⟨t,rfl⟩:=rx;exact SeqAt.EqAt.int_str a t' b t
   | _=>exact absurd (show false=true from fx) Bool.false_ne_true
 | str a=>
   obtain⟨t',rfl⟩:=ry
   cases x with
   | cI=>cases rx;exact SeqAt.EqAt.str_none a t'
   | bl b=>cases rx;exact SeqAt.EqAt.str_bool a t' b
   | int b=>obtain⟨t,rfl⟩:=rx;exact SeqAt.EqAt.str_int a t' b t
   | str b=>obtain⟨t,rfl⟩:=rx;exact SeqAt.EqAt.str_str a t' b t
   | _=>exact absurd (show false=true from fx) Bool.false_ne_true
 | _=>exact absurd (show false=true from fy) Bool.false_ne_true
noncomputable def DT(x:V)(u:Value):Bool:=match u with
 | .none=>Fy .cI x
 | .bool b=>Fy (.bl b) x
 | .int i _=>Fy (.int i) x
 | .str z _=>Fy (.str z) x
 | _=>false
theorem Cs{x y:V}{u:Value}(r:RelV y u)(f:kY y=true):DT x u=Fy y x:=by
 cases y with
 | cI=>cases r;rfl
 | bl b=>cases r;rfl
 | int i=>obtain⟨t,rfl⟩:=r;rfl
 | str z=>obtain⟨t,rfl⟩:=r;rfl
 | _=>exact absurd (show false=true from f) Bool.false_ne_true
theorem ug{x:V}:∀{xs:List V} {us:List Value},Vals xs us→xs.all kY=true→us.any (DT x)=xs.any fun y=>Fy y x
 | _,_, .nil,_=>rfl
 | y ::xs,u ::us, .cons r t,f=>by
   rw[List.all_cons,Bool.and_eq_true] at f
   rw[List.any_cons,List.any_cons,Cs r f.1,ug t f.2]
theorem qN{A:Around}{s:Shared}{x:V}{v:Value}(rx:RelV x v)(fx:kY x=true):∀{xs:List V} {us:List Value},Vals xs us→xs.all kY=true→∀u∈us,SeqAt.EqAt A s u v (DT x u)
 | _,_, .nil,_=>fun u hu=>by cases hu
 | y ::xs,u ::us, .cons r t,f=>fun u' hu=>by
   rw[List.all_cons,Bool.and_eq_true] at f
   rcases List.mem_cons.mp hu with rfl | hu
   ·rw[Cs r f.1];exact G4 r rx f.1 fx
   ·exact qN rx fx t f.2 u' hu
noncomputable def FR(x:V)(xs:List V):Bool:=xs.any fun y=>Fy y x
noncomputable def Lh(K:PySem.W.Frag)(neg:Bool):R2:=fun x y H Q=>∃p xs,y= .ref p∧(ny K H p xs∨pK K H p xs)∧kY x=true∧xs.all kY=true∧Q (.bl (if neg then !FR x xs else FR x xs)) H
theorem zM:k6 X (compareOp .In) (Lh X.K false):=by
 intro pins s σ H x y v u Q I rx ry h
 obtain⟨p,xs,rfl,hq,fx,fs,q⟩:=h
 cases ry
 rcases hq with hq | hq
 ·obtain⟨its,r,pl,hz⟩:=I.list hq
  refine SeqAt.in_listAt (DT x) pl.isList (fun w hw=>qN rx fx r fs w (by simpa using hw)) ⟨.bl _,H,I,rfl,?_⟩
  rw[show its.toArray.any (DT x)=its.any (DT x) by simp,ug r fs]
  exact q
 ·obtain⟨its,r,pl,hz⟩:=I.tuple hq
  refine SeqAt.in_tupleAt (DT x) pl (fun w hw=>qN rx fx r fs w (by simpa using hw)) ⟨.bl _,H,I,rfl,?_⟩
  rw[show its.toArray.any (DT x)=its.any (DT x) by simp,ug r fs]
  exact q
theorem uV:jR X (.type "list") (fun xs H Q=>∃p ys,xs=[.ref p]∧(ny X.K H p ys∨pK X.K H p ys)∧∀l,H l=none→Q (.ref l) (upd H l (.lst ys))):=by
 intro pins s σ H xs us Q I r h
 obtain⟨p,ys,rfl,hq,q⟩:=h
 obtain⟨u,rfl,rx⟩:=vals1 r
 cases rx
 have fin:∀(its:List Value),Vals ys its→ys.length≤sizeLine→∀(h':Heap) (c':Nat),(∀b o',s.heap.get? b=some o'→h'.get? b=some o')→
  h'.get? s.heap.objs.size=some {cls:= .type "list",dict:=none,data:= .seq its.toArray c',slots:=#[]}→EP X pins σ Q (.ref s.heap.objs.size) {s with heap:=h'}:=fun its r' hz h' c' kp e=>
  ⟨.ref s.heap.objs.size,_,I.laid (t':=s.toks) kp (Nat.le_refl _) (show dZ X.prog X.w _ h' _ (.lst ys) from⟨hz,its,c',r',e⟩),rfl,q _ (I.hok.fresh (Nat.le_refl _))⟩
 rcases hq with hq | hq
 ·obtain⟨its,r',pl,hz⟩:=I.list hq
  have hlen:=r'.length
  obtain⟨o,ho,hc,n,hd⟩:=pl.isList
  exact call_list_seq p (.inl rfl) ho hc hd (fun h' c' kp e=>fin its r' hz h' c' kp e) (by simp only[List.size_toArray] <;> omega)
 ·obtain⟨its,r',pl,hz⟩:=I.tuple hq
  have hlen:=r'.length
  obtain⟨o,ho,hc,n,hd⟩:=pl
  exact call_list_seq p (.inr rfl) ho hc hd (fun h' c' kp e=>fin its r' hz h' c' kp e) (by simp only[List.size_toArray] <;> omega)
theorem sE:jR X (.type "tuple") (fun xs H Q=>∃p ys,xs=[.ref p]∧((ny X.K H p ys∧∀l,H l=none→Q (.ref l) (upd H l (.tup ys)))∨(pK X.K H p ys∧Q (.ref p) H))):=by
 intro pins s σ H xs us Q I r h
 obtain⟨p,ys,rfl,h⟩:=h
 obtain⟨u,rfl,rx⟩:=vals1 r
 cases rx
 rcases h with⟨hq,q⟩ | ⟨hq,q⟩
 ·obtain⟨its,r',pl,hz⟩:=I.list hq
  have hlen:=r'.length
  refine call_tuple_list pl.isList (fun h' kp=>?_) (by simp only[List.size_toArray] <;> omega)
  have I1:Inv X pins σ H {s with heap:=h'}:=I.kept (t':=s.toks) kp
  have I2:Inv X pins σ (upd H h'.objs.size (.tup ys)) {s with heap:=h'.push {cls:= .type "tuple",data:= .seq its.toArray}}:=
   I1.laid (t':=s.toks) (fun b o e=>Heap.get?_push_of_some _ e) (Nat.le_refl _) (show dZ X.prog X.w _ _ _ (.tup ys) from⟨hz,its,r',IsTup.new _ _⟩)
  exact⟨.ref h'.objs.size,_,I2,rfl,q _ (I1.hok.fresh (Nat.le_refl _))⟩
 ·obtain⟨its,r',pl,hz⟩:=I.tuple hq
  exact call_tuple_same pl ⟨.ref p,H,I,rfl,q⟩
noncomputable def Kj(K:PySem.W.Frag)(T:String)(x:V)(H:Hp):Prop:=match x with
 | .str _=>T="str"
 | .int _=>T="int"
 | .ref p=>(T="list"∧∃xs,ny K H p xs)∨(T="tuple"∧∃o,K.lookup p=some o∧o.cls= .type "tuple"∧o.dict=none)∨
    (T="dict"∧((∃kvs,H p=some (.dK kvs))∨∃kvs,H p=some (.dT kvs)))∨(T="set"∧∃S n,H p=some (.set S n))
 | _=>False
theorem HX{pins:List (Addr × Obj)}{σ:St}{H:Hp}{s:Shared}{T:String}{x:V}{v:Value}(I:Inv X pins σ H s)(r:RelV x v)(ty:Kj X.K T x H) :
 s.TypeIs v T∧∀a,v= .ref a→∃ob,s.heap.get? a=some ob∧ob.dict=none:=by
 cases x with
 | str z=>
   obtain⟨t,rfl⟩:=r
   cases(show T="str" from ty)
   exact⟨typeIs_str s z t,fun _ e=>nomatch e⟩
 | int i=>
   obtain⟨t,rfl⟩:=r
   cases(show T="int" from ty)
   exact⟨typeIs_int s i t,fun _ e=>nomatch e⟩
 | ref p=>
   cases r
   rcases ty with⟨rfl,xs,hq⟩ | ⟨rfl,o,hk,hc,hd⟩ | ⟨rfl,hk⟩ | ⟨rfl,S,n,hk⟩
   ·obtain⟨its,_,pl,_⟩:=I.list hq
    refine⟨pl.isList.typeIs,fun a e=>?_⟩
    cases e
    obtain⟨o,n,e,c,hd,_⟩:=pl
    exact⟨o,e,hd⟩
   ·refine⟨⟨o,I.oX p o hk,hc⟩,fun a e=>?_⟩
    cases e
    exact⟨o,I.oX _ o hk,hd⟩
   ·have z:∃o,s.heap.get? p=some o∧o.ExactDict:=by
     rcases hk with⟨kvs,hk⟩ | ⟨kvs,hk⟩
     ·obtain⟨_,_,_,_,o,_,_,e,ex,_⟩:=I.hok p _ hk
      exact⟨o,e,ex⟩
     ·obtain⟨_,_,_,_,o,_,_,e,ex,_⟩:=I.hok p _ hk
      exact⟨o,e,ex⟩
    obtain⟨o,e,ex⟩:=z
    refine⟨⟨o,e,ex.1⟩,fun a e2=>?_⟩
    cases e2
    exact⟨o,e,ex.2.1⟩
   ·obtain⟨o,_,_,_,e,ex,_⟩:=I.hok p _ hk
    refine⟨⟨o,e,ex.1⟩,fun a e2=>?_⟩
    cases e2
    exact⟨o,e,ex.2.1⟩
 | _=>exact False.elim ty
noncomputable def ML(K:PySem.W.Frag)(T:String)(r:V→List V→Hp→VK→Prop)(to:TE):TE:=fun σ H Q=>to σ H fun x H1=>Kj K T x H1∧r x [] H1 Q
noncomputable def Mg(K:PySem.W.Frag)(T:String)(r:V→List V→Hp→VK→Prop)(to:TE)(t:TA):TE:=fun σ H Q=>to σ H fun x H1=>Kj K T x H1∧t σ H1 fun xs H2=>r x xs H2 Q
variable {o e:Expr} {es:List Expr} {to:TE} {t:TA} {name:Str} {apos cpos:Pos} {T id:String} {r:V→List V→Hp→VK→Prop}
theorem A3(pa:PlainAttrs T)(slot:Slot T name id)(hty:typeOf (.builtin id)=pure (.type "method_descriptor"))(hm:Lp X id r)(ho:PE X o to)(ha:PA X (e ::es) t)
 (hbase:attributeBase o name X.env (eval o X.env)=eval o X.env:=by rfl)
 (hfew:((backTo cpos (starEach (e ::es) X.env)).all (fun x=>!x.1) && (backToKw cpos (keywordEach [] X.env)).all (fun x=>x.1.isSome)
   && decide ((e ::es).length+([]:List Keyword).length+(if([]:List Keyword).isEmpty then 0 else 1) < 30))=true:=by rfl)
 (hline:(apos.endLine==cpos.line)=true:=by rfl) (hs:starEach (e ::es) X.env=(false,eval e X.env) ::starEach es X.env:=by rfl) (hplain:(backTo cpos (starEach es X.env)).any (·.1)=false:=by rfl) :
 PE X (.Call (.Attribute o name apos) (e ::es) [] cpos) (Mg X.K T r to t):=by
 intro pins s σ H Q I h
 refine wpAny_Call_method_late hbase hfew hline rfl (dY (ho pins s σ H _ I h) fun v s1 ⟨x,H1,I1,r1,ty,q1⟩=>?_)
 obtain⟨h1,h2⟩:=HX I1 r1 ty
 refine⟨T,id,pa,slot,hty,h1,h2,?_⟩
 have hA:=ha cpos pins s1 σ H1 _ I1 q1
 rw[hs] at hA ⊢
 refine Calls.callWith_builtin (by show(false || (backTo cpos (starEach es X.env)).any (·.1))=false;rw [hplain] <;> rfl) (Calls.evalArgs_plain ?_)
 exact dY hA fun us s2 ⟨vs,H2,I2,r2,q2⟩=>hm pins s2 σ H2 x vs v us Q I2 r1 r2 q2
end
end L2
namespace L2
open PySem PySem.Spec PyProof.Rows
noncomputable def L8(X:Cx)(id:String)(r:V→List V→Hp→VK→Prop):Prop:=
 ∀(pins:List (Addr × Obj)) (s:Shared) (σ:St) (H:Hp) (x:V) (xs:List V) (v:Value) (us:List Value) (Q:VK),Inv X pins σ H s→RelV x v→Vals xs us→r x xs H Q→
  wpAny (model X.prog X.w) X.A (call (.builtin id) (v ::us)) (EP X pins σ Q) X.xe s
theorem Vals.one:∀{x:V} {us:List Value},Vals [x] us→∃u,us=[u]∧RelV x u
 | _,_, .cons r .nil=>⟨_,rfl,r⟩
theorem Vals.rep{xs:List V}{us:List Value}(h:Vals xs us):∀k:Nat,Vals (List.replicate k xs).flatten (List.replicate k us).flatten
 | 0=> .nil
 | k+1=>by
   rw[List.replicate_succ,List.replicate_succ,List.flatten_cons,List.flatten_cons]
   exact Vals.append h (Vals.rep h k)
theorem foldl_rep(its:List Value):∀(k:Nat) (acc:List Value),
 List.foldl (fun x1 x2=>x1++x2) acc.toArray (List.replicate k its.toArray)=(acc++(List.replicate k its).flatten).toArray
 | 0,acc=>by simp
 | k+1,acc=>by
   have e:acc.toArray++its.toArray=(acc++its).toArray:=by simp
   have e2:(acc++its)++(List.replicate k its).flatten=acc++(List.replicate (k+1) its).flatten:=by
    rw[List.replicate_succ,List.flatten_cons,List.append_assoc]
   rw[←e2,←foldl_rep its k (acc++its),←e,List.replicate_succ,List.foldl_cons]
section
variable {X:Cx} {pins:List (Addr × Obj)} {σ:St} {H:Hp} {s:Shared} {l b:Addr} {xs ys zs:List V}
theorem Inv.Kq{its its':List Value}{n:Nat}{f:Array Value→Array Value}{t':Nat}(I:Inv X pins σ H s)(hH:H l=some (.lst xs))
 (e:s.heap.get? l=some {cls:= .type "list",data:= .seq its.toArray n}) (hf:f its.toArray=its'.toArray) (hv:Vals ys its') (hz:ys.length≤sizeLine) :
 Inv X pins σ (upd H l (.lst ys)) {s with heap:=s.heap.update l (Obj.mapSeq f),toks:=t'}:=by
 have q:=PySem.IsL.update e f
 rw[hf] at q
 refine I.write (x:=l) (e:=l) (by rw[hH];exact trivial) (.inl rfl) (fun b' u hb hu=>(Heap.get?_update_other s.heap (Obj.mapSeq f) (Ne.symm hb)).trans hu) ⟨_,q⟩ ?_
 exact⟨hz,its',_,hv,q⟩
theorem Inv.Fs{its:List Value}{t':Nat}(I:Inv X pins σ H s)(hv:Vals ys its)(hz:ys.length≤sizeLine) :
 Inv X pins σ (upd H s.heap.objs.size (.lst ys)) {s with heap:=s.heap.push {cls:= .type "list",data:= .seq its.toArray},toks:=t'}:=
 I.laid (fun _ _ q=>Heap.get?_push_of_some _ q) (Nat.le_refl _) ⟨hz,its,0,hv,Heap.get?_push_size _ rfl⟩
theorem Inv.fresh(I:Inv X pins σ H s):H s.heap.objs.size=none:=I.hok.fresh (Nat.le_refl _)
theorem Inv.IH(I:Inv X pins σ H s)(hH:H l=some (.lst xs)):xs.length≤sizeLine∧∃(its:List Value) (n:Nat),Vals xs its∧xs.length=its.length∧s.heap.get? l=some {cls:= .type "list",data:= .seq its.toArray n}:=by
 obtain⟨z,its,n,r,e⟩:=I.hok l _ hH
 exact⟨z,its,n,r,r.length,e⟩
theorem CL{n:Nat}(h:n≤sizeLine):Builtin.List.listTooLong n=false:=by
 unfold Builtin.List.listTooLong
 exact decide_eq_false (by omega)
end
section
variable {X:Cx}
noncomputable def EL:V→List V→Hp→VK→Prop:=fun x vs H Q=>∃l xs y,x= .ref l∧vs=[y]∧H l=some (.lst xs)∧xs.length < sizeLine∧Q .cI (upd H l (.lst (xs++[y])))
theorem o7:L8 X "list.append" EL:=by
 intro pins s σ H x vs v us Q I rx rv h
 obtain⟨l,xs,y,rfl,rfl,hH,hz,q⟩:=h
 cases rx
 obtain⟨u,rfl,ru⟩:=rv.one
 obtain⟨z,its,n,r,hl,e⟩:=I.IH hH
 refine call_meets F.slot_list_append ⟨_,e,rfl⟩ F.entry_list_append (F.args_list_append_2 _ _) (PySem.list_append l its.toArray n u (by rw[List.size_toArray];omega)) ⟨e,?_⟩
 refine⟨.cI,_,I.Kq (its':=its++[u]) hH e (by simp) (r.append (.cons ru .nil)) ?_,rfl,q⟩
 rw[List.length_append,List.length_singleton]
 omega
noncomputable def JU:V→List V→Hp→VK→Prop:=fun x vs H Q=>∃l b xs zs,x= .ref l∧vs=[.ref b]∧H l=some (.lst xs)∧H b=some (.lst zs)∧xs.length+zs.length≤sizeLine∧Q .cI (upd H l (.lst (xs++zs)))
noncomputable def L1:V→List V→Hp→VK→Prop:=fun x vs H Q=>∃l xs y,x= .ref l∧vs=[]∧H l=some (.lst xs)∧xs[xs.length - 1]? =some y∧Q y (upd H l (.lst xs.dropLast))
noncomputable def Ku:V→List V→Hp→VK→Prop:=fun x vs H Q=>∃l xs i k y,x= .ref l∧vs=[.int i]∧H l=some (.lst xs)∧ -(2 ^ 63)≤i∧i < 2 ^ 63∧seqIndex? i xs.length=some k∧xs[k]? =some y∧Q y (upd H l (.lst (xs.eraseIdx k)))
noncomputable def JC:V→List V→Hp→VK→Prop:=fun x vs H Q=>∃l xs,x= .ref l∧vs=[]∧H l=some (.lst xs)∧Q .cI (upd H l (.lst xs.reverse))
noncomputable def Kx:V→List V→Hp→VK→Prop:=fun x vs H Q=>∃l xs,x= .ref l∧vs=[]∧H l=some (.lst xs)∧Q .cI (upd H l (.lst []))
noncomputable def Mr:R2:=fun x y H Q=>∃l b xs zs,x= .ref l∧y= .ref b∧H l=some (.lst xs)∧H b=some (.lst zs)∧xs.length+zs.length≤sizeLine∧∀p,H p=none→Q (.ref p) (upd H p (.lst (xs++zs)))
noncomputable def K1:R2:=fun x y H Q=>∃l k xs,x= .ref l∧y= .int k∧H l=some (.lst xs)∧ -(2 ^ 63)≤k∧k < 2 ^ 63∧xs.length*k.toNat≤sizeLine∧
 ∀p,H p=none→Q (.ref p) (upd H p (.lst (List.replicate k.toNat xs).flatten))
theorem len_rep{α:Type}(xs:List α)(k:Nat):(List.replicate k xs).flatten.length=k*xs.length:=by
 induction k with
 | zero=>simp
 | succ k ih=>rw [List.replicate_succ,List.flatten_cons,List.length_append,ih,Nat.succ_mul,Nat.add_comm]
theorem HG:k6 X (binaryOp .Mult) K1:=by
 intro pins s σ H x y v u Q I rx ry h
 obtain⟨l,k,xs,rfl,rfl,hH,h1,h2,hz,q⟩:=h
 cases rx
 obtain⟨t,rfl⟩:=ry
 obtain⟨z,its,n,r,hl,e⟩:=I.IH hH
 have hlen:its.toArray.size*k.toNat≤sizeLine:=by rw[List.size_toArray,←hl];exact hz
 have hcap:¬its.toArray.size*k.toNat > (2 ^ 63 - 1) / 8:=by
  have:(sizeLine:Nat)≤(2 ^ 63 - 1) / 8:=by decide
  omega
 have hfit:¬(!Builtin.List.listFitsIndex k)=true:=by
  rw[fitsIndex_both h1 h2]
  exact Bool.false_ne_true
 have hlong:¬Builtin.List.listTooLong (its.toArray.size*k.toNat)=true:=by
  rw[CL hlen]
  exact Bool.false_ne_true
 have hnew:List.foldl (fun x1 x2=>x1++x2) #[] (List.replicate (if its.toArray.isEmpty=true then 0 else k.toNat) its.toArray)=(List.replicate k.toNat its).flatten.toArray:=by
  have f0:∀m:Nat,List.foldl (fun x1 x2=>x1++x2) #[] (List.replicate m its.toArray)=(List.replicate m its).flatten.toArray:=fun m=>by
   have:=foldl_rep its m []
   rw[List.nil_append] at this
   exact this
  rw[f0]
  cases its with
  | nil=>simp
  | cons a r'=>rw [if_neg (by simp)]
 refine wpAny_binaryOp_repeat_ref (T:="list") (U:="int") (by decide) ⟨_,e,rfl⟩ (fun s'=>typeIs_int s' k t) noFill_list_mul F.fills_int_mul F.slot_int_rmul repeat_list F.slot_int_index.lookup
  (call_meets F.slot_int_rmul (typeIs_int s k t) F.entry_int_rmul (F.args_int_rmul_2 _ _) (int___rmul___int_list k t l its.toArray n)
    ⟨e,rfl,⟨_,e,rfl⟩,call_meets F.slot_list_mul ⟨_,e,rfl⟩ F.entry_list_mul (F.args_list_mul_2 _ _) (AutoListH.list___mul___list_int_3 l its.toArray n k t hfit hcap hlong) ⟨e,?_⟩⟩)
 rw[hnew]
 exact⟨.ref _,_,I.Fs (t':=s.toks) (r.rep k.toNat) (by rw[len_rep,Nat.mul_comm];exact hz),rfl,q _ I.fresh⟩
end
section
variable {prog:Program} {w:World} {A:Around} {E:Value→Shared→Prop} {s:Shared}
set_option maxRecDepth 100000 in
end
section
variable {X:Cx}
end
end L2
namespace Att
open PySem PySem.W PySem.Calls PyProof.Rows
theorem pW{P:Params}{h:Heap}:∀(ns:List Int) (vs:List Value),WellAll P h vs (ns.map WData.int)→IntsAre vs ns:=by
 intro ns
 induction ns with
 | nil=>
   intro vs w
   rw[List.map_nil] at w
   cases w
   exact .nil
 | cons n ns ih=>
   intro vs w
   rw[List.map_cons] at w
   cases w with
   | cons a b=>
     cases a
     exact .cons _ _ (ih _ b)
theorem zL{l:OpenLaw}{n:Nat}(hn:l.most=some n){P:Params}{h:Heap}{args:List WData}{vals:List Value}
 (hpre:l.row.toRowW.claim.pre args=true) (hwl:WellAll P h vals args) :
 ∃a vs ns,vals=[Value.ref a]∧args=[WData.list (ns.map WData.int)]∧h.get? a=some {cls:= .type "list",data:= .seq vs.toArray}∧IntsAre vs ns∧ns.length≤n:=by
 have hsh:WShape.hasAll [] args [.list .int]=true:=(pre_splitW hpre).1
 have hc:l.pre.holds [] {args:=args}=true:=(pre_splitW hpre).2
 obtain⟨d,r,rfl,h1,h2⟩:=hasAllW_cons hsh
 obtain rfl:=hasAllW_nil h2
 obtain⟨xs,rfl,h3⟩:=hasW_list h1
 obtain⟨ns,rfl⟩:=items_int h3
 have hlen:ns.length≤n:=by
  unfold OpenLaw.pre at hc
  have h4:(WTm.not (.lt (.lit (.int (n:Int))) (.len (.arg 0)))).holds [] {args:=[.list (ns.map .int)]}=true:=by
   have h4:=(holds_andW hc).1
   rw[hn] at h4
   exact h4
  have h5:=condW_of h4 (w_not (w_lt w_lit (w_len_list (w_arg rfl))))
  rw[List.length_map] at h5
  refine Nat.le_of_not_lt fun q=>?_
  have q':(n:Int) < ((ns.length:Nat):Int):=by omega
  first
   | (rw [decide_eq_true q'] at h5;exact absurd h5 (by decide))
   | (simp at h5;omega)
 cases hwl with
 | cons w1 w2=>
   cases w2
   cases w1 with
   | list ho hall=>exact⟨_,_,ns,rfl,rfl,ho,pW ns _ hall,hlen⟩
theorem z0(l:OpenLaw)(args:List WData):l.row.toRowW.claim.post args (.bool true) args=true:=
 postW_of (r:=l.row.toRowW) (X:=(true==true))
  (show WShape.has [] (.bool true) .bool=true by first | rfl | decide | simp [WShape.has,WShape.arms,WShape.armsAll])
  (show(WTm.eq .res (.lit (.bool true))).value [] {args:=args,res:=some (.bool true),after:=args}=some (.bool (true==true)) from w_eq_bool (w_res rfl) w_lit) rfl
theorem wA{l:OpenLaw}{n:Nat}{q:Program}{loose:List Str}{XP:(Str→Option Value)→Heap→Prop}{YP:World→Heap→Prop}{d:DefRec}
 (hn:l.most=some n) (hdf:d.params.defaults=[])
 (call:∀(w:World) (s₀ s₁:Shared) (mg mb:Str→Option Value) (fa:Addr) (o:Obj) (pm cd doc:Value) (a:Addr) (vs:List Value) (ns:List Int),
   Ground q loose [] XP w s₀ mg mb s₁.heap→YP w s₁.heap→
   s₁.heap.get? fa=some o→o.data= .func (docDef d.name d.params d.body d.scope pm cd doc)→s₁.heap.CodeRec cd d.name→mg d.name=some (.ref fa)→
   s₁.heap.get? a=some {cls:= .type "list",data:= .seq vs.toArray}→IntsAre vs ns→ns.length≤n→s₁.gens=#[]→
   codeAny (model l.prog w) callerA (.call (.ref fa) ⟨[.ref a],[]⟩) (fun r s'=>r= .ok (.ret (.bool true))∧OldK s₁.heap s'.heap∧s'.os=s₁.os∧AllBare s'.gens) s₁) :
 WalkO q loose XP YP l.row.toRowW d [] (fun f vs=>PySem.call f vs):=by
 intro w s₀ s₁ mg mb G Y fa o pm cd doc dV kV ho hd hcd hD hmg hg args vals as hpre hlay hrd hwl hlo
 obtain rfl:dV= .none:=Dflts.none hD hdf
 obtain rfl:kV= .none:=Dflts.noKw hD
 obtain⟨a,vs,ns,rfl,rfl,hobj,hints,hlen⟩:=zL hn hpre hwl
 refine enter_call (codeAny_mono (call w s₀ s₁ mg mb fa o pm cd doc a vs ns G Y ho (fd_plain hd) hcd hmg hobj hints hlen hg) fun r s' hq=>?_)
 obtain⟨rfl,h2,h3,h4⟩:=hq
 exact⟨.inl ⟨.bool true, .bool true,[],rfl,fun _=>rfl, .bool true,z0 l _,fun _=>⟨List.Pairwise.nil,fun _ hm=>(nomatch hm)⟩⟩,h2,h3,h4⟩
section
variable {prog:Program} {w:World} {A:Around} {E:Value→Shared→Prop} {s:Shared} {K:Frag}
noncomputable def J8(h:Heap):Heap:={h with objs:=#[]}
noncomputable def ledger(h:Heap)(L d:Addr):List (Addr × Obj):=(List.range h.objs.size).filterMap fun a=>if a=L∨a=d then none else(h.get? a).map fun o=>(a,o)
end
end Att
namespace L2
open PySem PySem.Spec PyProof.Rows
theorem tG:∀{vs:List Value} {ns:List Int},IntsAre vs ns→Vals (ns.map V.int) vs
 | _,_, .nil=> .nil
 | _,_, .cons n t h=> .cons ⟨t,rfl⟩ (tG h)
noncomputable def Im(H:Hp):Prop:=∀b,H b=none∨∃o xs,H b=some (.iz o (.lst xs))
end L2
namespace L2
open PySem PySem.Spec PyProof.Rows
noncomputable abbrev ft{K:PySem.W.Frag}{h:Heap}(_:K.In h):PySem.W.Frag:=K
end L2
namespace L2
open PySem PySem.Spec PyProof.Rows
noncomputable def inClass(s:Stmt)(j:Nat):Stmt:=match s with
 | .ClassDef _ _ _ body _ _ _ _ _ _ _=>body.getD j (.Pass ⟨0,0,0,0⟩)
 | _=> .Pass ⟨0,0,0,0⟩
noncomputable def gJ(s:Stmt):Arguments:=match s with
 | .FunctionDef _ a _ _ _ _ _ _ _ _=>a
 | _=>{posonlyargs:=[],args:=[],vararg:=none,kwonlyargs:=[],kw_defaults:=[],kwarg:=none,defaults:=[]}
noncomputable def ak(s:Stmt):List Stmt:=match s with
 | .FunctionDef _ _ b _ _ _ _ _ _ _=>b
 | _=>[]
noncomputable def af(s:Stmt):Scope:=match s with
 | .FunctionDef _ _ _ _ _ _ sc _ _ _=>sc
 | _=>{kind:= .function,names:=[],isGenerator:=false,isCoroutine:=false}
noncomputable abbrev si:Bs:=fun _ _ _ _ _ _=>False
noncomputable abbrev E0:XK:=fun _ _ _=>False
theorem vf{X:Cx}:Passes si X E0:=fun _ _ _ _ _ _ _ h=>h.elim
structure yW (K:PySem.W.Frag) (x qual:Str) (st:Stmt) (f:Addr) (fd:FuncData):Prop where
 ex:∃(oc:Value) (od:Option Addr) (kV doc pm:Value) (an:Option Addr) (cdv ct:Value) (osl:Array (Option Value)),
  fd=PySem.W.fnOf x qual (gJ st) (ak st) (af st) .none kV doc pm an cdv ct∧K.lookup f=some ⟨oc,od, .func fd,osl⟩∧PySem.W.codeIn K cdv qual=true
 kp:PySem.W.keepIn K (.ref f)=true
section
variable {P:Program} {w:World} {K:PySem.W.Frag} {mg:Str→Option Value} {base:Heap}
theorem yW.ok{x qual:Str}{st:Stmt}{f:Addr}{fd:FuncData}{N ps:List Str}{k:Nat}{sp:Sp}(F:yW K x qual st f fd)(S:aZ N ps (af st))(len:∀vs H Q E,sp vs H Q E→vs.length=ps.length)
 (hbody:∀(cdv:Value) (A:Around) (outer:List Env) (s:Shared) (H:Hp) (vs:List V) (Q:VK) (E:XK),eQ k (A.deeper (envOfC qual (af st) s.heap.objs.size f cdv))→sp vs H Q E→
   ∃t,uZ (qX si P w K mg base N qual (af st) f cdv A outer s H E).Fj (ak st) t∧t {nx:=fun _ H'=>Q .cI H',rt:=Q} (start N vs) H):iQ P w K mg base si (k+1) f fd ps sp:=by
 obtain⟨oc,od,kV,doc,pm,an,cdv,ct,osl,rfl,lk,hcd⟩:=F.ex
 refine IY lk hcd S len fun A outer s H vs Q E hr hsp=>?_
 obtain⟨t,h,q⟩:=hbody cdv A outer s H vs Q E hr hsp
 exact⟨t,h.Fj,q⟩
theorem yW.binds{x qual:Str}{st:Stmt}{f:Addr}{fd:FuncData}{ps:List Str}(F:yW K x qual st f fd)
 (h:∀(kV doc pm:Value) (an:Option Addr) (cdv ct:Value) (us:List Value),us.length=ps.length→bindArgs (PySem.W.fnOf x qual (gJ st) (ak st) (af st) .none kV doc pm an cdv ct) ⟨us,[]⟩=pure (ps.zip us)):Binds K fd ps []:=by
 obtain⟨oc,od,kV,doc,pm,an,cdv,ct,osl,rfl,lk,hcd⟩:=F.ex
 exact .all (h kV doc pm an cdv ct)
theorem m4{x qual:Str}{st:Stmt}{f:Addr}{oc:Value}{od an:Option Addr}{osl:Array (Option Value)}{kV doc pm cdv ct:Value}(l:K.lookup f=some ⟨oc,od, .func (PySem.W.fnOf x qual (gJ st) (ak st) (af st) .none kV doc pm an cdv ct),osl⟩)
 (c:PySem.W.codeIn K cdv qual=true) (k:PySem.W.keepIn K (.ref f)=true):yW K x qual st f (PySem.W.fnOf x qual (gJ st) (ak st) (af st) .none kV doc pm an cdv ct):=⟨⟨oc,od,kV,doc,pm,an,cdv,ct,osl,rfl,l,c⟩,k⟩
end
theorem Jm{A:Around}{k:Nat}(hr:eQ k A):A.units+1 < cLine:=Nat.lt_of_le_of_lt (Nat.add_le_add_left (by decide:1≤64) _) hr.units
section
variable {X:Cx}
end
theorem CQ{A B:Prop}(h:B):if false=true then A else B:=by
 rw[if_neg Bool.false_ne_true]
 exact h
theorem BI{A B:Prop}(h:A):if true=true then A else B:=by
 rw[if_pos rfl]
 exact h
noncomputable def a_(H H':Hp):Prop:=∀b o,H b=some o→H' b=some o
theorem a_.refl(H:Hp):a_ H H:=fun _ _ h=>h
theorem a_.trans{H H1 H2:Hp}(a:a_ H H1)(b:a_ H1 H2):a_ H H2:=fun c o h=>b c o (a c o h)
theorem a_.free{H H':Hp}(e:a_ H H'){l:Addr}(h:H' l=Option.none):H l=Option.none:=by
 cases q:H l with
 | none=>rfl
 | some o=>
   rw[e l o q] at h
   cases h
section
variable {κ:Type} [DecidableEq κ]
end
end L2
end
section
set_option maxRecDepth 100000
set_option maxHeartbeats 4000000
namespace L2
open PySem PySem.Spec PyProof.Rows
noncomputable def qc(cells:List (Str × Addr)):List (Str × NameKind)→List (Str × Addr)→List (Str × Addr)
 | [],acc=>acc
 | (n,k) ::r,acc=>qc cells r (if k==NameKind.free then(n,(cells.lookup n).getD 0) ::acc else acc)
theorem kJ{env:Env}:∀(names:List (Str × NameKind)) (acc:List (Str × Addr)),(∀y∈names,y.2= .free→∃c,env.cells.lookup y.1=some c)→
 (forIn names acc fun(x:Str × NameKind) (cs:List (Str × Addr))=>(match x with
   | (name,kind)=>if kind== .free then do let a ←cellOf env name;pure (ForInStep.yield ((name,a) ::cs)) else pure (ForInStep.yield cs):Sem (ForInStep (List (Str × Addr)))))=pure (qc env.cells names acc)
 | [],acc,_=>by simp [qc]
 | (n,k) ::r,acc,h=>by
   rw[List.forIn_cons]
   by_cases hk:k=NameKind.free
   ·subst hk
    obtain⟨c,hc⟩:=h (n, .free) List.mem_cons_self rfl
    have e:cellOf env n=pure c:=by unfold cellOf;rw [hc]
    simp only[beq_self_eq_true,if_true,e,pure_bind,qc,hc,Option.getD_some]
    exact kJ r _ fun y hy=>h y (List.mem_cons_of_mem _ hy)
   ·have hb:(k==NameKind.free)=false:=by simpa using hk
    simp only[hb,Bool.false_eq_true,if_false,pure_bind,qc]
    exact kJ r _ fun y hy=>h y (List.mem_cons_of_mem _ hy)
theorem kN{env:Env}{scope:Scope}(h:∀y∈scope.names,y.2= .free→∃c,env.cells.lookup y.1=some c):closureFor scope env=pure (qc env.cells scope.names []):=by
 unfold closureFor
 have:=kJ (env:=env) scope.names [] h
 simp only[bind_pure]
 exact this
theorem lJ{cells:List (Str × Addr)}:∀(names:List (Str × NameKind)) (acc:List (Str × Addr)) {x:Str} {c:Addr},(qc cells names acc).lookup x=some c→
 acc.lookup x=some c∨((x,NameKind.free)∈names∧c=(cells.lookup x).getD 0)
 | [],acc,x,c,h=> .inl h
 | (n,k) ::r,acc,x,c,h=>by
   rcases lJ r _ h with q | ⟨q1,q2⟩
   ·by_cases hk:k=NameKind.free
    ·subst hk
     simp only[beq_self_eq_true,if_true] at q
     cases hx:x==n with
     | true=>
       have e:x=n:=by simpa using hx
       subst e
       rw[List.lookup_cons,hx] at q
       exact .inr ⟨List.mem_cons_self,(Option.some.inj q).symm⟩
     | false=>
       rw[List.lookup_cons,hx] at q
       exact .inl q
    ·have hb:(k==NameKind.free)=false:=by simpa using hk
     simp only[hb,Bool.false_eq_true,if_false] at q
     exact .inl q
   ·exact .inr ⟨List.mem_cons_of_mem _ q1,q2⟩
theorem u9{cells:List (Str × Addr)}:∀(names:List (Str × NameKind)) (acc:List (Str × Addr)) {x:Str},((x,NameKind.free)∈names∨∃c,acc.lookup x=some c)→∃c,(qc cells names acc).lookup x=some c
 | [],acc,x,h=>by
   rcases h with h | h
   ·simp at h
   ·exact h
 | (n,k) ::r,acc,x,h=>by
   refine u9 r _ ?_
   rcases h with h | ⟨c,h⟩
   ·rcases List.mem_cons.mp h with e | e
    ·cases e
     exact .inr ⟨(cells.lookup n).getD 0,by simp [List.lookup_cons]⟩
    ·exact .inl e
   ·by_cases hk:k=NameKind.free
    ·subst hk
     simp only[beq_self_eq_true,if_true]
     cases hx:x==n with
     | true=>exact .inr ⟨(cells.lookup n).getD 0,by rw[List.lookup_cons,hx]⟩
     | false=>exact .inr ⟨c,by rw[List.lookup_cons,hx];exact h⟩
    ·have hb:(k==NameKind.free)=false:=by simpa using hk
     simp only[hb,Bool.false_eq_true,if_false]
     exact .inr ⟨c,h⟩
noncomputable def bU(X:Cx)(scope:Scope)(N':List Str)(fp:List Addr)(s:Shared)(H:Hp):Cx where
 prog:=X.prog
 w:=X.w
 K:=X.K
 mg:=X.mg
 base:=X.base
 A:=X.A
 N:=N'
 s₀:=s
 H₀:=H
 env:=compEnvC scope (qc X.env.cells scope.names []) s.heap.objs.size X.env
 outer:=X.stack
 stack:=X.stack
 ex:=fp
 fn:=fun _=>false
 calm:=X.calm
 pn:=[]
 xe:=fun _ _=>False
structure cD (X:Cx) (scope:Scope) (own:List Str) (kp:List Nat) (kn:List Str):Prop where
 kind:scope.kind= .function
 nocell:∀y∈scope.names,y.2≠ .cell
 nd:∀y∈scope.names,y.2= .local→scope.names.lookup y.1=some .local
 free:∀y∈scope.names,y.2= .free→X.env.kindOf y.1=some .cell∨X.env.kindOf y.1=some .free
 names:kn.length=kp.length
 at_:∀(j i:Nat) (x:Str),kp[j]? =some i→kn[j]? =some x→X.N[i]? =some x
 isfree:∀x∈kn,scope.names.lookup x=some .free
noncomputable def dU(own:List Str)(kp:List Nat)(σ:St):St:=List.replicate own.length none++kp.map fun i=>(σ[i]?).getD none
section
variable {X:Cx} {scope:Scope} {own:List Str} {kp:List Nat} {kn:List Str}
theorem e_{env:Env}:∀{names:List (Str × NameKind)} {x:Str} {k:NameKind},
 (names.map fun(n,k)=>if(k==NameKind.free && env.scope.kind== .function && env.kindOf n==some .cell) then(n,NameKind.cell) else(n,k)).lookup x=some k→
 names.lookup x=some k∨(k= .cell∧names.lookup x=some .free)
 | [],_,_,h=>by simp at h
 | (n,k) ::r,x,k',h=>by
   have ih:=@e_ env r x k'
   have h:List.lookup x ((if(k==NameKind.free && env.scope.kind== .function && env.kindOf n==some .cell)=true then(n,NameKind.cell) else(n,k)) ::_)=some k':=h
   by_cases hc:(k==NameKind.free && env.scope.kind== .function && env.kindOf n==some .cell)=true
   ·rw[if_pos hc] at h
    have hkf:k= .free:=by
     simp only[Bool.and_eq_true,beq_iff_eq] at hc
     exact hc.1.1
    cases hx:x==n with
    | true=>
      rw[List.lookup_cons,hx] at h
      cases h
      exact .inr ⟨rfl,by rw[List.lookup_cons,hx,hkf]⟩
    | false=>
      rw[List.lookup_cons,hx] at h
      rw[List.lookup_cons,hx]
      exact ih h
   ·rw[if_neg hc] at h
    cases hx:x==n with
    | true=>
      rw[List.lookup_cons,hx] at h
      rw[List.lookup_cons,hx]
      exact .inl h
    | false=>
      rw[List.lookup_cons,hx] at h
      rw[List.lookup_cons,hx]
      exact ih h
theorem mV{pins:List (Addr × Obj)}{σ:St}{H:Hp}{s:Shared}(C:cD X scope own kp kn)(I:Inv X pins σ H s):∀y∈scope.names,y.2= .free→∃c,X.env.cells.lookup y.1=some c:=fun y hy hf=>
 I.ok.has y.1 (C.free y hy hf)
theorem A_{pins:List (Addr × Obj)}{σ:St}{H:Hp}{s:Shared}{fp:List Addr}{h₁:Heap}{tk:Nat}(C:cD X scope own kp kn)(I:Inv X pins σ H s)(hf:∀b∈fp,pV X pins H b)(hb:∀b∈fp,b < s.heap.objs.size)
 (hn:h₁.Ns s.heap.objs.size (fun _=>none)) (hk:∀b o,s.heap.get? b=some o→h₁.get? b=some o):Inv (bU X scope (own++kn) fp s H) [] (dU own kp σ) H {s with heap:=h₁,toks:=tk}:=by
 have cl:∀x c,(qc X.env.cells scope.names []).lookup x=some c→X.env.cells.lookup x=some c:=fun x c e=>by
  rcases lJ scope.names [] e with q | ⟨q1,q2⟩
  ·simp at q
  ·obtain⟨c',hc'⟩:=mV C I (x, .free) q1 rfl
   have hc':X.env.cells.lookup x=some c':=hc'
   rw[hc'] at q2
   rw[hc',q2]
   rfl
 have clh:∀x,scope.names.lookup x=some .free→∃c,(qc X.env.cells scope.names []).lookup x=some c:=fun x hx=>u9 scope.names [] (.inl (PySem.mem_of_lookup hx))
 refine⟨⟨I.ok.mod,C.kind,I.ok.glob,I.ok.blt,Nat.le_refl _,fun x y c h1 h2=>I.ok.inj x y c (cl x c h1) (cl y c h2),fun x hx=>?_,fun x c h=>(by cases h),I.ok.hd,I.ok.frames, .inl rfl,fun b hb'=>⟨Nat.ne_of_lt (hb b hb'),fun x c e z=>(hf b hb').2.2.2.2.1 x c (cl x c e) z⟩,
  fun b o e=>I.bs b o e,Nat.le_trans I.ok.bsz I.sz,fun b o e hb'=>?_,fun b hb' hs=>?_,I.stack,I.zy⟩,
  rfl,I.bare,Un.kept hk,⟨_,hn,fun i x v h1 h2 h3=>?_⟩,fun x c e=>?_,I.hok.fresh (Nat.le_refl _),fun x c e=>I.freeC x c (cl x c e),fun p hp=>(by cases hp),I.hok.kept hk,?_⟩
 ·have hx:(relabel scope X.env).names.lookup x=some .cell∨(relabel scope X.env).names.lookup x=some .free:=hx
  rcases hx with hx | hx
  ·rcases e_ hx with q | ⟨_,q⟩
   ·exact absurd rfl (C.nocell _ (PySem.mem_of_lookup q))
   ·exact clh x q
  ·rcases e_ hx with q | ⟨q,_⟩
   ·exact clh x q
   ·cases q
 ·rcases(hf b hb').2.2.2.1 with z | z
  ·exact I.ok.noex b o e z
  ·exact absurd (Nat.lt_of_lt_of_le (Heap.lt_size (I.ok.bs b o e).1) z) (Nat.lt_irrefl _)
 ·rcases List.mem_cons.mp (I.xq b hs) with z | z
  ·exact(hf b hb').2.1 z
  ·exact(hf b hb').2.2.1 z
 ·-- a kept name
  have h1:(own++kn)[i]? =some x:=h1
  have h2:(dU own kp σ)[i]? =some (some v):=h2
  unfold dU at h2
  by_cases hi:i < own.length
  ·rw[List.getElem?_append_left (by simpa using hi),List.getElem?_replicate] at h2
   split at h2 <;> cases h2
  ·rw[List.getElem?_append_right (by simpa using hi),List.length_replicate,List.getElem?_map] at h2
   rw[List.getElem?_append_right (by simpa using hi)] at h1
   cases e:kp[i - own.length]? with
   | none=>rw [e] at h2;cases h2
   | some j=>
     rw[e] at h2
     have h2:(σ[j]?).getD none=some v:=Option.some.inj h2
     have hj:X.N[j]? =some x:=C.at_ _ j x e h1
     have hσ:σ[j]? =some (some v):=by
      cases q:σ[j]? with
      | none=>rw [q] at h2;cases h2
      | some y=>rw [q] at h2;exact congrArg some h2
     have hfree:scope.names.lookup x=some .free:=C.isfree x (List.mem_of_getElem? h1)
     have hkind:=C.free (x, .free) (PySem.mem_of_lookup hfree) rfl
     obtain⟨m,hm,hl⟩:=I.loc
     obtain⟨u,r,l⟩:=hl j x v hj hσ (hkind.elim (fun q=>Or.inr (Or.inl q)) fun q=>Or.inr (Or.inr q))
     refine⟨u,r, .inr ⟨?_,?_⟩⟩
     ·have h3:(relabel scope X.env).names.lookup x=some .local∨(relabel scope X.env).names.lookup x=some .cell∨(relabel scope X.env).names.lookup x=some .free:=h3
      rcases h3 with q | q | q
      ·rcases e_ q with z | ⟨z,_⟩
       ·rw[hfree] at z;cases z
       ·cases z
      ·exact .inl q
      ·exact .inr q
     ·rcases l with⟨k,_⟩ | ⟨_,c,hc,hcell⟩
      ·rcases hkind with q | q
       ·rw[show X.env.kindOf x=some .cell from q] at k;cases k
       ·rw[show X.env.kindOf x=some .free from q] at k;cases k
      ·obtain⟨c',hc'⟩:=clh x hfree
       have:=cl x c' hc'
       rw[hc] at this
       cases this
       obtain⟨o,ho,hd⟩:=hcell
       exact⟨c,hc',o,hk c o ho,hd⟩
 ·obtain⟨v,o,ho,hd⟩:=I.cell x c (cl x c e)
  exact⟨v,o,hk c o ho,hd⟩
 ·show(dU own kp σ).length=(own++kn).length
  unfold dU
  rw[List.length_append,List.length_replicate,List.length_map,List.length_append,C.names]
theorem qR{pins:List (Addr × Obj)}{σ σ':St}{H H':Hp}{s s':Shared}{fp:List Addr}{N':List Str}(I:Inv X pins σ H s)(hf:∀b∈fp,pV X pins H b)(J:Inv (bU X scope N' fp s H) [] σ' H' s'):Inv X pins σ H' s':=
 I.IF (ch:=fp) J.os J.base J.hok J.bare fun b hb=>⟨(hf b hb).2.2.2.1,(hf b hb).2.1,(hf b hb).2.2.2.2.1,(hf b hb).2.2.2.2.2⟩
end
noncomputable def oC(X:Cx)(ifs:List Expr)(t:TT):Prop:=
 ∀(pins:List (Addr × Obj)) (s:Shared) (σ:St) (H:Hp) (Q:Bool→Hp→Prop),Inv X pins σ H s→t σ H Q→
  wpAny (model X.prog X.w) X.A (forIn ifs true fun c r=>if r=true then do let ok ←isTrue c X.env (eval c X.env);pure (ForInStep.yield ok) else pure (ForInStep.yield r)) (TP X pins σ Q) X.xe s
noncomputable def KA:TT:=fun _ H Q=>Q true H
theorem vd{X:Cx}:oC X [] KA:=fun _ _ _ H _ I h=>wpAny_tests_nil ⟨H,I,h⟩
theorem vc{X:Cx}{c:Expr}{t:TT}(h:PT X c t):oC X [c] t:=fun pins s σ H Q I hq=>wpAny_tests_one (h pins s σ H Q I hq)
noncomputable def zo(wi:TI)(g:TG)(tc:TT)(te:TE)(own:List Str)(kp:List Nat):TE:=fun σ H Q=>wi σ H fun J H1=>∀D,H1 D=none→
 ∃W:Nat→Nat→List V→Hp→Prop,(∃m,W 0 m [] (upd H1 D (.lst [])))∧∀i m ys H,W i m ys H→
  (J.stop i H∧Q (.ref D) H)∨(J.go i H∧∀x H',J.yld i H x H'→g x (dU own kp σ) H' fun σ2 H2=>tc σ2 H2 fun c H3=>
    if c=true then te σ2 H3 fun y H4=>H4 D=some (.lst ys)∧ys.length < sizeLine∧∃m',m' < m∧W (i+1) m' (ys++[y]) (upd H4 D (.lst (ys++[y])))
    else ∃m',m' < m∧W (i+1) m' ys H3)
section
variable {X:Cx} {scope:Scope} {own:List Str} {kp:List Nat} {kn:List Str} {tg iter elt:Expr} {ifs:List Expr} {wi:TI} {g:TG} {tc:TT} {te:TE} {pos:Pos}
theorem wc{pins:List (Addr × Obj)}{σ:St}{H:Hp}{s:Shared}{fp:List Addr}{it D:Addr}{tn:Nat→Heap→Prop}{J:It}{Q:VK}{h₁:Heap}{tk:Nat}{R:Result→Shared→Prop}
 (hc:X.calm=true) (C:cD X scope own kp kn) (I:Inv X pins σ H s) (hf:∀b∈fp,pV X pins H b) (hb:∀b∈fp,b < s.heap.objs.size) (T:Turn X.prog X.w X.K tg J fp it tn)
 (hg:PG (bU X scope (own++kn) fp s H) tg g) (hi:oC (bU X scope (own++kn) fp s H) ifs tc) (he:PE (bU X scope (own++kn) fp s H) elt te)
 (hn:h₁.Ns s.heap.objs.size (fun _=>none)) (hk:∀b o,s.heap.get? b=some o→h₁.get? b=some o) (st:tn 0 s.heap)
 (W:Nat→Nat→List V→Hp→Prop) (w0:∃m,W 0 m [] H)
 (turn:∀i m ys H,W i m ys H→
   (J.stop i H∧Q (.ref D) H)∨(J.go i H∧∀x H',J.yld i H x H'→g x (dU own kp σ) H' fun σ2 H2=>tc σ2 H2 fun c H3=>
     if c=true then te σ2 H3 fun y H4=>H4 D=some (.lst ys)∧ys.length < sizeLine∧∃m',m' < m∧W (i+1) m' (ys++[y]) (upd H4 D (.lst (ys++[y])))
     else ∃m',m' < m∧W (i+1) m' ys H3))
 (hR:∀H' s' σ',Inv (bU X scope (own++kn) fp s H) [] σ' H' s'→Q (.ref D) H'→R (.ok .next) s') :
 codeAny (model X.prog X.w) X.A (.compStart (.ListComp elt [⟨tg,iter,ifs,0⟩] scope pos) 0 (.ref it) (.ref D) (bU X scope (own++kn) fp s H).env) R {s with heap:=h₁,toks:=tk}:=by
 have I1:Inv (bU X scope (own++kn) fp s H) [] (dU own kp σ) H {s with heap:=h₁,toks:=tk}:=A_ C I hf hb hn hk
 have st1:tn 0 h₁:=T.keep _ _ _ st fun b _ o e=>hk b o e
 have fp1:∀{H':Hp} {p:List (Addr × Obj)},(∀b∈fp,H' b=none)→(∀b∈fp,∀q∈p,q.1≠b)→∀b∈fp,pV (bU X scope (own++kn) fp s H) p H' b:=fun {H' p} hn hp b hb'=>
  ⟨hn b hb',(I1.ok.exf b hb').1,I1.ok.exfs b hb', .inl hb',fun x c e=>(I1.ok.exf b hb').2 x c e,fun q hq=>hp b hb' q hq⟩
 obtain⟨m0,w0⟩:=w0
 have loop:codeAny (model X.prog X.w) X.A (.compLoop (.ListComp elt [⟨tg,iter,ifs,0⟩] scope pos) 0 (.ref it) (.ref D) (bU X scope (own++kn) fp s H).env) R {s with heap:=h₁,toks:=tk}:=by
  refine codeAny_loop rfl (fun n s'=>∃i ys H',Inv (bU X scope (own++kn) fp s H) [] (dU own kp σ) H' s'∧tn i s'.heap∧(∀b∈fp,H' b=none)∧W i n ys H') (fun n s' hI=>?_) m0 ⟨0,[],H,I1,st1,fun b hb'=>(hf b hb').1,w0⟩
  obtain⟨i,ys,H3,I3,st3,fr3,w3⟩:=hI
  show wpAny _ _ ((compTurn (.ListComp elt [⟨tg,iter,ifs,0⟩] scope pos) 0 (.ref it) (.ref D) (bU X scope (own++kn) fp s H).env).onRaise (fun x=>do noteFrame x (bU X scope (own++kn) fp s H).env;theTreesLotGoes x)) _ _ s'
  refine wpAny_noted (wpAny_noRaise ?_)
  rw[compTurn_list]
  refine wpAny_bind (wpAny_standAt (wpAny_bind ?_))
  rcases turn i n ys H3 w3 with⟨stop,q⟩ | ⟨go,step⟩
  ·refine dY (T.done (bU X scope (own++kn) fp s H) rfl rfl rfl hc i [] s' _ H3 _ I3 (fp1 fr3 (fun _ _ q hq=>by cases hq)) st3 stop) fun r s4 ⟨hr,I4⟩=>?_
   subst hr
   exact wpAny_pure (hR H3 s4 _ I4 q)
  ·refine dY (T.item (bU X scope (own++kn) fp s H) rfl rfl rfl hc i [] s' _ H3 _ I3 (fp1 fr3 (fun _ _ q hq=>by cases hq)) st3 go) fun r s4 ⟨u,hr,h4⟩=>?_
   subst hr
   refine wpAny_bind (dY h4 fun _ s5 ⟨x,H5,I5,r5,y5,st5,fr5⟩=>?_)
   have I5':=I5.pinned (fp1 fr5 (fun _ _ q hq=>by cases hq)) (T.obj _ _ st5)
   have keepIt:∀{σ7:St} {H7:Hp} {s7:Shared},Inv (bU X scope (own++kn) fp s H) ([]++mM fp s5.heap) σ7 H7 s7→tn (i+1) s7.heap∧∀b∈fp,H7 b=none:=fun {σ7 H7 s7} I7=>by
    refine⟨T.keep _ _ _ st5 fun b hb o e=>(I7.pin (b,o) (List.mem_append_right _ (List.mem_append_right _ (kM hb e)))).1,fun b hb=>?_⟩
    obtain⟨o,e,d⟩:=T.obj _ _ st5 b hb
    exact(I7.pin (b,o) (List.mem_append_right _ (List.mem_append_right _ (kM hb e)))).2.1
   have reset:∀{σ7:St} {H7:Hp} {s7:Shared},Inv (bU X scope (own++kn) fp s H) ([]++mM fp s5.heap) σ7 H7 s7→Inv (bU X scope (own++kn) fp s H) [] (dU own kp σ) H7 s7:=fun {σ7 H7 s7} I7=>by
    have I8:=I7.nK
    have hun:Un (AJ X.stack) fp H H7 s.heap s7.heap:=I8.base
    have I9:Inv X pins σ H7 s7:=qR I hf I8
    refine⟨I8.ok,I8.os,I8.bare,I8.base,?_,I8.cell,I8.free,I8.freeC,I8.pin,I8.hok,I1.len⟩
    obtain⟨m,hm,_⟩:=I8.loc
    refine⟨m,hm,fun i x v h1 h2 h3=>?_⟩
    obtain⟨m1,hm1,hl1⟩:=I1.loc
    obtain⟨u1,r1,l1⟩:=hl1 i x v h1 h2 h3
    have h1:(own++kn)[i]? =some x:=h1
    have h2:(dU own kp σ)[i]? =some (some v):=h2
    unfold dU at h2
    by_cases hi:i < own.length
    ·rw[List.getElem?_append_left (by simpa using hi),List.getElem?_replicate] at h2
     split at h2 <;> cases h2
    ·rw[List.getElem?_append_right (by simpa using hi),List.length_replicate,List.getElem?_map] at h2
     rw[List.getElem?_append_right (by simpa using hi)] at h1
     cases e:kp[i - own.length]? with
     | none=>rw [e] at h2;cases h2
     | some j=>
       rw[e] at h2
       have h2:(σ[j]?).getD none=some v:=Option.some.inj h2
       have hj:X.N[j]? =some x:=C.at_ _ j x e h1
       have hσ:σ[j]? =some (some v):=by
        cases q:σ[j]? with
        | none=>rw [q] at h2;cases h2
        | some y=>rw [q] at h2;exact congrArg some h2
       have hfree:scope.names.lookup x=some .free:=C.isfree x (List.mem_of_getElem? h1)
       have hkind:=C.free (x, .free) (PySem.mem_of_lookup hfree) rfl
       obtain⟨m9,hm9,hl9⟩:=I9.loc
       obtain⟨u,r,l⟩:=hl9 j x v hj hσ (hkind.elim (fun q=>Or.inr (Or.inl q)) fun q=>Or.inr (Or.inr q))
       refine⟨u,r, .inr ?_⟩
       rcases l1 with⟨k,k2⟩ | ⟨k,c,hc,hcell⟩
       ·have k:(relabel scope X.env).names.lookup x=some .local:=k
        rcases e_ k with z | ⟨z,_⟩
        ·rw[hfree] at z;cases z
        ·cases z
       ·refine⟨k,c,hc,?_⟩
        rcases l with⟨k',_⟩ | ⟨_,c',hc',hcell'⟩
        ·rcases hkind with q | q
         ·rw[show X.env.kindOf x=some .cell from q] at k';cases k'
         ·rw[show X.env.kindOf x=some .free from q] at k';cases k'
        ·have hcl:(qc X.env.cells scope.names []).lookup x=some c:=hc
         rcases lJ scope.names [] hcl with q | ⟨q1,q2⟩
         ·simp at q
         ·rw[hc'] at q2
          have q2:c=c':=q2
          rw[q2]
          exact hcell'
   have hmm:=hg ([]++mM fp s5.heap) s5 (dU own kp σ) H5 x u _ I5' r5 (step x H5 y5)
   refine wpAny_bind (dY hmm fun _ s6 ⟨σ6,H6,I6,q6⟩=>?_)
   refine wpAny_bind (dY (hi _ s6 σ6 H6 _ I6 q6) fun ok s7 ⟨H7,I7,q7⟩=>?_)
   cases ok with
   | false=>
     simp only[Bool.false_eq_true,if_false] at q7 ⊢
     obtain⟨m',hm',w7⟩:=q7
     obtain⟨a1,a2⟩:=keepIt I7
     exact wpAny_pure ⟨rfl,m',hm',i+1,ys,H7,reset I7,a1,a2,w7⟩
   | true=>
     simp only[if_true] at q7 ⊢
     refine wpAny_bind (wpAny_bind (dY (he _ s7 σ6 H7 _ I7 q7) fun yv s8 ⟨y,H8,I8,r8,hD,hlt,m',hm',w8⟩=>wpAny_bind ?_))
     obtain⟨a1,a2⟩:=keepIt I8
     refine dY (o7 _ s8 σ6 H8 (.ref D) [y] (.ref D) [yv] (fun v H9=>v= .cI∧H9=upd H8 D (.lst (ys++[y]))) I8 rfl (.cons r8 .nil) ⟨D,ys,y,rfl,rfl,hD,hlt,rfl,rfl⟩) fun _ s9 ⟨v9,H9,I9,_,_,e9⟩=>?_
     subst e9
     obtain⟨b1,b2⟩:=keepIt I9
     exact wpAny_pure (wpAny_pure ⟨rfl,m',hm',i+1,ys++[y],_,reset I9,b1,b2,w8⟩)
 exact codeAny_compStart_list loop (T.self _ _ _ _ _ st1 loop)
theorem y1(hc:X.calm=true)(C:cD X scope own kp kn)(hi:PI X tg iter wi)(hg:∀fp s H,PG (bU X scope (own++kn) fp s H) tg g)(hif:∀fp s H,oC (bU X scope (own++kn) fp s H) ifs tc)
 (he:∀fp s H,PE (bU X scope (own++kn) fp s H) elt te) (hs:∀x,foldedSetIterable iter X.env x=pure x:=by intro _;rfl):PE X (.ListComp elt [⟨tg,iter,ifs,0⟩] scope pos) (zo wi g tc te own kp):=by
 intro pins s σ H Q I h
 rw[eval_ListComp]
 refine wpAny_comprehension_free (use:=none) rfl hs (kN (mV C I)) C.kind C.nd (dY (hi pins s σ H _ I h) fun v s1 h1=>dY h1 fun itv s2 h2=>?_)
 obtain⟨it,fp,tn,J,H2,e,I2,T,st2,f2,q⟩:=h2
 subst e
 refine wpAny_newObj_type ?_
 have I3:Inv X pins σ (upd H2 s2.heap.objs.size (.lst [])) {s2 with heap:=s2.heap.push {cls:= .type "list",dict:=none,data:= .seq ([]:List Value).toArray}}:=I2.Fs (its:=[]) (t':=s2.toks) .nil (Nat.zero_le _)
 obtain⟨W,w0,turn⟩:=q s2.heap.objs.size I2.fresh
 have fne:∀b∈fp,b < s2.heap.objs.size:=fun b hb=>let⟨o,e,_⟩:=T.obj _ _ st2 b hb;Heap.lt_size e
 have f3:∀b∈fp,pV X pins (upd H2 s2.heap.objs.size (.lst [])) b:=fun b hb=>⟨by rw[br (Nat.ne_of_lt (fne b hb))];exact(f2 b hb).1,(f2 b hb).2⟩
 generalize hs3:({s2 with heap:=s2.heap.push {cls:= .type "list",dict:=none,data:= .seq ([]:List Value).toArray}}:Shared)=s3 at I3 ⊢
 have st3:tn 0 s3.heap:=by rw[←hs3];exact T.keep _ _ _ st2 fun b _ o e=>Heap.get?_push_of_some _ e
 have fne3:∀b∈fp,b < s3.heap.objs.size:=fun b hb=>by rw[←hs3];exact Nat.lt_of_lt_of_le (fne b hb) (by rw[Heap.size_push];exact Nat.le_succ _)
 refine wpAny_newFunctionEnv (fun y hy=>C.nocell y hy) (by intro y hy;simp at hy) (fun h₁ hns₁ hsb₁=>?_) C.kind
 have hk:∀b o,s3.heap.get? b=some o→h₁.get? b=some o:=fun b o e=>hsb₁.extBut b o (Nat.ne_of_lt (Heap.lt_size e)) (Heap.get?_push_of_some _ e)
 refine wc (D:=s2.heap.objs.size) hc C I3 f3 fne3 T (hg fp s3 _) (hif fp s3 _) (he fp s3 _) hns₁ hk st3 W w0 turn fun H' s' σ' J' hq=>?_
 have B:=qR I3 f3 J'
 obtain⟨m',hm',_⟩:=J'.loc
 refine⟨m',hm',fun h' sb=>⟨.ref s2.heap.objs.size,H',?_,rfl,hq⟩⟩
 have fC:=I3.qC (H':=H') (b:=s3.heap.objs.size) (Nat.le_refl _) J'.free
 exact B.turned (it:=s3.heap.objs.size) (t':=s'.toks) (fun b o hb e=>(sb.2 b hb).trans e) fC.1 fC.2.1 fC.2.2.2.1 fC.2.2.2.2.1 fC.2.2.2.2.2
theorem xK{i:Nat}{x:Str}{pos' spos:Pos}(hc:X.calm=true)(hN:X.N.Nodup)(hx:X.N[i]? =some x)(hxl:X.env.scope.names.lookup x=some .local)(C:cD X scope own kp kn)(hi:PI X tg iter wi)
 (hg:∀fp s H,PG (bU X scope (own++kn) fp s H) tg g) (hif:∀fp s H,oC (bU X scope (own++kn) fp s H) ifs tc)
 (he:∀fp s H,PE (bU X scope (own++kn) fp s H) elt te)
 (hsw:swapsWith (.ListComp elt [⟨tg,iter,ifs,0⟩] scope pos) (some (.Name x pos')) spos.line X.env=pure true:=by rfl)
 (hs:∀x,foldedSetIterable iter X.env x=pure x:=by intro _;rfl) :
 PS X (.Assign [.Name x pos'] (.ListComp elt [⟨tg,iter,ifs,0⟩] scope pos) spos) (zK (zo wi g tc te own kp) (rE i)):=by
 intro pins s σ H D I h
 rw[exec_Assign_Name_used _ _ _ _ hsw]
 refine wpAny_bind (wpAny_standAt (wpAny_bind ?_))
 show wpAny _ X.A (do let _ ←comprehension (.ListComp elt [⟨tg,iter,ifs,0⟩] scope pos) scope X.env _ (newList []) false (eval iter X.env) (some (assign (.Name x pos') X.env))) _ _ s
 refine wpAny_bind (wpAny_mono (wpAny_comprehension_free (use:=some (assign (.Name x pos') X.env)) (Q:=fun _ s'=>SP X pins D .next s') rfl hs (kN (mV C I)) C.kind C.nd
  (dY (hi pins s σ H _ I h) fun v s1 h1=>dY h1 fun itv s2 h2=>?_)) (fun _ s' hq=>wpAny_pure (wpAny_pure hq)) fun _ _ e=>e)
 obtain⟨it,fp,tn,J,H2,e,I2,T,st2,f2,q⟩:=h2
 subst e
 refine wpAny_newObj_type ?_
 have I3:Inv X pins σ (upd H2 s2.heap.objs.size (.lst [])) {s2 with heap:=s2.heap.push {cls:= .type "list",dict:=none,data:= .seq ([]:List Value).toArray}}:=I2.Fs (its:=[]) (t':=s2.toks) .nil (Nat.zero_le _)
 obtain⟨W,w0,turn⟩:=q s2.heap.objs.size I2.fresh
 have fne:∀b∈fp,b < s2.heap.objs.size:=fun b hb=>let⟨o,e,_⟩:=T.obj _ _ st2 b hb;Heap.lt_size e
 have f3:∀b∈fp,pV X pins (upd H2 s2.heap.objs.size (.lst [])) b:=fun b hb=>⟨by rw[br (Nat.ne_of_lt (fne b hb))];exact(f2 b hb).1,(f2 b hb).2⟩
 generalize hs3:({s2 with heap:=s2.heap.push {cls:= .type "list",dict:=none,data:= .seq ([]:List Value).toArray}}:Shared)=s3 at I3 ⊢
 have st3:tn 0 s3.heap:=by rw[←hs3];exact T.keep _ _ _ st2 fun b _ o e=>Heap.get?_push_of_some _ e
 have fne3:∀b∈fp,b < s3.heap.objs.size:=fun b hb=>by rw[←hs3];exact Nat.lt_of_lt_of_le (fne b hb) (by rw[Heap.size_push];exact Nat.le_succ _)
 refine wpAny_newFunctionEnv (fun y hy=>C.nocell y hy) (by intro y hy;simp at hy) (fun h₁ hns₁ hsb₁=>?_) C.kind
 have hk:∀b o,s3.heap.get? b=some o→h₁.get? b=some o:=fun b o e=>hsb₁.extBut b o (Nat.ne_of_lt (Heap.lt_size e)) (Heap.get?_push_of_some _ e)
 refine wc (Q:=fun x H1=>rE i x σ H1 D.nx) (D:=s2.heap.objs.size) hc C I3 f3 fne3 T (hg fp s3 _) (hif fp s3 _) (he fp s3 _) hns₁ hk st3 W w0 turn fun H' s' σ' J' hq=>?_
 have B:=qR I3 f3 J'
 obtain⟨m',hm',_⟩:=J'.loc
 have fC:=I3.qC (H':=H') (b:=s3.heap.objs.size) (Nat.le_refl _) J'.free
 show wpAny _ X.A (assign (.Name x pos') X.env (.ref s2.heap.objs.size)) _ _ s'
 refine wpAny_assign_Name (tw B hN hx (.inl hxl) (v:= .ref s2.heap.objs.size) rfl (fun s4 I4 ⟨a,sb,ha⟩=>?_) (.inr hxl))
 have ha':s3.heap.objs.size≠a:=by
  rcases ha with rfl | z
  ·exact fC.2.1
  ·exact fun e=>fC.2.2.2.2.1 x a z e.symm
 refine⟨m',hm'.sameBut sb ha',fun h' sb'=>⟨_,H',?_,hq⟩⟩
 exact I4.turned (it:=s3.heap.objs.size) (t':=s4.toks) (fun b o hb e=>(sb'.2 b hb).trans e) fC.1 fC.2.1 fC.2.2.2.1 fC.2.2.2.2.1 fC.2.2.2.2.2
end
end L2
end
section
set_option maxRecDepth 100000
set_option maxHeartbeats 4000000
namespace L2
open PySem PySem.Spec PyProof.Rows
inductive D where
 | cI | bl (b:Bool) | int (i:Int) | str (x:Str) | lst (ds:List D) | tup (ds:List D) | dct (ks:List Key) (ds:List D)
inductive R (α:Type) where
 | ok (a:α) | ex (c:Nat) | no
noncomputable def R.bind{α β:Type}:R α→(α→R β)→R β
 | .ok a,f=>f a
 | .ex c,_=> .ex c
 | .no,_=> .no
theorem R.ao{α β:Type}{r:R α}{f:α→R β}{b:β}(h:r.bind f= .ok b):∃a,r= .ok a∧f a= .ok b:=by
 cases r with
 | ok a=>exact⟨a,rfl,h⟩
 | ex c=>cases h
 | no=>cases h
@[simp] theorem R.aH{α β:Type}(a:α)(f:α→R β):(R.ok a).bind f=f a:=rfl
noncomputable def R.cb{α:Type}(c:Bool)(r:R α):R α:=if c then r else .no
theorem R.bp{α:Type}{c:Bool}{r:R α}{a:α}(h:R.cb c r= .ok a):c=true∧r= .ok a:=by
 cases c with
 | true=>exact⟨rfl,h⟩
 | false=>cases h
@[simp] theorem R.gb{α:Type}(r:R α):R.cb true r=r:=rfl
noncomputable def r_(K:PySem.W.Frag)(B:List Addr)(H:Hp)(a:Addr)(xs:List V):Prop:=
 (a ∉ B∧Rd H a (.lst xs))∨∃(its:List Value) (n:Nat),K.lookup a=some {cls:= .type "list",data:= .seq its.toArray n}∧xs.length≤sizeLine∧Vals xs its
noncomputable def sN(K:PySem.W.Frag)(B:List Addr)(H:Hp)(a:Addr)(xs:List V):Prop:=
 (a ∉ B∧Rd H a (.tup xs))∨∃(o:Obj) (its:Array Value) (n:Nat),K.lookup a=some o∧o.cls= .type "tuple"∧o.data= .seq its n∧its.size≤sizeLine∧Vals xs its.toList
theorem r_.sq{K:PySem.W.Frag}{B:List Addr}{H:Hp}{a:Addr}{xs:List V}(h:r_ K B H a xs):ny K H a xs:=by
 rcases h with z | ⟨its,n,hk,hz,r⟩
 ·exact .inl z.2
 ·exact .inr ⟨_,its.toArray,n,hk,rfl,rfl,rfl,by rw[List.size_toArray,←r.length];exact hz,by simpa using r⟩
theorem sN.sq{K:PySem.W.Frag}{B:List Addr}{H:Hp}{a:Addr}{xs:List V}(h:sN K B H a xs):pK K H a xs:=h.elim (fun z=> .inl z.2) .inr
mutual
noncomputable def Rep(K:PySem.W.Frag)(B:List Addr)(H:Hp):D→V→Prop
 | .cI,v=>v= .cI
 | .bl b,v=>v= .bl b
 | .int i,v=>v= .int i
 | .str x,v=>v= .str x
 | .lst ds,v=>∃a xs,v= .ref a∧r_ K B H a xs∧aK K B H ds xs
 | .tup ds,v=>∃a xs,v= .ref a∧sN K B H a xs∧aK K B H ds xs
 | .dct ks ds,v=>∃(a:Addr) (kvs:List (Key × V)),v= .ref a∧(a ∉ B∧H a=some (.dK kvs))∧kvs.map (·.1)=ks∧aK K B H ds (kvs.map (·.2))
noncomputable def aK(K:PySem.W.Frag)(B:List Addr)(H:Hp):List D→List V→Prop
 | [],xs=>xs=[]
 | d ::ds,xs=>∃x r,xs=x ::r∧Rep K B H d x∧aK K B H ds r
end
noncomputable def dt(B:List Addr)(H:Hp)(B':List Addr)(H':Hp):Prop:=∀b o,H b=some o→b ∉ B→H' b=some o∧b ∉ B'
theorem dt.rd{B B':List Addr}{H H':Hp}(p:dt B H B' H'){a:Addr}{u:HO}(h:Rd H a u)(n:a ∉ B):Rd H' a u∧a ∉ B':=by
 rcases h with e | ⟨o,e⟩
 ·exact⟨.inl (p a _ e n).1,(p a _ e n).2⟩
 ·exact⟨.inr ⟨o,(p a _ e n).1⟩,(p a _ e n).2⟩
theorem dt.trans{B B' B'':List Addr}{H H' H'':Hp}(p:dt B H B' H')(q:dt B' H' B'' H''):dt B H B'' H'':=fun b o e n=>
 let⟨e1,n1⟩:=p b o e n;q b o e1 n1
theorem dt.same{B:List Addr}{H H':Hp}(s:a_ H H'):dt B H B H':=fun b o e n=>⟨s b o e,n⟩
theorem dt.refl(B:List Addr)(H:Hp):dt B H B H:=dt.same (a_.refl H)
theorem r_.bx{K:PySem.W.Frag}{B B':List Addr}{H H':Hp}(p:dt B H B' H'){a:Addr}{xs:List V}(l:r_ K B H a xs):r_ K B' H' a xs:=
 l.elim (fun z=> .inl ⟨(p.rd z.2 z.1).2,(p.rd z.2 z.1).1⟩) .inr
mutual
theorem Rep.bx{K:PySem.W.Frag}{B B':List Addr}{H H':Hp}(p:dt B H B' H'):∀{d:D} {v:V},Rep K B H d v→Rep K B' H' d v
 | .cI,_,h=>h
 | .bl _,_,h=>h
 | .int _,_,h=>h
 | .str _,_,h=>h
 | .lst ds,v,h=>by
   unfold Rep at h ⊢
   obtain⟨a,xs,e,l,r⟩:=h
   exact⟨a,xs,e,l.bx p,aK.bx p r⟩
 | .tup ds,v,h=>by
   unfold Rep at h ⊢
   obtain⟨a,xs,e,l,r⟩:=h
   exact⟨a,xs,e,l.elim (fun z=> .inl ⟨(p.rd z.2 z.1).2,(p.rd z.2 z.1).1⟩) .inr,aK.bx p r⟩
 | .dct ks ds,v,h=>by
   unfold Rep at h ⊢
   obtain⟨a,kvs,e,⟨n,l⟩,k,r⟩:=h
   exact⟨a,kvs,e,⟨(p a _ l n).2,(p a _ l n).1⟩,k,aK.bx p r⟩
theorem aK.bx{K:PySem.W.Frag}{B B':List Addr}{H H':Hp}(p:dt B H B' H'):∀{ds:List D} {xs:List V},aK K B H ds xs→aK K B' H' ds xs
 | [],_,h=>h
 | d ::ds,xs,h=>by
   unfold aK at h ⊢
   obtain⟨x,r,e,h1,h2⟩:=h
   exact⟨x,r,e,Rep.bx p h1,aK.bx p h2⟩
end
theorem Rep.same{K:PySem.W.Frag}{B:List Addr}{H H':Hp}{d:D}{v:V}(h:Rep K B H d v)(s:a_ H H'):Rep K B H' d v:=h.bx (dt.same s)
theorem aK.same{K:PySem.W.Frag}{B:List Addr}{H H':Hp}{d:List D}{v:List V}(h:aK K B H d v)(s:a_ H H'):aK K B H' d v:=h.bx (dt.same s)
theorem aK.nil{K:PySem.W.Frag}{B:List Addr}{H:Hp}:aK K B H [] []:=by unfold aK;rfl
theorem aK.cons{K:PySem.W.Frag}{B:List Addr}{H:Hp}{d:D}{ds:List D}{x:V}{xs:List V}(h:Rep K B H d x)(t:aK K B H ds xs):aK K B H (d ::ds) (x ::xs):=by
 unfold aK;exact⟨x,xs,rfl,h,t⟩
theorem aK.cA{K:PySem.W.Frag}{B:List Addr}{H:Hp}{d:D}{ds:List D}{xs:List V}(h:aK K B H (d ::ds) xs):∃x r,xs=x ::r∧Rep K B H d x∧aK K B H ds r:=by
 unfold aK at h;exact h
theorem aK.length{K:PySem.W.Frag}{B:List Addr}{H:Hp}:∀{ds:List D} {xs:List V},aK K B H ds xs→ds.length=xs.length
 | [],_,h=>by unfold aK at h;rw [h];rfl
 | d ::ds,xs,h=>by
   obtain⟨x,r,rfl,_,h2⟩:=h.cA
   simp [h2.length]
theorem aK.get{K:PySem.W.Frag}{B:List Addr}{H:Hp}:∀{ds:List D} {xs:List V} {i:Nat} {d:D},aK K B H ds xs→ds[i]? =some d→∃x,xs[i]? =some x∧Rep K B H d x
 | [],_,_,_,_,e=>by simp at e
 | d ::ds,xs,0,d',h,e=>by
   obtain⟨x,r,rfl,h1,h2⟩:=h.cA
   simp at e;subst e
   exact⟨x,rfl,h1⟩
 | d ::ds,xs,i+1,d',h,e=>by
   obtain⟨x,r,rfl,h1,h2⟩:=h.cA
   obtain⟨y,e1,e2⟩:=aK.get (i:=i) h2 (by simpa using e)
   exact⟨y,by simpa using e1,e2⟩
theorem aK.append{K:PySem.W.Frag}{B:List Addr}{H:Hp}:∀{ds es:List D} {xs ys:List V},aK K B H ds xs→aK K B H es ys→aK K B H (ds++es) (xs++ys)
 | [],_,_,_,h,t=>by unfold aK at h;subst h;exact t
 | d ::ds,es,xs,ys,h,t=>by
   obtain⟨x,r,rfl,h1,h2⟩:=h.cA
   exact aK.cons h1 (aK.append h2 t)
theorem aK.drop{K:PySem.W.Frag}{B:List Addr}{H:Hp}:∀{ds:List D} {xs:List V} (n:Nat),aK K B H ds xs→aK K B H (ds.drop n) (xs.drop n)
 | _,_,0,h=>h
 | [],_,n+1,h=>by unfold aK at h;subst h;exact aK.nil
 | d ::ds,xs,n+1,h=>by
   obtain⟨x,r,rfl,h1,h2⟩:=h.cA
   exact aK.drop n h2
theorem aK.take{K:PySem.W.Frag}{B:List Addr}{H:Hp}:∀{ds:List D} {xs:List V} (n:Nat),aK K B H ds xs→aK K B H (ds.take n) (xs.take n)
 | _,_,0,h=>aK.nil
 | [],_,n+1,h=>by unfold aK at h;subst h;exact aK.nil
 | d ::ds,xs,n+1,h=>by
   obtain⟨x,r,rfl,h1,h2⟩:=h.cA
   exact aK.cons h1 (aK.take n h2)
noncomputable def D.atom:D→Bool
 | .cI=>true | .bl _=>true | .int _=>true | .str _=>true | _=>false
theorem Rep.atom{K:PySem.W.Frag}{B B':List Addr}{H H':Hp}{d:D}{v:V}(a:d.atom=true)(h:Rep K B H d v):Rep K B' H' d v:=by
 cases d <;> first | exact h | cases a
inductive Sl where
 | un | val (d:D) | bld (ds:List D)
noncomputable abbrev aw:=List Sl
structure ef (K:PySem.W.Frag) (Z B:List Addr) (H:Hp) (σ:St) (δ:aw):Prop where
 len:δ.length=σ.length
 bs:∀a∈B,∃o,H a=some o
 zb:∀a∈Z,a∈B
 val:∀(i:Nat) (d:D),δ[i]? =some (.val d)→∃v,σ[i]? =some (some v)∧Rep K B H d v
 bld:∀(i:Nat) (ds:List D),δ[i]? =some (.bld ds)→∃a xs,σ[i]? =some (some (.ref a))∧a∈B∧a ∉ Z∧H a=some (.lst xs)∧aK K B H ds xs
 dis:∀(i j:Nat) (a:Addr) (ds es:List D),δ[i]? =some (.bld ds)→δ[j]? =some (.bld es)→σ[i]? =some (some (.ref a))→σ[j]? =some (some (.ref a))→i=j
theorem ef.same{K:PySem.W.Frag}{Z B:List Addr}{H H':Hp}{σ:St}{δ:aw}(E:ef K Z B H σ δ)(s:a_ H H'):ef K Z B H' σ δ where
 len:=E.len
 bs:=fun a ha=>let⟨o,e⟩:=E.bs a ha;⟨o,s a o e⟩
 zb:=E.zb
 val:=fun i d e=>let⟨v,h1,h2⟩:=E.val i d e;⟨v,h1,h2.same s⟩
 bld:=fun i ds e=>let⟨a,xs,h1,h2,h3,h4,h5⟩:=E.bld i ds e;⟨a,xs,h1,h2,h3,s a _ h4,h5.same s⟩
 dis:=E.dis
noncomputable def kA(δ:aw):aw:=δ.map fun x=>match x with | .bld ds=> .val (.lst ds) | y=>y
theorem ef.kA{K:PySem.W.Frag}{Z B:List Addr}{H:Hp}{σ:St}{δ:aw}(E:ef K Z B H σ δ):ef K [] [] H σ (kA δ) where
 len:=by unfold L2.kA;rw [List.length_map];exact E.len
 bs:=fun a ha=>by cases ha
 zb:=fun a ha=>by cases ha
 val:=fun i d e=>by
  unfold L2.kA at e
  rw[List.getElem?_map] at e
  have p:dt B H [] H:=fun b o e _=>⟨e,by simp⟩
  cases q:δ[i]? with
  | none=>rw [q] at e;cases e
  | some x=>
    rw[q] at e
    cases x with
    | un=>cases e
    | val d'=>cases e;obtain⟨v,h1,h2⟩:=E.val i d q;exact⟨v,h1,h2.bx p⟩
    | bld ds=>
      cases e
      obtain⟨a,xs,h1,_,_,h4,h5⟩:=E.bld i ds q
      refine⟨.ref a,h1,?_⟩
      unfold Rep
      exact⟨a,xs,rfl, .inl ⟨by simp, .inl h4⟩,h5.bx p⟩
 bld:=fun i ds e=>by
  unfold L2.kA at e
  rw[List.getElem?_map] at e
  cases q:δ[i]? with
  | none=>rw [q] at e;cases e
  | some x=>rw [q] at e;cases x <;> cases e
 dis:=fun i j a ds es e=>by
  unfold L2.kA at e
  rw[List.getElem?_map] at e
  cases q:δ[i]? with
  | none=>rw [q] at e;cases e
  | some x=>rw [q] at e;cases x <;> cases e
theorem PE.imp{X:Cx}{e:Expr}{t t':TE}(h:PE X e t)(w:∀σ H Q,t' σ H Q→t σ H Q):PE X e t':=fun pins s σ H Q I hq=>h pins s σ H Q I (w σ H Q hq)
theorem PT.imp{X:Cx}{e:Expr}{t t':TT}(h:PT X e t)(w:∀σ H Q,t' σ H Q→t σ H Q):PT X e t':=fun pins s σ H Q I hq=>h pins s σ H Q I (w σ H Q hq)
theorem PA.imp{X:Cx}{e:List Expr}{t t':TA}(h:PA X e t)(w:∀σ H Q,t' σ H Q→t σ H Q):PA X e t':=fun pos pins s σ H Q I hq=>h pos pins s σ H Q I (w σ H Q hq)
theorem PS.imp{X:Cx}{e:Stmt}{t t':TS}(h:PS X e t)(w:∀D σ H,t' D σ H→t D σ H):PS X e t':=fun pins s σ H D I hq=>h pins s σ H D I (w D σ H hq)
theorem uZ.imp{X:Cx}{e:List Stmt}{t t':TS}(h:uZ X e t)(w:∀D σ H,t' D σ H→t D σ H):uZ X e t':=fun pins s σ H D I hq=>h pins s σ H D I (w D σ H hq)
theorem PG.imp{X:Cx}{e:Expr}{t t':TG}(h:PG X e t)(w:∀v σ H Q,t' v σ H Q→t v σ H Q):PG X e t':=fun pins s σ H v u Q I r hq=>h pins s σ H v u Q I r (w v σ H Q hq)
theorem PI.imp{X:Cx}{tg e:Expr}{t t':TI}(h:PI X tg e t)(w:∀σ H Q,t' σ H Q→t σ H Q):PI X tg e t':=fun pins s σ H Q I hq=>h pins s σ H Q I (w σ H Q hq)
noncomputable abbrev FD:=aw→R D
noncomputable def tD(K:PySem.W.Frag)(f:FD):TE:=fun σ H Q=>∃Z B δ d,ef K Z B H σ δ∧f δ= .ok d∧∀v H',a_ H H'→Rep K B H' d v→Q v H'
noncomputable def tN(K:PySem.W.Frag)(f:aw→R (List D)):TE:=fun σ H Q=>∃Z B δ ds,ef K Z B H σ δ∧f δ= .ok ds∧∀a xs H',a_ H H'→H a=none→H' a=some (.lst xs)→aK K (a ::B) H' ds xs→Q (.ref a) H'
noncomputable def Hb(K:PySem.W.Frag)(f:aw→R Bool):TT:=fun σ H Q=>∃Z B δ b,ef K Z B H σ δ∧f δ= .ok b∧∀H',a_ H H'→Q b H'
noncomputable def LF(K:PySem.W.Frag)(f:aw→R (List D)):TA:=fun σ H Q=>∃Z B δ ds,ef K Z B H σ δ∧f δ= .ok ds∧∀vs H',a_ H H'→aK K B H' ds vs→Q vs H'
noncomputable abbrev PD(X:Cx)(e:Expr)(f:FD):Prop:=PE X e (tD X.K f)
noncomputable abbrev PN(X:Cx)(e:Expr)(f:aw→R (List D)):Prop:=PE X e (tN X.K f)
noncomputable abbrev PB(X:Cx)(e:Expr)(f:aw→R Bool):Prop:=PT X e (Hb X.K f)
noncomputable abbrev Ct(X:Cx)(es:List Expr)(f:aw→R (List D)):Prop:=PA X es (LF X.K f)
section
variable {X:Cx}
noncomputable def eNew(f:aw→R (List D)):FD:=fun δ=>(f δ).bind fun ds=> .ok (.lst ds)
theorem Hw{e:Expr}{f:aw→R (List D)}(h:PN X e f):PD X e (eNew f):=h.imp fun σ H Q ⟨Z,B,δ,d,E,hf,q⟩=>by
 obtain⟨ds,h1,h2⟩:=R.ao hf
 cases h2
 refine⟨Z,B,δ,ds,E,h1,fun a xs H' s n e r=>q _ H' s ?_⟩
 unfold Rep
 refine⟨a,xs,rfl, .inl ⟨fun ha=>?_, .inl e⟩,r.bx fun b o e nb=>⟨e,fun hb=>nb (List.mem_cons_of_mem _ hb)⟩⟩
 obtain⟨o,ho⟩:=E.bs a ha
 rw[n] at ho;cases ho
theorem vD{B:List Addr}{H:Hp}{p:Addr}{o:HO}(h:H p=none):dt B H (p ::B) (upd H p o):=fun b u e nb=>
 ⟨by rw[br (cv e h)];exact e,fun hb=>by
   rcases List.mem_cons.mp hb with z | z
   ·exact cv e h z
   ·exact nb z⟩
noncomputable def jw(f:FD):FD:=fun δ=>(f (kA δ)).bind fun d=>R.cb d.atom (.ok d)
theorem EC{e:Expr}{f:FD}(h:PD X e f):PD X e (jw f):=h.imp fun σ H Q ⟨Z,B,δ,d,E,hf,q⟩=>by
 obtain⟨d',h1,h2⟩:=R.ao hf
 obtain⟨ha,h3⟩:=R.bp h2
 cases h3
 exact⟨[],[],L2.kA δ,d,E.kA,h1,fun v H' s r=>q v H' s (r.atom ha)⟩
noncomputable def pe(f:aw→R Bool):aw→R Bool:=fun δ=>f (kA δ)
noncomputable def ae(i:Nat):FD:=fun δ=>match δ[i]? with | some (.val d)=> .ok d | _=> .no
noncomputable def eC(d:D):FD:=fun _=> .ok d
theorem Gf(i:Nat){x:Str}{pos:Pos}(hN:X.N[i]? =some x:=by rfl)(hv:FU X.env.scope x:=by first | exact Or.inl rfl | exact Or.inr (Or.inl rfl) | exact Or.inr (Or.inr rfl))(hd:(x==("__debug__":Str))=false:=by decide)
 (hcd:(x==("__classdict__":Str))=false:=by decide):PD X (.Name x pos) (ae i):=(uf hN hv hd hcd).imp fun σ H Q ⟨Z,B,δ,d,E,hf,q⟩=>by
 unfold ae at hf
 split at hf
 ·rename_i d' e
  cases hf
  obtain⟨v,h1,h2⟩:=E.val i d e
  exact⟨v,h1,q v H (a_.refl H) h2⟩
 ·cases hf
theorem nH{e:Expr}{v:V}{d:D}(h:PE X e (tC v))(r:∀B H,Rep X.K B H d v):PD X e (eC d):=h.imp fun σ H Q ⟨Z,B,δ,d',E,hf,q⟩=>by
 cases hf
 exact q v H (a_.refl H) (r B H)
theorem HU{i j pos}:PD X (.Constant (.int i) j pos) (eC (.int i)):=nH qI fun _ _=>by unfold Rep;rfl
theorem Il{b j pos}:PD X (.Constant (.bool b) j pos) (eC (.bl b)):=nH IX fun _ _=>by unfold Rep;rfl
theorem GZ{j pos}:PD X (.Constant .none j pos) (eC .cI):=nH GO fun _ _=>by unfold Rep;rfl
theorem Gi{x j pos}:PD X (.Constant (.str x) j pos) (eC (.str x)):=nH rS fun _ _=>by unfold Rep;rfl
noncomputable def Glob(K:PySem.W.Frag)(mg:Str→Option Value)(x:Str)(d:D):Prop:=∃(u:Value) (v:V),mg x=some u∧RelV v u∧∀B H,Rep K B H d v
noncomputable def aD:aw→R (List D):=fun _=> .ok []
noncomputable def aq(f:FD)(g:aw→R (List D)):aw→R (List D):=fun δ=>(f δ).bind fun d=>(g δ).bind fun ds=> .ok (d ::ds)
theorem D_:Ct X [] aD:=iA.imp fun σ H Q ⟨Z,B,δ,d,E,hf,q⟩=>by
 cases hf
 exact q [] H (a_.refl H) aK.nil
theorem Br{e:Expr}{es:List Expr}{f:FD}{g:aw→R (List D)}(h:PD X e f)(t:Ct X es g)(hs:starEach (e ::es) X.env=(false,eval e X.env) ::starEach es X.env:=by rfl):Ct X (e ::es) (aq f g):=
 (eA h t hs).imp fun σ H Q ⟨Z,B,δ,d,E,hf,q⟩=>by
   obtain⟨d1,h1,h2⟩:=R.ao hf
   obtain⟨ds,h3,h4⟩:=R.ao h2
   cases h4
   exact⟨Z,B,δ,d1,E,h1,fun v H1 s1 r1=>⟨Z,B,δ,ds,E.same s1,h3,fun vs H2 s2 r2=>q _ H2 (s1.trans s2) (aK.cons (r1.same s2) r2)⟩⟩
noncomputable def dM(g:aw→R (List D)):FD:=fun δ=>(g δ).bind fun ds=>R.cb (decide (ds.length≤sizeLine)) (.ok (.tup ds))
noncomputable def dX(g:aw→R (List D)):aw→R (List D):=fun δ=>(g δ).bind fun ds=>R.cb (decide (ds.length≤sizeLine)) (.ok ds)
theorem aX{H:Hp}{p:Addr}{o:HO}(h:H p=none):a_ H (upd H p o):=fun b u e=>by rw[br (cv e h)];exact e
theorem Hi{es:List Expr}{g:aw→R (List D)}{x1 pos}(h:Ct X es g):PD X (.Tuple es x1 pos) (dM g):=(A9 h).imp fun σ H Q ⟨Z,B,δ,d,E,hf,q⟩=>by
 obtain⟨ds,h1,h2⟩:=R.ao hf
 obtain⟨hl,h3⟩:=R.bp h2
 cases h3
 refine⟨Z,B,δ,ds,E,h1,fun vs H1 s1 r1=>⟨by rw[←r1.length];exact of_decide_eq_true hl,fun p hp=>q _ _ (s1.trans (aX hp)) ?_⟩⟩
 unfold Rep
 refine⟨p,vs,rfl, .inl ⟨fun ha=>?_, .inl bf⟩,r1.same (aX hp)⟩
 obtain⟨o,ho⟩:=(E.same s1).bs p ha
 rw[hp] at ho;cases ho
theorem G0{es:List Expr}{g:aw→R (List D)}{pos}(h:Ct X es g):PN X (.List es pos) (dX g):=(Bk h).imp fun σ H Q ⟨Z,B,δ,d,E,hf,q⟩=>by
 obtain⟨ds,h1,h2⟩:=R.ao hf
 obtain⟨hl,h3⟩:=R.bp h2
 cases h3
 exact⟨Z,B,δ,_,E,h1,fun vs H1 s1 r1=>⟨by rw[←r1.length];exact of_decide_eq_true hl,fun p hp=>q p vs _ (s1.trans (aX hp)) (s1.free hp) bf (r1.bx (vD hp))⟩⟩
noncomputable def j3(X:Cx)(f:Value→Value→Sem Value)(g:D→D→R D):Prop:=
 ∀(pins:List (Addr × Obj)) (s:Shared) (σ:St) (H:Hp) (B:List Addr) (da db d:D) (x y:V) (v u:Value),Inv X pins σ H s→(∀a∈B,∃o,H a=some o)→RelV x v→RelV y u→Rep X.K B H da x→Rep X.K B H db y→g da db= .ok d→
  wpAny (model X.prog X.w) X.A (f v u) (EP X pins σ fun z H'=>a_ H H'∧Rep X.K B H' d z) X.xe s
noncomputable def e2(g:D→D→R D)(fa fb:FD):FD:=fun δ=>(fa δ).bind fun a=>(fb δ).bind fun b=>g a b
theorem j3.r{f:Value→Value→Sem Value}{g:D→D→R D}(h:j3 X f g):k6 X f (fun x y H Q=>∃B da db d,(∀a∈B,∃o,H a=some o)∧Rep X.K B H da x∧Rep X.K B H db y∧g da db= .ok d∧∀z H',a_ H H'→Rep X.K B H' d z→Q z H'):=by
 intro pins s σ H x y v u Q I rx ry ⟨B,da,db,d,hb,ha,hb',hg,q⟩
 exact dY (h pins s σ H B da db d x y v u I hb rx ry ha hb' hg) fun z s' ⟨zv,H',I',r',s1,r1⟩=>⟨zv,H',I',r',q zv H' s1 r1⟩
theorem Gz{K:PySem.W.Frag}{g:D→D→R D}{fa fb:FD}{σ:St}{H:Hp}{Q:VK}(h:tD K (e2 g fa fb) σ H Q) :
 HZ (fun x y H Q=>∃B da db d,(∀a∈B,∃o,H a=some o)∧Rep K B H da x∧Rep K B H db y∧g da db= .ok d∧∀z H',a_ H H'→Rep K B H' d z→Q z H') (tD K fa) (tD K fb) σ H Q:=by
 obtain⟨Z,B,δ,d,E,hf,q⟩:=h
 obtain⟨d1,h1,h2⟩:=R.ao hf
 obtain⟨d2,h3,h4⟩:=R.ao h2
 exact⟨Z,B,δ,d1,E,h1,fun v1 H1 s1 r1=>⟨Z,B,δ,d2,E.same s1,h3,fun v2 H2 s2 r2=>⟨B,d1,d2,d,(E.same (s1.trans s2)).bs,r1.same s2,r2,h4,fun z H' s3 r3=>q z H' (s1.trans (s2.trans s3)) r3⟩⟩⟩
theorem JJ{op:Operator}{g:D→D→R D}{a b:Expr}{fa fb:FD}{pos:Pos}(ho:j3 X (binaryOp op) g)(ha:PD X a fa)(hb:PD X b fb):PD X (.BinOp a op b pos) (e2 g fa fb):=
 (zh ho.r ha hb).imp fun σ H Q h=>Gz h
theorem G2{op:CmpOp}{g:D→D→R D}{a b:Expr}{fa fb:FD}{pos:Pos}(ho:j3 X (compareOp op) g)(ha:PD X a fa)(hb:PD X b fb)(hm:behindInMarks op b=false):PD X (.Compare a [op] [b] pos) (e2 g fa fb):=
 (yZ ho.r ha hb hm).imp fun σ H Q h=>Gz h
noncomputable def b2(g:D→D→R D)(fa fb:FD):aw→R Bool:=fun δ=>(e2 g fa fb δ).bind fun d=>match d with | .bl b=> .ok b | _=> .no
theorem GK{op:CmpOp}{g:D→D→R D}{a b:Expr}{fa fb:FD}{pos:Pos}(ho:j3 X (compareOp op) g)(ha:PD X a fa)(hb:PD X b fb)(hm:behindInMarks op b=false):PB X (.Compare a [op] [b] pos) (b2 g fa fb):=
 (y9 ho.r ha hb hm).imp fun σ H Q ⟨Z,B,δ,b,E,hf,q⟩=>by
   obtain⟨d,h1,h2⟩:=R.ao hf
   cases d with
   | bl k=>
     cases h2
     exact Gz (g:=g) (Q:=fun x H'=>∃k,x= .bl k∧Q k H') ⟨Z,B,δ, .bl b,E,h1,fun v H' s r=>⟨b,by unfold Rep at r;exact r,q H' s⟩⟩
   | _=>cases h2
noncomputable def KR(g g':D→D→R D)(fa fb fc:FD):FD:=fun δ=>(fa δ).bind fun a=>(fb δ).bind fun b=>(g a b).bind fun r=>match r with
 | .bl true=>(fc δ).bind fun c=>g' b c
 | .bl false=> .ok (.bl false)
 | _=> .no
noncomputable def p8:D→R Bool
 | .cI=> .ok false
 | .bl b=> .ok b
 | .int i=> .ok (i !=0)
 | .str x=>R.cb (decide (x.length≤sizeLine)) (.ok ((x.length:Int) !=0))
 | .lst ds=> .ok (!ds.isEmpty)
 | .tup ds=> .ok (!ds.isEmpty)
 | .dct _ _=> .no
noncomputable def iW(f:FD):aw→R Bool:=fun δ=>(f δ).bind p8
theorem aK.isEmpty{K:PySem.W.Frag}{B:List Addr}{H:Hp}{ds:List D}{xs:List V}(h:aK K B H ds xs):ds.isEmpty=xs.isEmpty:=by
 have:=h.length
 cases ds <;> cases xs <;> simp_all
theorem CM{K:PySem.W.Frag}{B:List Addr}{H:Hp}{d:D}{v:V}{b:Bool}(r:Rep K B H d v)(h:p8 d= .ok b):Fw K v H b:=by
 cases d with
 | cI=>unfold Rep at r;subst r;cases h;exact rfl
 | bl k=>unfold Rep at r;subst r;cases h;exact rfl
 | int i=>unfold Rep at r;subst r;cases h;exact rfl
 | str x=>unfold Rep at r;subst r;obtain⟨h1,h2⟩:=R.bp h;cases h2;exact⟨of_decide_eq_true h1,rfl⟩
 | lst ds=>unfold Rep at r;obtain⟨a,xs,rfl,l,r⟩:=r;cases h;exact .inl ⟨xs,l.sq,by rw[r.isEmpty]⟩
 | tup ds=>unfold Rep at r;obtain⟨a,xs,rfl,l,r⟩:=r;cases h;exact .inr (.inl ⟨xs,l.sq,by rw[r.isEmpty]⟩)
 | dct _ _=>cases h
theorem Hv{a:Expr}{f:FD}(ha:PD X a f)(he:∀whole,isTrue a X.env whole=(do let v ←whole;standAt a.pos;holding [v] (truthy v)):=by intro _;rfl):PB X a (iW f):=
 (v_ ha he).imp fun σ H Q ⟨Z,B,δ,b,E,hf,q⟩=>by
   obtain⟨d,h1,h2⟩:=R.ao hf
   exact⟨Z,B,δ,d,E,h1,fun v H' s r=>⟨b,CM r h2,q H' s⟩⟩
noncomputable def kj(f g:aw→R Bool):aw→R Bool:=fun δ=>(f δ).bind fun b=>if b then g δ else .ok false
noncomputable def sL(f g:aw→R Bool):aw→R Bool:=fun δ=>(f δ).bind fun b=>if b then .ok true else g δ
noncomputable def kL(f:aw→R Bool):aw→R Bool:=fun δ=>(f δ).bind fun b=> .ok (!b)
noncomputable def Du(X:Cx)(e:Expr)(f:aw→R Bool):Prop:=PW X e (Hb X.K f)
theorem Du.pb{e:Expr}{f:aw→R Bool}(h:Du X e f):PB X e f:=PW.pt h
theorem AL{a:Expr}{f:aw→R Bool}{pos:Pos}(h:PB X a f):Du X (.BoolOp .And [a] pos) f:=yU h
theorem ED{a:Expr}{f:aw→R Bool}{pos:Pos}(h:PB X a f):Du X (.BoolOp .Or [a] pos) f:=Hs h
theorem Ex{a b:Expr}{rest:List Expr}{f g:aw→R Bool}{pos:Pos}(ha:PB X a f)(hb:Du X (.BoolOp .And (b ::rest) pos) g):Du X (.BoolOp .And (a ::b ::rest) pos) (kj f g):=by
 intro wh pins s σ H Q I ⟨Z,B,δ,k,E,hf,q⟩
 refine Df ha hb wh pins s σ H Q I ?_
 obtain⟨c,h1,h2⟩:=R.ao hf
 refine⟨Z,B,δ,c,E,h1,fun H1 s1=>?_⟩
 cases c with
 | true=>rw [if_pos rfl] at h2 ⊢;exact⟨Z,B,δ,k,E.same s1,h2,fun H' s2=>q H' (s1.trans s2)⟩
 | false=>rw [if_neg (by decide)] at h2 ⊢;cases h2;exact q H1 s1
theorem Hl{a b:Expr}{rest:List Expr}{f g:aw→R Bool}{pos:Pos}(ha:PB X a f)(hb:Du X (.BoolOp .Or (b ::rest) pos) g):Du X (.BoolOp .Or (a ::b ::rest) pos) (sL f g):=by
 intro wh pins s σ H Q I ⟨Z,B,δ,k,E,hf,q⟩
 refine JI ha hb wh pins s σ H Q I ?_
 obtain⟨c,h1,h2⟩:=R.ao hf
 refine⟨Z,B,δ,c,E,h1,fun H1 s1=>?_⟩
 cases c with
 | true=>rw [if_pos rfl] at h2 ⊢;cases h2;exact q H1 s1
 | false=>rw [if_neg (by decide)] at h2 ⊢;exact⟨Z,B,δ,k,E.same s1,h2,fun H' s2=>q H' (s1.trans s2)⟩
theorem GR{a:Expr}{f:aw→R Bool}{pos:Pos}(ha:PB X a f):PB X (.UnaryOp .Not a pos) (kL f):=(Bq ha).imp fun σ H Q ⟨Z,B,δ,k,E,hf,q⟩=>by
 obtain⟨c,h1,h2⟩:=R.ao hf
 cases h2
 exact⟨Z,B,δ,c,E,h1,fun H1 s1=>q H1 s1⟩
noncomputable def AE(f:FD):aw→R Bool:=fun δ=>(f δ).bind fun d=>match d with | .bl b=> .ok b | _=> .no
noncomputable def oq(f g:FD):FD:=fun δ=>(AE f δ).bind fun b=>if b then g δ else .ok (.bl false)
noncomputable def FC(f g:FD):FD:=fun δ=>(AE f δ).bind fun b=>if b then .ok (.bl true) else g δ
noncomputable def qB(f:FD):FD:=fun δ=>(AE f δ).bind fun b=> .ok (.bl (!b))
theorem BF{f:FD}{δ:aw}{b:Bool}(h:AE f δ= .ok b):f δ= .ok (.bl b):=by
 obtain⟨d,h1,h2⟩:=R.ao h
 cases d with
 | bl k=>cases h2;exact h1
 | _=>cases h2
theorem Ge{a:Expr}{op}{f:FD}{pos:Pos}(h:PD X a f):PD X (.BoolOp op [a] pos) f:=Hr h
theorem F9{a b:Expr}{rest:List Expr}{f g:FD}{pos:Pos}(ha:PD X a f)(hb:PD X (.BoolOp .And (b ::rest) pos) g):PD X (.BoolOp .And (a ::b ::rest) pos) (oq f g):=(Gj ha hb).imp fun σ H Q ⟨Z,B,δ,k,E,hf,q⟩=>by
 obtain⟨c,h1,h2⟩:=R.ao hf
 refine⟨Z,B,δ, .bl c,E,BF h1,fun v H1 s1 r1=>⟨c,by unfold Rep at r1;exact r1,?_⟩⟩
 cases c with
 | true=>rw [if_pos rfl] at h2 ⊢;exact⟨Z,B,δ,k,E.same s1,h2,fun v H' s2 r2=>q v H' (s1.trans s2) r2⟩
 | false=>rw [if_neg (by decide)] at h2 ⊢;cases h2;exact q _ H1 s1 (by unfold Rep;rfl)
theorem Hx{a:Expr}{f:FD}{pos:Pos}(ha:PD X a f):PD X (.UnaryOp .Not a pos) (qB f):=(Hm ha).imp fun σ H Q ⟨Z,B,δ,k,E,hf,q⟩=>by
 obtain⟨c,h1,h2⟩:=R.ao hf
 cases h2
 exact⟨Z,B,δ, .bl c,E,BF h1,fun v H1 s1 r1=>⟨c,by unfold Rep at r1;exact r1,q _ H1 s1 (by unfold Rep;rfl)⟩⟩
noncomputable def xc(c:aw→R Bool)(f g:FD):FD:=fun δ=>(c δ).bind fun b=>if b then f δ else g δ
theorem JD{c a b:Expr}{fc:aw→R Bool}{f g:FD}{pos:Pos}(hc:PB X c fc)(ha:PD X a f)(hb:PD X b g):PD X (.IfExp c a b pos) (xc fc f g):=(AK hc ha hb).imp fun σ H Q ⟨Z,B,δ,k,E,hf,q⟩=>by
 obtain⟨c,h1,h2⟩:=R.ao hf
 refine⟨Z,B,δ,c,E,h1,fun H1 s1=>?_⟩
 cases c with
 | true=>rw [if_pos rfl] at h2 ⊢;exact⟨Z,B,δ,k,E.same s1,h2,fun v H' s2 r2=>q v H' (s1.trans s2) r2⟩
 | false=>rw [if_neg (by decide)] at h2 ⊢;exact⟨Z,B,δ,k,E.same s1,h2,fun v H' s2 r2=>q v H' (s1.trans s2) r2⟩
noncomputable def cW(X:Cx)(f:Value)(g:List D→R D):Prop:=
 ∀(pins:List (Addr × Obj)) (s:Shared) (σ:St) (H:Hp) (B:List Addr) (ds:List D) (d:D) (xs:List V) (us:List Value),Inv X pins σ H s→(∀a∈B,∃o,H a=some o)→Vals xs us→aK X.K B H ds xs→g ds= .ok d→
  wpAny (model X.prog X.w) X.A (call f us) (EP X pins σ fun z H'=>a_ H H'∧Rep X.K B H' d z) X.xe s
noncomputable def aG(g:List D→R D)(fs:aw→R (List D)):FD:=fun δ=>(fs δ).bind g
theorem cW.r{f:Value}{g:List D→R D}(h:cW X f g):jR X f (fun xs H Q=>∃B ds d,(∀a∈B,∃o,H a=some o)∧aK X.K B H ds xs∧g ds= .ok d∧∀z H',a_ H H'→Rep X.K B H' d z→Q z H'):=by
 intro pins s σ H xs us Q I rx ⟨B,ds,d,hb,hr,hg,q⟩
 exact dY (h pins s σ H B ds d xs us I hb rx hr hg) fun z s' ⟨zv,H',I',r',s1,r1⟩=>⟨zv,H',I',r',q zv H' s1 r1⟩
theorem yV{K:PySem.W.Frag}{g:List D→R D}{fs:aw→R (List D)}{σ:St}{H:Hp}{Q:VK}(h:tD K (aG g fs) σ H Q) :
 LF K fs σ H fun vs H1=>∃B ds d,(∀a∈B,∃o,H1 a=some o)∧aK K B H1 ds vs∧g ds= .ok d∧∀z H',a_ H1 H'→Rep K B H' d z→Q z H':=by
 obtain⟨Z,B,δ,d,E,hf,q⟩:=h
 obtain⟨ds,h1,h2⟩:=R.ao hf
 exact⟨Z,B,δ,ds,E,h1,fun vs H1 s1 r1=>⟨B,ds,d,(E.same s1).bs,r1,h2,fun z H' s2 r2=>q z H' (s1.trans s2) r2⟩⟩
theorem C8{g:List D→R D}{x:Str}{id:String}{p pos:Pos}{e:Expr}{es:List Expr}{fs:aw→R (List D)}(hc:cW X (.builtin id) g)(hg:Gl X x)(hm:X.mg x=none)(hv:bootBuiltins x=some (.builtin id))(ha:Ct X (e ::es) fs)(hn:x≠"__name__":=by decide)(hdb:(x==("__debug__":Str))=false:=by decide)
 (he:starEach (e ::es) X.env=(false,eval e X.env) ::starEach es X.env:=by rfl) (hpl:(backTo pos (starEach es X.env)).any (·.1)=false:=by rfl):PD X (.Call (.Name x p) (e ::es) [] pos) (aG g fs):=
 (wb hc.r hg hm hv ha hn hdb he hpl).imp fun σ H Q h=>yV h
theorem zJ{g:List D→R D}{x:Str}{T:String}{p pos:Pos}{e:Expr}{es:List Expr}{fs:aw→R (List D)}(hc:cW X (.type T) g)(hg:Gl X x)(hm:X.mg x=none)(hv:bootBuiltins x=some (.type T))(ha:Ct X (e ::es) fs)(hn:x≠"__name__":=by decide)(hdb:(x==("__debug__":Str))=false:=by decide)
 (he:starEach (e ::es) X.env=(false,eval e X.env) ::starEach es X.env:=by rfl) (hpl:(backTo pos (starEach es X.env)).any (·.1)=false:=by rfl):PD X (.Call (.Name x p) (e ::es) [] pos) (aG g fs):=
 (Ag hc.r hg hm hv ha hn hdb he hpl).imp fun σ H Q h=>yV h
noncomputable def Bf(K:PySem.W.Frag)(n:Nat)(g:List D→R D):Sp:=fun vs H Q _=>vs.length=n∧∃B ds d,(∀a∈B,∃o,H a=some o)∧aK K B H ds vs∧g ds= .ok d∧∀z H',a_ H H'→Rep K B H' d z→Q z H'
theorem Eg{g:List D→R D}{k n:Nat}{f:Addr}{fd:FuncData}{ps:List Str}{x:Str}{p pos:Pos}{e:Expr}{es:List Expr}{fs:aw→R (List D)}
 (F:iQ X.prog X.w X.K X.mg X.base si k f fd ps (Bf X.K n g)) (hr:eQ k X.A) (hg:Gl X x) (hm:X.mg x=some (.ref f)) (hk:PySem.W.keepIn X.K (.ref f)=true) (hb:Binds X.K fd ps []) (ha:Ct X (e ::es) fs)
 (hn:∀δ ds,fs δ= .ok ds→ds.length=n) (hdb:(x==("__debug__":Str))=false:=by decide) (he:starEach (e ::es) X.env=(false,eval e X.env) ::starEach es X.env:=by rfl) (hpl:(backTo pos (starEach es X.env)).any (·.1)=false:=by rfl) :
 PD X (.Call (.Name x p) (e ::es) [] pos) (aG g fs):=
 (uJ F hr hg hm hk hb .nil vf ha hdb he hpl).imp fun σ H Q ⟨Z,B,δ,d,E,hf,q⟩=>by
   obtain⟨ds,h1,h2⟩:=R.ao hf
   refine⟨Z,B,δ,ds,E,h1,fun vs H1 s1 r1=>?_⟩
   show Bf X.K n g (vs++[]) H1 Q E0
   rw[List.append_nil]
   exact⟨by rw[←r1.length];exact hn δ ds h1,B,ds,d,(E.same s1).bs,r1,h2,fun z H' s2 r2=>q z H' (s1.trans s2) r2⟩
end
end L2
end
section
set_option maxRecDepth 100000
set_option maxHeartbeats 4000000
namespace L2
open PySem PySem.Spec PyProof.Rows
inductive Out where
 | nx (δ:aw) | rt (d:D)
noncomputable abbrev FS:=aw→R Out
structure Ev (Z B:List Addr) (H:Hp) (B':List Addr) (H':Hp):Prop where
 bx:dt B H B' H'
 zs:∀b o,H b=some o→b∈Z→H' b=some o∧b∈B'
theorem Ev.refl(Z B:List Addr)(H:Hp)(zb:∀a∈Z,a∈B):Ev Z B H B H:=⟨dt.refl B H,fun b o e z=>⟨e,zb b z⟩⟩
theorem Ev.trans{Z B B' B'':List Addr}{H H' H'':Hp}(a:Ev Z B H B' H')(b:Ev Z B' H' B'' H''):Ev Z B H B'' H'':=
 ⟨a.bx.trans b.bx,fun c o e z=>let⟨e1,_⟩:=a.zs c o e z;b.zs c o e1 z⟩
theorem Ev.same{Z B:List Addr}{H H':Hp}(zb:∀a∈Z,a∈B)(s:a_ H H'):Ev Z B H B H':=⟨dt.same s,fun b o e z=>⟨s b o e,zb b z⟩⟩
noncomputable def zw(K:PySem.W.Frag)(Z B:List Addr)(H:Hp)(D:Ends):Out→Prop
 | .nx δ'=>∀σ' B' H',Ev Z B H B' H'→ef K Z B' H' σ' δ'→D.nx σ' H'
 | .rt d=>∀v B' H',Ev Z B H B' H'→(∀a∈Z,a∈B')→Rep K B' H' d v→D.rt v H'
theorem zw.ev{K:PySem.W.Frag}{Z B B1:List Addr}{H H1:Hp}{D:Ends}{o:Out}(q:zw K Z B H D o)(ev:Ev Z B H B1 H1):zw K Z B1 H1 D o:=by
 cases o with
 | nx δ'=>exact fun σ' B' H' ev' E'=>q σ' B' H' (ev.trans ev') E'
 | rt d=>exact fun v B' H' ev' z r=>q v B' H' (ev.trans ev') z r
noncomputable def sD(K:PySem.W.Frag)(F:FS):TS:=fun D σ H=>∃Z B δ o,ef K Z B H σ δ∧F δ= .ok o∧zw K Z B H D o
noncomputable abbrev Dt(X:Cx)(st:Stmt)(F:FS):Prop:=PS X st (sD X.K F)
noncomputable abbrev p9(X:Cx)(st:List Stmt)(F:FS):Prop:=uZ X st (sD X.K F)
section
variable {X:Cx}
noncomputable def fO:FS:=fun δ=> .ok (.nx δ)
noncomputable def cK(F G:FS):FS:=fun δ=>(F δ).bind fun o=>match o with | .nx δ'=>G δ' | .rt d=> .ok (.rt d)
theorem Fh:p9 X [] fO:=yC.imp fun D σ H ⟨Z,B,δ,o,E,hf,q⟩=>by
 cases hf
 exact q σ B H (Ev.refl Z B H E.zb) E
theorem GW{K:PySem.W.Frag}{F G:FS}{D:Ends}{σ:St}{H:Hp}(h:sD K (cK F G) D σ H):IJ (sD K F) (sD K G) D σ H:=by
 obtain⟨Z,B,δ,o,E,hf,q⟩:=h
 obtain⟨o1,h1,h2⟩:=R.ao hf
 refine⟨Z,B,δ,o1,E,h1,?_⟩
 cases o1 with
 | nx δ1=>
   intro σ1 B1 H1 ev E1
   refine⟨Z,B1,δ1,o,E1,h2,?_⟩
   cases o with
   | nx δ2=>exact fun σ' B' H' ev' E'=>q σ' B' H' (ev.trans ev') E'
   | rt d=>exact fun v B' H' ev' z r=>q v B' H' (ev.trans ev') z r
 | rt d=>
   cases h2
   exact q
theorem AN{st:Stmt}{rest:List Stmt}{F G:FS}(h1:Dt X st F)(h2:p9 X rest G):p9 X (st ::rest) (cK F G):=(wV h1 h2).imp fun D σ H h=>GW h
theorem D6{st:Stmt}{F:FS}(h1:Dt X st F):p9 X [st] F:=zi h1
theorem ef.set{K:PySem.W.Frag}{Z B:List Addr}{H:Hp}{σ:St}{δ:aw}(E:ef K Z B H σ δ){i:Nat}{d:D}{v:V}(hi:i < σ.length)(r:Rep K B H d v):ef K Z B H (σ.set i (some v)) (δ.set i (.val d)) where
 len:=by rw[List.length_set,List.length_set];exact E.len
 bs:=E.bs
 zb:=E.zb
 val:=fun j d' e=>by
  by_cases h:i=j
  ·subst h
   rw[List.getElem?_set_self (by rw[E.len];exact hi)] at e
   cases e
   exact⟨v,List.getElem?_set_self hi,r⟩
  ·rw[List.getElem?_set_ne h] at e ⊢
   exact E.val j d' e
 bld:=fun j ds e=>by
  by_cases h:i=j
  ·subst h
   rw[List.getElem?_set_self (by rw[E.len];exact hi)] at e
   cases e
  ·rw[List.getElem?_set_ne h] at e ⊢
   exact E.bld j ds e
 dis:=fun j k a ds es e1 e2 e3 e4=>by
  by_cases h:i=j
  ·subst h
   rw[List.getElem?_set_self (by rw[E.len];exact hi)] at e1
   cases e1
  ·by_cases h':i=k
   ·subst h'
    rw[List.getElem?_set_self (by rw[E.len];exact hi)] at e2
    cases e2
   ·rw[List.getElem?_set_ne h] at e1 e3
    rw[List.getElem?_set_ne h'] at e2 e4
    exact E.dis j k a ds es e1 e2 e3 e4
theorem ef.setB{K:PySem.W.Frag}{Z B:List Addr}{H:Hp}{σ:St}{δ:aw}(E:ef K Z B H σ δ){i:Nat}{ds:List D}{a:Addr}{xs:List V}(hi:i < σ.length)(hB:a∈B)(hZ:a ∉ Z)(hH:H a=some (.lst xs))(r:aK K B H ds xs)
 (new:∀j es,j≠i→δ[j]? =some (.bld es)→σ[j]?≠some (some (.ref a))):ef K Z B H (σ.set i (some (.ref a))) (δ.set i (.bld ds)) where
 len:=by rw[List.length_set,List.length_set];exact E.len
 bs:=E.bs
 zb:=E.zb
 val:=fun j d' e=>by
  by_cases h:i=j
  ·subst h
   rw[List.getElem?_set_self (by rw[E.len];exact hi)] at e
   cases e
  ·rw[List.getElem?_set_ne h] at e ⊢
   exact E.val j d' e
 bld:=fun j es e=>by
  by_cases h:i=j
  ·subst h
   rw[List.getElem?_set_self (by rw[E.len];exact hi)] at e
   cases e
   exact⟨a,xs,List.getElem?_set_self hi,hB,hZ,hH,r⟩
  ·rw[List.getElem?_set_ne h] at e ⊢
   exact E.bld j es e
 dis:=fun j k b ds1 es1 e1 e2 e3 e4=>by
  by_cases h:i=j
  ·subst h
   by_cases h':i=k
   ·exact h'
   ·rw[List.getElem?_set_self hi] at e3
    cases e3
    rw[List.getElem?_set_ne h'] at e2 e4
    exact absurd e4 (new k es1 (Ne.symm h') e2)
  ·by_cases h':i=k
   ·subst h'
    rw[List.getElem?_set_self hi] at e4
    cases e4
    rw[List.getElem?_set_ne h] at e1 e3
    exact absurd e3 (new j ds1 (Ne.symm h) e1)
   ·rw[List.getElem?_set_ne h] at e1 e3
    rw[List.getElem?_set_ne h'] at e2 e4
    exact E.dis j k b ds1 es1 e1 e2 e3 e4
noncomputable def ig(i:Nat)(f:FD):FS:=fun δ=>(f δ).bind fun d=>R.cb (decide (i < δ.length)) (.ok (.nx (δ.set i (.val d))))
theorem GF{K:PySem.W.Frag}{i:Nat}{f:FD}{D:Ends}{σ:St}{H:Hp}(h:sD K (ig i f) D σ H):zK (tD K f) (rE i) D σ H:=by
 obtain⟨Z,B,δ,o,E,hf,q⟩:=h
 obtain⟨d,h1,h2⟩:=R.ao hf
 obtain⟨hi,h3⟩:=R.bp h2
 cases h3
 refine⟨Z,B,δ,d,E,h1,fun v H1 s1 r1=>?_⟩
 exact q _ B H1 (Ev.same E.zb s1) ((E.same s1).set (by rw[←E.len];exact of_decide_eq_true hi) r1)
theorem ER{i:Nat}{x:Str}{e:Expr}{f:FD}{pos pos':Pos}(hN:X.N.Nodup)(hi:X.N[i]? =some x)(hx:Loc X.env.scope x)(he:PD X e f)(hs:swapsWith e (some (.Name x pos')) pos.line X.env=pure false:=by rfl)(hf:X.fn x=true∨X.env.scope.names.lookup x=some .local:=by first | exact .inl rfl | exact .inr rfl | assumption) :
 Dt X (.Assign [.Name x pos'] e pos) (ig i f):=(yh hN hi hx he hs hf).imp fun D σ H h=>GF h
noncomputable def nj(i:Nat)(f:aw→R (List D)):FS:=fun δ=>(f δ).bind fun ds=>R.cb (decide (i < δ.length)) (.ok (.nx (δ.set i (.bld ds))))
theorem Gr{K:PySem.W.Frag}{i:Nat}{f:aw→R (List D)}{D:Ends}{σ:St}{H:Hp}(h:sD K (nj i f) D σ H):zK (tN K f) (rE i) D σ H:=by
 obtain⟨Z,B,δ,o,E,hf,q⟩:=h
 obtain⟨ds,h1,h2⟩:=R.ao hf
 obtain⟨hi,h3⟩:=R.bp h2
 cases h3
 refine⟨Z,B,δ,ds,E,h1,fun a xs H1 s1 n e r=>?_⟩
 have E1:=E.same s1
 have aB:a ∉ B:=fun ha=>by obtain⟨o,ho⟩:=E.bs a ha;rw [n] at ho;cases ho
 have nZ:a ∉ Z:=fun ha=>aB (E.zb a ha)
 have p0:dt B H (a ::B) H1:=fun b o e' nb=>⟨s1 b o e',fun hb=>by
  rcases List.mem_cons.mp hb with z | z
  ·subst z;rw [n] at e';cases e'
  ·exact nb z⟩
 have E2:ef K Z (a ::B) H1 σ δ:={
  len:=E.len
  bs:=fun b hb=>by
   rcases List.mem_cons.mp hb with z | z
   ·subst z;exact⟨_,e⟩
   ·exact E1.bs b z
  zb:=fun b hb=>List.mem_cons_of_mem _ (E.zb b hb)
  val:=fun j d e=>let⟨v,q1,q2⟩:=E.val j d e;⟨v,q1,q2.bx p0⟩
  bld:=fun j es e=>let⟨b,ys,q1,q2,q3,q4,q5⟩:=E.bld j es e;⟨b,ys,q1,List.mem_cons_of_mem _ q2,q3,s1 b _ q4,q5.bx p0⟩
  dis:=E.dis}
 refine q _ (a ::B) H1 ⟨p0,fun b o e' hb=>⟨s1 b o e',List.mem_cons_of_mem _ (E.zb b hb)⟩⟩ (E2.setB (by rw[←E.len];exact of_decide_eq_true hi) List.mem_cons_self nZ e r fun j es hj ej hσ=>?_)
 obtain⟨b,ys,q1,_,_,q4,_⟩:=E.bld j es ej
 rw[hσ] at q1
 cases q1
 rw[n] at q4;cases q4
theorem Ft{i:Nat}{x:Str}{e:Expr}{f:aw→R (List D)}{pos pos':Pos}(hN:X.N.Nodup)(hi:X.N[i]? =some x)(hx:Loc X.env.scope x)(he:PN X e f)(hs:swapsWith e (some (.Name x pos')) pos.line X.env=pure false:=by rfl)(hf:X.fn x=true∨X.env.scope.names.lookup x=some .local:=by first | exact .inl rfl | exact .inr rfl | assumption) :
 Dt X (.Assign [.Name x pos'] e pos) (nj i f):=(yh hN hi hx he hs hf).imp fun D σ H h=>Gr h
theorem ef.grow{K:PySem.W.Frag}{Z B:List Addr}{H:Hp}{σ:St}{δ:aw}(E:ef K Z B H σ δ){i:Nat}{ds es:List D}{a:Addr}{xs ys:List V}(hd:δ[i]? =some (.bld ds))(hσ:σ[i]? =some (some (.ref a)))(hB:a∈B)(hH:H a=some (.lst xs))(r:aK K B H es ys) :
 ef K Z B (upd H a (.lst ys)) σ (δ.set i (.bld es))∧dt B H B (upd H a (.lst ys)):=by
 have p:dt B H B (upd H a (.lst ys)):=fun b o e nb=>⟨by rw[br (fun(z:b=a)=>nb (by rw[z];exact hB))];exact e,nb⟩
 have hi:i < δ.length:=(List.getElem?_eq_some_iff.mp hd).1
 refine⟨{
  len:=by rw[List.length_set];exact E.len
  bs:=fun b hb=>by
   by_cases z:b=a
   ·subst z;exact⟨_,bf⟩
   ·rw[br z];exact E.bs b hb
  zb:=E.zb
  val:=fun j d e=>by
   by_cases h:i=j
   ·subst h;rw [List.getElem?_set_self hi] at e;cases e
   ·rw[List.getElem?_set_ne h] at e
    obtain⟨v,q1,q2⟩:=E.val j d e
    exact⟨v,q1,q2.bx p⟩
  bld:=fun j fs e=>by
   by_cases h:i=j
   ·subst h;rw [List.getElem?_set_self hi] at e;cases e
    obtain⟨b,zs,q1,q2,q3,_,_⟩:=E.bld i ds hd
    rw[hσ] at q1;cases q1
    exact⟨a,ys,hσ,hB,q3,bf,r.bx p⟩
   ·rw[List.getElem?_set_ne h] at e
    obtain⟨b,zs,q1,q2,q3,q4,q5⟩:=E.bld j fs e
    have ne:b≠a:=fun z=>by subst z;exact h (E.dis i j b ds fs hd e hσ q1)
    exact⟨b,zs,q1,q2,q3,by rw[br ne];exact q4,q5.bx p⟩
  dis:=fun j k b ds1 es1 e1 e2 e3 e4=>by
   have f1:∃fs,δ[j]? =some (.bld fs):=by
    by_cases h:i=j
    ·subst h;exact⟨ds,hd⟩
    ·rw[List.getElem?_set_ne h] at e1;exact⟨_,e1⟩
   have f2:∃fs,δ[k]? =some (.bld fs):=by
    by_cases h:i=k
    ·subst h;exact⟨ds,hd⟩
    ·rw[List.getElem?_set_ne h] at e2;exact⟨_,e2⟩
   obtain⟨_,f1⟩:=f1
   obtain⟨_,f2⟩:=f2
   exact E.dis j k b _ _ f1 f2 e3 e4},p⟩
theorem Ev.grow{Z B:List Addr}{H:Hp}{a:Addr}{o:HO}(zb:∀a∈Z,a∈B)(hZ:a ∉ Z)(p:dt B H B (upd H a o)):Ev Z B H B (upd H a o):=
 ⟨p,fun b u e hb=>⟨by rw[br (fun(z:b=a)=>hZ (by rw[←z];exact hb))];exact e,zb b hb⟩⟩
noncomputable def jz(δ:aw)(i:Nat):R (List D):=match δ[i]? with | some (.bld ds)=> .ok ds | _=> .no
theorem Bg{δ:aw}{i:Nat}{ds:List D}(h:jz δ i= .ok ds):δ[i]? =some (.bld ds):=by
 unfold jz at h
 split at h
 ·rename_i q;cases h;exact q
 ·cases h
noncomputable def mN(i:Nat)(f:FD):FS:=fun δ=>(f δ).bind fun d=>(jz δ i).bind fun ds=>R.cb (decide (ds.length < sizeLine)) (.ok (.nx (δ.set i (.bld (ds++[d])))))
theorem Ee{i:Nat}{x:Str}{e:Expr}{f:FD}{npos apos cpos pos:Pos}(hN:X.N[i]? =some x)(hv:FU X.env.scope x)(he:PD X e f)
 (hd:(x==("__debug__":Str))=false:=by decide) (hcd:(x==("__classdict__":Str))=false:=by decide)
 (hs:starEach [e] X.env=(false,eval e X.env) ::starEach [] X.env:=by rfl) (hline:(apos.endLine==cpos.line)=true:=by rfl)
 (hfew:((backTo cpos (starEach [e] X.env)).all (fun x=>!x.1) && (backToKw cpos (keywordEach [] X.env)).all (fun x=>x.1.isSome)
   && decide (([e]:List Expr).length+([]:List Keyword).length+(if([]:List Keyword).isEmpty then 0 else 1) < 30))=true:=by rfl)
 (hsw:swapsWith (.Call (.Attribute (.Name x npos) "append" apos) [e] [] cpos) none pos.line X.env=pure false:=by rfl)
 (hbase:attributeBase (.Name x npos) "append" X.env (eval (.Name x npos) X.env)=eval (.Name x npos) X.env:=by rfl) :
 Dt X (.Expr (.Call (.Attribute (.Name x npos) "append" apos) [e] [] cpos) pos) (mN i f):=by
 refine(zj (A3 (X:=X) PySem.F.plainAttrs_list PySem.F.slot_list_append PySem.F.type_list_append o7 (uf hN hv hd hcd) (eA he iA hs) hbase hfew hline hs) hsw).imp fun D σ H ⟨Z,B,δ,o,E,hf,q⟩=>?_
 obtain⟨d,h1,h2⟩:=R.ao hf
 obtain⟨ds,h3,h4⟩:=R.ao h2
 obtain⟨hl,h5⟩:=R.bp h4
 cases h5
 have hb:=Bg h3
 obtain⟨a,xs,q1,q2,q3,q4,q5⟩:=E.bld i ds hb
 refine⟨.ref a,q1, .inl ⟨rfl,xs,ny.of q4⟩,⟨Z,B,δ,d,E,h1,fun v H1 s1 r1=>?_⟩⟩
 have E1:=E.same s1
 refine⟨a,xs,v,rfl,rfl,s1 a _ q4,by rw[←q5.length];exact of_decide_eq_true hl,?_⟩
 obtain⟨E2,p2⟩:=E1.grow (es:=ds++[d]) (ys:=xs++[v]) hb q1 q2 (s1 a _ q4) ((q5.same s1).append (aK.cons r1 aK.nil))
 exact q σ B _ ((Ev.same E.zb s1).trans (Ev.grow E.zb q3 p2)) E2
noncomputable def vM(i:Nat)(f:aw→R (List D)):FS:=fun δ=>(f δ).bind fun es=>(jz δ i).bind fun ds=>R.cb (decide (ds.length+es.length≤sizeLine)) (.ok (.nx (δ.set i (.bld (ds++es)))))
noncomputable def iz(i:Nat)(δ:aw):aw:=match δ[i]? with | some (.bld ds)=>δ.set i (.val (.lst ds)) | _=>δ
theorem ef.iz{K:PySem.W.Frag}{Z B:List Addr}{H:Hp}{σ:St}{δ:aw}(E:ef K Z B H σ δ)(i:Nat):∃B',Ev Z B H B' H∧ef K Z B' H σ (iz i δ):=by
 unfold L2.iz
 cases hd:δ[i]? with
 | none=>exact⟨B,Ev.refl Z B H E.zb,E⟩
 | some x=>
   cases x with
   | un=>exact⟨B,Ev.refl Z B H E.zb,E⟩
   | val d=>exact⟨B,Ev.refl Z B H E.zb,E⟩
   | bld ds=>
     obtain⟨a,xs,q1,q2,q3,q4,q5⟩:=E.bld i ds hd
     have hi:i < δ.length:=(List.getElem?_eq_some_iff.mp hd).1
     have p:dt B H (B.filter fun b=>decide (b≠a)) H:=fun b o e nb=>⟨e,fun hb=>nb (List.mem_filter.mp hb).1⟩
     have zb:∀b∈Z,b∈B.filter fun b=>decide (b≠a):=fun b hb=>List.mem_filter.mpr ⟨E.zb b hb,decide_eq_true fun z=>q3 (z▸hb)⟩
     refine⟨B.filter fun b=>decide (b≠a),⟨p,fun b o e hb=>⟨e,zb b hb⟩⟩,{
      len:=by rw[List.length_set];exact E.len
      bs:=fun b hb=>E.bs b (List.mem_filter.mp hb).1
      zb:=zb
      val:=fun j d e=>by
       by_cases h:i=j
       ·subst h;rw [List.getElem?_set_self hi] at e;cases e
        refine⟨.ref a,q1,?_⟩
        unfold Rep
        exact⟨a,xs,rfl, .inl ⟨fun hb=>by simpa using(List.mem_filter.mp hb).2, .inl q4⟩,q5.bx p⟩
       ·rw[List.getElem?_set_ne h] at e
        obtain⟨v,z1,z2⟩:=E.val j d e
        exact⟨v,z1,z2.bx p⟩
      bld:=fun j fs e=>by
       by_cases h:i=j
       ·subst h;rw [List.getElem?_set_self hi] at e;cases e
       ·rw[List.getElem?_set_ne h] at e
        obtain⟨b,zs,z1,z2,z3,z4,z5⟩:=E.bld j fs e
        exact⟨b,zs,z1,List.mem_filter.mpr ⟨z2,decide_eq_true fun z=>by subst z;exact h (E.dis i j b ds fs hd e q1 z1)⟩,z3,z4,z5.bx p⟩
      dis:=fun j k b ds1 es1 e1 e2 e3 e4=>by
       by_cases h:i=j
       ·subst h;rw [List.getElem?_set_self hi] at e1;cases e1
       ·by_cases h':i=k
        ·subst h';rw [List.getElem?_set_self hi] at e2;cases e2
        ·rw[List.getElem?_set_ne h] at e1
         rw[List.getElem?_set_ne h'] at e2
         exact E.dis j k b ds1 es1 e1 e2 e3 e4}⟩
noncomputable def oU(i:Nat)(F:FS):FS:=fun δ=>F (iz i δ)
theorem HN{K:PySem.W.Frag}{i:Nat}{F:FS}{D:Ends}{σ:St}{H:Hp}(h:sD K (oU i F) D σ H):sD K F D σ H:=by
 obtain⟨Z,B,δ,o,E,hf,q⟩:=h
 obtain⟨B1,ev,E1⟩:=E.iz i
 refine⟨Z,B1,L2.iz i δ,o,E1,hf,?_⟩
 cases o with
 | nx δ'=>exact fun σ' B' H' ev' E'=>q σ' B' H' (ev.trans ev') E'
 | rt d=>exact fun v B' H' ev' z r=>q v B' H' (ev.trans ev') z r
theorem Ea(i:Nat){sts:List Stmt}{F:FS}(h:p9 X sts F):p9 X sts (oU i F):=h.imp fun D σ H h=>HN h
noncomputable def cQ(f:FD):FS:=fun δ=>(f δ).bind fun d=> .ok (.rt d)
theorem Eu{e:Expr}{f:FD}{pos:Pos}(he:PD X e f):Dt X (.Return (some e) pos) (cQ f):=(Cz he).imp fun D σ H ⟨Z,B,δ,o,E,hf,q⟩=>by
 obtain⟨d,h1,h2⟩:=R.ao hf
 cases h2
 exact⟨Z,B,δ,d,E,h1,fun v H1 s1 r1=>q v B H1 (Ev.same E.zb s1) E.zb r1⟩
noncomputable def k4(c:aw→R Bool)(F G:FS):FS:=fun δ=>(c δ).bind fun b=>if b then F δ else G δ
theorem GC{c:Expr}{a b:List Stmt}{fc:aw→R Bool}{F G:FS}{pos:Pos}(hc:PB X c fc)(ha:p9 X a F)(hb:p9 X b G):Dt X (.If c a b pos) (k4 fc F G):=(FI hc ha hb).imp fun D σ H ⟨Z,B,δ,o,E,hf,q⟩=>by
 obtain⟨k,h1,h2⟩:=R.ao hf
 refine⟨Z,B,δ,k,E,h1,fun H1 s1=>?_⟩
 have q':=q.ev (Ev.same E.zb s1)
 cases k with
 | true=>rw [if_pos rfl] at h2;exact BI ⟨Z,B,δ,o,E.same s1,h2,q'⟩
 | false=>rw [if_neg (by decide)] at h2;exact CQ ⟨Z,B,δ,o,E.same s1,h2,q'⟩
noncomputable abbrev FT:=D→aw→R aw
noncomputable def gD(K:PySem.W.Frag)(t:FT):TG:=fun v σ H Q=>∃Z B δ d δ',ef K Z B H σ δ∧Rep K B H d v∧t d δ= .ok δ'∧∀σ' H',a_ H H'→ef K Z B H' σ' δ'→σ'.length=σ.length→Q σ' H'
noncomputable abbrev He(X:Cx)(tg:Expr)(t:FT):Prop:=PG X tg (gD X.K t)
noncomputable def aV(i:Nat):FT:=fun d δ=>R.cb (decide (i < δ.length)) (.ok (δ.set i (.val d)))
theorem CN{i:Nat}{x:Str}{pos:Pos}(hN:X.N.Nodup)(hi:X.N[i]? =some x)(hx:Loc X.env.scope x)(hf:X.fn x=true∨X.env.scope.names.lookup x=some .local:=by first | exact .inl rfl | exact .inr rfl | assumption):He X (.Name x pos) (aV i):=
 (yR hN hi hx hf).imp fun v σ H Q ⟨Z,B,δ,d,δ',E,r,ht,q⟩=>by
   obtain⟨hi,h⟩:=R.bp ht
   cases h
   exact q _ H (a_.refl H) (E.set (by rw[←E.len];exact of_decide_eq_true hi) r) (List.length_set ..)
noncomputable abbrev AS:=List D→aw→R aw
noncomputable def ME(K:PySem.W.Frag)(t:AS):CJ:=fun vs σ H Q=>∃Z B δ ds δ',ef K Z B H σ δ∧aK K B H ds vs∧t ds δ= .ok δ'∧∀σ' H',a_ H H'→ef K Z B H' σ' δ'→σ'.length=σ.length→Q σ' H'
noncomputable abbrev Cc(X:Cx)(ts:List Expr)(t:AS):Prop:=Dx X ts (ME X.K t)
theorem Dx.imp{X:Cx}{e:List Expr}{t t':CJ}(h:Dx X e t)(w:∀v σ H Q,t' v σ H Q→t v σ H Q):Dx X e t':=fun pins s σ H v u Q I r hq=>h pins s σ H v u Q I r (w v σ H Q hq)
noncomputable def gQ:AS:=fun ds δ=>match ds with | []=> .ok δ | _=> .no
noncomputable def cJ(t:FT)(u:AS):AS:=fun ds δ=>match ds with | d ::r=>(t d δ).bind fun δ'=>u r δ' | []=> .no
theorem Cd:Cc X [] gQ:=zu.imp fun vs σ H Q ⟨Z,B,δ,ds,δ',E,r,ht,q⟩=>by
 cases ds with
 | nil=>unfold aK at r;cases ht;exact⟨r,q σ H (a_.refl H) E rfl⟩
 | cons=>cases ht
theorem zS{e:Expr}{es:List Expr}{t:FT}{u:AS}(h1:He X e t)(h2:Cc X es u)(hs:(assignEach (e ::es) X.env).map (·.2)=assign e X.env ::(assignEach es X.env).map (·.2):=by rfl):Cc X (e ::es) (cJ t u):=
 (vP h1 h2 hs).imp fun vs σ H Q ⟨Z,B,δ,ds,δ',E,r,ht,q⟩=>by
   cases ds with
   | nil=>cases ht
   | cons d ds=>
     obtain⟨x,xs,rfl,r1,r2⟩:=r.cA
     obtain⟨δ1,h1,h2⟩:=R.ao ht
     exact⟨x,xs,rfl,Z,B,δ,d,δ1,E,r1,h1,fun σ1 H1 s1 E1 l1=>⟨Z,B,δ1,ds,δ',E1,r2.same s1,h2,fun σ2 H2 s2 E2 l2=>q σ2 H2 (s1.trans s2) E2 (l2.trans l1)⟩⟩
noncomputable def gL(n:Nat)(t:AS):FT:=fun d δ=>match d with | .tup ds=>R.cb (decide (ds.length=n)) (t ds δ) | _=> .no
theorem DK{es:List Expr}{k:Nat}{t:AS}{n:Nat}{pos:Pos}(hc:X.calm=true)(h:Cc X es t)(hn:(assignEach es X.env).length=n:=by rfl)(hst:(assignEach es X.env).findIdx? (·.1)=none:=by rfl):He X (.Tuple es k pos) (gL n t):=
 (Bw hc h hn hst).imp fun v σ H Q ⟨Z,B,δ,d,δ',E,r,ht,q⟩=>by
   cases d with
   | tup ds=>
     unfold Rep at r
     obtain⟨a,xs,rfl,l,r⟩:=r
     obtain⟨hl,h⟩:=R.bp ht
     exact⟨a,xs,rfl,l.sq,by rw[←r.length];exact of_decide_eq_true hl,Z,B,δ,ds,δ',E,r,h,q⟩
   | _=>cases ht
noncomputable def pY(f:FD)(t:FT):FS:=fun δ=>(f δ).bind fun d=>(t d δ).bind fun δ'=> .ok (.nx δ')
theorem DX{tg e:Expr}{f:FD}{t:FT}{pos:Pos}(he:PD X e f)(hg:He X tg t)(hs:swapsWithSole [tg] e pos.line X.env=pure false:=by rfl)(hw:swappedStores [tg] e X.env=pure none:=by rfl)
 (h1:(assignEach [tg] X.env).map (·.2)=[assign tg X.env]:=by rfl):Dt X (.Assign [tg] e pos) (pY f t):=(BQ he hg hs hw h1).imp fun D σ H ⟨Z,B,δ,o,E,hf,q⟩=>by
 obtain⟨d,h1,h2⟩:=R.ao hf
 obtain⟨δ1,h3,h4⟩:=R.ao h2
 cases h4
 exact⟨Z,B,δ,d,E,h1,fun v H1 s1 r1=>⟨Z,B,δ,d,δ1,E.same s1,r1,h3,fun σ' H2 s2 E2 _=>q σ' B H2 (Ev.same E.zb (s1.trans s2)) E2⟩⟩
noncomputable def De(K:PySem.W.Frag)(B:List Addr)(H:Hp)(J:It)(ds:List D):Prop:=∀B' H',dt B H B' H'→(∀(i:Nat) (d:D),ds[i]? =some d→J.go i H'∧∀x H'',J.yld i H' x H''→(∀a∈B',∃o,H' a=some o)→a_ H' H''∧Rep K B' H'' d x)∧J.stop ds.length H'
noncomputable def iD(K:PySem.W.Frag)(f:aw→R (List D)):TI:=fun σ H R=>∃Z B δ ds,ef K Z B H σ δ∧f δ= .ok ds∧∀J H1,a_ H H1→De K B H1 J ds→R J H1
noncomputable abbrev Gb(X:Cx)(tg e:Expr)(f:aw→R (List D)):Prop:=PI X tg e (iD X.K f)
noncomputable def eZ(f:FD):aw→R (List D):=fun δ=>(f δ).bind fun d=>match d with | .lst ds=> .ok ds | .tup ds=> .ok ds | _=> .no
theorem Fp{tg e:Expr}{f:FD}(h:PD X e f):Gb X tg e (eZ f):=by
 intro pins s σ H RR I ⟨Z,B,δ,ds,E,hf,q⟩
 obtain⟨d,h1,h2⟩:=R.ao hf
 refine dY (h pins s σ H (fun v H1=>a_ H H1∧Rep X.K B H1 d v) I ⟨Z,B,δ,d,E,h1,fun v H1 s1 r1=>⟨s1,r1⟩⟩) fun v s1 ⟨x,H1,I1,r1,ss,rr⟩=>?_
 cases d with
 | lst es=>
   cases h2
   unfold Rep at rr
   obtain⟨a,xs,rfl,l,rr⟩:=rr
   cases r1
   obtain⟨its,rv,p,hz⟩:=I1.list l.sq
   refine wpAny_pyIter_list p.isList ?_
   refine⟨s1.heap.objs.size,[s1.heap.objs.size],_,_,H1,rfl,I1.kept (t':=s1.toks) fun b o e=>Heap.get?_push_of_some _ e,tp a _,⟨_,Heap.get?_push_size _ rfl,rfl,rfl⟩,fun b hb=>?_,q _ H1 ss fun B' H' pr=>?_⟩
   ·have e:b=s1.heap.objs.size:=by simpa using hb
    subst e
    exact I1.qC (Nat.le_refl _) (I1.hok.fresh (Nat.le_refl _))
   ·have l':r_ X.K B' H' a xs:=l.bx pr
    have rr':=rr.bx pr
    refine⟨fun i d hd=>?_,⟨xs,l'.sq,by rw[rr.length];exact Nat.le_refl _⟩⟩
    obtain⟨x,hx,rx⟩:=rr'.get hd
    exact⟨⟨xs,x,l'.sq,hx⟩,fun y H'' ⟨e1,e2⟩ _=>by
     subst e1
     have:=e2 xs l'.sq
     rw[hx] at this
     cases this
     exact⟨a_.refl _,rx⟩⟩
 | tup es=>
   cases h2
   unfold Rep at rr
   obtain⟨a,xs,rfl,l,rr⟩:=rr
   cases r1
   obtain⟨its,rv,p,hz⟩:=I1.tuple l.sq
   refine wpAny_pyIter_tuple (show s1.heap.IsTuple a its.toArray from p) ?_
   refine⟨s1.heap.objs.size,[s1.heap.objs.size],_,_,H1,rfl,I1.kept (t':=s1.toks) fun b o e=>Heap.get?_push_of_some _ e,xf a _,⟨_,Heap.get?_push_size _ rfl,rfl,rfl⟩,fun b hb=>?_,q _ H1 ss fun B' H' pr=>?_⟩
   ·have e:b=s1.heap.objs.size:=by simpa using hb
    subst e
    exact I1.qC (Nat.le_refl _) (I1.hok.fresh (Nat.le_refl _))
   ·have l':sN X.K B' H' a xs:=l.elim (fun z=> .inl ⟨(pr.rd z.2 z.1).2,(pr.rd z.2 z.1).1⟩) .inr
    have rr':=rr.bx pr
    refine⟨fun i d hd=>?_,⟨xs,l'.sq,by rw[rr.length];exact Nat.le_refl _⟩⟩
    obtain⟨x,hx,rx⟩:=rr'.get hd
    exact⟨⟨xs,x,l'.sq,hx⟩,fun y H'' ⟨e1,e2⟩ _=>by
     subst e1
     have:=e2 xs l'.sq
     rw[hx] at this
     cases this
     exact⟨a_.refl _,rx⟩⟩
 | _=>cases h2
noncomputable def bQ(lo:Int)(n:Nat):List D:=(List.range n).map fun(i:Nat)=>D.int (lo+i)
theorem xm{K:PySem.W.Frag}{B:List Addr}{H:Hp}(lo:Int)(n:Nat):De K B H (Ip lo n) (bQ lo n):=fun B' H' _=>by
 refine⟨fun i d hd=>?_,?_⟩
 ·unfold bQ at hd
  rw[List.getElem?_map] at hd
  cases e:(List.range n)[i]? with
  | none=>rw [e] at hd;cases hd
  | some j=>
    rw[e] at hd
    cases hd
    obtain⟨hi,ej⟩:=List.getElem?_eq_some_iff.mp e
    rw[List.getElem_range] at ej
    subst ej
    rw[List.length_range] at hi
    exact⟨hi,fun x H'' ⟨e1,e2⟩ _=>by subst e1 e2;exact⟨a_.refl _,by unfold Rep;rfl⟩⟩
 ·show n≤(bQ lo n).length
  unfold bQ
  rw[List.length_map,List.length_range]
  exact Nat.le_refl _
noncomputable def d5(f:FD):aw→R (List D):=fun δ=>(f δ).bind fun d=>match d with | .int j=>R.cb (decide (-(2 ^ 62)≤j∧j < 2 ^ 62)) (.ok (bQ 0 j.toNat)) | _=> .no
theorem yr{tg a:Expr}{f:FD}{p pos:Pos}(h:PD X a f)(hg:Gl X "range")(hm:X.mg "range"=none)(hs:starEach [a] X.env=[(false,eval a X.env)]:=by rfl):Gb X tg (.Call (.Name "range" p) [a] [] pos) (d5 f):=
 (tR hg hm (eA h iA hs) hs).imp fun σ H RR ⟨Z,B,δ,ds,E,hf,q⟩=>by
   obtain⟨d,h1,h2⟩:=R.ao hf
   cases d with
   | int j=>
     obtain⟨hb,h3⟩:=R.bp h2
     cases h3
     have hb:=of_decide_eq_true hb
     refine⟨Z,B,δ, .int j,E,h1,fun v H1 s1 r1=>⟨j,?_,hb.1,hb.2,q _ H1 s1 (xm 0 _)⟩⟩
     unfold Rep at r1
     rw[r1]
   | _=>cases h2
noncomputable def tZ(f g:FD):aw→R (List D):=fun δ=>(f δ).bind fun d=>(g δ).bind fun e=>match d,e with
 | .int i, .int j=>R.cb (decide (-(2 ^ 62)≤i∧i < 2 ^ 62∧ -(2 ^ 62)≤j∧j < 2 ^ 62)) (.ok (bQ i (j - i).toNat)) | _,_=> .no
theorem xZ{tg a b:Expr}{f g:FD}{p pos:Pos}(h:PD X a f)(h':PD X b g)(hg:Gl X "range")(hm:X.mg "range"=none)(hs:starEach [a,b] X.env=[(false,eval a X.env),(false,eval b X.env)]:=by rfl)(hs2:starEach [b] X.env=[(false,eval b X.env)]:=by rfl) :
 Gb X tg (.Call (.Name "range" p) [a,b] [] pos) (tZ f g):=
 (Au hg hm (eA h (eA h' iA hs2) (by rw[hs,hs2])) hs hs2).imp fun σ H RR ⟨Z,B,δ,ds,E,hf,q⟩=>by
   obtain⟨d,h1,h2⟩:=R.ao hf
   obtain⟨d2,h3,h4⟩:=R.ao h2
   split at h4
   ·rename_i i j
    obtain⟨hb,h5⟩:=R.bp h4
    cases h5
    have hb:=of_decide_eq_true hb
    refine⟨Z,B,δ, .int i,E,h1,fun v H1 s1 r1=>⟨Z,B,δ, .int j,E.same s1,h3,fun v2 H2 s2 r2=>⟨i,j,?_,hb,q _ H2 (s1.trans s2) (xm i _)⟩⟩⟩
    unfold Rep at r1 r2
    rw[r1,r2]
   ·cases h4
noncomputable def nP(t:FT)(body:FS):List D→FS
 | [],δ=> .ok (.nx δ)
 | d ::ds,δ=>(t d δ).bind fun δ1=>(body δ1).bind fun o=>match o with | .nx δ2=>nP t body ds δ2 | .rt r=> .ok (.rt r)
noncomputable def nq(it:aw→R (List D))(t:FT)(body:FS):FS:=fun δ=>(it δ).bind fun ds=>nP t body ds δ
theorem D5{tg iter:Expr}{body:List Stmt}{it:aw→R (List D)}{t:FT}{F:FS}{pos:Pos}(hp:PassesOwn (model X.prog X.w) X.A X.env X.xe)(hc:X.calm=true)(hi:Gb X tg iter it)(hg:He X tg t)(hb:p9 X body F)
 (hs:∀x,foldedSetIterable iter X.env x=pure x:=by intro _;rfl):Dt X (.For tg iter body [] pos) (nq it t F):=(CB hp hc hi hg hb hs).imp fun D σ H ⟨Z,B,δ,o,E,hf,q⟩=>by
 obtain⟨ds,h1,h2⟩:=R.ao hf
 refine⟨Z,B,δ,ds,E,h1,fun J H1 s1 ir=>?_⟩
 refine⟨fun i m σ' H'=>m=ds.length - i∧i≤ds.length∧∃B' δ',Ev Z B H1 B' H'∧ef X.K Z B' H' σ' δ'∧nP t F (ds.drop i) δ'= .ok o,⟨ds.length,rfl,Nat.zero_le _,B,δ,Ev.refl Z B H1 E.zb,E.same s1,by simpa using h2⟩,?_⟩
 rintro i m σ' H' ⟨rfl,hi,B',δ',ev,E',hl⟩
 obtain⟨go,stop⟩:=ir B' H' ev.bx
 by_cases hlt:i < ds.length
 ·have hd:ds[i]? =some ds[i]:=List.getElem?_eq_getElem hlt
  have hdrop:ds.drop i=ds[i] ::ds.drop (i+1):=List.drop_eq_getElem_cons hlt
  rw[hdrop] at hl
  obtain⟨δ1,h3,h4⟩:=R.ao hl
  obtain⟨o1,h5,h6⟩:=R.ao h4
  obtain⟨g1,g2⟩:=go i _ hd
  refine .inr ⟨g1,fun σ2 H2=>∃B2 δ2,Ev Z B H1 B2 H2∧ef X.K Z B2 H2 σ2 δ2∧nP t F (ds.drop (i+1)) δ2= .ok o,fun σ2 H2 n=>⟨ds.length - (i+1),by omega,rfl,hlt,n⟩,fun x H'' y=>?_⟩
  obtain⟨ss,rr⟩:=g2 x H'' y E'.bs
  refine⟨Z,B',δ',ds[i],δ1,E'.same ss,rr,h3,fun σ2 H2 s2 E2 l2=>⟨Z,B',δ1,o1,E2,h5,?_⟩⟩
  have ev2:Ev Z B H1 B' H2:=ev.trans (Ev.same E'.zb (ss.trans s2))
  cases o1 with
  | nx δ2=>exact fun σ3 B3 H3 ev3 E3=>⟨B3,δ2,ev2.trans ev3,E3,h6⟩
  | rt d=>
    cases h6
    exact fun v B3 H3 ev3 z r=>q v B3 H3 ((Ev.same E.zb s1).trans (ev2.trans ev3)) z r
 ·have e:i=ds.length:=by omega
  subst e
  rw[List.drop_length] at hl
  cases hl
  exact .inl ⟨stop,q σ' B' H' ((Ev.same E.zb s1).trans ev) E'⟩
noncomputable def Bu(c:aw→R Bool)(body:FS):Nat→FS
 | 0,_=> .no
 | n+1,δ=>(c δ).bind fun b=>if b then(body δ).bind fun o=>match o with | .nx δ2=>Bu c body n δ2 | .rt r=> .ok (.rt r) else .ok (.nx δ)
noncomputable def Kf(n:Nat)(c:aw→R Bool)(body:FS):FS:=fun δ=>Bu c body n δ
noncomputable def rh(δ:aw)(i:Nat):Sl:=match δ[i]? with | some (.val d)=> .val d | _=> .un
noncomputable def rq(own:List Str)(kp:List Nat)(δ:aw):aw:=List.replicate own.length .un++kp.map (rh δ)
noncomputable def nC(t:FT)(c:aw→R Bool)(f:FD)(δ:aw):List D→R (List D)
 | []=> .ok []
 | d ::ds=>(t d δ).bind fun δ1=>(c δ1).bind fun b=>if b then(f δ1).bind fun y=>(nC t c f δ ds).bind fun ys=> .ok (y ::ys) else nC t c f δ ds
noncomputable def gO(it:aw→R (List D))(t:FT)(c:aw→R Bool)(f:FD)(own:List Str)(kp:List Nat):aw→R (List D):=fun δ=>(it δ).bind fun ds=>R.cb (decide (ds.length≤sizeLine)) (nC t c f (rq own kp δ) ds)
theorem GU{K:PySem.W.Frag}{Z B B':List Addr}{H H':Hp}{σ:St}{δ:aw}{own:List Str}{kp:List Nat}(E:ef K Z B H σ δ)(p:dt B H B' H')(hB:∀a∈B',∃o,H' a=some o):ef K [] B' H' (dU own kp σ) (rq own kp δ) where
 len:=by unfold dU rq;simp
 bs:=hB
 zb:=fun a ha=>by cases ha
 val:=fun i d e=>by
  unfold rq at e
  unfold dU
  by_cases hi:i < own.length
  ·rw[List.getElem?_append_left (by simpa using hi),List.getElem?_replicate] at e
   split at e <;> cases e
  ·rw[List.getElem?_append_right (by simpa using hi),List.length_replicate,List.getElem?_map] at e ⊢
   cases q:kp[i - own.length]? with
   | none=>rw [q] at e;cases e
   | some j=>
     rw[q] at e
     have e:rh δ j= .val d:=Option.some.inj e
     unfold rh at e
     split at e
     ·rename_i d' ed
      cases e
      obtain⟨v,h1,h2⟩:=E.val j d ed
      exact⟨v,by simp [h1],h2.bx p⟩
     ·cases e
 bld:=fun i ds e=>by
  unfold rq at e
  by_cases hi:i < own.length
  ·rw[List.getElem?_append_left (by simpa using hi),List.getElem?_replicate] at e
   split at e <;> cases e
  ·rw[List.getElem?_append_right (by simpa using hi),List.length_replicate,List.getElem?_map] at e
   cases q:kp[i - own.length]? with
   | none=>rw [q] at e;cases e
   | some j=>
     rw[q] at e
     have e:rh δ j= .bld ds:=Option.some.inj e
     unfold rh at e
     split at e <;> cases e
 dis:=fun i j a ds es e=>by
  unfold rq at e
  by_cases hi:i < own.length
  ·rw[List.getElem?_append_left (by simpa using hi),List.getElem?_replicate] at e
   split at e <;> cases e
  ·rw[List.getElem?_append_right (by simpa using hi),List.length_replicate,List.getElem?_map] at e
   cases q:kp[i - own.length]? with
   | none=>rw [q] at e;cases e
   | some j=>
     rw[q] at e
     have e:rh δ j= .bld ds:=Option.some.inj e
     unfold rh at e
     split at e <;> cases e
theorem Ep{K:PySem.W.Frag}{it:aw→R (List D)}{t:FT}{c:aw→R Bool}{f:FD}{own:List Str}{kp:List Nat}{σ:St}{H:Hp}{Q:VK}(h:tN K (gO it t c f own kp) σ H Q) :
 zo (iD K it) (gD K t) (Hb K c) (tD K f) own kp σ H Q:=by
 obtain⟨Z,B,δ,ds,E,hf,q⟩:=h
 obtain⟨es,h1,h2⟩:=R.ao hf
 obtain⟨hl,h3⟩:=R.bp h2
 have hl:=of_decide_eq_true hl
 refine⟨Z,B,δ,es,E,h1,fun J H1 s1 ir Dd hD=>?_⟩
 have E1:=E.same s1
 have pD:dt B H1 (Dd ::B) (upd H1 Dd (.lst [])):=vD hD
 refine⟨fun i m ys H'=>m=es.length - i∧i≤es.length∧ys.length≤i∧H' Dd=some (.lst ys)∧a_ H1 H'∧∃done rest,ds=done++rest∧aK K (Dd ::B) H' done ys∧nC t c f (rq own kp δ) (es.drop i)= .ok rest,
  ⟨es.length,rfl,Nat.zero_le _,Nat.le_refl _,bf,aX hD,[],ds,rfl,aK.nil,by simpa using h3⟩,?_⟩
 rintro i m ys H' ⟨rfl,hi,hy,hDl,ss,done,rest,rfl,rd,hc⟩
 have dB:Dd ∉ B:=fun hb=>by obtain⟨o,ho⟩:=E1.bs Dd hb;rw [hD] at ho;cases ho
 have p':dt B H1 (Dd ::B) H':=fun b o e nb=>⟨ss b o e,fun hb=>by
  rcases List.mem_cons.mp hb with z | z
  ·exact cv e hD z
  ·exact nb z⟩
 have hB':∀a∈Dd ::B,∃o,H' a=some o:=fun a ha=>by
  rcases List.mem_cons.mp ha with z | z
  ·subst z;exact⟨_,hDl⟩
  ·obtain⟨o,ho⟩:=E1.bs a z;exact⟨o,ss a o ho⟩
 obtain⟨go,stop⟩:=ir (Dd ::B) H' p'
 by_cases hlt:i < es.length
 ·have hd:es[i]? =some es[i]:=List.getElem?_eq_getElem hlt
  have hdrop:es.drop i=es[i] ::es.drop (i+1):=List.drop_eq_getElem_cons hlt
  rw[hdrop] at hc
  obtain⟨δ1,h4,h5⟩:=R.ao hc
  obtain⟨b,h6,h7⟩:=R.ao h5
  obtain⟨g1,g2⟩:=go i _ hd
  refine .inr ⟨g1,fun x H2 y=>?_⟩
  obtain⟨sy,ry⟩:=g2 x H2 y hB'
  have Ec:ef K [] (Dd ::B) H2 (dU own kp σ) (rq own kp δ):=GU E1 (p'.trans (dt.same sy)) fun a ha=>let⟨o,ho⟩:=hB' a ha;⟨o,sy a o ho⟩
  refine⟨[],Dd ::B,rq own kp δ,es[i],δ1,Ec,ry,h4,fun σ3 H3 s3 E3 _=>⟨[],Dd ::B,δ1,b,E3,h6,fun H4 s4=>?_⟩⟩
  have sAll:a_ H' H4:=sy.trans (s3.trans s4)
  cases b with
  | true=>
    rw[if_pos rfl] at h7
    refine BI ?_
    obtain⟨yv,h8,h9⟩:=R.ao h7
    obtain⟨rs,h10,h11⟩:=R.ao h9
    cases h11
    refine⟨[],Dd ::B,δ1,yv,E3.same s4,h8,fun v H5 s5 r5=>?_⟩
    have s':a_ H' H5:=sAll.trans s5
    have hD5:H5 Dd=some (.lst ys):=s' Dd _ hDl
    have pu:dt (Dd ::B) H5 (Dd ::B) (upd H5 Dd (.lst (ys++[v]))):=fun b o e nb=>⟨by rw[br (fun(z:b=Dd)=>nb (by rw[z];exact List.mem_cons_self))];exact e,nb⟩
    refine⟨hD5,by omega,es.length - (i+1),by omega,rfl,hlt,by rw[List.length_append,List.length_singleton];omega,bf,fun b o e=>?_,done++[yv],rs,by simp,((rd.same s').append (aK.cons r5 aK.nil)).bx pu,h10⟩
    rw[br (cv e hD)]
    exact s' b o (ss b o e)
  | false=>
    rw[if_neg (by decide)] at h7
    refine CQ ?_
    exact⟨es.length - (i+1),by omega,rfl,hlt,by omega,sAll Dd _ hDl,ss.trans sAll,done,rest,rfl,rd.same sAll,h7⟩
 ·have e:i=es.length:=by omega
  subst e
  rw[List.drop_length] at hc
  cases hc
  rw[List.append_nil] at q
  exact .inl ⟨stop,q Dd ys H' (s1.trans ss) (s1.free hD) hDl rd⟩
theorem Dy{scope:Scope}{own:List Str}{kp:List Nat}{kn:List Str}{tg iter elt:Expr}{ifs:List Expr}{it:aw→R (List D)}{t:FT}{c:aw→R Bool}{f:FD}{pos:Pos}(hc:X.calm=true)(C:cD X scope own kp kn)(hi:Gb X tg iter it)
 (hg:∀fp s H,He (bU X scope (own++kn) fp s H) tg t) (hif:∀fp s H,oC (bU X scope (own++kn) fp s H) ifs (Hb X.K c)) (he:∀fp s H,PD (bU X scope (own++kn) fp s H) elt f)
 (hs:∀x,foldedSetIterable iter X.env x=pure x:=by intro _;rfl):PN X (.ListComp elt [⟨tg,iter,ifs,0⟩] scope pos) (gO it t c f own kp):=
 (y1 hc C hi hg hif he hs).imp fun σ H Q h=>Ep h
noncomputable def rV:aw→R Bool:=fun _=> .ok true
theorem Dg:oC X [] (Hb X.K rV):=fun pins s σ H Q I ⟨Z,B,δ,b,E,hf,q⟩=>vd pins s σ H Q I (by cases hf;exact q H (a_.refl H))
theorem D8{e:Expr}{c:aw→R Bool}(h:PB X e c):oC X [e] (Hb X.K c):=vc h
end
noncomputable def cV(N:List Str)(ds:List D):aw:=ds.map .val++List.replicate (N.length - ds.length) .un
noncomputable def lL(N:List Str)(F:FS):List D→R D:=fun ds=>(F (cV N ds)).bind fun o=>match o with | .rt d=> .ok d | .nx _=> .ok .cI
theorem D3{K:PySem.W.Frag}{B:List Addr}{H:Hp}{N:List Str}{ds:List D}{vs:List V}(hB:∀a∈B,∃o,H a=some o)(r:aK K B H ds vs):ef K B B H (start N vs) (cV N ds) where
 len:=by unfold start cV;simp [r.length]
 bs:=hB
 zb:=fun a ha=>ha
 val:=fun i d e=>by
  unfold cV at e
  unfold start
  by_cases hi:i < ds.length
  ·rw[List.getElem?_append_left (by simpa using hi),List.getElem?_map] at e
   cases q:ds[i]? with
   | none=>rw [q] at e;cases e
   | some d'=>
     rw[q] at e
     cases e
     obtain⟨x,h1,h2⟩:=r.get q
     exact⟨x,by rw[List.getElem?_append_left (by rw[List.length_map,←r.length];exact hi),List.getElem?_map,h1];rfl,h2⟩
  ·rw[List.getElem?_append_right (by simpa using hi),List.getElem?_replicate] at e
   split at e <;> cases e
 bld:=fun i es e=>by
  unfold cV at e
  by_cases hi:i < ds.length
  ·rw[List.getElem?_append_left (by simpa using hi),List.getElem?_map] at e
   cases q:ds[i]? with
   | none=>rw [q] at e;cases e
   | some d'=>rw [q] at e;cases e
  ·rw[List.getElem?_append_right (by simpa using hi),List.getElem?_replicate] at e
   split at e <;> cases e
 dis:=fun i j a es fs e=>by
  unfold cV at e
  by_cases hi:i < ds.length
  ·rw[List.getElem?_append_left (by simpa using hi),List.getElem?_map] at e
   cases q:ds[i]? with
   | none=>rw [q] at e;cases e
   | some d'=>rw [q] at e;cases e
  ·rw[List.getElem?_append_right (by simpa using hi),List.getElem?_replicate] at e
   split at e <;> cases e
theorem DH{P:Program}{w:World}{K:PySem.W.Frag}{mg:Str→Option Value}{base:Heap}{x qual:Str}{st:Stmt}{f:Addr}{fd:FuncData}{N ps:List Str}{k:Nat}{F:FS}(Fn:yW K x qual st f fd)(S:aZ N ps (af st))
 (hbody:∀(cdv:Value) (A:Around) (outer:List Env) (s:Shared) (H:Hp) (E:XK),eQ k (A.deeper (envOfC qual (af st) s.heap.objs.size f cdv))→
   p9 (qX si P w K mg base N qual (af st) f cdv A outer s H E).Fj (ak st) F):iQ P w K mg base si (k+1) f fd ps (Bf K ps.length (lL N F)):=by
 refine Fn.ok S (fun vs H Q E h=>h.1) (fun cdv A outer s H vs Q E hr h=>⟨_,hbody cdv A outer s H E hr,?_⟩)
 obtain⟨_,B,ds,d,hB,r,hg,q⟩:=h
 obtain⟨o,h1,h2⟩:=R.ao hg
 refine⟨B,B,cV N ds,o,D3 hB r,h1,?_⟩
 have sm:∀{B':List Addr} {H':Hp},Ev B B H B' H'→a_ H H':=fun {B' H'} ev b u e=>by
  by_cases hb:b∈B
  ·exact(ev.zs b u e hb).1
  ·exact(ev.bx b u e hb).1
 cases o with
 | nx δ'=>
   cases h2
   exact fun σ' B' H' ev _=>q _ H' (sm ev) (by unfold Rep;rfl)
 | rt d'=>
   cases h2
   exact fun v B' H' ev z rr=>q v H' (sm ev) (rr.bx fun b o e nb=>⟨e,fun hb=>nb (z b hb)⟩)
end L2
end
section
set_option maxRecDepth 100000
set_option maxHeartbeats 4000000
namespace L2
open PySem PySem.Spec PyProof.Rows
theorem Rep.int{K:PySem.W.Frag}{B:List Addr}{H:Hp}{i:Int}{v:V}:Rep K B H (.int i) v↔v= .int i:=by unfold Rep;exact Iff.rfl
theorem Rep.bl{K:PySem.W.Frag}{B:List Addr}{H:Hp}{i:Bool}{v:V}:Rep K B H (.bl i) v↔v= .bl i:=by unfold Rep;exact Iff.rfl
theorem Rep.str{K:PySem.W.Frag}{B:List Addr}{H:Hp}{i:Str}{v:V}:Rep K B H (.str i) v↔v= .str i:=by unfold Rep;exact Iff.rfl
theorem Rep.cI{K:PySem.W.Frag}{B:List Addr}{H:Hp}{v:V}:Rep K B H .cI v↔v= .cI:=by unfold Rep;exact Iff.rfl
theorem Rep.lst{K:PySem.W.Frag}{B:List Addr}{H:Hp}{ds:List D}{v:V}:Rep K B H (.lst ds) v↔∃a xs,v= .ref a∧r_ K B H a xs∧aK K B H ds xs:=by rw[Rep]
theorem Rep.tup{K:PySem.W.Frag}{B:List Addr}{H:Hp}{ds:List D}{v:V}:Rep K B H (.tup ds) v↔∃a xs,v= .ref a∧sN K B H a xs∧aK K B H ds xs:=by rw[Rep]
section
variable {X:Cx}
theorem j3.of{f:Value→Value→Sem Value}{r:R2}{g:D→D→R D}(h:k6 X f r)
 (w:∀(B:List Addr) (H:Hp) (da db d:D) (x y:V) (Q:VK),(∀a∈B,∃o,H a=some o)→Rep X.K B H da x→Rep X.K B H db y→g da db= .ok d→(∀z H',a_ H H'→Rep X.K B H' d z→Q z H')→r x y H Q):j3 X f g:=by
 intro pins s σ H B da db d x y v u I hb rx ry ra rb hg
 exact h pins s σ H x y v u _ I rx ry (w B H da db d x y _ hb ra rb hg fun z H' s1 r1=>⟨s1,r1⟩)
theorem cW.of{f:Value}{r:List V→Hp→VK→Prop}{g:List D→R D}(h:jR X f r)
 (w:∀(B:List Addr) (H:Hp) (ds:List D) (d:D) (xs:List V) (Q:VK),(∀a∈B,∃o,H a=some o)→aK X.K B H ds xs→g ds= .ok d→(∀z H',a_ H H'→Rep X.K B H' d z→Q z H')→r xs H Q):cW X f g:=by
 intro pins s σ H B ds d xs us I hb rx rs hg
 exact h pins s σ H xs us _ I rx (w B H ds d xs _ hb rs hg fun z H' s1 r1=>⟨s1,r1⟩)
theorem cW.or{f:Value}{g g1 g2:List D→R D}(h1:cW X f g1)(h2:cW X f g2)(e:∀a d,g a= .ok d→g1 a= .ok d∨g2 a= .ok d):cW X f g:=by
 intro pins s σ H B ds d xs us I hb rx rs hg
 rcases e ds d hg with q | q
 ·exact h1 pins s σ H B ds d xs us I hb rx rs q
 ·exact h2 pins s σ H B ds d xs us I hb rx rs q
noncomputable def wI(C:Int→Int→Bool)(g:Int→Int→Int):D→D→R D
 | .int i, .int j=>R.cb (C i j) (.ok (.int (g i j)))
 | _,_=> .no
theorem yX{f:Value→Value→Sem Value}{C:Int→Int→Bool}{Cp:Int→Int→Prop}{g:Int→Int→Int}(h:k6 X f (rI Cp fun i j=> .int (g i j)))(hc:∀i j,C i j=true→Cp i j):j3 X f (wI C g):=
 j3.of h fun B H da db d x y Q _ ra rb hg q=>by
  unfold wI at hg
  split at hg
  ·obtain⟨h1,h2⟩:=R.bp hg
   cases h2
   exact⟨_,_,Rep.int.mp ra,Rep.int.mp rb,hc _ _ h1,q _ H (a_.refl H) (Rep.int.mpr rfl)⟩
  ·cases hg
noncomputable def nX(g:Int→Int→Int):D→D→R D
 | .int i, .int j=> .ok (.int (g i j))
 | _,_=> .no
theorem uK{f:Value→Value→Sem Value}{g:Int→Int→Int}(h:k6 X f (AI fun i j=> .int (g i j))):j3 X f (nX g):=
 j3.of h fun B H da db d x y Q _ ra rb hg q=>by
  unfold nX at hg
  split at hg
  ·cases hg
   exact⟨_,_,Rep.int.mp ra,Rep.int.mp rb,q _ H (a_.refl H) (Rep.int.mpr rfl)⟩
  ·cases hg
noncomputable def zx(g:Int→Int→Bool):D→D→R D
 | .int i, .int j=> .ok (.bl (g i j))
 | _,_=> .no
theorem BL{f:Value→Value→Sem Value}{g:Int→Int→Bool}(h:k6 X f (AI fun i j=> .bl (g i j))):j3 X f (zx g):=
 j3.of h fun B H da db d x y Q _ ra rb hg q=>by
  unfold zx at hg
  split at hg
  ·cases hg
   exact⟨_,_,Rep.int.mp ra,Rep.int.mp rb,q _ H (a_.refl H) (Rep.bl.mpr rfl)⟩
  ·cases hg
noncomputable abbrev jG:D→D→R D:=nX fun i j=>i - j
theorem ot:j3 X (binaryOp .Sub) jG:=uK G1
noncomputable abbrev pA:D→D→R D:=wI (fun _ j=>decide (0 < j∧j < 1073741824)) fun i j=>i / j
noncomputable abbrev ie:D→D→R D:=wI (fun _ j=>decide (0 < j)) fun i j=>i % j
theorem kQ:j3 X (binaryOp .Mod) ie:=yX Gd fun i j h=>of_decide_eq_true h
noncomputable abbrev qv:D→D→R D:=wI (fun i j=>decide (0≤j∧j≤1000000∧i.natAbs < 2 ^ 64)) fun i j=>i ^ j.toNat
theorem FQ:j3 X (binaryOp .Pow) qv:=yX HJ fun i j h=>(of_decide_eq_true h:0≤j∧j≤1000000∧i.natAbs < 2 ^ 64)
noncomputable abbrev oO:D→D→R D:=wI (fun _ j=>decide (0≤j)) fun i j=>i / 2 ^ j.toNat
theorem Iy:j3 X (binaryOp .RShift) oO:=yX HE fun i j h=>of_decide_eq_true h
noncomputable abbrev AG:D→D→R D:=nX fun i j=>Builtin.bitAnd i j
theorem vZ:j3 X (binaryOp .BitAnd) AG:=uK Gk
noncomputable abbrev Dq:D→D→R D:=nX fun i j=>Builtin.bitOr i j
theorem vq:j3 X (binaryOp .BitOr) Dq:=uK Iu
noncomputable abbrev AF:D→D→R D:=nX fun i j=>Builtin.bitXor i j
theorem wK:j3 X (binaryOp .BitXor) AF:=uK Hc
noncomputable abbrev AH:D→D→R D:=zx fun i j=>decide (i < j)
theorem Ii:j3 X (compareOp .Lt) AH:=BL JG
noncomputable abbrev Fz:D→D→R D:=zx fun i j=>decide (i≤j)
noncomputable abbrev wz:D→D→R D:=zx fun i j=>decide (j < i)
theorem Cb:j3 X (compareOp .Gt) wz:=BL JA
noncomputable abbrev Dr:D→D→R D:=zx fun i j=>decide (j≤i)
theorem Kd:j3 X (compareOp .GtE) Dr:=BL I_
theorem r_.t4{K:PySem.W.Frag}{B:List Addr}{H:Hp}{a:Addr}{xs:List V}(h:H a=some (.lst xs))(n:a ∉ B):r_ K B H a xs:= .inl ⟨n, .inl h⟩
theorem Inv.Ho{pins:List (Addr × Obj)}{σ:St}{H:Hp}{s:Shared}{a:Addr}{xs:List V}{B:List Addr}(I:Inv X pins σ H s)(h:r_ X.K B H a xs):∃(its:List Value) (n:Nat),Vals xs its∧s.heap.get? a=some {cls:= .type "list",data:= .seq its.toArray n}∧xs.length≤sizeLine:=by
 rcases h with⟨_,h⟩ | ⟨its,n,hk,hz,r⟩
 ·obtain⟨z,its,n,r,e⟩:=h.ok I.hok
  exact⟨its,n,r,e,z⟩
 ·exact⟨its,n,r,I.oX a _ hk,hz⟩
theorem yP:k6 X (binaryOp .Add) (fun x y H Q=>∃B l b xs zs,x= .ref l∧y= .ref b∧r_ X.K B H l xs∧r_ X.K B H b zs∧xs.length+zs.length≤sizeLine∧∀p,H p=none→Q (.ref p) (upd H p (.lst (xs++zs)))):=by
 intro pins s σ H x y v u Q I rx ry h
 obtain⟨B,l,b,xs,zs,rfl,rfl,hH,hB,hz,q⟩:=h
 cases rx
 cases ry
 obtain⟨its,n,r,e,_⟩:=I.Ho hH
 obtain⟨its2,n2,r2,e2,_⟩:=I.Ho hB
 have l1:=r.length
 have l2:=r2.length
 refine PySem.P.add_list e e2 ?_ (by rw[List.size_toArray,List.size_toArray];omega)
 have ea:its.toArray++its2.toArray=(its++its2).toArray:=by simp
 rw[ea]
 exact⟨.ref _,_,I.Fs (t':=s.toks) (r.append r2) (by rw[List.length_append];omega),rfl,q _ I.fresh⟩
noncomputable def eG:D→D→R D
 | .int i, .int j=> .ok (.int (i+j))
 | .str a, .str b=>R.cb (decide (a.length+b.length≤sizeLine)) (.ok (.str (a++b)))
 | .lst a, .lst b=>R.cb (decide (a.length+b.length≤sizeLine)) (.ok (.lst (a++b)))
 | _,_=> .no
theorem gp:j3 X (binaryOp .Add) eG:=by
 intro pins s σ H B da db d x y v u I hb rx ry ra rb hg
 unfold eG at hg
 split at hg
 ·cases hg
  exact Hg pins s σ H x y v u _ I rx ry ⟨_,_,Rep.int.mp ra,Rep.int.mp rb,a_.refl H,Rep.int.mpr rfl⟩
 ·obtain⟨h1,h2⟩:=R.bp hg
  cases h2
  exact xr pins s σ H x y v u _ I rx ry ⟨_,_,Rep.str.mp ra,Rep.str.mp rb,of_decide_eq_true h1,a_.refl H,Rep.str.mpr rfl⟩
 ·obtain⟨h1,h2⟩:=R.bp hg
  cases h2
  obtain⟨a1,xs1,rfl,l1,r1⟩:=Rep.lst.mp ra
  obtain⟨a2,xs2,rfl,l2,r2⟩:=Rep.lst.mp rb
  refine yP pins s σ H _ _ v u _ I rx ry ⟨B,a1,a2,xs1,xs2,rfl,rfl,l1,l2,by rw[←r1.length,←r2.length];exact of_decide_eq_true h1,fun p hp=>⟨aX hp,Rep.lst.mpr ⟨p,_,rfl, .t4 bf fun ha=>?_,(r1.append r2).same (aX hp)⟩⟩⟩
  obtain⟨o,ho⟩:=hb p ha
  rw[hp] at ho;cases ho
 ·cases hg
theorem EK:k6 X (binaryOp .Mult) (fun x y H Q=>∃z n,x= .str z∧y= .int n∧MulOk z n∧Q (.str (Txt.mul z n)) H):=by
 intro pins s σ H x y v u Q I rx ry h
 obtain⟨z,n,rfl,rfl,hm,q⟩:=h
 obtain⟨t,rfl⟩:=rx
 obtain⟨t',rfl⟩:=ry
 exact SB.mul hm fun t2 k=>⟨.str _,H,I.tok _,⟨_,rfl⟩,q⟩
end
end L2
end
section
set_option maxRecDepth 100000
set_option maxHeartbeats 4000000
namespace L2
open PySem PySem.Spec PyProof.Rows
section
variable {X:Cx}
theorem mulOk_of{x:Str}{n:Int}(h1: -(2 ^ 63)≤n)(h2:n < 2 ^ 63)(h3:x.length*n.toNat≤sizeLine):MulOk x n:=by
 refine⟨by simp only[Bool.or_eq_false_iff,decide_eq_false_iff_not];omega,fun hn _=>?_,fun hn _=>?_⟩
 ·have hz:sizeLine=16777216:=sizeLine_eq
  have e:(n.toNat:Int)=n:=by omega
  have h4:(x.length:Int)*n≤16777216:=by
   have:((x.length*n.toNat:Nat):Int)≤((16777216:Nat):Int):=Int.ofNat_le.mpr (by omega)
   rw[Int.natCast_mul,e] at this
   exact this
  have:(x.length:Int)≤(2 ^ 63 - 1) / n:=(Int.le_ediv_iff_mul_le (by omega)).mpr (by omega)
  omega
 ·unfold Builtin.Str.tooLong;exact decide_eq_false (by omega)
noncomputable def mT:D→D→R D
 | .int i, .int j=>R.cb (decide ((-(2 ^ 64) < i∧i < 2 ^ 64)∨(-(2 ^ 64) < j∧j < 2 ^ 64))) (.ok (.int (i*j)))
 | .str x, .int n=>R.cb (decide (-(2 ^ 63)≤n∧n < 2 ^ 63∧x.length*n.toNat≤sizeLine)) (.ok (.str (Txt.mul x n)))
 | _,_=> .no
theorem wX:j3 X (binaryOp .Mult) mT:=by
 intro pins s σ H B da db d x y v u I hb rx ry ra rb hg
 unfold mT at hg
 split at hg
 ·obtain⟨h1,h2⟩:=R.bp hg
  cases h2
  have h1:=of_decide_eq_true h1
  exact GH pins s σ H x y v u _ I rx ry ⟨_,_,Rep.int.mp ra,Rep.int.mp rb,h1,a_.refl H,Rep.int.mpr rfl⟩
 ·obtain⟨h1,h2⟩:=R.bp hg
  cases h2
  have h1:=of_decide_eq_true h1
  exact EK pins s σ H x y v u _ I rx ry ⟨_,_,Rep.str.mp ra,Rep.int.mp rb,mulOk_of h1.1 h1.2.1 h1.2.2,a_.refl H,Rep.str.mpr rfl⟩
 ·cases hg
mutual
noncomputable def toPy:D→PyData
 | .cI=> .none
 | .bl b=> .bool b
 | .int i=> .int i
 | .str x=> .str x
 | .lst ds=> .list (kW ds)
 | .tup ds=> .tuple (kW ds)
 | .dct _ _=> .dict []
noncomputable def kW:List D→List PyData
 | []=>[]
 | d ::ds=>toPy d ::kW ds
end
mutual
noncomputable def eV:D→Bool
 | .dct _ _=>false
 | .lst ds=>jt ds
 | .tup ds=>jt ds
 | _=>true
noncomputable def jt:List D→Bool
 | []=>true
 | d ::ds=>eV d && jt ds
end
mutual
theorem Rep.reads{pins:List (Addr × Obj)}{σ:St}{H:Hp}{s:Shared}{B:List Addr}(I:Inv X pins σ H s):∀{d:D} {v:V} {u:Value},eV d=true→Rep X.K B H d v→RelV v u→∃as,Reads s.heap u (toPy d) as
 | .cI,v,u,_,r,q=>by rw[Rep.cI.mp r] at q;cases q;unfold toPy;exact⟨_, .none⟩
 | .bl b,v,u,_,r,q=>by rw[Rep.bl.mp r] at q;cases q;unfold toPy;exact⟨_, .bool b⟩
 | .int i,v,u,_,r,q=>by rw[Rep.int.mp r] at q;obtain⟨t,rfl⟩:=q;unfold toPy;exact⟨_, .int i t⟩
 | .str x,v,u,_,r,q=>by rw[Rep.str.mp r] at q;obtain⟨t,rfl⟩:=q;unfold toPy;exact⟨_, .str x t⟩
 | .lst ds,v,u,hp,r,q=>by
   obtain⟨a,xs,rfl,l,rs⟩:=Rep.lst.mp r
   cases q
   obtain⟨its,rv,⟨o,n,e,hc,hd,he⟩,_⟩:=I.list l.sq
   obtain⟨as,ra⟩:=aK.reads I (by unfold eV at hp;exact hp) rs rv
   unfold toPy
   exact⟨_, .list e hc he (by simpa using ra)⟩
 | .tup ds,v,u,hp,r,q=>by
   obtain⟨a,xs,rfl,l,rs⟩:=Rep.tup.mp r
   cases q
   obtain⟨its,rv,⟨o,e,hc,n,hd⟩,_⟩:=I.tuple l.sq
   obtain⟨as,ra⟩:=aK.reads I (by unfold eV at hp;exact hp) rs rv
   unfold toPy
   exact⟨_, .tuple e hc hd (by simpa using ra)⟩
 | .dct _ _,v,u,hp,r,q=>by unfold eV at hp;cases hp
theorem aK.reads{pins:List (Addr × Obj)}{σ:St}{H:Hp}{s:Shared}{B:List Addr}(I:Inv X pins σ H s):∀{ds:List D} {vs:List V} {us:List Value},jt ds=true→aK X.K B H ds vs→Vals vs us→∃as,ReadsAll s.heap us (kW ds) as
 | [],vs,us,_,r,q=>by unfold aK at r;subst r;cases q;unfold kW;exact⟨_, .nil⟩
 | d ::ds,vs,us,hp,r,q=>by
   obtain⟨x,xs,rfl,r1,r2⟩:=r.cA
   cases q with
   | cons q1 q2=>
     unfold jt at hp
     obtain⟨h1,h2⟩:=Bool.and_eq_true_iff.mp hp
     obtain⟨as,a1⟩:=Rep.reads I h1 r1 q1
     obtain⟨bs,a2⟩:=aK.reads I h2 r2 q2
     unfold kW
     exact⟨_, .cons a1 a2⟩
end
noncomputable def FJ:D→D→R Bool
 | .int i, .int j=> .ok (decide (i=j))
 | .str x, .str y=> .ok (decide (x=y))
 | .bl a, .bl b=> .ok (decide (a=b))
 | d,e=>R.cb (eV d && eV e && SeqAt.shaped (toPy d) && SeqAt.shaped (toPy e)) (.ok (PyData.eqv (toPy d) (toPy e)))
noncomputable def iV(d e:D):R D:=(FJ d e).bind fun b=> .ok (.bl b)
noncomputable def sV(d e:D):R D:=(FJ d e).bind fun b=> .ok (.bl (!b))
theorem g8(hu:X.A.units+64 < cLine):j3 X (compareOp .Eq) iV:=by
 intro pins s σ H B da db d x y v u I hb rx ry ra rb hg
 obtain⟨b,h1,h2⟩:=R.ao hg
 cases h2
 unfold FJ at h1
 split at h1
 ·cases h1
  rename_i i j
  have:=BU pins s σ H x y v u (fun z H'=>a_ H H'∧Rep X.K B H' (.bl (decide (i=j))) z) I rx ry
  rw[Rep.int.mp ra,Rep.int.mp rb] at this
  refine this ⟨rfl,a_.refl H,Rep.bl.mpr ?_⟩
  simp [V.int.injEq]
 ·cases h1
  rename_i i j
  have:=BU pins s σ H x y v u (fun z H'=>a_ H H'∧Rep X.K B H' (.bl (decide (i=j))) z) I rx ry
  rw[Rep.str.mp ra,Rep.str.mp rb] at this
  refine this ⟨rfl,a_.refl H,Rep.bl.mpr ?_⟩
  simp [V.str.injEq]
 ·cases h1
  rename_i i j
  have:=BU pins s σ H x y v u (fun z H'=>a_ H H'∧Rep X.K B H' (.bl (decide (i=j))) z) I rx ry
  rw[Rep.bl.mp ra,Rep.bl.mp rb] at this
  refine this ⟨rfl,a_.refl H,Rep.bl.mpr ?_⟩
  simp [V.bl.injEq]
 ·obtain⟨h3,h4⟩:=R.bp h1
  cases h4
  simp only[Bool.and_eq_true] at h3
  obtain⟨⟨⟨p1,p2⟩,s1⟩,s2⟩:=h3
  obtain⟨as,r1⟩:=ra.reads I p1 rx
  obtain⟨bs,r2⟩:=rb.reads I p2 ry
  exact eq_dataH r1 r2 s1 s2 hu ⟨.bl _,H,I,rfl,a_.refl H,Rep.bl.mpr rfl⟩
theorem Cg(hu:X.A.units+64 < cLine):j3 X (compareOp .NotEq) sV:=by
 intro pins s σ H B da db d x y v u I hb rx ry ra rb hg
 obtain⟨b,h1,h2⟩:=R.ao hg
 cases h2
 unfold FJ at h1
 split at h1
 ·cases h1
  rename_i i j
  have:=BD pins s σ H x y v u (fun z H'=>a_ H H'∧Rep X.K B H' (.bl (!decide (i=j))) z) I rx ry
  rw[Rep.int.mp ra,Rep.int.mp rb] at this
  refine this ⟨rfl,a_.refl H,Rep.bl.mpr ?_⟩
  simp [V.int.injEq]
 ·cases h1
  rename_i i j
  have:=BD pins s σ H x y v u (fun z H'=>a_ H H'∧Rep X.K B H' (.bl (!decide (i=j))) z) I rx ry
  rw[Rep.str.mp ra,Rep.str.mp rb] at this
  refine this ⟨rfl,a_.refl H,Rep.bl.mpr ?_⟩
  simp [V.str.injEq]
 ·cases h1
  rename_i i j
  have:=BD pins s σ H x y v u (fun z H'=>a_ H H'∧Rep X.K B H' (.bl (!decide (i=j))) z) I rx ry
  rw[Rep.bl.mp ra,Rep.bl.mp rb] at this
  refine this ⟨rfl,a_.refl H,Rep.bl.mpr ?_⟩
  simp [V.bl.injEq]
 ·obtain⟨h3,h4⟩:=R.bp h1
  cases h4
  simp only[Bool.and_eq_true] at h3
  obtain⟨⟨⟨p1,p2⟩,s1⟩,s2⟩:=h3
  obtain⟨as,r1⟩:=ra.reads I p1 rx
  obtain⟨bs,r2⟩:=rb.reads I p2 ry
  exact ne_dataH r1 r2 s1 s2 hu ⟨.bl _,H,I,rfl,a_.refl H,Rep.bl.mpr rfl⟩
noncomputable def strs?:List D→Option (List Str)
 | []=>some []
 | .str x ::ds=>(strs? ds).map (x ::·)
 | _ ::_=>none
theorem jZ{K:PySem.W.Frag}{B:List Addr}{H:Hp}:∀{ds:List D} {xs:List V} {ss:List Str},aK K B H ds xs→strs? ds=some ss→xs=ss.map V.str
 | [],xs,ss,r,h=>by unfold aK at r;subst r;cases h;rfl
 | d ::ds,xs,ss,r,h=>by
   obtain⟨x,r',rfl,r1,r2⟩:=r.cA
   cases d with
   | str z=>
     unfold strs? at h
     cases e:strs? ds with
     | none=>rw [e] at h;cases h
     | some tt=>
       rw[e] at h
       cases h
       rw[Rep.str.mp r1,jZ r2 e]
       rfl
   | _=>cases h
noncomputable def ints?:List D→Option (List Int)
 | []=>some []
 | .int x ::ds=>(ints? ds).map (x ::·)
 | _ ::_=>none
theorem gm{K:PySem.W.Frag}{B:List Addr}{H:Hp}:∀{ds:List D} {xs:List V} {ss:List Int},aK K B H ds xs→ints? ds=some ss→xs=ss.map V.int
 | [],xs,ss,r,h=>by unfold aK at r;subst r;cases h;rfl
 | d ::ds,xs,ss,r,h=>by
   obtain⟨x,r',rfl,r1,r2⟩:=r.cA
   cases d with
   | int z=>
     unfold ints? at h
     cases e:ints? ds with
     | none=>rw [e] at h;cases h
     | some tt=>
       rw[e] at h
       cases h
       rw[Rep.int.mp r1,gm r2 e]
       rfl
   | _=>cases h
noncomputable def inD(d e:D):R Bool:=match d,e with
 | .str x, .lst ds=>(match strs? ds with | some ss=> .ok (ss.contains x) | none=> .no)
 | .str x, .tup ds=>(match strs? ds with | some ss=> .ok (ss.contains x) | none=> .no)
 | .str x, .str y=> .ok (!(Builtin.Str.occurrences y x 0 y.length 1).isEmpty)
 | .int x, .lst ds=>(match ints? ds with | some ss=> .ok (ss.contains x) | none=> .no)
 | .int x, .tup ds=>(match ints? ds with | some ss=> .ok (ss.contains x) | none=> .no)
 | _,_=> .no
noncomputable def pZ(d e:D):R D:=(inD d e).bind fun b=> .ok (.bl b)
noncomputable def lg(d e:D):R D:=(inD d e).bind fun b=> .ok (.bl (!b))
theorem qK(x:Str):∀ss:List Str,FR (.str x) (ss.map V.str)=ss.contains x
 | []=>rfl
 | y ::ss=>by
   unfold FR
   rw[List.map_cons,List.any_cons]
   have ih:=qK x ss
   unfold FR at ih
   rw[ih]
   show(y==x || ss.contains x)=_
   rw[List.contains_cons]
   congr 1
   exact Bool.eq_iff_iff.mpr ⟨fun h=>by simpa using(beq_iff_eq.mp h).symm,fun h=>by simpa using(beq_iff_eq.mp h).symm⟩
theorem rX(x:Int):∀ss:List Int,FR (.int x) (ss.map V.int)=ss.contains x
 | []=>rfl
 | y ::ss=>by
   unfold FR
   rw[List.map_cons,List.any_cons]
   have ih:=rX x ss
   unfold FR at ih
   rw[ih]
   show(y==x || ss.contains x)=_
   rw[List.contains_cons]
   congr 1
   exact Bool.eq_iff_iff.mpr ⟨fun h=>by simpa using(beq_iff_eq.mp h).symm,fun h=>by simpa using(beq_iff_eq.mp h).symm⟩
theorem sY(ss:List Int):(ss.map V.int).all kY=true:=by
 rw[List.all_map]
 simp [List.all_eq_true,kY]
theorem tI(ss:List Str):(ss.map V.str).all kY=true:=by
 rw[List.all_map]
 simp [List.all_eq_true,kY]
theorem Ht{neg:Bool}{op:CmpOp}{g:D→D→R D}(h1:k6 X (compareOp op) (Lh X.K neg))(h2:k6 X (compareOp op) (fun x y H Q=>∃i j,x= .str i∧y= .str j∧Q (.bl (if neg then !(!(Builtin.Str.occurrences j i 0 j.length 1).isEmpty) else(!(Builtin.Str.occurrences j i 0 j.length 1).isEmpty))) H))
 (hg:∀d e r,g d e= .ok r→∃b,inD d e= .ok b∧r= .bl (if neg then !b else b)):j3 X (compareOp op) g:=by
 intro pins s σ H B da db d x y v u I hb rx ry ra rb hg'
 obtain⟨b,hi,rfl⟩:=hg da db d hg'
 unfold inD at hi
 split at hi
 ·rename_i z ds
  split at hi
  ·rename_i ss e
   cases hi
   obtain⟨a,xs,rfl,l,rs⟩:=Rep.lst.mp rb
   refine h1 pins s σ H x _ v u _ I rx ry ⟨a,xs,rfl, .inl l.sq,by rw[Rep.str.mp ra];rfl,by rw[jZ rs e];exact tI _,a_.refl H,Rep.bl.mpr ?_⟩
   rw[jZ rs e,Rep.str.mp ra,qK]
  ·cases hi
 ·rename_i z ds
  split at hi
  ·rename_i ss e
   cases hi
   obtain⟨a,xs,rfl,l,rs⟩:=Rep.tup.mp rb
   refine h1 pins s σ H x _ v u _ I rx ry ⟨a,xs,rfl, .inr l.sq,by rw[Rep.str.mp ra];rfl,by rw[jZ rs e];exact tI _,a_.refl H,Rep.bl.mpr ?_⟩
   rw[jZ rs e,Rep.str.mp ra,qK]
  ·cases hi
 ·cases hi
  exact h2 pins s σ H x y v u _ I rx ry ⟨_,_,Rep.str.mp ra,Rep.str.mp rb,a_.refl H,Rep.bl.mpr rfl⟩
 ·rename_i z ds
  split at hi
  ·rename_i ss e
   cases hi
   obtain⟨a,xs,rfl,l,rs⟩:=Rep.lst.mp rb
   refine h1 pins s σ H x _ v u _ I rx ry ⟨a,xs,rfl, .inl l.sq,by rw[Rep.int.mp ra];rfl,by rw[gm rs e];exact sY _,a_.refl H,Rep.bl.mpr ?_⟩
   rw[gm rs e,Rep.int.mp ra,rX]
  ·cases hi
 ·rename_i z ds
  split at hi
  ·rename_i ss e
   cases hi
   obtain⟨a,xs,rfl,l,rs⟩:=Rep.tup.mp rb
   refine h1 pins s σ H x _ v u _ I rx ry ⟨a,xs,rfl, .inr l.sq,by rw[Rep.int.mp ra];rfl,by rw[gm rs e];exact sY _,a_.refl H,Rep.bl.mpr ?_⟩
   rw[gm rs e,Rep.int.mp ra,rX]
  ·cases hi
 ·cases hi
theorem zX:j3 X (compareOp .In) pZ:=Ht (neg:=false) zM zW fun d e r h=>by
 obtain⟨b,h1,h2⟩:=R.ao h
 cases h2
 exact⟨b,h1,rfl⟩
noncomputable def cg(d e:D):R D:=match d,e with
 | .lst ds, .int i=>(match o_ ds i with | some x=> .ok x | none=> .no)
 | .tup ds, .int i=>(match o_ ds i with | some x=> .ok x | none=> .no)
 | .str x, .int i=>R.cb (decide (x.length≤sizeLine)) (match o_ x.cps.toList i with | some c=> .ok (.str ⟨#[c]⟩) | none=> .no)
 | _,_=> .no
theorem nQ{K:PySem.W.Frag}{B:List Addr}{H:Hp}{ds:List D}{xs:List V}{i:Int}{d:D}(r:aK K B H ds xs)(h:o_ ds i=some d):∃x,o_ xs i=some x∧Rep K B H d x:=by
 unfold o_ at h ⊢
 rw[←r.length]
 cases e:qp ds.length i with
 | none=>rw [e] at h;cases h
 | some j=>
   rw[e] at h
   exact r.get h
theorem IL{a b:Expr}{fa fb:FD}{pos:Pos}(ha:PD X a fa)(hb:PD X b fb)(hs:qj b):PD X (.Subscript a b pos) (e2 cg fa fb):=by
 refine(FW (r:=Kt X.K) CZ ha hb hs).imp fun σ H Q ⟨Z,B,δ,d,E,hf,q⟩=>?_
 obtain⟨d1,h1,h2⟩:=R.ao hf
 obtain⟨d2,h3,h4⟩:=R.ao h2
 refine⟨Z,B,δ,d1,E,h1,fun v1 H1 s1 r1=>⟨Z,B,δ,d2,E.same s1,h3,fun v2 H2 s2 r2=>?_⟩⟩
 have r1':=r1.same s2
 unfold cg at h4
 split at h4
 ·split at h4
  ·rename_i e
   cases h4
   obtain⟨p,xs,rfl,l,rs⟩:=Rep.lst.mp r1'
   obtain⟨y,e1,e2⟩:=nQ rs e
   exact .inl ⟨p,xs,_,y,rfl,Rep.int.mp r2,l.sq,e1,q y H2 (s1.trans s2) e2⟩
  ·cases h4
 ·split at h4
  ·rename_i e
   cases h4
   obtain⟨p,xs,rfl,l,rs⟩:=Rep.tup.mp r1'
   obtain⟨y,e1,e2⟩:=nQ rs e
   exact .inr (.inl ⟨p,xs,_,y,rfl,Rep.int.mp r2,l.sq,e1,q y H2 (s1.trans s2) e2⟩)
  ·cases h4
 ·obtain⟨hl,h5⟩:=R.bp h4
  split at h5
  ·rename_i e
   cases h5
   exact .inr (.inr ⟨_,_,_,Rep.str.mp r1',Rep.int.mp r2,of_decide_eq_true hl,e,q _ H2 (s1.trans s2) (Rep.str.mpr rfl)⟩)
  ·cases h5
 ·cases h4
noncomputable abbrev FO:=aw→R (Option Int)
noncomputable def Mt(K:PySem.W.Frag)(f:FO):TO:=fun σ H Q=>∃Z B δ o,ef K Z B H σ δ∧f δ= .ok o∧∀H',a_ H H'→Q o H'
theorem PO.imp{X:Cx}{e:Option Expr}{t t':TO}(h:PO X e t)(w:∀σ H Q,t' σ H Q→t σ H Q):PO X e t':=fun pins s σ H Q I hq=>h pins s σ H Q I (w σ H Q hq)
noncomputable abbrev PP(X:Cx)(e:Option Expr)(f:FO):Prop:=PO X e (Mt X.K f)
noncomputable def kP:FO:=fun _=> .ok none
noncomputable def iF(f:FD):FO:=fun δ=>(f δ).bind fun d=>match d with | .int i=> .ok (some i) | _=> .no
theorem Eb:PP X none kP:=DG.imp fun σ H Q ⟨Z,B,δ,o,E,hf,q⟩=>by cases hf;exact q H (a_.refl H)
theorem DZ{e:Expr}{f:FD}(h:PD X e f):PP X (some e) (iF f):=(Ei h).imp fun σ H Q ⟨Z,B,δ,o,E,hf,q⟩=>by
 obtain⟨d,h1,h2⟩:=R.ao hf
 cases d with
 | int i=>cases h2;exact⟨Z,B,δ, .int i,E,h1,fun v H1 s1 r1=>⟨i,Rep.int.mp r1,q H1 s1⟩⟩
 | _=>cases h2
theorem F8:HQ X (fun x lo hi H Q=>∃z,x= .str z∧z.length≤sizeLine∧Q (.str (Txt.slice z lo hi)) H):=by
 intro pins s σ H x v vl vu lo hi sl Q I rx hs pl pu h
 obtain⟨z,rfl,hz,q⟩:=h
 obtain⟨t,rfl⟩:=rx
 refine⟨"str",_,F.slot_str_getitem.lookup,typeIs_str _ _ _,?_⟩
 have fin:∀t' k,EP X pins σ Q (.str (Txt.slice z lo hi) t') {s with toks:=k}:=fun t' k=>⟨.str _,H,I.tok _,⟨_,rfl⟩,q⟩
 obtain⟨o,ho,hc,hd⟩:=hs
 cases pl with
 | none=>
   cases pu with
   | none=>exact wpAny_getItem_str_slice (l:=none) (u:=none) (st:=none) ⟨o,ho,hc,hd⟩ rfl (post_val_or_str ⟨Nat.le_trans (Txt.slice_le z _ _) hz,fin⟩)
   | int j u=>exact wpAny_getItem_str_slice (l:=none) (u:=some (j,u)) (st:=none) ⟨o,ho,hc,hd⟩ rfl (post_val_or_str ⟨Nat.le_trans (Txt.slice_le z _ _) hz,fin⟩)
 | int i t1=>
   cases pu with
   | none=>exact wpAny_getItem_str_slice (l:=some (i,t1)) (u:=none) (st:=none) ⟨o,ho,hc,hd⟩ rfl (post_val_or_str ⟨Nat.le_trans (Txt.slice_le z _ _) hz,fin⟩)
   | int j u=>exact wpAny_getItem_str_slice (l:=some (i,t1)) (u:=some (j,u)) (st:=none) ⟨o,ho,hc,hd⟩ rfl (post_val_or_str ⟨Nat.le_trans (Txt.slice_le z _ _) hz,fin⟩)
noncomputable def cutD{α:Type}(xs:List α)(lo hi:Option Int):List α:=(xs.drop (HT.sd xs.length 0 lo)).take (HT.sd xs.length xs.length hi - HT.sd xs.length 0 lo)
noncomputable def HB(d:D)(lo hi:Option Int):R D:=match d with
 | .str x=>R.cb (decide (x.length≤sizeLine)) (.ok (.str (Txt.slice x lo hi)))
 | .lst ds=> .ok (.lst (cutD ds lo hi))
 | _=> .no
theorem CP{K:PySem.W.Frag}{B:List Addr}{H:Hp}{ds:List D}{xs:List V}(r:aK K B H ds xs)(lo hi:Option Int):aK K B H (cutD ds lo hi) (xA xs lo hi):=by
 unfold cutD xA
 rw[←r.length]
 exact(r.drop _).take _
noncomputable def xV(f:FD)(fl fh:FO):FD:=fun δ=>(f δ).bind fun d=>(fl δ).bind fun lo=>(fh δ).bind fun hi=>HB d lo hi
theorem Jb{e:Expr}{lo hi:Option Expr}{f:FD}{fl fh:FO}{p2 pos:Pos}(he:PD X e f)(hl:PP X lo fl)(hh:PP X hi fh):PD X (.Subscript e (.Slice lo hi none p2) pos) (xV f fl fh):=by
 refine(CK (F8.or DC) he hl hh).imp fun σ H Q ⟨Z,B,δ,d,E,hf,q⟩=>?_
 obtain⟨d1,h1,h2⟩:=R.ao hf
 obtain⟨l,h3,h4⟩:=R.ao h2
 obtain⟨h,h5,h6⟩:=R.ao h4
 refine⟨Z,B,δ,d1,E,h1,fun v1 H1 s1 r1=>⟨Z,B,δ,l,E.same s1,h3,fun H2 s2=>⟨Z,B,δ,h,(E.same s1).same s2,h5,fun H3 s3=>?_⟩⟩⟩
 have sA:a_ H H3:=s1.trans (s2.trans s3)
 have r1':=r1.same (s2.trans s3)
 unfold HB at h6
 split at h6
 ·obtain⟨hz,h7⟩:=R.bp h6
  cases h7
  exact .inl ⟨_,Rep.str.mp r1',of_decide_eq_true hz,q _ H3 sA (Rep.str.mpr rfl)⟩
 ·cases h6
  obtain⟨a,xs,rfl,ls,rs⟩:=Rep.lst.mp r1'
  refine .inr ⟨a,xs,rfl,ls.sq,fun p hp=>q _ _ (sA.trans (aX hp)) (Rep.lst.mpr ⟨p,_,rfl, .t4 bf fun ha=>?_,(CP rs l h).same (aX hp)⟩)⟩
  obtain⟨o,ho⟩:=(E.same sA).bs p ha
  rw[hp] at ho;cases ho
 ·cases h6
end
end L2
end
section
set_option maxRecDepth 100000
set_option maxHeartbeats 4000000
namespace L2
open PySem PySem.Spec PyProof.Rows
section
variable {X:Cx}
theorem aK.one{K:PySem.W.Frag}{B:List Addr}{H:Hp}{d:D}{xs:List V}(h:aK K B H [d] xs):∃x,xs=[x]∧Rep K B H d x:=by
 obtain⟨x,r,rfl,h1,h2⟩:=h.cA
 unfold aK at h2
 subst h2
 exact⟨x,rfl,h1⟩
theorem aK.two{K:PySem.W.Frag}{B:List Addr}{H:Hp}{d e:D}{xs:List V}(h:aK K B H [d,e] xs):∃x y,xs=[x,y]∧Rep K B H d x∧Rep K B H e y:=by
 obtain⟨x,r,rfl,h1,h2⟩:=h.cA
 obtain⟨y,rfl,h3⟩:=h2.one
 exact⟨x,y,rfl,h1,h3⟩
noncomputable def cP:List D→R D
 | [.str x]=>R.cb (decide (x.length≤sizeLine)) (.ok (.int x.length))
 | [.lst ds]=> .ok (.int ds.length)
 | [.tup ds]=> .ok (.int ds.length)
 | _=> .no
theorem df:cW X (.builtin "len") cP:=cW.of Ba fun B H ds d xs Q _ rs hg q=>by
 unfold cP at hg
 split at hg
 ·obtain⟨h1,h2⟩:=R.bp hg
  cases h2
  obtain⟨x,rfl,r⟩:=rs.one
  exact⟨x,_,rfl,by rw[Rep.str.mp r];exact⟨of_decide_eq_true h1,rfl⟩,q _ H (a_.refl H) (Rep.int.mpr rfl)⟩
 ·cases hg
  obtain⟨x,rfl,r⟩:=rs.one
  obtain⟨a,ys,rfl,l,r⟩:=Rep.lst.mp r
  exact⟨_,_,rfl, .inl ⟨ys,l.sq,rfl⟩,q _ H (a_.refl H) (Rep.int.mpr (by rw[r.length]))⟩
 ·cases hg
  obtain⟨x,rfl,r⟩:=rs.one
  obtain⟨a,ys,rfl,l,r⟩:=Rep.tup.mp r
  exact⟨_,_,rfl, .inr ⟨ys,l.sq,rfl⟩,q _ H (a_.refl H) (Rep.int.mpr (by rw[r.length]))⟩
 ·cases hg
noncomputable def cInt:List D→R D
 | [.int i]=> .ok (.int i)
 | [.bl b]=> .ok (.int (if b then 1 else 0))
 | _=> .no
theorem IM:cW X (.type "int") cInt:=cW.of Aj fun B H ds d xs Q _ rs hg q=>by
 unfold cInt at hg
 split at hg
 ·cases hg
  obtain⟨x,rfl,r⟩:=rs.one
  exact .inl ⟨_,by rw[Rep.int.mp r],q _ H (a_.refl H) (Rep.int.mpr rfl)⟩
 ·cases hg
  obtain⟨x,rfl,r⟩:=rs.one
  exact .inr ⟨_,by rw[Rep.bl.mp r],q _ H (a_.refl H) (Rep.int.mpr rfl)⟩
 ·cases hg
noncomputable def cStr:List D→R D
 | [.int i]=>R.cb (decide (i.natAbs.log2 < 1920)) (.ok (.str (toString i)))
 | _=> .no
noncomputable def rW:List D→R D
 | [.int i, .int j]=> .ok (.int (if j < i then j else i))
 | _=> .no
theorem Jp(hc:X.calm=true):cW X (.builtin "min") rW:=cW.of (Az hc) fun B H ds d xs Q _ rs hg q=>by
 unfold rW at hg
 split at hg
 ·cases hg
  obtain⟨x,y,rfl,r1,r2⟩:=rs.two
  exact⟨_,_,by rw[Rep.int.mp r1,Rep.int.mp r2],q _ H (a_.refl H) (Rep.int.mpr rfl)⟩
 ·cases hg
noncomputable def Hn:List D→R D
 | [.int i, .int j]=> .ok (.int (if j > i then j else i))
 | _=> .no
theorem Jv(hc:X.calm=true):cW X (.builtin "max") Hn:=cW.of (zV hc) fun B H ds d xs Q _ rs hg q=>by
 unfold Hn at hg
 split at hg
 ·cases hg
  obtain⟨x,y,rfl,r1,r2⟩:=rs.two
  exact⟨_,_,by rw[Rep.int.mp r1,Rep.int.mp r2],q _ H (a_.refl H) (Rep.int.mpr rfl)⟩
 ·cases hg
noncomputable def fY:List D→R D
 | [.lst ds]=> .ok (.tup ds)
 | [.tup ds]=> .ok (.tup ds)
 | _=> .no
theorem qi:cW X (.type "tuple") fY:=cW.of sE fun B H ds d xs Q hb rs hg q=>by
 unfold fY at hg
 split at hg
 ·cases hg
  obtain⟨x,rfl,r⟩:=rs.one
  obtain⟨a,ys,rfl,l,r⟩:=Rep.lst.mp r
  refine⟨a,ys,rfl, .inl ⟨l.sq,fun p hp=>q _ _ (aX hp) (Rep.tup.mpr ⟨p,ys,rfl, .inl ⟨fun ha=>?_, .inl bf⟩,r.same (aX hp)⟩)⟩⟩
  obtain⟨o,ho⟩:=hb p ha
  rw[hp] at ho;cases ho
 ·cases hg
  obtain⟨x,rfl,r⟩:=rs.one
  have r0:=r
  obtain⟨a,ys,rfl,l,r⟩:=Rep.tup.mp r
  exact⟨a,ys,rfl, .inr ⟨l.sq,q _ H (a_.refl H) r0⟩⟩
 ·cases hg
noncomputable def j1:List D→R D
 | [.lst ds]=> .ok (.lst ds)
 | [.tup ds]=> .ok (.lst ds)
 | _=> .no
theorem xw:cW X (.type "list") j1:=cW.of uV fun B H ds d xs Q hb rs hg q=>by
 unfold j1 at hg
 split at hg
 ·cases hg
  obtain⟨x,rfl,r⟩:=rs.one
  obtain⟨a,ys,rfl,l,r⟩:=Rep.lst.mp r
  refine⟨a,ys,rfl, .inl l.sq,fun p hp=>q _ _ (aX hp) (Rep.lst.mpr ⟨p,ys,rfl, .t4 bf fun ha=>?_,r.same (aX hp)⟩)⟩
  obtain⟨o,ho⟩:=hb p ha
  rw[hp] at ho;cases ho
 ·cases hg
  obtain⟨x,rfl,r⟩:=rs.one
  obtain⟨a,ys,rfl,l,r⟩:=Rep.tup.mp r
  refine⟨a,ys,rfl, .inr l.sq,fun p hp=>q _ _ (aX hp) (Rep.lst.mpr ⟨p,ys,rfl, .t4 bf fun ha=>?_,r.same (aX hp)⟩)⟩
  obtain⟨o,ho⟩:=hb p ha
  rw[hp] at ho;cases ho
 ·cases hg
noncomputable def cAbs:List D→R D
 | [.int i]=> .ok (.int (if i < 0 then -i else i))
 | _=> .no
theorem IB:cW X (.builtin "abs") cAbs:=cW.of Co fun B H ds d xs Q _ rs hg q=>by
 unfold cAbs at hg
 split at hg
 ·cases hg
  obtain⟨x,rfl,r⟩:=rs.one
  exact⟨_,by rw[Rep.int.mp r],q _ H (a_.refl H) (Rep.int.mpr rfl)⟩
 ·cases hg
noncomputable def Dl:List D→R D
 | [.lst ds]=>(match ints? ds with | some ns=> .ok (.int ns.sum) | none=> .no)
 | _=> .no
theorem g_:∀{ns:List Int} {us:List Value},Vals (ns.map V.int) us→∃l:List (Int × Tok),us=l.map (fun p=>Value.int p.1 p.2)∧l.map (·.1)=ns
 | [],_, .nil=>⟨[],rfl,rfl⟩
 | n ::ns,_, .cons r t=>by
   obtain⟨l,rfl,e⟩:=g_ t
   obtain⟨tk,rfl⟩:=r
   exact⟨(n,tk) ::l,rfl,by rw[List.map_cons,e]⟩
theorem BN(hc:X.calm=true):cW X (.builtin "sum") Dl:=by
 intro pins s σ H B ds d xs us I hb rx rs hg
 unfold Dl at hg
 split at hg
 ·split at hg
  ·rename_i es ns e
   cases hg
   obtain⟨x,rfl,r⟩:=rs.one
   obtain⟨a,ys,rfl,l,r⟩:=Rep.lst.mp r
   obtain⟨u,rfl,ru⟩:=vals1 rx
   cases ru
   obtain⟨its,n,rv,e1,hz⟩:=I.Ho l
   rw[gm r e] at rv
   obtain⟨ps,rfl,rfl⟩:=g_ rv
   have hl:s.heap.IsList a (intItems ps.toArray):=⟨_,e1,rfl,n,by simp [intItems]⟩
   refine sum_intListG (I.ok.hd hc) hl fun h' tk t' k=>⟨.int _,H,I.kept k,⟨t',rfl⟩,a_.refl H,Rep.int.mpr ?_⟩
   rw[preSum_eq,List.take_of_length_le (by simp)]
  ·cases hg
 ·cases hg
noncomputable def tyName:D→String
 | .cI=>"NoneType" | .bl _=>"bool" | .int _=>"int" | .str _=>"str" | .lst _=>"list" | .tup _=>"tuple" | .dct _ _=>"dict"
noncomputable def vw(T:String)(f:FD):FD:=fun δ=>(f δ).bind fun d=>R.cb (tyName d==T && d.atom) (.ok (.bl true))
noncomputable def JY(X:Cx)(id:String)(g:D→List D→R D):Prop:=
 ∀(pins:List (Addr × Obj)) (s:Shared) (σ:St) (H:Hp) (B:List Addr) (da d:D) (ds:List D) (x:V) (xs:List V) (v:Value) (us:List Value),Inv X pins σ H s→(∀a∈B,∃o,H a=some o)→RelV x v→Vals xs us→Rep X.K B H da x→aK X.K B H ds xs→g da ds= .ok d→
  wpAny (model X.prog X.w) X.A (call (.builtin id) (v ::us)) (EP X pins σ fun z H'=>a_ H H'∧Rep X.K B H' d z) X.xe s
noncomputable def z_(T:String)(g:D→List D→R D)(f:FD)(fs:aw→R (List D)):FD:=fun δ=>(f δ).bind fun d=>R.cb (tyName d==T && (d.atom || T=="list")) ((fs δ).bind fun ds=>g d ds)
theorem JY.r{id:String}{g:D→List D→R D}(h:JY X id g):Lp X id (fun x xs H Q=>∃B da ds d,(∀a∈B,∃o,H a=some o)∧Rep X.K B H da x∧aK X.K B H ds xs∧g da ds= .ok d∧∀z H',a_ H H'→Rep X.K B H' d z→Q z H'):=by
 intro pins s σ H x xs v us Q I rx rxs ⟨B,da,ds,d,hb,ra,rs,hg,q⟩
 exact dY (h pins s σ H B da d ds x xs v us I hb rx rxs ra rs hg) fun z s' ⟨zv,H',I',r',s1,r1⟩=>⟨zv,H',I',r',q zv H' s1 r1⟩
theorem I0{T id:String}{name:Str}{g:D→List D→R D}{o e:Expr}{es:List Expr}{f:FD}{fs:aw→R (List D)}{apos cpos:Pos}(pa:PlainAttrs T)(slot:Slot T name id)(hty:typeOf (.builtin id)=pure (.type "method_descriptor"))(hm:JY X id g)(ho:PD X o f)(ha:Ct X (e ::es) fs)
 (hT:T="str"∨T="int"∨T="list")
 (hbase:attributeBase o name X.env (eval o X.env)=eval o X.env:=by rfl)
 (hfew:((backTo cpos (starEach (e ::es) X.env)).all (fun x=>!x.1) && (backToKw cpos (keywordEach [] X.env)).all (fun x=>x.1.isSome)
   && decide ((e ::es).length+([]:List Keyword).length+(if([]:List Keyword).isEmpty then 0 else 1) < 30))=true:=by rfl)
 (hline:(apos.endLine==cpos.line)=true:=by rfl) (hs:starEach (e ::es) X.env=(false,eval e X.env) ::starEach es X.env:=by rfl) (hplain:(backTo cpos (starEach es X.env)).any (·.1)=false:=by rfl) :
 PD X (.Call (.Attribute o name apos) (e ::es) [] cpos) (z_ T g f fs):=by
 refine(A3 pa slot hty hm.r ho ha hbase hfew hline hs hplain).imp fun σ H Q ⟨Z,B,δ,d,E,hf,q⟩=>?_
 obtain⟨d1,h1,h2⟩:=R.ao hf
 obtain⟨h3,h4⟩:=R.bp h2
 obtain⟨ds,h5,h6⟩:=R.ao h4
 obtain⟨h7,h8⟩:=Bool.and_eq_true_iff.mp h3
 have h7:tyName d1=T:=by simpa using h7
 refine⟨Z,B,δ,d1,E,h1,fun v1 H1 s1 r1=>⟨?_,Z,B,δ,ds,E.same s1,h5,fun vs H2 s2 r2=>⟨B,d1,ds,d,(E.same (s1.trans s2)).bs,r1.same s2,r2,h6,fun z H' s3 r3=>q z H' (s1.trans (s2.trans s3)) r3⟩⟩⟩
 cases d1 with
 | str z=>rw [Rep.str.mp r1];exact h7.symm
 | int i=>rw [Rep.int.mp r1];exact h7.symm
 | lst es=>obtain⟨a,xs,rfl,l,_⟩:=Rep.lst.mp r1;exact .inl ⟨h7.symm,xs,l.sq⟩
 | cI=>rcases hT with z | z | z <;> (rw [z] at h7;exact absurd (show("NoneType":String)=_ from h7) (by decide))
 | bl _=>rcases hT with z | z | z <;> (rw [z] at h7;exact absurd (show("bool":String)=_ from h7) (by decide))
 | tup _=>rcases hT with z | z | z <;> (rw [z] at h7;exact absurd (show("tuple":String)=_ from h7) (by decide))
 | dct _ _=>rcases hT with z | z | z <;> (rw [z] at h7;exact absurd (show("dict":String)=_ from h7) (by decide))
noncomputable def LI(d:D)(ds:List D):R D:=match d,ds with
 | .str sep,[.lst es]=>(match strs? es with | some ss=>R.cb (JoinOk sep ss) (.ok (.str (Str.join sep ss))) | none=> .no)
 | _,_=> .no
noncomputable abbrev PJ(X:Cx)(es:List Expr)(f:aw→R (List Str)):Prop:=
 ∀(pins:List (Addr × Obj)) (s:Shared) (σ:St) (H:Hp) (Z B:List Addr) (δ:aw) (acc:Str) (ss:List Str) (Q:VK),Inv X pins σ H s→ef X.K Z B H σ δ→f δ= .ok ss→(ss.foldl (·++·) acc).length≤sizeLine→(∀H',a_ H H'→Q (.str (ss.foldl (·++·) acc)) H')→
  wpAny (model X.prog X.w) X.A (joinParts acc (evalEach es X.env)) (EP X pins σ Q) X.xe s
noncomputable def vK:aw→R (List Str):=fun _=> .ok []
noncomputable def pS(f:FD)(g:aw→R (List Str)):aw→R (List Str):=fun δ=>(f δ).bind fun d=>match d with | .str x=>(g δ).bind fun ss=> .ok (x ::ss) | _=> .no
noncomputable def jy(g:aw→R (List Str)):FD:=fun δ=>(g δ).bind fun ss=>R.cb (decide ((ss.foldl (·++·) Str.empty).length≤sizeLine)) (.ok (.str (ss.foldl (·++·) Str.empty)))
noncomputable def t_:D→R D
 | .str x=>R.cb (decide (x.length≤sizeLine)) (.ok (.str x))
 | .int i=>R.cb (decide (i.natAbs.log2 < 1920)) (.ok (.str (toString i)))
 | _=> .no
noncomputable def vO(f:FD):FD:=fun δ=>(f δ).bind t_
noncomputable def JM:List (D × D)→Str→R (Option D)
 | [],_=> .ok none
 | (.str y,d) ::r,x=>(JM r x).bind fun o=> .ok (match o with | some e=>some e | none=>if y=x then some d else none)
 | _ ::_,_=> .no
noncomputable def Iz(x:Str):List D:=x.cps.toList.map fun c=> .str ⟨#[c]⟩
noncomputable def M3(x:Str):It:=⟨fun i _=>i < x.cps.size,fun i H v H'=>H'=H∧∃c,x.cps[i]? =some c∧v= .str ⟨#[c]⟩,fun i _=>x.cps.size≤i⟩
noncomputable def Ls(f:FD):aw→R (List D):=fun δ=>(f δ).bind fun d=>match d with | .str x=> .ok (Iz x) | _=> .no
noncomputable def Ml(K:PySem.W.Frag)(a:Addr):It:=
 ⟨fun i H=>∃xs x,ny K H a xs∧xs[i]? =some x,fun i H v H'=>∃p x,H p=none∧v= .ref p∧(∀xs,ny K H a xs→xs[i]? =some x)∧H'=upd H p (.tup [.int i,x]),fun i H=>∃xs,ny K H a xs∧xs.length≤i⟩
theorem Ai{P:Program}{w:World}{K:PySem.W.Frag}{elts:List Expr}{k:Nat}{pos:Pos}(a e it:Addr)(hei:e≠it):Turn P w K (.Tuple elts k pos) (Ml K a) [e,it] e (fun i h=>(∃old,IsEnum h e it ((i:Nat):Int) old)∧h.IsListIter it a i) where
 mem:=by simp
 obj:=fun i h st b hb=>by
  obtain⟨⟨old,he⟩,o,ho,c,d⟩:=st
  rcases List.mem_cons.mp hb with rfl | hb
  ·exact⟨_,he,fun v z=>by cases z⟩
  ·have e:b=it:=by simpa using hb
   subst e
   exact⟨o,ho,fun v z=>by rw[d] at z;cases z⟩
 keep:=fun i h h' st k=>by
  obtain⟨⟨old,he⟩,hi⟩:=st
  exact⟨⟨old,k e (by simp) _ he⟩,hi.at fun o x=>k it (by simp) o x⟩
 item:=by
  intro X hP hw hK hc i pins s σ H E I hf st hg
  subst hP hw hK
  obtain⟨xs,x,hq,hx⟩:=hg
  obtain⟨its,rv,p,hz⟩:=I.list hq
  obtain⟨u,hu,ru⟩:=rv.get hx
  obtain⟨⟨old,he⟩,hit⟩:=st
  obtain⟨f0,f1,f2,f3,f4,f5⟩:=hf e (by simp)
  obtain⟨g0,g1,g2,g3,g4,g5⟩:=hf it (by simp)
  refine wpAny_pyNext_enum_item he hit p.isList (x:=u) (by simpa using hu) hei fun h₁ heo hit₁ ht₁ hz₁ hk₁=>⟨_,rfl,?_⟩
  refine wpAny_letOwnedTupleGo_enum heo fun h₂ he₂ hs₂=>?_
  replace hs₂:Heap.SameBut e h₁ h₂:=hs₂
  have hel:e < s.heap.objs.size:=Heap.lt_size he
  have ht₂:h₂.get? s.heap.objs.size=some {cls:= .type "tuple",data:= .seq #[.int i s.toks,u]}:=(hs₂.2 _ (Nat.ne_of_gt hel)).trans ht₁
  have kk:∀b o,b≠e→b≠it→s.heap.get? b=some o→h₂.get? b=some o:=fun b o h1 h2 q=>(hs₂.2 b h1).trans (hk₁ b o h1 h2 q)
  have hn:H s.heap.objs.size=none:=I.fresh
  have sm:a_ H (upd H s.heap.objs.size (.tup [.int i,x])):=aX hn
  have nit:∀b o,H b=some o→b≠e∧b≠it:=fun b o q=>⟨fun z=>(by rw[z,f0] at q;cases q),fun z=>(by rw[z,g0] at q;cases q)⟩
  have hok:mG X.prog X.w (upd H s.heap.objs.size (.tup [.int i,x])) h₂:=fun b ob q=>by
   by_cases hb:b=s.heap.objs.size
   ·subst hb
    rw[bf] at q
    cases q
    exact⟨by show 2≤sizeLine;decide,[.int i s.toks,u], .cons ⟨_,rfl⟩ (.cons ru .nil),⟨_,ht₂,rfl,_,rfl⟩⟩
   ·rw[br hb] at q
    refine(I.hok b ob q).uR (fun c v hc z=>?_) (fun c z=>sm c _ z) fun c ys z=>sm c _ z
    rcases hc with rfl | hc
    ·exact kk c v (nit c _ q).1 (nit c _ q).2 z
    ·exact kk c v (nit c _ hc).1 (nit c _ hc).2 z
  have nch:∀b,b ∉ [e,it]→b≠e∧b≠it:=fun b hb=>⟨fun z=>hb (by simp [z]),fun z=>hb (by simp [z])⟩
  have I2:Inv X pins σ (upd H s.heap.objs.size (.tup [.int i,x])) {s with heap:=h₂,toks:=s.toks+1}:=by
   refine I.step (g':=s.gens) (d':=s.drawn) (ch:=[e,it]) (fun b hb=>?_) (fun b o _ _ hb q _=>kk b o (nch b hb).1 (nch b hb).2 q) (fun b o _ _ hb q _=>⟨o.slots,kk b o (nch b hb).1 (nch b hb).2 q⟩)
    (fun b o hb q n=>by rw[br (Nat.ne_of_lt (Heap.lt_size q))];exact n) (fun b o hb q=>⟨o,kk b o (nch b hb).1 (nch b hb).2 q⟩) (fun b ys z=>sm b _ z) (fun b o u z=>sm b _ z) (fun b ps z=>⟨#[],by rw[sm b _ z];simp⟩) (fun m hm=>?_) hok I.bare
   ·rcases List.mem_cons.mp hb with rfl | hb
    ·exact⟨f3,f1,f4,f5⟩
    ·have z:b=it:=by simpa using hb
     subst z
     exact⟨g3,g1,g4,g5⟩
   ·obtain⟨o,es,ep,ho,r⟩:=hm
    exact⟨o,es,ep,kk _ o (Ne.symm f1) (Ne.symm g1) ho,r⟩
  refine⟨.ref s.heap.objs.size,_,I2,rfl,⟨s.heap.objs.size,x,hn,rfl,fun ys hy=>(by rw[I.ox hy hq];exact hx),rfl⟩,⟨⟨_,by simpa using he₂⟩,hit₁.at fun o q=>(hs₂.2 it (Ne.symm hei)).trans q⟩,fun b hb=>?_⟩
  rcases List.mem_cons.mp hb with rfl | hb
  ·rw[br (Nat.ne_of_lt hel)];exact f0
  ·have z:b=it:=by simpa using hb
   subst z
   obtain⟨o,ho,_⟩:=hit
   rw[br (Nat.ne_of_lt (Heap.lt_size ho))];exact g0
 done:=by
  intro X hP hw hK hc i pins s σ H E I hf st hg
  subst hP hw hK
  obtain⟨xs,hq,hx⟩:=hg
  obtain⟨its,rv,p,hz⟩:=I.list hq
  obtain⟨⟨old,he⟩,hit⟩:=st
  obtain⟨g0,g1,g2,g3,g4,g5⟩:=hf it (by simp)
  have hl:=rv.length
  exact wpAny_pyNext_enum_end (I.ok.hd hc) he hit p.isList (by simp;omega) fun h' eb=>⟨rfl,I.turned (t':=s.toks) (fun b o hb q=>eb b o hb q) g0 g1 g3 g4 g5⟩
 self:=fun A i s Q E st h=>let⟨⟨_,he⟩,_⟩:=st;wpAny_pyIter_enum he h
noncomputable def dH(ds:List D):List D:=ds.zipIdx.map fun p=> .tup [.int p.2,p.1]
noncomputable def jb(f:FD):aw→R (List D):=fun δ=>(f δ).bind fun d=>match d with | .lst ds=> .ok (dH ds) | _=> .no
theorem u_{elts:List Expr}{k:Nat}{tpos:Pos}{a:Expr}{f:FD}{p pos:Pos}(h:PD X a f)(hg:Gl X "enumerate")(hm:X.mg "enumerate"=none)(hs:starEach [a] X.env=[(false,eval a X.env)]:=by rfl):Gb X (.Tuple elts k tpos) (.Call (.Name "enumerate" p) [a] [] pos) (jb f):=by
 intro pins s σ H RR I ⟨Z,B,δ,ds,E,hf,q⟩
 obtain⟨d,h1,h2⟩:=R.ao hf
 have hA:=eA h iA hs pos pins s σ H (fun vs H1=>a_ H H1∧∃v,vs=[v]∧Rep X.K B H1 d v) I ⟨Z,B,δ,d,E,h1,fun v H1 s1 r1=>⟨s1,v,rfl,r1⟩⟩
 refine Call_ (jN I hg hm boot_enumerate (PyProof.Rows.callWith_type1 (dY hA fun us s1 ⟨vs,H1,I1,r1,ss,v,ev,rr⟩=>?_) hs rfl))
 subst ev
 obtain⟨u,rfl,ru⟩:=vals1 r1
 cases d with
 | lst es=>
   cases h2
   obtain⟨b,xs,rfl,l,rs⟩:=Rep.lst.mp rr
   cases ru
   obtain⟨its,n,rv,e1,hz⟩:=I1.Ho l
   refine call_enumerate_list (items:=its.toArray) ⟨_,e1,rfl,n,rfl⟩ fun h' he hit hsz kk=>wpAny_pyIter_enum he ?_
   have I2:Inv X pins σ H1 {s1 with heap:=h'}:=I1.kept (t':=s1.toks) kk
   refine⟨s1.heap.objs.size+1,[s1.heap.objs.size+1,s1.heap.objs.size],_,_,H1,rfl,I2,Ai b (s1.heap.objs.size+1) s1.heap.objs.size (Nat.succ_ne_self _),⟨⟨_,he⟩,hit⟩,fun c hc=>?_,q _ H1 ss fun B' H' pr=>?_⟩
   ·have hle:s1.heap.objs.size≤c:=by
     rcases List.mem_cons.mp hc with z | hc
     ·rw[z];exact Nat.le_succ _
     ·have z:c=s1.heap.objs.size:=by simpa using hc
      rw[z];exact Nat.le_refl _
    exact I1.qC hle (I1.hok.fresh hle)
   ·have l':r_ X.K B' H' b xs:=l.bx pr
    have rs':=rs.bx pr
    refine⟨fun i d hd=>?_,⟨xs,l'.sq,by rw[←rs.length];unfold dH;simp⟩⟩
    unfold dH at hd
    rw[List.getElem?_map,List.getElem?_zipIdx] at hd
    cases e:es[i]? with
    | none=>rw [e] at hd;cases hd
    | some d0=>
      rw[e] at hd
      have hd:D.tup [.int ((0+i:Nat):Int),d0]=d:=Option.some.inj hd
      rw[Nat.zero_add] at hd
      obtain⟨x,hx,rx⟩:=rs'.get e
      refine⟨⟨xs,x,l'.sq,hx⟩,fun v H'' y hB'=>?_⟩
      obtain⟨p,y,hp,rfl,hy,rfl⟩:=y
      refine⟨aX hp,?_⟩
      subst hd
      have hy2:=hy xs l'.sq
      rw[hx] at hy2
      cases hy2
      refine Rep.tup.mpr ⟨p,_,rfl, .inl ⟨fun ha=>?_, .inl bf⟩,aK.cons (Rep.int.mpr rfl) (aK.cons (rx.same (aX hp)) aK.nil)⟩
      obtain⟨o,ho⟩:=hB' p ha
      rw[hp] at ho;cases ho
 | _=>cases h2
end
end L2
end
section
set_option maxRecDepth 100000
set_option maxHeartbeats 4000000
namespace L2
open PySem PySem.Spec PyProof.Rows
noncomputable def Def(K:PySem.W.Frag)(mg:Str→Option Value)(x:Str)(st:Stmt):Prop:=∃f fd,yW K x x st f fd∧mg x=some (.ref f)
noncomputable def Callee(P:Program)(w:World)(K:PySem.W.Frag)(mg:Str→Option Value)(base:Heap)(k:Nat)(x:Str)(n:Nat)(g:List D→R D):Prop:=
 ∃f fd ps,iQ P w K mg base si k f fd ps (Bf K n g)∧mg x=some (.ref f)∧PySem.W.keepIn K (.ref f)=true∧Binds K fd ps []
theorem bX:∀(δ:aw) (ds:List D),aD δ= .ok ds→ds.length=0:=fun δ ds h=>by cases h;rfl
theorem aC{f:FD}{g:aw→R (List D)}{n:Nat}(h:∀(δ:aw) (ds:List D),g δ= .ok ds→ds.length=n):∀(δ:aw) (ds:List D),aq f g δ= .ok ds→ds.length=n+1:=fun δ ds e=>by
 obtain⟨d,h1,h2⟩:=R.ao e
 obtain⟨es,h3,h4⟩:=R.ao h2
 cases h4
 rw[List.length_cons,h δ es h3]
theorem A5{P:Program}{w:World}{K:PySem.W.Frag}{mg:Str→Option Value}{base:Heap}{x qual:Str}{st:Stmt}{f:Addr}{fd:FuncData}{N ps:List Str}{k:Nat}{F:FS}{b:List Stmt}{sc:Scope}(hb:ak st=b)(hs:af st=sc)(Fn:yW K x qual st f fd)(S:aZ N ps sc)
 (hbody:∀(cdv:Value) (A:Around) (outer:List Env) (s:Shared) (H:Hp) (E:XK),eQ k (A.deeper (envOfC qual sc s.heap.objs.size f cdv))→
   p9 (qX si P w K mg base N qual sc f cdv A outer s H E).Fj b F):iQ P w K mg base si (k+1) f fd ps (Bf K ps.length (lL N F)):=by
 subst hb hs
 exact DH Fn S hbody
section
variable {X:Cx}
theorem Dm{g:List D→R D}{k j n:Nat}{x:Str}{p pos:Pos}{e:Expr}{es:List Expr}{fs:aw→R (List D)}(C:Callee X.prog X.w X.K X.mg X.base k x n g)(hr:eQ j X.A)(hkj:k≤j)(hg:Gl X x)(ha:Ct X (e ::es) fs)
 (hn:∀δ ds,fs δ= .ok ds→ds.length=n) (hdb:(x==("__debug__":Str))=false:=by decide) (he:starEach (e ::es) X.env=(false,eval e X.env) ::starEach es X.env:=by rfl) (hpl:(backTo pos (starEach es X.env)).any (·.1)=false:=by rfl) :
 PD X (.Call (.Name x p) (e ::es) [] pos) (aG g fs):=by
 obtain⟨f,fd,ps,F,hm,hk,hb⟩:=C
 exact Eg F (hr.mono hkj) hg hm hk hb ha hn hdb he hpl
noncomputable def Jg(sc:Scope)(N:List Str)(scope:Scope)(kp:List Nat)(kn:List Str):Bool:=
 decide (scope.kind= .function) && scope.names.all (fun y=>decide (y.2≠ .cell)) && scope.names.all (fun y=>decide (y.2= .local→scope.names.lookup y.1=some .local))
  && scope.names.all (fun y=>decide (y.2= .free→(sc.names.lookup y.1=some .cell∨sc.names.lookup y.1=some .free))) && decide (kn.length=kp.length)
  && (List.range kp.length).all (fun j=>decide ((kp[j]?).bind (N[·]?)=kn[j]?)) && kn.all (fun x=>decide (scope.names.lookup x=some .free))
theorem cD.of{scope:Scope}{own:List Str}{kp:List Nat}{kn:List Str}{sc:Scope}{N:List Str}(h1:X.env.scope=sc)(h2:X.N=N)(h:Jg sc N scope kp kn=true):cD X scope own kp kn:=by
 unfold Jg at h
 simp only[Bool.and_eq_true,decide_eq_true_eq,List.all_eq_true] at h
 obtain⟨⟨⟨⟨⟨⟨a1,a2⟩,a3⟩,a4⟩,a5⟩,a6⟩,a7⟩:=h
 refine⟨a1,a2,a3,fun y hy hf=>?_,a5,fun j i x hj hx=>?_,a7⟩
 ·have:=a4 y hy hf
  unfold Env.kindOf
  rw[h1]
  exact this
 ·have hlt:j < kp.length:=(List.getElem?_eq_some_iff.mp hj).1
  have:=a6 j (List.mem_range.mpr hlt)
  rw[hj] at this
  rw[h2]
  exact this.trans hx
noncomputable def HA(kvs:List (Key × V))(f g:FD):FD:=fun δ=>(f δ).bind fun k=>(g δ).bind fun d=>match k with
 | .str x=>(match lI (jI [] kvs) (Sum.inr x) with | some (.int i)=> .ok (.int i) | none=> .ok d | _=> .no)
 | _=> .no
theorem Hf{keys:List (Option Expr)}{values:List Expr}{trs:List (TE × TE)}{dpos apos cpos:Pos}{e f:Expr}{fe ff:FD}{kvs:List (Key × V)}(hu:X.A.units+1 < cLine)(h:HY X dpos keys values trs)(hall:keys.all (·.isSome)=true)(hl:keys.length=values.length)(h0:keys≠[])
 (hc:∀σ H Q,Q (kvs.map fun kv=>(kV kv.1,kv.2)) H→qQ trs σ H Q) (hlen:kvs.length≤15) (he:PD X e fe) (hf:PD X f ff) (m:M2 X (.Dict keys values dpos) "get" apos e f cpos)
 (hd:PE X (.Dict keys values dpos) (Ck trs)):PD X (.Call (.Attribute (.Dict keys values dpos) "get" apos) [e,f] [] cpos) (HA kvs fe ff):=by
 refine(B4 hu hd he hf m).imp fun σ H Q ⟨Z,B,δ,d,E,hfd,q⟩=>?_
 obtain⟨k,h1,h2⟩:=R.ao hfd
 obtain⟨dd,h3,h4⟩:=R.ao h2
 intro p hp
 refine hc σ _ _ ⟨bf,kvs,rfl,hlen,p,rfl, .inl ⟨_, .inl bf⟩,?_⟩
 rw[Dw]
 have s0:a_ H (upd H p (.dK (jI [] kvs))):=aX hp
 refine⟨Z,B,δ,k,E.same s0,h1,fun v1 H1 s1 r1=>⟨Z,B,δ,dd,(E.same s0).same s1,h3,fun v2 H2 s2 r2=>?_⟩⟩
 have hH2:H2 p=some (.dK (jI [] kvs)):=s2 p _ (s1 p _ bf)
 have sA:a_ H H2:=s0.trans (s1.trans s2)
 split at h4
 ·rename_i x
  refine⟨lI (jI [] kvs) (Sum.inr x),?_,?_⟩
  ·rw[Rep.str.mp r1];exact sj.k (k:=Sum.inr x) hH2
  ·split at h4
   ·rename_i i e1
    cases h4
    rw[e1]
    exact q _ H2 sA (Rep.int.mpr rfl)
   ·rename_i e1
    cases h4
    rw[e1]
    exact q _ H2 sA r2
   ·cases h4
 ·cases h4
noncomputable def pd(i:Nat)(f:FD):FS:=fun δ=>(f δ).bind fun d=>match d with
 | .lst es=>(jz δ i).bind fun ds=>R.cb (decide (ds.length+es.length≤sizeLine)) (.ok (.nx (δ.set i (.bld (ds++es)))))
 | _=> .no
end
end L2
end
section
set_option maxRecDepth 100000
set_option maxHeartbeats 4000000
namespace L2
open PySem PySem.Spec PyProof.Rows
structure QD (X:Cx) (e:Expr) (f:FD):Prop where
 h:PD X e f
structure QN (X:Cx) (e:Expr) (f:aw→R (List D)):Prop where
 h:PN X e f
structure QB (X:Cx) (e:Expr) (f:aw→R Bool):Prop where
 h:PB X e f
structure Hd (X:Cx) (e:Expr) (f:aw→R Bool):Prop where
 h:Du X e f
structure DP (X:Cx) (e:List Expr) (f:aw→R (List D)):Prop where
 h:Ct X e f
structure EN (X:Cx) (e:Stmt) (f:FS):Prop where
 h:Dt X e f
structure so (X:Cx) (e:List Stmt) (f:FS):Prop where
 h:p9 X e f
structure Ia (X:Cx) (e:Expr) (f:FT):Prop where
 h:He X e f
structure Fu (X:Cx) (e:List Expr) (f:AS):Prop where
 h:Cc X e f
structure wY (X:Cx) (tg e:Expr) (f:aw→R (List D)):Prop where
 h:Gb X tg e f
structure QP (X:Cx) (e:Option Expr) (f:FO):Prop where
 h:PP X e f
structure QJ (X:Cx) (e:List Expr) (f:aw→R (List Str)):Prop where
 h:PJ X e f
structure Hy (X:Cx) (e:List Expr) (c:aw→R Bool):Prop where
 h:oC X e (Hb X.K c)
section
variable {X:Cx}
theorem cn{e:Expr}{f:aw→R (List D)}(h:QN X e f):QD X e (eNew f):=⟨Hw h.1⟩
theorem we{e:Expr}{f:FD}(h:QD X e f):QD X e (jw f):=⟨EC h.1⟩
theorem aa(i:Nat){x:Str}{pos:Pos}(hN:X.N[i]? =some x:=by rfl)(hv:FU X.env.scope x:=by first | exact Or.inl rfl | exact Or.inr (Or.inl rfl) | exact Or.inr (Or.inr rfl))(hd:(x==("__debug__":Str))=false:=by decide)(hcd:(x==("__classdict__":Str))=false:=by decide):QD X (.Name x pos) (ae i):=⟨Gf i hN hv hd hcd⟩
theorem ag{i j pos}:QD X (.Constant (.int i) j pos) (eC (.int i)):=⟨HU⟩
theorem oR{b j pos}:QD X (.Constant (.bool b) j pos) (eC (.bl b)):=⟨Il⟩
theorem l3{j pos}:QD X (.Constant .none j pos) (eC .cI):=⟨GZ⟩
theorem bu{x j pos}:QD X (.Constant (.str x) j pos) (eC (.str x)):=⟨Gi⟩
theorem ah:DP X [] aD:=⟨D_⟩
theorem ab{e:Expr}{es:List Expr}{f:FD}{g:aw→R (List D)}(h:QD X e f)(t:DP X es g)(hs:starEach (e ::es) X.env=(false,eval e X.env) ::starEach es X.env:=by rfl):DP X (e ::es) (aq f g):=⟨Br h.1 t.1 hs⟩
theorem bV{es:List Expr}{g:aw→R (List D)}{x1 pos}(h:DP X es g):QD X (.Tuple es x1 pos) (dM g):=⟨Hi h.1⟩
theorem bW{es:List Expr}{g:aw→R (List D)}{pos}(h:DP X es g):QN X (.List es pos) (dX g):=⟨G0 h.1⟩
theorem aL{op:Operator}{g:D→D→R D}{a b:Expr}{fa fb:FD}{pos:Pos}(ho:j3 X (binaryOp op) g)(ha:QD X a fa)(hb:QD X b fb):QD X (.BinOp a op b pos) (e2 g fa fb):=⟨JJ ho ha.1 hb.1⟩
theorem jv{op:CmpOp}{g:D→D→R D}{a b:Expr}{fa fb:FD}{pos:Pos}(ho:j3 X (compareOp op) g)(ha:QD X a fa)(hb:QD X b fb)(hm:behindInMarks op b=false):QD X (.Compare a [op] [b] pos) (e2 g fa fb):=⟨G2 ho ha.1 hb.1 hm⟩
theorem bt{op:CmpOp}{g:D→D→R D}{a b:Expr}{fa fb:FD}{pos:Pos}(ho:j3 X (compareOp op) g)(ha:QD X a fa)(hb:QD X b fb)(hm:behindInMarks op b=false):QB X (.Compare a [op] [b] pos) (b2 g fa fb):=⟨GK ho ha.1 hb.1 hm⟩
theorem iK{a:Expr}{f:FD}(ha:QD X a f)(he:∀whole,isTrue a X.env whole=(do let v ←whole;standAt a.pos;holding [v] (truthy v)):=by intro _;rfl):QB X a (iW f):=⟨Hv ha.1 he⟩
theorem kD{e:Expr}{f:aw→R Bool}(h:Hd X e f):QB X e f:=⟨Du.pb h.1⟩
theorem lU{a:Expr}{f:aw→R Bool}{pos:Pos}(h:QB X a f):Hd X (.BoolOp .And [a] pos) f:=⟨AL h.1⟩
theorem rZ{a:Expr}{f:aw→R Bool}{pos:Pos}(h:QB X a f):Hd X (.BoolOp .Or [a] pos) f:=⟨ED h.1⟩
theorem nL{a b:Expr}{rest:List Expr}{f g:aw→R Bool}{pos:Pos}(ha:QB X a f)(hb:Hd X (.BoolOp .And (b ::rest) pos) g):Hd X (.BoolOp .And (a ::b ::rest) pos) (kj f g):=⟨Ex ha.1 hb.1⟩
theorem uP{a b:Expr}{rest:List Expr}{f g:aw→R Bool}{pos:Pos}(ha:QB X a f)(hb:Hd X (.BoolOp .Or (b ::rest) pos) g):Hd X (.BoolOp .Or (a ::b ::rest) pos) (sL f g):=⟨Hl ha.1 hb.1⟩
theorem oj{a:Expr}{f:aw→R Bool}{pos:Pos}(ha:QB X a f):QB X (.UnaryOp .Not a pos) (kL f):=⟨GR ha.1⟩
theorem t8{a:Expr}{op}{f:FD}{pos:Pos}(h:QD X a f):QD X (.BoolOp op [a] pos) f:=⟨Ge h.1⟩
theorem qg{a b:Expr}{rest:List Expr}{f g:FD}{pos:Pos}(ha:QD X a f)(hb:QD X (.BoolOp .And (b ::rest) pos) g):QD X (.BoolOp .And (a ::b ::rest) pos) (oq f g):=⟨F9 ha.1 hb.1⟩
theorem EH{a:Expr}{f:FD}{pos:Pos}(ha:QD X a f):QD X (.UnaryOp .Not a pos) (qB f):=⟨Hx ha.1⟩
theorem yg{c a b:Expr}{fc:aw→R Bool}{f g:FD}{pos:Pos}(hc:QB X c fc)(ha:QD X a f)(hb:QD X b g):QD X (.IfExp c a b pos) (xc fc f g):=⟨JD hc.1 ha.1 hb.1⟩
theorem aO{g:List D→R D}{x:Str}{id:String}{p pos:Pos}{e:Expr}{es:List Expr}{fs:aw→R (List D)}(hc:cW X (.builtin id) g)(hg:Gl X x)(hm:X.mg x=none)(hv:bootBuiltins x=some (.builtin id))(ha:DP X (e ::es) fs)(hn:x≠"__name__":=by decide)(hdb:(x==("__debug__":Str))=false:=by decide)(he:starEach (e ::es) X.env=(false,eval e X.env) ::starEach es X.env:=by rfl)(hpl:(backTo pos (starEach es X.env)).any (·.1)=false:=by rfl):QD X (.Call (.Name x p) (e ::es) [] pos) (aG g fs):=⟨C8 hc hg hm hv ha.1 hn hdb he hpl⟩
theorem dj{g:List D→R D}{x:Str}{T:String}{p pos:Pos}{e:Expr}{es:List Expr}{fs:aw→R (List D)}(hc:cW X (.type T) g)(hg:Gl X x)(hm:X.mg x=none)(hv:bootBuiltins x=some (.type T))(ha:DP X (e ::es) fs)(hn:x≠"__name__":=by decide)(hdb:(x==("__debug__":Str))=false:=by decide)(he:starEach (e ::es) X.env=(false,eval e X.env) ::starEach es X.env:=by rfl)(hpl:(backTo pos (starEach es X.env)).any (·.1)=false:=by rfl):QD X (.Call (.Name x p) (e ::es) [] pos) (aG g fs):=⟨zJ hc hg hm hv ha.1 hn hdb he hpl⟩
theorem ck:so X [] fO:=⟨Fh⟩
theorem aQ{st:Stmt}{rest:List Stmt}{F G:FS}(h1:EN X st F)(h2:so X rest G):so X (st ::rest) (cK F G):=⟨AN h1.1 h2.1⟩
theorem aF{st:Stmt}{F:FS}(h1:EN X st F):so X [st] F:=⟨D6 h1.1⟩
theorem d9{i:Nat}{x:Str}{e:Expr}{f:FD}{pos pos':Pos}(hN:X.N.Nodup)(hi:X.N[i]? =some x)(hx:Loc X.env.scope x)(he:QD X e f)(hs:swapsWith e (some (.Name x pos')) pos.line X.env=pure false:=by rfl)(hf:X.fn x=true∨X.env.scope.names.lookup x=some .local:=by first | exact .inl rfl | exact .inr rfl | assumption):EN X (.Assign [.Name x pos'] e pos) (ig i f):=⟨ER hN hi hx he.1 hs hf⟩
theorem wO{i:Nat}{x:Str}{e:Expr}{f:aw→R (List D)}{pos pos':Pos}(hN:X.N.Nodup)(hi:X.N[i]? =some x)(hx:Loc X.env.scope x)(he:QN X e f)(hs:swapsWith e (some (.Name x pos')) pos.line X.env=pure false:=by rfl)(hf:X.fn x=true∨X.env.scope.names.lookup x=some .local:=by first | exact .inl rfl | exact .inr rfl | assumption):EN X (.Assign [.Name x pos'] e pos) (nj i f):=⟨Ft hN hi hx he.1 hs hf⟩
theorem rp{i:Nat}{x:Str}{e:Expr}{f:FD}{npos apos cpos pos:Pos}(hN:X.N[i]? =some x)(hv:FU X.env.scope x)(he:QD X e f)(hd:(x==("__debug__":Str))=false:=by decide)(hcd:(x==("__classdict__":Str))=false:=by decide)(hs:starEach [e] X.env=(false,eval e X.env) ::starEach [] X.env:=by rfl)(hline:(apos.endLine==cpos.line)=true:=by rfl)(hfew:((backTo cpos (starEach [e] X.env)).all (fun x=>!x.1) && (backToKw cpos (keywordEach [] X.env)).all (fun x=>x.1.isSome)
 && decide (([e]:List Expr).length+([]:List Keyword).length+(if([]:List Keyword).isEmpty then 0 else 1) < 30))=true:=by rfl) (hsw:swapsWith (.Call (.Attribute (.Name x npos) "append" apos) [e] [] cpos) none pos.line X.env=pure false:=by rfl) (hbase:attributeBase (.Name x npos) "append" X.env (eval (.Name x npos) X.env)=eval (.Name x npos) X.env:=by rfl):EN X (.Expr (.Call (.Attribute (.Name x npos) "append" apos) [e] [] cpos) pos) (mN i f):=⟨Ee hN hv he.1 hd hcd hs hline hfew hsw hbase⟩
theorem vG(i:Nat){sts:List Stmt}{F:FS}(h:so X sts F):so X sts (oU i F):=⟨Ea i h.1⟩
theorem ba{e:Expr}{f:FD}{pos:Pos}(he:QD X e f):EN X (.Return (some e) pos) (cQ f):=⟨Eu he.1⟩
theorem cE{c:Expr}{a b:List Stmt}{fc:aw→R Bool}{F G:FS}{pos:Pos}(hc:QB X c fc)(ha:so X a F)(hb:so X b G):EN X (.If c a b pos) (k4 fc F G):=⟨GC hc.1 ha.1 hb.1⟩
theorem bj{i:Nat}{x:Str}{pos:Pos}(hN:X.N.Nodup)(hi:X.N[i]? =some x)(hx:Loc X.env.scope x)(hf:X.fn x=true∨X.env.scope.names.lookup x=some .local:=by first | exact .inl rfl | exact .inr rfl | assumption):Ia X (.Name x pos) (aV i):=⟨CN hN hi hx hf⟩
theorem jV:Fu X [] gQ:=⟨Cd⟩
theorem dm{e:Expr}{es:List Expr}{t:FT}{u:AS}(h1:Ia X e t)(h2:Fu X es u)(hs:(assignEach (e ::es) X.env).map (·.2)=assign e X.env ::(assignEach es X.env).map (·.2):=by rfl):Fu X (e ::es) (cJ t u):=⟨zS h1.1 h2.1 hs⟩
theorem lN{es:List Expr}{k:Nat}{t:AS}{n:Nat}{pos:Pos}(hc:X.calm=true)(h:Fu X es t)(hn:(assignEach es X.env).length=n:=by rfl)(hst:(assignEach es X.env).findIdx? (·.1)=none:=by rfl):Ia X (.Tuple es k pos) (gL n t):=⟨DK hc h.1 hn hst⟩
theorem BP{tg e:Expr}{f:FD}{t:FT}{pos:Pos}(he:QD X e f)(hg:Ia X tg t)(hs:swapsWithSole [tg] e pos.line X.env=pure false:=by rfl)(hw:swappedStores [tg] e X.env=pure none:=by rfl)(h1:(assignEach [tg] X.env).map (·.2)=[assign tg X.env]:=by rfl):EN X (.Assign [tg] e pos) (pY f t):=⟨DX he.1 hg.1 hs hw h1⟩
theorem cO{tg e:Expr}{f:FD}(h:QD X e f):wY X tg e (eZ f):=⟨Fp h.1⟩
theorem bY{tg a:Expr}{f:FD}{p pos:Pos}(h:QD X a f)(hg:Gl X "range")(hm:X.mg "range"=none)(hs:starEach [a] X.env=[(false,eval a X.env)]:=by rfl):wY X tg (.Call (.Name "range" p) [a] [] pos) (d5 f):=⟨yr h.1 hg hm hs⟩
theorem wW{tg a b:Expr}{f g:FD}{p pos:Pos}(h:QD X a f)(h':QD X b g)(hg:Gl X "range")(hm:X.mg "range"=none)(hs:starEach [a,b] X.env=[(false,eval a X.env),(false,eval b X.env)]:=by rfl)(hs2:starEach [b] X.env=[(false,eval b X.env)]:=by rfl):wY X tg (.Call (.Name "range" p) [a,b] [] pos) (tZ f g):=⟨xZ h.1 h'.1 hg hm hs hs2⟩
theorem eR{tg iter:Expr}{body:List Stmt}{it:aw→R (List D)}{t:FT}{F:FS}{pos:Pos}(hp:PassesOwn (model X.prog X.w) X.A X.env X.xe)(hc:X.calm=true)(hi:wY X tg iter it)(hg:Ia X tg t)(hb:so X body F)(hs:∀x,foldedSetIterable iter X.env x=pure x:=by intro _;rfl):EN X (.For tg iter body [] pos) (nq it t F):=⟨D5 hp hc hi.1 hg.1 hb.1 hs⟩
theorem eT{scope:Scope}{own:List Str}{kp:List Nat}{kn:List Str}{tg iter elt:Expr}{ifs:List Expr}{it:aw→R (List D)}{t:FT}{c:aw→R Bool}{f:FD}{pos:Pos}(hc:X.calm=true)(C:cD X scope own kp kn)(hi:wY X tg iter it)(hg:∀fp s H,Ia (bU X scope (own++kn) fp s H) tg t)(hif:∀fp s H,Hy (bU X scope (own++kn) fp s H) ifs c)(he:∀fp s H,QD (bU X scope (own++kn) fp s H) elt f)(hs:∀x,foldedSetIterable iter X.env x=pure x:=by intro _;rfl):QN X (.ListComp elt [⟨tg,iter,ifs,0⟩] scope pos) (gO it t c f own kp):=⟨Dy hc C hi.1 (fun fp s H=>(hg fp s H).1) (fun fp s H=>(hif fp s H).1) (fun fp s H=>(he fp s H).1) hs⟩
theorem gf:Hy X [] rV:=⟨Dg⟩
theorem rD{e:Expr}{c:aw→R Bool}(h:QB X e c):Hy X [e] c:=⟨D8 h.1⟩
theorem az{a b:Expr}{fa fb:FD}{pos:Pos}(ha:QD X a fa)(hb:QD X b fb)(hs:qj b):QD X (.Subscript a b pos) (e2 cg fa fb):=⟨IL ha.1 hb.1 hs⟩
theorem vW:QP X none kP:=⟨Eb⟩
theorem nA{e:Expr}{f:FD}(h:QD X e f):QP X (some e) (iF f):=⟨DZ h.1⟩
theorem xR{e:Expr}{lo hi:Option Expr}{f:FD}{fl fh:FO}{p2 pos:Pos}(he:QD X e f)(hl:QP X lo fl)(hh:QP X hi fh):QD X (.Subscript e (.Slice lo hi none p2) pos) (xV f fl fh):=⟨Jb he.1 hl.1 hh.1⟩
theorem l9{elts:List Expr}{k:Nat}{tpos:Pos}{a:Expr}{f:FD}{p pos:Pos}(h:QD X a f)(hg:Gl X "enumerate")(hm:X.mg "enumerate"=none)(hs:starEach [a] X.env=[(false,eval a X.env)]:=by rfl):wY X (.Tuple elts k tpos) (.Call (.Name "enumerate" p) [a] [] pos) (jb f):=⟨u_ h.1 hg hm hs⟩
theorem cj{P:Program}{w:World}{K:PySem.W.Frag}{mg:Str→Option Value}{base:Heap}{x qual:Str}{st:Stmt}{f:Addr}{fd:FuncData}{N ps:List Str}{k:Nat}{F:FS}{b:List Stmt}{sc:Scope}(hb:ak st=b)(hs:af st=sc)(Fn:yW K x qual st f fd)(S:aZ N ps sc)(hbody:∀(cdv:Value) (A:Around) (outer:List Env) (s:Shared) (H:Hp) (E:XK),eQ k (A.deeper (envOfC qual sc s.heap.objs.size f cdv))→
 so (qX si P w K mg base N qual sc f cdv A outer s H E).Fj b F):iQ P w K mg base si (k+1) f fd ps (Bf K ps.length (lL N F)):=A5 hb hs Fn S (fun cdv A outer s H E hr=>(hbody cdv A outer s H E hr).1)
theorem bJ{g:List D→R D}{k j n:Nat}{x:Str}{p pos:Pos}{e:Expr}{es:List Expr}{fs:aw→R (List D)}(C:Callee X.prog X.w X.K X.mg X.base k x n g)(hr:eQ j X.A)(hkj:k≤j)(hg:Gl X x)(ha:DP X (e ::es) fs)(hn:∀δ ds,fs δ= .ok ds→ds.length=n)(hdb:(x==("__debug__":Str))=false:=by decide)(he:starEach (e ::es) X.env=(false,eval e X.env) ::starEach es X.env:=by rfl)(hpl:(backTo pos (starEach es X.env)).any (·.1)=false:=by rfl):QD X (.Call (.Name x p) (e ::es) [] pos) (aG g fs):=⟨Dm C hr hkj hg ha.1 hn hdb he hpl⟩
theorem DF{keys:List (Option Expr)}{values:List Expr}{trs:List (TE × TE)}{dpos apos cpos:Pos}{e f:Expr}{fe ff:FD}{kvs:List (Key × V)}(hu:X.A.units+1 < cLine)(h:HY X dpos keys values trs)(hall:keys.all (·.isSome)=true)(hl:keys.length=values.length)(h0:keys≠[])(hc:∀σ H Q,Q (kvs.map fun kv=>(kV kv.1,kv.2)) H→qQ trs σ H Q)(hlen:kvs.length≤15)(he:QD X e fe)(hf:QD X f ff)(m:M2 X (.Dict keys values dpos) "get" apos e f cpos)(hd:PE X (.Dict keys values dpos) (Ck trs)):QD X (.Call (.Attribute (.Dict keys values dpos) "get" apos) [e,f] [] cpos) (HA kvs fe ff):=⟨Hf hu h hall hl h0 hc hlen he.1 hf.1 m hd⟩
end
end L2
end
section
set_option maxRecDepth 100000
set_option maxHeartbeats 4000000
namespace L2
open PySem PySem.Spec PyProof.Rows
theorem Aw{P:Program}{w:World}{K:PySem.W.Frag}{mg mb:Str→Option Value}{CX:Bs}{k:Nat}{fa a:Addr}{fd:FuncData}{x:Str}{sp:Sp}{s₁:Shared}{vs:List Value}{ns:List Int}
 (KX:K.In s₁.heap) (hns:s₁.heap.Ns mainGlobals mg) (hb:s₁.heap.Ns builtinsNs mb) (hbb:∀x:Str,x≠"__name__"→mb x=bootBuiltins x) (hlim:s₁.heap.NoLimit) (hg:s₁.gens=#[])
 (ha:s₁.heap.get? a=some {cls:= .type "list",data:= .seq vs.toArray}) (hi:IntsAre vs ns) (hl:ns.length≤sizeLine) (hr:eQ k callerA)
 (F:∀base:Heap,K.In base→base.Ns mainGlobals mg→iQ P w K mg base CX k fa fd [x] sp) (hbind:∀(s:Shared) (u:Value),BindsTo s fd ⟨[u],[]⟩ [(x,u)])
 (hsp:∀H:Hp,Im H→r_ K [] H a (ns.map V.int)→sp [.ref a] H (fun v _=>v= .bl true) fun _ _ _=>False)
 (hCX:∀H e s',CX [] H s₁ (fun _ _ _=>False) e s'→False) :
 codeAny (model P w) callerA (.call (.ref fa) ⟨[.ref a],[]⟩) (fun r s'=>r= .ok (.ret (.bool true))∧OldK s₁.heap s'.heap∧s'.os=s₁.os∧AllBare s'.gens) s₁:=by
 have rv:=tG hi
 have lenV:=hi.length
 have core:∀H:Hp,Im H→r_ K [] H a (ns.map V.int)→mG P w H s₁.heap→(∀b,H b≠none→b=a)→(H a≠none→K.lookup a=none)→
  codeAny (model P w) callerA (.call (.ref fa) ⟨[.ref a],[]⟩) (fun r s'=>r= .ok (.ret (.bool true))∧OldK s₁.heap s'.heap∧s'.os=s₁.os∧AllBare s'.gens) s₁:=by
  intro H hO hS hok hA hK
  have base_of:∀{b:Addr} {o:Obj},s₁.heap.get? b=some o→H b=none→(uE s₁.heap H).get? b=some o:=fun e n=>Dc e n
  have noA:∀{b:Addr} {o:Obj} {es:Array DictEntry} {ep:Nat},s₁.heap.get? b=some o→o.data= .dict es ep→H b=none:=fun {b o es ep} e d=>by
   cases q:H b with
   | none=>rfl
   | some u=>
     have e':b=a:=hA b (by rw[q];simp)
     subst e'
     rw[ha] at e;cases e
     have d':Data.seq vs.toArray _=Data.dict es ep:=d
     cases d'
  have nsK:∀{b:Addr} {m:Str→Option Value},s₁.heap.Ns b m→(uE s₁.heap H).Ns b m:=fun {b m} ⟨o,es,ep,e,d,r⟩=>⟨o,es,ep,base_of e (noA e d),d,r⟩
  have hKb:K.In (uE s₁.heap H):=fun b o e=>base_of (KX b o e) (by
   cases q:H b with
   | none=>rfl
   | some u=>
     have e':b=a:=hA b (by rw[q];simp)
     subst e'
     rw[hK (by rw[q];simp)] at e;cases e)
  have hM:Mod K mg (uE s₁.heap H):=⟨hKb,nsK hns,⟨mb,nsK hb,hbb⟩,let⟨mc,h1,h2⟩:=hlim;⟨mc,nsK h1,h2⟩⟩
  have e0:xp P w K mg (uE s₁.heap H) callerA [] s₁ H:=⟨rfl,hM,fun b o e=>Ew e,Nat.le_of_eq (z7 _ _),trivial,fun b hb=>absurd (show b∈([]:List Addr) from hb) (by simp),hok, .of_eq hg⟩
  refine codeAny_mono ((F _ hKb (nsK hns)).run callerA [] s₁ H ⟨[.ref a],[]⟩ [.ref a] [.ref a] _ _ hr e0 (hbind s₁ (.ref a)) (.cons rfl .nil) (hsp H hO hS)) fun r s' h=>?_
  cases r with
  | error e=>exact(hCX H e s' h).elim
  | ok fl=>
    cases fl with
    | next=>exact False.elim h
    | brk=>exact False.elim h
    | cont=>exact False.elim h
    | ret u=>
      obtain⟨v,H',os,bare,un,hok',r',q⟩:=h
      have q':v= .bl true:=q
      subst q'
      obtain rfl:u=Value.bool true:=r'
      refine⟨rfl,OldK.of_keep fun b o e=>?_,os,bare⟩
      cases q:H b with
      | none=>exact un.keep b o e q (by intro z;exact absurd (show b∈([]:List Addr) from z) (by simp)) (by simp)
      | some u=>
        rcases hO b with z | ⟨ob,xs,z⟩
        ·rw[q] at z;cases z
        ·have z2:=un.frzs b ob _ z
         obtain⟨e1,_⟩:=hok b _ z
         obtain⟨e2,_⟩:=hok' b _ z2
         rw[e] at e1;cases e1
         exact e2
 cases hk:K.lookup a with
 | some o=>
   have e:=KX a o hk
   rw[ha] at e
   cases e
   refine core (fun _=>none) (fun _=> .inl rfl) (.inr ⟨vs,_,hk,by rw[List.length_map];exact hl,rv⟩) (fun b u z=>by have z':(none:Option HO)=some u:=z;cases z') (fun b z=>absurd rfl z) fun z=>absurd rfl z
 | none=>
   refine core (fun b=>if b=a then some (.iz {cls:= .type "list",data:= .seq vs.toArray} (.lst (ns.map V.int))) else none) (fun b=>?_) (.inl ⟨by simp, .inr ⟨{cls:= .type "list",data:= .seq vs.toArray},if_pos rfl⟩⟩) (fun b u z=>?_) (fun b z=>?_) fun _=>hk
   ·by_cases hb:b=a
    ·exact .inr ⟨_,_,if_pos hb⟩
    ·exact .inl (if_neg hb)
   ·by_cases hb:b=a
    ·have z':=(if_pos hb).symm.trans z
     cases z'
     subst hb
     exact⟨ha,by rw[List.length_map];exact hl,vs,_,rv,ha⟩
    ·have z':=(if_neg hb).symm.trans z
     cases z'
   ·by_cases hb:b=a
    ·exact hb
    ·exact absurd (if_neg hb) z
theorem ints_rep{K:PySem.W.Frag}{B:List Addr}{H:Hp}:∀ns:List Int,aK K B H (ns.map D.int) (ns.map V.int)
 | []=>aK.nil
 | n ::ns=>aK.cons (Rep.int.mpr rfl) (ints_rep ns)
theorem II{l:PySem.W.OpenLaw}{n k:Nat}{q:Program}{loose:List Str}{XP:(Str→Option Value)→Heap→Prop}{YP:World→Heap→Prop}{d:DefRec}{K:Params→PySem.W.Frag}{x:Str}{g:List D→R D}
 (hn:l.most=some n) (hn2:n≤sizeLine) (hdf:d.params.defaults=[]) (hr:eQ k callerA) (hY:∀(w:World) (h:Heap),YP w h→(K w.params).In h)
 (F:∀(w:World) (mg:Str→Option Value) (fa:Addr) (h:Heap),(K w.params).In h→h.Ns mainGlobals mg→mg d.name=some (.ref fa)→
   ∃fd:FuncData,(∀(s:Shared) (u:Value),BindsTo s fd ⟨[u],[]⟩ [(x,u)])∧∀base:Heap,(K w.params).In base→base.Ns mainGlobals mg→iQ l.prog w (K w.params) mg base si k fa fd [x] (Bf (K w.params) 1 g))
 (hg:∀ns:List Int,ns.length≤n→g [.lst (ns.map D.int)]= .ok (.bl true)):PySem.W.WalkO q loose XP YP l.row.toRowW d [] (fun f vs=>PySem.call f vs):=by
 refine Att.wA hn hdf fun w s₀ s₁ mg mb fa o pm cd doc a vs ns G Y ho hd hcd hmg hobj hints hlen hgen=>?_
 have KX:=hY w _ Y
 obtain⟨fd,hb,hF⟩:=F w mg fa _ KX G.T.g hmg
 refine Aw KX G.T.g G.T.b G.T.builtins G.T.nolimit hgen hobj hints (Nat.le_trans hlen hn2) hr hF hb (fun H hO hS=>?_) fun H e s' h=>h
 refine⟨rfl,[],[.lst (ns.map D.int)], .bl true,fun b hb=>(by cases hb),aK.cons (Rep.lst.mpr ⟨_,_,rfl,hS,ints_rep ns⟩) aK.nil,hg ns hlen,fun z H' _ r=>Rep.bl.mp r⟩
theorem cf{K:PySem.W.Frag}{h:Heap}{mg:Str→Option Value}{x:Str}{st:Stmt}{f:Addr}{oc:Value}{od an:Option Addr}{osl:Array (Option Value)}{kV doc pm cdv ct:Value}(X:K.In h)(G:h.Ns mainGlobals mg)(a:PySem.W.nsIn K mainGlobals x=some (some (.ref f)))
 (l:K.lookup f=some ⟨oc,od, .func (PySem.W.fnOf x x (gJ st) (ak st) (af st) .none kV doc pm an cdv ct),osl⟩) (c:PySem.W.codeIn K cdv x=true) (k:PySem.W.keepIn K (.ref f)=true):Def K mg x st:=
 ⟨f,_,m4 l c k,PySem.W.mg_of X G a⟩
end L2
end
section
set_option maxRecDepth 100000
set_option maxHeartbeats 4000000
namespace L2
open PySem PySem.Spec PyProof.Rows
theorem qT{t:FT}{body:FS}:∀(ds:List D) (n:Nat) (P:Nat→aw→Prop) {δ:aw},P n δ→
 (∀i d δ,ds[i]? =some d→P (n+i) δ→∃δ',((t d δ).bind body)= .ok (.nx δ')∧P (n+i+1) δ')→∃δ',nP t body ds δ= .ok (.nx δ')∧P (n+ds.length) δ'
 | [],n,P,δ,h0,_=>⟨δ,rfl,h0⟩
 | d ::ds,n,P,δ,h0,hs=>by
   obtain⟨δ1,e1,p1⟩:=hs 0 d δ rfl h0
   obtain⟨δ2,e2,p2⟩:=qT ds (n+1) P p1 (fun i d' δ' hi hp=>by
    have:=hs (i+1) d' δ' (by simpa using hi) (by rw[show n+(i+1)=n+1+i by omega];exact hp)
    rw[show n+(i+1)+1=n+1+i+1 by omega] at this
    exact this)
   refine⟨δ2,?_,by rw[List.length_cons,show n+(ds.length+1)=n+1+ds.length by omega];exact p2⟩
   obtain⟨δ0,h1,h2⟩:=R.ao e1
   show(t d δ).bind (fun δ1=>(body δ1).bind fun o=>match o with | .nx δ2=>nP t body ds δ2 | .rt r=> .ok (.rt r))=_
   rw[h1,R.aH,h2,R.aH]
   exact e2
theorem d6{t:FT}{body:FS}{ds:List D}(P:Nat→aw→Prop){δ:aw}(h0:P 0 δ)
 (hs:∀i d δ,ds[i]? =some d→P i δ→∃δ',((t d δ).bind body)= .ok (.nx δ')∧P (i+1) δ'):∃δ',nP t body ds δ= .ok (.nx δ')∧P ds.length δ':=by
 have:=qT (t:=t) (body:=body) ds 0 P h0 (fun i d δ hi hp=>by simpa using hs i d δ hi (by simpa using hp))
 simpa using this
theorem BY{α:Type} [DecidableEq α]:∀(L F:List α),L.Nodup→(∀x∈L,x∈F)→L.length≤F.length
 | [],_,_,_=>Nat.zero_le _
 | x ::L,F,hn,hs=>by
   obtain⟨h1,h2⟩:=List.nodup_cons.mp hn
   have hx:x∈F:=hs x List.mem_cons_self
   have ih:=BY L (F.erase x) h2 (fun y hy=>(List.mem_erase_of_ne (fun(e:y=x)=>h1 (by rw[←e];exact hy))).mpr (hs y (List.mem_cons_of_mem _ hy)))
   rw[List.length_erase_of_mem hx] at ih
   have:0 < F.length:=List.length_pos_of_mem hx
   rw[List.length_cons]
   omega
theorem jc{α:Type}{xs:List α}{i:Int}(h0:0≤i)(h:i.toNat < xs.length):o_ xs i=some xs[i.toNat]:=by
 unfold o_ qp
 rw[if_pos h0,if_pos (by omega)]
 simp [h]
theorem strs_map:∀ss:List Str,strs? (ss.map D.str)=some ss
 | []=>rfl
 | s ::ss=>by show(strs? (ss.map D.str)).map (s ::·)=_;rw [strs_map ss];rfl
theorem ints_map:∀ss:List Int,ints? (ss.map D.int)=some ss
 | []=>rfl
 | s ::ss=>by show(ints? (ss.map D.int)).map (s ::·)=_;rw [ints_map ss];rfl
theorem Ek{a b:Str}(h:a.cps.toList=b.cps.toList):a=b:=by
 obtain⟨a⟩:=a;obtain⟨b⟩:=b
 congr 1
 exact Array.toList_inj.mp h
theorem qk(a b:Str):(a++b).cps.toList=a.cps.toList++b.cps.toList:=by
 show(a.cps++b.cps).toList=_
 simp
theorem aY{F G:FS}{δ δ1:aw}{r:R Out}(h:F δ= .ok (.nx δ1))(h2:G δ1=r):cK F G δ=r:=by unfold cK;rw [h,R.aH];exact h2
theorem eO{f:aw→R (List D)}{δ:aw}{ds:List D}(h:f δ= .ok ds):eNew f δ= .ok (.lst ds):=by unfold eNew;rw [h];rfl
theorem pk{c:aw→R Bool}{F G:FS}{δ:aw}{r:R Out}(h:c δ= .ok true)(h2:F δ=r):k4 c F G δ=r:=by unfold k4;rw [h,R.aH,if_pos rfl];exact h2
theorem dW{c:aw→R Bool}{F G:FS}{δ:aw}{r:R Out}(h:c δ= .ok false)(h2:G δ=r):k4 c F G δ=r:=by unfold k4;rw [h,R.aH,if_neg (by decide)];exact h2
theorem fW{it:aw→R (List D)}{t:FT}{F:FS}{δ:aw}{ds:List D}{r:R Out}(h:it δ= .ok ds)(h2:nP t F ds δ=r):nq it t F δ=r:=by unfold nq;rw [h,R.aH];exact h2
theorem cG{f:FD}{δ:aw}{d:D}(h:f δ= .ok d):cQ f δ= .ok (.rt d):=by unfold cQ;rw [h];rfl
theorem c7{N:List Str}{F:FS}{ds:List D}{d:D}(h:F (cV N ds)= .ok (.rt d)):lL N F ds= .ok d:=by unfold lL;rw [h];rfl
theorem bR{α:Type}{p:Prop} [Decidable p](r:R α)(h:p):R.cb (decide p) r=r:=by rw[decide_eq_true h];rfl
theorem eP{i:Nat}{f:FD}{δ:aw}{d:D}(h:f δ= .ok d)(hi:i < δ.length):ig i f δ= .ok (.nx (δ.set i (.val d))):=by unfold ig;rw [h,R.aH,bR _ hi]
theorem En{i:Nat}{f:aw→R (List D)}{δ:aw}{ds:List D}(h:f δ= .ok ds)(hi:i < δ.length):nj i f δ= .ok (.nx (δ.set i (.bld ds))):=by unfold nj;rw [h,R.aH,bR _ hi]
theorem uT{i:Nat}{f:FD}{δ:aw}{d:D}{ds:List D}(h:f δ= .ok d)(hb:δ[i]? =some (.bld ds))(hl:ds.length < sizeLine):mN i f δ= .ok (.nx (δ.set i (.bld (ds++[d])))):=by unfold mN jz;rw [h,R.aH,hb];show R.cb _ _=_;rw [bR _ hl]
theorem fU{it:aw→R (List D)}{t:FT}{c:aw→R Bool}{f:FD}{own:List Str}{kp:List Nat}{δ:aw}{ds ys:List D}(h1:it δ= .ok ds)(h2:ds.length≤sizeLine)(h3:nC t c f (rq own kp δ) ds= .ok ys):gO it t c f own kp δ= .ok ys:=by unfold gO;rw [h1,R.aH,bR _ h2,h3]
theorem jg{ds:List D}{i:Int}{d:D}(h:o_ ds i=some d):cg (.lst ds) (.int i)= .ok d:=by unfold cg;simp only[h]
theorem ng{ds:List D}{i:Int}{d:D}(h:o_ ds i=some d):cg (.tup ds) (.int i)= .ok d:=by unfold cg;simp only[h]
theorem Bv{x:Str}{i:Int}{c:Nat}(hz:x.length≤sizeLine)(h:o_ x.cps.toList i=some c):cg (.str x) (.int i)= .ok (.str ⟨#[c]⟩):=by unfold cg;simp only[h,bR _ hz]
end L2
end
section
set_option maxRecDepth 100000
namespace L2
open PySem PySem.Spec PyProof.Rows
theorem ay{g:D→D→R D}{fa fb:FD}{δ:aw}{a b:D}{r:R D}(ha:fa δ= .ok a)(hb:fb δ= .ok b)(h:g a b=r):e2 g fa fb δ=r:=by unfold e2;rw [ha,R.aH,hb,R.aH];exact h
theorem fJ{g:D→D→R D}{fa fb:FD}{δ:aw}{a b:D}{k:Bool}(ha:fa δ= .ok a)(hb:fb δ= .ok b)(h:g a b= .ok (.bl k)):b2 g fa fb δ= .ok k:=by unfold b2;rw [ay ha hb h];rfl
theorem aW{f:FD}{g:aw→R (List D)}{δ:aw}{d:D}{ds:List D}(h:f δ= .ok d)(h2:g δ= .ok ds):aq f g δ= .ok (d ::ds):=by unfold aq;rw [h,R.aH,h2];rfl
theorem aR{g:List D→R D}{fs:aw→R (List D)}{δ:aw}{ds:List D}{r:R D}(h:fs δ= .ok ds)(h2:g ds=r):aG g fs δ=r:=by unfold aG;rw [h,R.aH];exact h2
theorem vE{f:FD}{δ:aw}{d:D}(h:f (kA δ)= .ok d)(ha:d.atom=true):jw f δ= .ok d:=by unfold jw;rw [h,R.aH,ha];rfl
theorem gH{g:aw→R (List D)}{δ:aw}{ds:List D}(h:g δ= .ok ds)(hl:ds.length≤sizeLine):dM g δ= .ok (.tup ds):=by unfold dM;rw [h,R.aH,bR _ hl]
theorem qf{g:aw→R (List D)}{δ:aw}{ds:List D}(h:g δ= .ok ds)(hl:ds.length≤sizeLine):dX g δ= .ok ds:=by unfold dX;rw [h,R.aH,bR _ hl]
theorem Ej{g:D→List D→R D}{f:FD}{fs:aw→R (List D)}{δ:aw}{x:Str}{ds:List D}{r:R D}(h:f δ= .ok (.str x))(h2:fs δ= .ok ds)(h3:g (.str x) ds=r):z_ "str" g f fs δ=r:=by
 unfold z_;rw [h,R.aH,h2,R.aH];exact h3
theorem xN{f:FD}{fl fh:FO}{δ:aw}{d:D}{lo hi:Option Int}{r:R D}(h:f δ= .ok d)(h1:fl δ= .ok lo)(h2:fh δ= .ok hi)(h3:HB d lo hi=r):xV f fl fh δ=r:=by unfold xV;rw [h,R.aH,h1,R.aH,h2,R.aH];exact h3
theorem AR{f:FD}{δ:aw}{i:Int}(h:f δ= .ok (.int i)):iF f δ= .ok (some i):=by unfold iF;rw [h];rfl
theorem G5{x:Str}{lo hi:Option Int}(h:x.length≤sizeLine):HB (.str x) lo hi= .ok (.str (Txt.slice x lo hi)):=by unfold HB;exact bR _ h
theorem yx{a b:Str}(h:a.length+b.length≤sizeLine):eG (.str a) (.str b)= .ok (.str (a++b)):=by unfold eG;exact bR _ h
theorem uq{a b:List D}(h:a.length+b.length≤sizeLine):eG (.lst a) (.lst b)= .ok (.lst (a++b)):=by unfold eG;exact bR _ h
theorem xv{a b:Int}(h:0 < b):ie (.int a) (.int b)= .ok (.int (a % b)):=by unfold ie wI;exact bR _ h
theorem eF{f:FD}{δ:aw}{n:Nat}(h:f δ= .ok (.int n))(hn:n < 1000000):d5 f δ= .ok (bQ 0 n):=by
 unfold d5;rw [h,R.aH];show R.cb (decide (-(2 ^ 62)≤(n:Int)∧(n:Int) < 2 ^ 62)) _=_
 rw[bR _ ⟨by omega,by omega⟩,Int.toNat_natCast]
theorem ni{f:FD}{δ:aw}{ds:List D}(h:f δ= .ok (.lst ds)):eZ f δ= .ok ds:=by unfold eZ;rw [h];rfl
theorem x8{f:FD}{δ:aw}{ds:List D}(h:f δ= .ok (.tup ds)):eZ f δ= .ok ds:=by unfold eZ;rw [h];rfl
theorem HL{f:FD}{δ:aw}{ds:List D}(h:f δ= .ok (.lst ds)):jb f δ= .ok (dH ds):=by unfold jb;rw [h];rfl
theorem ma(ds:List D):cP [.lst ds]= .ok (.int ds.length):=rfl
end L2
end
section
set_option maxRecDepth 100000
set_option maxHeartbeats 4000000
namespace L3
open PySem PySem.Spec PyProof.Rows L2
inductive V3 where
 | d (x:D) | loc (k:Nat) | lst (vs:List V3) | tup (vs:List V3)
inductive SO where
 | lst (ds:List D) | dct (kvs:List (Key × D)) | ins (c:Nat) (fs:List (Str × V3)) | iz
noncomputable abbrev aU:=List SO
inductive R3 (α:Type) where
 | ok (a:α) (S:aU) | ex (c:Nat) (S:aU) | no
noncomputable def R3.bind{α β:Type}:R3 α→(α→aU→R3 β)→R3 β
 | .ok a S,f=>f a S
 | .ex c S,_=> .ex c S
 | .no,_=> .no
theorem R3.ao{α β:Type}{r:R3 α}{f:α→aU→R3 β}{b:β}{S':aU}(h:r.bind f= .ok b S'):∃a S,r= .ok a S∧f a S= .ok b S':=by
 cases r with
 | ok a S=>exact⟨a,S,rfl,h⟩
 | ex c S=>cases h
 | no=>cases h
@[simp] theorem R3.aH{α β:Type}(a:α)(S:aU)(f:α→aU→R3 β):(R3.ok a S).bind f=f a S:=rfl
noncomputable def R3.cb{α:Type}(c:Bool)(r:R3 α):R3 α:=if c then r else .no
theorem R3.bp{α:Type}{c:Bool}{r:R3 α}{a:α}{S:aU}(h:R3.cb c r= .ok a S):c=true∧r= .ok a S:=by
 cases c with
 | true=>exact⟨rfl,h⟩
 | false=>cases h
noncomputable def R3.of{α:Type}(r:R α)(S:aU):R3 α:=match r with | .ok a=> .ok a S | _=> .no
theorem R3.of_ok{α:Type}{r:R α}{S S':aU}{a:α}(h:R3.of r S= .ok a S'):r= .ok a∧S'=S:=by
 cases r with
 | ok b=>cases h;exact⟨rfl,rfl⟩
 | ex c=>cases h
 | no=>cases h
structure P3 where
 r:List Addr
 z:List Addr
 f:List Addr
noncomputable def P3.b(ρ:P3):List Addr:=ρ.r.filter (fun a=>!ρ.f.contains a)++ρ.z
theorem P3.eh{ρ:P3}{a:Addr}:a∈ρ.b↔(a∈ρ.r∧a ∉ ρ.f)∨a∈ρ.z:=by
 unfold P3.b
 rw[List.mem_append,List.mem_filter]
 simp
noncomputable def P3.push(ρ:P3)(a:Addr):P3:=⟨ρ.r++[a],ρ.z,ρ.f⟩
noncomputable def P3.cut(ρ:P3)(n:Nat):P3:=⟨ρ.r.take n,ρ.z,ρ.f⟩
mutual
noncomputable def bw(K:PySem.W.Frag)(ρ:P3)(H:Hp):V3→V→Prop
 | .d x,v=>Rep K ρ.b H x v
 | .loc k,v=>∃a,ρ.r[k]? =some a∧v= .ref a
 | .lst vs,v=>∃a xs,v= .ref a∧r_ K ρ.b H a xs∧aM K ρ H vs xs
 | .tup vs,v=>∃a xs,v= .ref a∧sN K ρ.b H a xs∧aM K ρ H vs xs
noncomputable def aM(K:PySem.W.Frag)(ρ:P3)(H:Hp):List V3→List V→Prop
 | [],xs=>xs=[]
 | d ::ds,xs=>∃x r,xs=x ::r∧bw K ρ H d x∧aM K ρ H ds r
end
structure Pre (ρ:P3) (H:Hp) (ρ':P3) (H':Hp):Prop where
 bx:dt ρ.b H ρ'.b H'
 zz:ρ'.z=ρ.z
 zs:∀(b:Addr) (o:HO),b∈ρ.z→H b=some o→H' b=some o
 ext:∀(k:Nat) (a:Addr),ρ.r[k]? =some a→ρ'.r[k]? =some a
theorem Pre.refl(ρ:P3)(H:Hp):Pre ρ H ρ H:=⟨dt.refl ρ.b H,rfl,fun _ _ _ h=>h,fun _ _ h=>h⟩
theorem Pre.trans{ρ ρ' ρ'':P3}{H H' H'':Hp}(a:Pre ρ H ρ' H')(b:Pre ρ' H' ρ'' H''):Pre ρ H ρ'' H'':=⟨a.bx.trans b.bx,b.zz.trans a.zz,fun c o hc h=>b.zs c o (by rw[a.zz];exact hc) (a.zs c o hc h),fun k x h=>b.ext k x (a.ext k x h)⟩
theorem Pre.same{ρ:P3}{H H':Hp}(s:a_ H H'):Pre ρ H ρ H':=⟨dt.same s,rfl,fun b o _ h=>s b o h,fun _ _ h=>h⟩
theorem sN.bx{K:PySem.W.Frag}{B B':List Addr}{H H':Hp}(p:dt B H B' H'){a:Addr}{xs:List V}(l:sN K B H a xs):sN K B' H' a xs:=
 l.elim (fun z=> .inl ⟨(p.rd z.2 z.1).2,(p.rd z.2 z.1).1⟩) .inr
mutual
theorem bw.pre{K:PySem.W.Frag}{ρ ρ':P3}{H H':Hp}(p:Pre ρ H ρ' H'):∀{d:V3} {v:V},bw K ρ H d v→bw K ρ' H' d v
 | .d x,v,h=>by unfold bw at h ⊢;exact h.bx p.bx
 | .loc k,v,h=>by unfold bw at h ⊢;obtain⟨a,h1,h2⟩:=h;exact⟨a,p.ext k a h1,h2⟩
 | .lst vs,v,h=>by unfold bw at h ⊢;obtain⟨a,xs,e,l,r⟩:=h;exact⟨a,xs,e,l.bx p.bx,aM.pre p r⟩
 | .tup vs,v,h=>by unfold bw at h ⊢;obtain⟨a,xs,e,l,r⟩:=h;exact⟨a,xs,e,sN.bx p.bx l,aM.pre p r⟩
theorem aM.pre{K:PySem.W.Frag}{ρ ρ':P3}{H H':Hp}(p:Pre ρ H ρ' H'):∀{ds:List V3} {xs:List V},aM K ρ H ds xs→aM K ρ' H' ds xs
 | [],_,h=>by unfold aM at h ⊢;exact h
 | d ::ds,xs,h=>by
   unfold aM at h ⊢
   obtain⟨x,r,e,h1,h2⟩:=h
   exact⟨x,r,e,bw.pre p h1,aM.pre p h2⟩
end
structure PW (ρ:P3) (H:Hp) (ρ':P3) (H':Hp):Prop where
 bx:dt ρ.b H ρ'.b H'
 ext:∀(k:Nat) (a:Addr),ρ.r[k]? =some a→ρ'.r[k]? =some a
theorem Pre.pw{ρ ρ':P3}{H H':Hp}(p:Pre ρ H ρ' H'):PW ρ H ρ' H':=⟨p.bx,p.ext⟩
theorem PW.trans{ρ ρ' ρ'':P3}{H H' H'':Hp}(a:PW ρ H ρ' H')(b:PW ρ' H' ρ'' H''):PW ρ H ρ'' H'':=⟨a.bx.trans b.bx,fun k x h=>b.ext k x (a.ext k x h)⟩
mutual
theorem bw.pw{K:PySem.W.Frag}{ρ ρ':P3}{H H':Hp}(p:PW ρ H ρ' H'):∀{d:V3} {v:V},bw K ρ H d v→bw K ρ' H' d v
 | .d x,v,h=>by unfold bw at h ⊢;exact h.bx p.bx
 | .loc k,v,h=>by unfold bw at h ⊢;obtain⟨a,h1,h2⟩:=h;exact⟨a,p.ext k a h1,h2⟩
 | .lst vs,v,h=>by unfold bw at h ⊢;obtain⟨a,xs,e,l,r⟩:=h;exact⟨a,xs,e,l.bx p.bx,aM.pw p r⟩
 | .tup vs,v,h=>by unfold bw at h ⊢;obtain⟨a,xs,e,l,r⟩:=h;exact⟨a,xs,e,sN.bx p.bx l,aM.pw p r⟩
theorem aM.pw{K:PySem.W.Frag}{ρ ρ':P3}{H H':Hp}(p:PW ρ H ρ' H'):∀{ds:List V3} {xs:List V},aM K ρ H ds xs→aM K ρ' H' ds xs
 | [],_,h=>by unfold aM at h ⊢;exact h
 | d ::ds,xs,h=>by
   unfold aM at h ⊢
   obtain⟨x,r,e,h1,h2⟩:=h
   exact⟨x,r,e,bw.pw p h1,aM.pw p h2⟩
end
theorem aM.nil{K:PySem.W.Frag}{ρ:P3}{H:Hp}:aM K ρ H [] []:=by unfold aM;rfl
theorem aM.cons{K:PySem.W.Frag}{ρ:P3}{H:Hp}{d:V3}{ds:List V3}{x:V}{xs:List V}(h:bw K ρ H d x)(t:aM K ρ H ds xs):aM K ρ H (d ::ds) (x ::xs):=by
 unfold aM;exact⟨x,xs,rfl,h,t⟩
theorem aM.cA{K:PySem.W.Frag}{ρ:P3}{H:Hp}{d:V3}{ds:List V3}{xs:List V}(h:aM K ρ H (d ::ds) xs):∃x r,xs=x ::r∧bw K ρ H d x∧aM K ρ H ds r:=by
 unfold aM at h;exact h
theorem aM.length{K:PySem.W.Frag}{ρ:P3}{H:Hp}:∀{ds:List V3} {xs:List V},aM K ρ H ds xs→ds.length=xs.length
 | [],_,h=>by unfold aM at h;rw [h];rfl
 | d ::ds,xs,h=>by
   obtain⟨x,r,rfl,_,h2⟩:=h.cA
   simp [h2.length]
theorem aM.of{K:PySem.W.Frag}{ρ:P3}{H:Hp}:∀{ds:List D} {xs:List V},aK K ρ.b H ds xs→aM K ρ H (ds.map .d) xs
 | [],_,h=>by unfold aK at h;subst h;exact aM.nil
 | d ::ds,xs,h=>by
   obtain⟨x,r,rfl,h1,h2⟩:=h.cA
   exact aM.cons (by unfold bw;exact h1) (aM.of h2)
theorem aM.to{K:PySem.W.Frag}{ρ:P3}{H:Hp}:∀{ds:List D} {xs:List V},aM K ρ H (ds.map .d) xs→aK K ρ.b H ds xs
 | [],_,h=>by unfold aM at h;subst h;exact aK.nil
 | d ::ds,xs,h=>by
   obtain⟨x,r,rfl,h1,h2⟩:=aM.cA h
   unfold bw at h1
   exact aK.cons h1 (aM.to h2)
noncomputable def Cw(K:PySem.W.Frag)(cl:Nat→Addr)(ρ:P3)(H:Hp):SO→Option HO→Prop
 | .lst ds,h=>∃xs,h=some (.lst xs)∧aK K ρ.b H ds xs
 | .dct kvs,h=>∃ys,h=some (.dK ys)∧ys.map (·.1)=kvs.map (·.1)∧aK K ρ.b H (kvs.map (·.2)) (ys.map (·.2))
 | .ins c fs,h=>∃dx ys,h=some (.ins (cl c) dx ys)∧ys.map (·.1)=fs.map (·.1)∧aM K ρ H (fs.map (·.2)) (ys.map (·.2))
 | .iz,h=>∃u,h=some u
theorem Cw.pre{K:PySem.W.Frag}{cl:Nat→Addr}{ρ ρ':P3}{H H':Hp}(p:Pre ρ H ρ' H'){o:SO}{h:Option HO}(r:Cw K cl ρ H o h):Cw K cl ρ' H' o h:=by
 cases o with
 | lst ds=>obtain⟨xs,e,q⟩:=r;exact⟨xs,e,q.bx p.bx⟩
 | dct kvs=>obtain⟨ys,e,e2,q⟩:=r;exact⟨ys,e,e2,q.bx p.bx⟩
 | ins c fs=>obtain⟨dx,ys,e,e2,q⟩:=r;exact⟨dx,ys,e,e2,q.pre p⟩
 | iz=>exact r
theorem Cw.pw{K:PySem.W.Frag}{cl:Nat→Addr}{ρ ρ':P3}{H H':Hp}(p:PW ρ H ρ' H'){o:SO}{h:Option HO}(r:Cw K cl ρ H o h):Cw K cl ρ' H' o h:=by
 cases o with
 | lst ds=>obtain⟨xs,e,q⟩:=r;exact⟨xs,e,q.bx p.bx⟩
 | dct kvs=>obtain⟨ys,e,e2,q⟩:=r;exact⟨ys,e,e2,q.bx p.bx⟩
 | ins c fs=>obtain⟨dx,ys,e,e2,q⟩:=r;exact⟨dx,ys,e,e2,q.pw p⟩
 | iz=>exact r
theorem Cw.some{K:PySem.W.Frag}{cl:Nat→Addr}{ρ:P3}{H:Hp}{o:SO}{h:Option HO}(r:Cw K cl ρ H o h):∃u,h=some u:=by
 cases o with
 | lst ds=>obtain⟨xs,e,q⟩:=r;exact⟨_,e⟩
 | dct kvs=>obtain⟨ys,e,e2,q⟩:=r;exact⟨_,e⟩
 | ins c fs=>obtain⟨dx,ys,e,e2,q⟩:=r;exact⟨_,e⟩
 | iz=>exact r
structure SW (K:PySem.W.Frag) (cl:Nat→Addr) (ρ:P3) (H:Hp) (S:aU):Prop where
 len:ρ.r.length=S.length
 nd:∀(i j:Nat) (a:Addr),ρ.r[i]? =some a→ρ.r[j]? =some a→i=j
 ob:∀(k:Nat) (a:Addr) (o:SO),ρ.r[k]? =some a→S[k]? =some o→Cw K cl ρ H o (H a)
 zb:∀b∈ρ.z,(∃xs,H b=some (.lst xs))∧b ∉ ρ.r
 fz:∀(k:Nat) (a:Addr),ρ.r[k]? =some a→S[k]?≠some .iz→a ∉ ρ.f
 ff:∀a∈ρ.f,∃o,H a=some o
 fi:∀(k:Nat) (a:Addr),ρ.r[k]? =some a→S[k]? =some .iz→a∈ρ.f
theorem SW.rs{K:PySem.W.Frag}{cl:Nat→Addr}{ρ:P3}{H:Hp}{S:aU}(w:SW K cl ρ H S):∀a∈ρ.r,∃o,H a=some o:=fun a z=>by
 obtain⟨k,hk⟩:=List.getElem?_of_mem z
 have hl:=(List.getElem?_eq_some_iff.mp hk).1
 exact(w.ob k a _ hk (List.getElem?_eq_getElem (by rw[←w.len];exact hl))).some
theorem SW.bs{K:PySem.W.Frag}{cl:Nat→Addr}{ρ:P3}{H:Hp}{S:aU}(w:SW K cl ρ H S):∀a∈ρ.b,∃o,H a=some o:=fun a ha=>by
 rcases P3.eh.mp ha with z | z
 ·exact w.rs a z.1
 ·obtain⟨xs,h⟩:=(w.zb a z).1
  exact⟨_,h⟩
theorem SW.same{K:PySem.W.Frag}{cl:Nat→Addr}{ρ:P3}{H H':Hp}{S:aU}(w:SW K cl ρ H S)(s:a_ H H'):SW K cl ρ H' S:=
 ⟨w.len,w.nd,fun k a o h1 h2=>by
   have r:=w.ob k a o h1 h2
   obtain⟨u,hu⟩:=r.some
   rw[s a u hu,←hu]
   exact r.pre (Pre.same s),fun b hb=>let⟨⟨o,ho⟩,n⟩:=w.zb b hb;⟨⟨o,s b _ ho⟩,n⟩,w.fz,fun a ha=>let⟨o,ho⟩:=w.ff a ha;⟨o,s a o ho⟩,w.fi⟩
theorem P3.mem_push{ρ:P3}{a b:Addr}(h:b∈(ρ.push a).b):b∈ρ.b∨b=a:=by
 rcases P3.eh.mp h with⟨z,n⟩ | z
 ·rcases List.mem_append.mp z with y | y
  ·exact .inl (P3.eh.mpr (.inl ⟨y,n⟩))
  ·exact .inr (List.mem_singleton.mp y)
 ·exact .inl (P3.eh.mpr (.inr z))
theorem SW.new{K:PySem.W.Frag}{cl:Nat→Addr}{ρ:P3}{H H':Hp}{S:aU}(w:SW K cl ρ H S){a:Addr}{o:SO}(s:a_ H H')(n:H a=none)(r:Cw K cl (ρ.push a) H' o (H' a))(hne:o≠SO.iz:=by intro h;cases h) :
 SW K cl (ρ.push a) H' (S++[o])∧Pre ρ H (ρ.push a) H':=by
 have na:a ∉ ρ.b:=fun ha=>by obtain⟨o,ho⟩:=w.bs a ha;rw [n] at ho;cases ho
 have nr:a ∉ ρ.r:=fun ha=>by obtain⟨o,ho⟩:=w.rs a ha;rw [n] at ho;cases ho
 have nf:a ∉ ρ.f:=fun ha=>by obtain⟨o,ho⟩:=w.ff a ha;rw [n] at ho;cases ho
 have p:Pre ρ H (ρ.push a) H':=⟨fun b u e nb=>⟨s b u e,fun hb=>by
  rcases P3.mem_push hb with z | z
  ·exact nb z
  ·subst z;rw [n] at e;cases e⟩,rfl,fun b o _ h=>s b o h,fun k x hx=>by
   show(ρ.r++[a])[k]? =_
   rw[List.getElem?_append_left (List.getElem?_eq_some_iff.mp hx).1];exact hx⟩
 have last:∀(i:Nat) (b:Addr),(ρ.push a).r[i]? =some b→(i < ρ.r.length∧ρ.r[i]? =some b)∨(i=ρ.r.length∧b=a):=fun i b h=>by
  have h:(ρ.r++[a])[i]? =some b:=h
  by_cases q:i < ρ.r.length
  ·rw[List.getElem?_append_left q] at h;exact .inl ⟨q,h⟩
  ·rw[List.getElem?_append_right (by omega)] at h
   have h0:i - ρ.r.length=0:=by
    have:=(List.getElem?_eq_some_iff.mp h).1
    simp at this;omega
   rw[h0] at h
   cases h
   exact .inr ⟨by omega,rfl⟩
 refine⟨⟨by show(ρ.r++[a]).length=_;rw [List.length_append,List.length_append,w.len];rfl,fun i j b hi hj=>?_,fun k b u hk hu=>?_,fun b hb=>?_,fun k b hk hu=>?_,fun b hb=>?_,fun k b hk hu=>?_⟩,p⟩
 ·rcases last i b hi with⟨q1,q2⟩ | ⟨q1,rfl⟩
  ·rcases last j b hj with⟨z1,z2⟩ | ⟨z1,rfl⟩
   ·exact w.nd i j b q2 z2
   ·exact absurd (List.mem_of_getElem? q2) nr
  ·rcases last j b hj with⟨z1,z2⟩ | ⟨z1,z3⟩
   ·exact absurd (List.mem_of_getElem? z2) nr
   ·omega
 ·rcases last k b hk with⟨q1,q2⟩ | ⟨q1,rfl⟩
  ·rw[List.getElem?_append_left (by rw[←w.len];exact q1)] at hu
   have r0:=w.ob k b u q2 hu
   obtain⟨x,hx⟩:=r0.some
   rw[s b x hx,←hx]
   exact r0.pre p
  ·rw[List.getElem?_append_right (by rw[←w.len];omega),q1,w.len,Nat.sub_self] at hu
   cases hu
   exact r
 ·obtain⟨⟨o,ho⟩,nb⟩:=w.zb b hb
  refine⟨⟨o,s b _ ho⟩,fun h=>?_⟩
  rcases List.mem_append.mp h with y | y
  ·exact nb y
  ·rw[List.mem_singleton] at y;subst y;rw [n] at ho;cases ho
 ·rcases last k b hk with⟨q1,q2⟩ | ⟨q1,rfl⟩
  ·rw[List.getElem?_append_left (by rw[←w.len];exact q1)] at hu
   exact w.fz k b q2 hu
  ·exact nf
 ·obtain⟨o,ho⟩:=w.ff b hb
  exact⟨o,s b o ho⟩
 ·rcases last k b hk with⟨q1,q2⟩ | ⟨q1,rfl⟩
  ·rw[List.getElem?_append_left (by rw[←w.len];exact q1)] at hu
   exact w.fi k b q2 hu
  ·rw[List.getElem?_append_right (by rw[←w.len];omega),q1,w.len,Nat.sub_self] at hu
   cases hu
   exact absurd rfl hne
theorem SW.put{K:PySem.W.Frag}{cl:Nat→Addr}{ρ:P3}{H:Hp}{S:aU}(w:SW K cl ρ H S){k:Nat}{a:Addr}{o:SO}{u:HO}(hk:ρ.r[k]? =some a)(hf:a ∉ ρ.f)(r:Cw K cl ρ H o (some u))(hne:o≠SO.iz:=by intro h;cases h) :
 SW K cl ρ (upd H a u) (S.set k o)∧Pre ρ H ρ (upd H a u):=by
 have ha:a∈ρ.r:=List.mem_of_getElem? hk
 have hb:a∈ρ.b:=P3.eh.mpr (.inl ⟨ha,hf⟩)
 have nz:∀b∈ρ.z,b≠a:=fun b hb z=>(w.zb b hb).2 (by rw[z];exact ha)
 have p:Pre ρ H ρ (upd H a u):=⟨fun b x e nb=>⟨by rw[br (fun(z:b=a)=>nb (by rw[z];exact hb))];exact e,nb⟩,rfl,fun b o hb h=>by rw[br (nz b hb)];exact h,fun _ _ h=>h⟩
 have hl:k < S.length:=by rw[←w.len];exact(List.getElem?_eq_some_iff.mp hk).1
 refine⟨⟨by rw[List.length_set];exact w.len,w.nd,fun j b x hj hx=>?_,fun b hb=>?_,fun j b hj hx=>?_,fun b hb=>?_,fun j b hj hx=>?_⟩,p⟩
 ·by_cases q:k=j
  ·subst q
   rw[hk] at hj;cases hj
   rw[List.getElem?_set_self hl] at hx;cases hx
   rw[bf]
   exact r.pre p
  ·rw[List.getElem?_set_ne q] at hx
   have ne:b≠a:=fun z=>by subst z;exact q (w.nd k j b hk hj)
   rw[br ne]
   exact(w.ob j b x hj hx).pre p
 ·obtain⟨⟨o,ho⟩,nb⟩:=w.zb b hb
  exact⟨⟨o,by rw[br (nz b hb)];exact ho⟩,nb⟩
 ·by_cases q:k=j
  ·subst q
   rw[hk] at hj;cases hj
   exact hf
  ·rw[List.getElem?_set_ne q] at hx
   exact w.fz j b hj hx
 ·obtain⟨o,ho⟩:=w.ff b hb
  exact⟨o,by rw[br (fun z=>hf (by rw[←z];exact hb))];exact ho⟩
 ·by_cases q:k=j
  ·subst q
   rw[List.getElem?_set_self hl] at hx;cases hx
   exact absurd rfl hne
  ·rw[List.getElem?_set_ne q] at hx
   exact w.fi j b hj hx
theorem SW.iz{K:PySem.W.Frag}{cl:Nat→Addr}{ρ:P3}{H:Hp}{S:aU}(w:SW K cl ρ H S){k:Nat}{a:Addr}{ds:List D}(hk:ρ.r[k]? =some a)(hS:S[k]? =some (.lst ds)) :
 SW K cl ⟨ρ.r,ρ.z,a ::ρ.f⟩ H (S.set k .iz)∧Pre ρ H ⟨ρ.r,ρ.z,a ::ρ.f⟩ H∧Rep K (⟨ρ.r,ρ.z,a ::ρ.f⟩:P3).b H (.lst ds) (.ref a):=by
 have hl:k < S.length:=by rw[←w.len];exact(List.getElem?_eq_some_iff.mp hk).1
 have sub:∀b,b∈(⟨ρ.r,ρ.z,a ::ρ.f⟩:P3).b→b∈ρ.b:=fun b hb=>by
  rcases P3.eh.mp hb with⟨z,n⟩ | z
  ·exact P3.eh.mpr (.inl ⟨z,fun h=>n (List.mem_cons_of_mem _ h)⟩)
  ·exact P3.eh.mpr (.inr z)
 have p:Pre ρ H ⟨ρ.r,ρ.z,a ::ρ.f⟩ H:=⟨fun b o e nb=>⟨e,fun hb=>nb (sub b hb)⟩,rfl,fun _ _ _ h=>h,fun _ _ h=>h⟩
 obtain⟨xs,e1,r1⟩:=w.ob k a _ hk hS
 refine⟨⟨by rw[List.length_set];exact w.len,w.nd,fun j b x hj hx=>?_,w.zb,fun j b hj hx=>?_,fun b hb=>?_,fun j b hj hx=>?_⟩,p,?_⟩
 ·by_cases q:k=j
  ·subst q
   rw[List.getElem?_set_self hl] at hx;cases hx
   rw[hk] at hj;cases hj
   exact⟨_,e1⟩
  ·rw[List.getElem?_set_ne q] at hx
   exact(w.ob j b x hj hx).pre p
 ·by_cases q:k=j
  ·subst q
   rw[List.getElem?_set_self hl] at hx
   exact absurd rfl hx
  ·rw[List.getElem?_set_ne q] at hx
   intro h
   rcases List.mem_cons.mp h with z | z
   ·subst z;exact q (w.nd k j b hk hj)
   ·exact w.fz j b hj hx z
 ·rcases List.mem_cons.mp hb with z | z
  ·subst z;exact⟨_,e1⟩
  ·exact w.ff b z
 ·by_cases q:k=j
  ·subst q
   rw[hk] at hj;cases hj
   exact List.mem_cons_self
  ·rw[List.getElem?_set_ne q] at hx
   exact List.mem_cons_of_mem _ (w.fi j b hj hx)
 ·refine Rep.lst.mpr ⟨a,xs,rfl, .inl ⟨fun hb=>?_, .inl e1⟩,r1.bx p.bx⟩
  rcases P3.eh.mp hb with⟨_,n⟩ | z
  ·exact n List.mem_cons_self
  ·exact(w.zb a z).2 (List.mem_of_getElem? hk)
mutual
noncomputable def k5:D→Bool
 | .lst _=>false
 | .dct _ _=>false
 | .tup ds=>jC ds
 | _=>true
noncomputable def jC:List D→Bool
 | []=>true
 | d ::ds=>k5 d && jC ds
end
mutual
theorem Rep.vj{K:PySem.W.Frag}{B:List Addr}{H:Hp}(hB:∀b∈B,∀xs,¬Rd H b (.tup xs)):∀{d:D} {v:V},k5 d=true→Rep K [] H d v→Rep K B H d v
 | .cI,v,_,r=>Rep.cI.mpr (Rep.cI.mp r)
 | .bl _,v,_,r=>Rep.bl.mpr (Rep.bl.mp r)
 | .int _,v,_,r=>Rep.int.mpr (Rep.int.mp r)
 | .str _,v,_,r=>Rep.str.mpr (Rep.str.mp r)
 | .lst _,v,h,_=>by unfold k5 at h;cases h
 | .dct _ _,v,h,_=>by unfold k5 at h;cases h
 | .tup ds,v,h,r=>by
   unfold k5 at h
   obtain⟨a,xs,rfl,l,rs⟩:=Rep.tup.mp r
   exact Rep.tup.mpr ⟨a,xs,rfl,l.elim (fun z=> .inl ⟨fun hb=>hB a hb xs z.2,z.2⟩) .inr,aK.vj hB h rs⟩
theorem aK.vj{K:PySem.W.Frag}{B:List Addr}{H:Hp}(hB:∀b∈B,∀xs,¬Rd H b (.tup xs)):∀{ds:List D} {vs:List V},jC ds=true→aK K [] H ds vs→aK K B H ds vs
 | [],_,_,r=>by unfold aK at r;subst r;exact aK.nil
 | d ::ds,vs,h,r=>by
   unfold jC at h
   obtain⟨h1,h2⟩:=Bool.and_eq_true_iff.mp h
   obtain⟨x,xs,rfl,r1,r2⟩:=r.cA
   exact aK.cons (Rep.vj hB h1 r1) (aK.vj hB h2 r2)
end
theorem SW.nt{K:PySem.W.Frag}{cl:Nat→Addr}{ρ:P3}{H:Hp}{S:aU}(w:SW K cl ρ H S):∀b∈ρ.b,∀xs,¬Rd H b (.tup xs):=fun b hb xs h=>by
 have key:∀o,H b=some o→(∀xs,o≠ .tup xs)→(∀ob xs,o≠ .iz ob (.tup xs))→False:=fun o e h1 h2=>by
  rcases h with z | ⟨ob,z⟩
  ·rw[e] at z;cases z;exact h1 _ rfl
  ·rw[e] at z;cases z;exact h2 _ _ rfl
 rcases P3.eh.mp hb with⟨z,n⟩ | z
 ·obtain⟨k,hk⟩:=List.getElem?_of_mem z
  have hl:=(List.getElem?_eq_some_iff.mp hk).1
  have hS:S[k]? =some (S[k]'(by rw[←w.len];exact hl)):=List.getElem?_eq_getElem (by rw[←w.len];exact hl)
  have r:=w.ob k b _ hk hS
  generalize S[k]'(by rw[←w.len];exact hl)=o at r hS
  cases o with
  | lst ds=>obtain⟨ys,e,_⟩:=r;exact key _ e (fun _ q=>by cases q) (fun _ _ q=>by cases q)
  | dct kvs=>obtain⟨ys,e,_⟩:=r;exact key _ e (fun _ q=>by cases q) (fun _ _ q=>by cases q)
  | ins c fs=>obtain⟨dx,ys,e,_⟩:=r;exact key _ e (fun _ q=>by cases q) (fun _ _ q=>by cases q)
  | iz=>exact n (w.fi k b hk hS)
 ·obtain⟨⟨ys,e⟩,_⟩:=w.zb b z
  exact key _ e (fun _ q=>by cases q) (fun _ _ q=>by cases q)
noncomputable abbrev DE:=List (Option V3)
structure fL (K:PySem.W.Frag) (cl:Nat→Addr) (ρ:P3) (H:Hp) (S:aU) (σ:L2.St) (δ:DE):Prop where
 len:δ.length=σ.length
 sw:SW K cl ρ H S
 val:∀(i:Nat) (d:V3),δ[i]? =some (some d)→∃v,σ[i]? =some (some v)∧bw K ρ H d v
theorem fL.to{K:PySem.W.Frag}{cl:Nat→Addr}{ρ ρ':P3}{H H':Hp}{S S':aU}{σ:L2.St}{δ:DE}(E:fL K cl ρ H S σ δ)(p:Pre ρ H ρ' H')(w:SW K cl ρ' H' S'):fL K cl ρ' H' S' σ δ:=
 ⟨E.len,w,fun i d e=>let⟨v,h1,h2⟩:=E.val i d e;⟨v,h1,h2.pre p⟩⟩
theorem fL.set{K:PySem.W.Frag}{cl:Nat→Addr}{ρ:P3}{H:Hp}{S:aU}{σ:L2.St}{δ:DE}(E:fL K cl ρ H S σ δ){i:Nat}{d:V3}{v:V}(hi:i < σ.length)(r:bw K ρ H d v):fL K cl ρ H S (σ.set i (some v)) (δ.set i (some d)):=
 ⟨by rw[List.length_set,List.length_set];exact E.len,E.sw,fun j d' e=>by
   by_cases h:i=j
   ·subst h
    rw[List.getElem?_set_self (by rw[E.len];exact hi)] at e
    cases e
    exact⟨v,List.getElem?_set_self hi,r⟩
   ·rw[List.getElem?_set_ne h] at e ⊢
    exact E.val j d' e⟩
noncomputable def down(δ:DE):aw:=δ.map fun x=>match x with | some (.d d)=> .val d | _=> .un
theorem fL.down{K:PySem.W.Frag}{cl:Nat→Addr}{ρ:P3}{H:Hp}{S:aU}{σ:L2.St}{δ:DE}(E:fL K cl ρ H S σ δ):ef K [] ρ.b H σ (down δ) where
 len:=by unfold L3.down;rw [List.length_map];exact E.len
 bs:=E.sw.bs
 zb:=fun a ha=>by cases ha
 val:=fun i d e=>by
  unfold L3.down at e
  rw[List.getElem?_map] at e
  cases q:δ[i]? with
  | none=>rw [q] at e;cases e
  | some x=>
    rw[q] at e
    match x,e,q with
    | some (.d y),e,q=>
      cases e
      obtain⟨v,h1,h2⟩:=E.val i _ q
      unfold bw at h2
      exact⟨v,h1,h2⟩
    | some (.loc k),e,q=>cases e
    | some (.lst k),e,q=>cases e
    | some (.tup k),e,q=>cases e
    | none,e,q=>cases e
 bld:=fun i ds e=>by
  unfold L3.down at e
  rw[List.getElem?_map] at e
  cases q:δ[i]? with
  | none=>rw [q] at e;cases e
  | some x=>
    rw[q] at e
    match x,e with
    | some (.d y),e=>cases e
    | some (.loc k),e=>cases e
    | some (.lst k),e=>cases e
    | some (.tup k),e=>cases e
    | none,e=>cases e
 dis:=fun i j a ds es e=>by
  unfold L3.down at e
  rw[List.getElem?_map] at e
  cases q:δ[i]? with
  | none=>rw [q] at e;cases e
  | some x=>
    rw[q] at e
    match x,e with
    | some (.d y),e=>cases e
    | some (.loc k),e=>cases e
    | some (.lst k),e=>cases e
    | some (.tup k),e=>cases e
    | none,e=>cases e
mutual
noncomputable def res(S:aU):V3→Option D
 | .d x=>some x
 | .loc k=>(match S[k]? with | some (.lst ds)=>some (.lst ds) | _=>none)
 | .lst vs=>(nu S vs).map D.lst
 | .tup vs=>(nu S vs).map D.tup
noncomputable def nu(S:aU):List V3→Option (List D)
 | []=>some []
 | v ::vs=>(res S v).bind fun d=>(nu S vs).map (d ::·)
end
noncomputable def b3(S:aU)(δ:DE):aw:=δ.map fun x=>match x with | some v=>(match res S v with | some d=> .val d | none=> .un) | none=> .un
theorem oW{α β:Type}{o:Option α}{f:α→β}{b:β}(h:o.map f=some b):∃a,o=some a∧f a=b:=by
 cases o with
 | none=>cases h
 | some a=>cases h;exact⟨a,rfl,rfl⟩
theorem xB{α β:Type}{o:Option α}{f:α→Option β}{b:β}(h:o.bind f=some b):∃a,o=some a∧f a=some b:=by
 cases o with
 | none=>cases h
 | some a=>exact⟨a,rfl,h⟩
mutual
noncomputable def eI(n:Nat):V3→Bool
 | .d _=>true
 | .loc k=>decide (n≤k)
 | .lst vs=>om n vs
 | .tup vs=>om n vs
noncomputable def om(n:Nat):List V3→Bool
 | []=>true
 | v ::vs=>eI n v && om n vs
end
mutual
theorem bw.resB{K:PySem.W.Frag}{cl:Nat→Addr}{ρ:P3}{H:Hp}{S:aU}{B':List Addr}{n:Nat}(w:SW K cl ρ H S)(p:dt ρ.b H B' H)(hn:∀(k:Nat) (a:Addr),n≤k→ρ.r[k]? =some a→a ∉ B'):∀{v:V3} {d:D} {x:V},eI n v=true→res S v=some d→bw K ρ H v x→Rep K B' H d x
 | .d y,d,x,_,h,r=>by unfold L3.res at h;cases h;unfold bw at r;exact r.bx p
 | .loc k,d,x,g,h,r=>by
   unfold L3.res at h
   unfold bw at r
   unfold eI at g
   obtain⟨a,h1,rfl⟩:=r
   split at h
   ·rename_i ds e
    cases h
    obtain⟨xs,e2,q⟩:=w.ob k a _ h1 e
    unfold Rep
    exact⟨a,xs,rfl, .inl ⟨hn k a (of_decide_eq_true g) h1, .inl e2⟩,q.bx p⟩
   ·cases h
 | .lst vs,d,x,g,h,r=>by
   unfold L3.res at h
   unfold eI at g
   obtain⟨ds,e,rfl⟩:=oW h
   unfold bw at r
   obtain⟨a,xs,rfl,l,r⟩:=r
   unfold Rep
   exact⟨a,xs,rfl,l.bx p,aM.resB w p hn g e r⟩
 | .tup vs,d,x,g,h,r=>by
   unfold L3.res at h
   unfold eI at g
   obtain⟨ds,e,rfl⟩:=oW h
   unfold bw at r
   obtain⟨a,xs,rfl,l,r⟩:=r
   unfold Rep
   exact⟨a,xs,rfl,sN.bx p l,aM.resB w p hn g e r⟩
theorem aM.resB{K:PySem.W.Frag}{cl:Nat→Addr}{ρ:P3}{H:Hp}{S:aU}{B':List Addr}{n:Nat}(w:SW K cl ρ H S)(p:dt ρ.b H B' H)(hn:∀(k:Nat) (a:Addr),n≤k→ρ.r[k]? =some a→a ∉ B'):∀{vs:List V3} {ds:List D} {xs:List V},om n vs=true→nu S vs=some ds→aM K ρ H vs xs→aK K B' H ds xs
 | [],ds,xs,_,h,r=>by unfold nu at h;cases h;unfold aM at r;subst r;exact aK.nil
 | v ::vs,ds,xs,g,h,r=>by
   unfold nu at h
   unfold om at g
   obtain⟨g1,g2⟩:=Bool.and_eq_true_iff.mp g
   obtain⟨d,e1,h2⟩:=xB h
   obtain⟨es,e2,rfl⟩:=oW h2
   obtain⟨y,ys,rfl,r1,r2⟩:=r.cA
   exact aK.cons (bw.resB w p hn g1 e1 r1) (aM.resB w p hn g2 e2 r2)
end
mutual
theorem tm:∀v:V3,eI 0 v=true
 | .d _=>by unfold eI;rfl
 | .loc k=>by unfold eI;exact decide_eq_true (Nat.zero_le _)
 | .lst vs=>by unfold eI;exact m5 vs
 | .tup vs=>by unfold eI;exact m5 vs
theorem m5:∀vs:List V3,om 0 vs=true
 | []=>by unfold om;rfl
 | v ::vs=>by unfold om;rw [tm v,m5 vs];rfl
end
theorem bw.res{K:PySem.W.Frag}{cl:Nat→Addr}{ρ:P3}{H:Hp}{S:aU}(w:SW K cl ρ H S){v:V3}{d:D}{x:V}(h:res S v=some d)(r:bw K ρ H v x):Rep K [] H d x:=
 r.resB w (fun b o e _=>⟨e,by simp⟩) (n:=0) (fun _ _ _ _=>by simp) (tm v) h
theorem o8{S:aU}{δ:DE}{i:Nat}{y:Sl}(e:(b3 S δ)[i]? =some y):(∃v d,δ[i]? =some (some v)∧res S v=some d∧y= .val d)∨y= .un:=by
 unfold b3 at e
 rw[List.getElem?_map] at e
 cases q:δ[i]? with
 | none=>rw [q] at e;cases e
 | some x=>
   rw[q] at e
   cases x with
   | none=>cases e;exact .inr rfl
   | some v=>
     cases z:res S v with
     | none=>
       have e:some (match res S v with | some d=>Sl.val d | none=> .un)=some y:=e
       rw[z] at e;cases e;exact .inr rfl
     | some d=>
       have e:some (match res S v with | some d=>Sl.val d | none=> .un)=some y:=e
       rw[z] at e;cases e;exact .inl ⟨v,d,rfl,z,rfl⟩
theorem fL.b3{K:PySem.W.Frag}{cl:Nat→Addr}{ρ:P3}{H:Hp}{S:aU}{σ:L2.St}{δ:DE}(E:fL K cl ρ H S σ δ):ef K [] [] H σ (b3 S δ) where
 len:=by unfold L3.b3;rw [List.length_map];exact E.len
 bs:=fun a ha=>by cases ha
 zb:=fun a ha=>by cases ha
 val:=fun i d e=>by
  rcases o8 e with⟨v,d',h1,h2,h3⟩ | h
  ·cases h3
   obtain⟨x,q1,q2⟩:=E.val i v h1
   exact⟨x,q1,q2.res E.sw h2⟩
  ·cases h
 bld:=fun i ds e=>by
  rcases o8 e with⟨v,d',h1,h2,h3⟩ | h
  ·cases h3
  ·cases h
 dis:=fun i j a ds es e=>by
  rcases o8 e with⟨v,d',h1,h2,h3⟩ | h
  ·cases h3
  ·cases h
noncomputable abbrev FX:=DE→aU→R3 V3
noncomputable abbrev FB:=DE→aU→R3 Bool
noncomputable abbrev FA:=DE→aU→R3 (List V3)
noncomputable def tX(K:PySem.W.Frag)(cl:Nat→Addr)(f:FX):TE:=fun σ H Q=>∃ρ S δ v S',fL K cl ρ H S σ δ∧f δ S= .ok v S'∧∀u ρ' H',Pre ρ H ρ' H'→SW K cl ρ' H' S'→bw K ρ' H' v u→Q u H'
noncomputable def GN(K:PySem.W.Frag)(cl:Nat→Addr)(f:FB):TT:=fun σ H Q=>∃ρ S δ b S',fL K cl ρ H S σ δ∧f δ S= .ok b S'∧∀ρ' H',Pre ρ H ρ' H'→SW K cl ρ' H' S'→Q b H'
noncomputable def LV(K:PySem.W.Frag)(cl:Nat→Addr)(f:FA):TA:=fun σ H Q=>∃ρ S δ vs S',fL K cl ρ H S σ δ∧f δ S= .ok vs S'∧∀us ρ' H',Pre ρ H ρ' H'→SW K cl ρ' H' S'→aM K ρ' H' vs us→Q us H'
structure PX (X:Cx) (cl:Nat→Addr) (e:Expr) (f:FX):Prop where
 go:PE X e (tX X.K cl f)
structure zD (X:Cx) (cl:Nat→Addr) (e:Expr) (f:FB):Prop where
 go:PT X e (GN X.K cl f)
structure Eh (X:Cx) (cl:Nat→Addr) (es:List Expr) (f:FA):Prop where
 go:PA X es (LV X.K cl f)
section
variable {X:Cx} {cl:Nat→Addr}
noncomputable def xP(f:FD):FX:=fun δ S=>(R3.of (f (down δ)) S).bind fun d S=> .ok (.d d) S
theorem au{e:Expr}{f:FD}(h:QD X e f):PX X cl e (xP f):=⟨h.1.imp fun σ H Q ⟨ρ,S,δ,v,S',E,hf,q⟩=>by
 obtain⟨d,S1,h1,h2⟩:=R3.ao hf
 obtain⟨h3,e3⟩:=R3.of_ok h1
 cases h2
 subst e3
 exact⟨[],ρ.b,down δ,d,E.down,h3,fun v H' s r=>q v ρ H' (Pre.same s) (E.sw.same s) (by unfold bw;exact r)⟩⟩
noncomputable def xT(f:FD):FX:=fun δ S=>(R3.of (f (b3 S δ)) S).bind fun d S=>R3.cb (k5 d) (.ok (.d d) S)
theorem cF{e:Expr}{f:FD}(h:QD X e f):PX X cl e (xT f):=⟨h.1.imp fun σ H Q ⟨ρ,S,δ,v,S',E,hf,q⟩=>by
 obtain⟨d,S1,h1,h2⟩:=R3.ao hf
 obtain⟨h4,e3⟩:=R3.of_ok h1
 obtain⟨ha,h3⟩:=R3.bp h2
 cases h3
 subst e3
 exact⟨[],[],b3 _ δ,d,E.b3,h4,fun v H' s r=>q v ρ H' (Pre.same s) (E.sw.same s) (by unfold bw;exact Rep.vj (E.sw.same s).nt ha r)⟩⟩
noncomputable def bP(f:aw→R Bool):FB:=fun δ S=>R3.of (f (down δ)) S
theorem ip{e:Expr}{f:aw→R Bool}(h:QB X e f):zD X cl e (bP f):=⟨h.1.imp fun σ H Q ⟨ρ,S,δ,v,S',E,hf,q⟩=>by
 obtain⟨h1,e3⟩:=R3.of_ok hf
 subst e3
 exact⟨[],ρ.b,down δ,v,E.down,h1,fun H' s=>q ρ H' (Pre.same s) (E.sw.same s)⟩⟩
noncomputable def bT(f:aw→R Bool):FB:=fun δ S=>R3.of (f (b3 S δ)) S
theorem lG{e:Expr}{f:aw→R Bool}(h:QB X e f):zD X cl e (bT f):=⟨h.1.imp fun σ H Q ⟨ρ,S,δ,v,S',E,hf,q⟩=>by
 obtain⟨h1,e3⟩:=R3.of_ok hf
 subst e3
 exact⟨[],[],b3 _ δ,v,E.b3,h1,fun H' s=>q ρ H' (Pre.same s) (E.sw.same s)⟩⟩
noncomputable def bO(i:Nat):FX:=fun δ S=>match δ[i]? with | some (some v)=> .ok v S | _=> .no
theorem aT(i:Nat){x:Str}{pos:Pos}(hN:X.N[i]? =some x:=by rfl)(hv:FU X.env.scope x:=by first | exact Or.inl rfl | exact Or.inr (Or.inl rfl) | exact Or.inr (Or.inr rfl))(hd:(x==("__debug__":Str))=false:=by decide)
 (hcd:(x==("__classdict__":Str))=false:=by decide):PX X cl (.Name x pos) (bO i):=⟨(uf hN hv hd hcd).imp fun σ H Q ⟨ρ,S,δ,v,S',E,hf,q⟩=>by
 unfold bO at hf
 split at hf
 ·rename_i d' e
  cases hf
  obtain⟨u,h1,h2⟩:=E.val i _ e
  exact⟨u,h1,q u ρ H (Pre.refl ρ H) E.sw h2⟩
 ·cases hf⟩
noncomputable def nY(f:aw→R (List D)):FX:=fun δ S=>(R3.of (f (down δ)) S).bind fun ds S=> .ok (.loc S.length) (S++[.lst ds])
theorem ix{e:Expr}{f:aw→R (List D)}(h:QN X e f):PX X cl e (nY f):=⟨h.1.imp fun σ H Q ⟨ρ,S,δ,v,S',E,hf,q⟩=>by
 obtain⟨ds,S1,h1,h2⟩:=R3.ao hf
 obtain⟨h3,e3⟩:=R3.of_ok h1
 cases h2
 subst e3
 refine⟨[],ρ.b,down δ,ds,E.down,h3,fun a xs H' s n e r=>?_⟩
 have r':aK X.K (ρ.push a).b H' ds xs:=r.bx fun b o e nb=>⟨e,fun hb=>nb (by
  rcases P3.mem_push hb with z | z
  ·exact List.mem_cons_of_mem _ z
  ·subst z;exact List.mem_cons_self)⟩
 obtain⟨w,p⟩:=E.sw.new (o:= .lst ds) s n ⟨xs,e,r'⟩
 exact q _ _ H' p w (by unfold bw;exact⟨a,by show(ρ.r++[a])[_]? =_;rw [←E.sw.len,List.getElem?_append_right (by omega),Nat.sub_self];rfl,rfl⟩)⟩
end
end L3
end
section
set_option maxRecDepth 100000
set_option maxHeartbeats 4000000
namespace L3
open PySem PySem.Spec PyProof.Rows L2
section
variable {X:Cx} {cl:Nat→Addr}
noncomputable def cw:FA:=fun _ S=> .ok [] S
noncomputable def ax(f:FX)(g:FA):FA:=fun δ S=>(f δ S).bind fun v S1=>(g δ S1).bind fun vs S2=> .ok (v ::vs) S2
theorem aS:Eh X cl [] cw:=⟨iA.imp fun σ H Q ⟨ρ,S,δ,v,S',E,hf,q⟩=>by
 cases hf
 exact q [] ρ H (Pre.refl ρ H) E.sw aM.nil⟩
theorem aj{e:Expr}{es:List Expr}{f:FX}{g:FA}(h:PX X cl e f)(t:Eh X cl es g)(hs:starEach (e ::es) X.env=(false,eval e X.env) ::starEach es X.env:=by rfl):Eh X cl (e ::es) (ax f g):=
 ⟨(eA h.1 t.1 hs).imp fun σ H Q ⟨ρ,S,δ,v,S',E,hf,q⟩=>by
   obtain⟨v1,S1,h1,h2⟩:=R3.ao hf
   obtain⟨vs,S2,h3,h4⟩:=R3.ao h2
   cases h4
   exact⟨ρ,S,δ,v1,S1,E,h1,fun u ρ1 H1 p1 w1 r1=>⟨ρ1,S1,δ,vs,_,E.to p1 w1,h3,fun us ρ2 H2 p2 w2 r2=>q _ ρ2 H2 (p1.trans p2) w2 (aM.cons (r1.pre p2) r2)⟩⟩⟩
noncomputable def j9:List V3→Option (List D)
 | []=>some []
 | .d x ::r=>(j9 r).map (x ::·)
 | _ ::_=>none
theorem jT:∀{vs:List V3} {ds:List D},j9 vs=some ds→vs=ds.map .d
 | [],ds,h=>by cases h;rfl
 | .d x ::r,ds,h=>by
   cases e:j9 r with
   | none=>have h:(j9 r).map (x ::·)=some ds:=h;rw [e] at h;cases h
   | some es=>
     have h:(j9 r).map (x ::·)=some ds:=h
     rw[e] at h
     cases h
     rw[jT e]
     rfl
 | .loc _ ::_,_,h=>by cases h
 | .lst _ ::_,_,h=>by cases h
 | .tup _ ::_,_,h=>by cases h
theorem qG:∀ds:List D,j9 (ds.map .d)=some ds
 | []=>rfl
 | d ::ds=>by show(j9 (ds.map .d)).map (d ::·)=_;rw [qG ds];rfl
noncomputable def kZ(vs:List V3):V3:=match j9 vs with | some ds=> .d (.tup ds) | none=> .tup vs
noncomputable def je(vs:List V3):V3:=match j9 vs with | some ds=> .d (.lst ds) | none=> .lst vs
noncomputable def zR(g:FA):FX:=fun δ S=>(g δ S).bind fun vs S=>R3.cb (decide (vs.length≤sizeLine)) (.ok (kZ vs) S)
theorem qh{ρ:P3}{H:Hp}{p:Addr}{o:HO}(hp:H p=none):Pre ρ H ρ (upd H p o):=Pre.same (aX hp)
theorem zT{K:PySem.W.Frag}{ρ:P3}{H:Hp}{vs:List V3}{xs:List V}{a:Addr}(l:sN K ρ.b H a xs)(r:aM K ρ H vs xs):bw K ρ H (kZ vs) (.ref a):=by
 unfold kZ
 split
 ·rename_i ds e
  rw[jT e] at r
  unfold bw Rep
  exact⟨a,xs,rfl,l,r.to⟩
 ·unfold bw
  exact⟨a,xs,rfl,l,r⟩
theorem tL{K:PySem.W.Frag}{ρ:P3}{H:Hp}{vs:List V3}{xs:List V}{a:Addr}(l:r_ K ρ.b H a xs)(r:aM K ρ H vs xs):bw K ρ H (je vs) (.ref a):=by
 unfold je
 split
 ·rename_i ds e
  rw[jT e] at r
  unfold bw Rep
  exact⟨a,xs,rfl,l,r.to⟩
 ·unfold bw
  exact⟨a,xs,rfl,l,r⟩
theorem uh{es:List Expr}{g:FA}{x1 pos}(h:Eh X cl es g):PX X cl (.Tuple es x1 pos) (zR g):=⟨(A9 h.1).imp fun σ H Q ⟨ρ,S,δ,v,S',E,hf,q⟩=>by
 obtain⟨vs,S1,h1,h2⟩:=R3.ao hf
 obtain⟨hl,h3⟩:=R3.bp h2
 cases h3
 refine⟨ρ,S,δ,vs,_,E,h1,fun us ρ1 H1 p1 w1 r1=>⟨by rw[←r1.length];exact of_decide_eq_true hl,fun p hp=>q _ ρ1 _ (p1.trans (qh hp)) (w1.same (aX hp)) ?_⟩⟩
 refine zT (.inl ⟨fun ha=>?_, .inl bf⟩) (r1.pre (qh hp))
 obtain⟨o,ho⟩:=w1.bs p ha
 rw[hp] at ho;cases ho⟩
noncomputable def G7(g:FA):FX:=fun δ S=>(g δ S).bind fun vs S=>R3.cb (decide (vs.length≤sizeLine)) (.ok (je vs) S)
theorem Hz{es:List Expr}{g:FA}{pos}(h:Eh X cl es g):PX X cl (.List es pos) (G7 g):=⟨(Bk h.1).imp fun σ H Q ⟨ρ,S,δ,v,S',E,hf,q⟩=>by
 obtain⟨vs,S1,h1,h2⟩:=R3.ao hf
 obtain⟨hl,h3⟩:=R3.bp h2
 cases h3
 refine⟨ρ,S,δ,vs,_,E,h1,fun us ρ1 H1 p1 w1 r1=>⟨by rw[←r1.length];exact of_decide_eq_true hl,fun p hp=>q _ ρ1 _ (p1.trans (qh hp)) (w1.same (aX hp)) ?_⟩⟩
 refine tL (.inl ⟨fun ha=>?_, .inl bf⟩) (r1.pre (qh hp))
 obtain⟨o,ho⟩:=w1.bs p ha
 rw[hp] at ho;cases ho⟩
noncomputable def x2(g:D→D→R D)(fa fb:FX):FX:=fun δ S=>(fa δ S).bind fun a S1=>(fb δ S1).bind fun b S2=>match a,b with
 | .d x, .d y=>(R3.of (g x y) S2).bind fun d S=> .ok (.d d) S
 | _,_=> .no
theorem Hj{K:PySem.W.Frag}{g:D→D→R D}{fa fb:FX}{σ:L2.St}{H:Hp}{Q:VK}(h:tX K cl (x2 g fa fb) σ H Q) :
 HZ (fun x y H Q=>∃B da db d,(∀a∈B,∃o,H a=some o)∧Rep K B H da x∧Rep K B H db y∧g da db= .ok d∧∀z H',a_ H H'→Rep K B H' d z→Q z H') (tX K cl fa) (tX K cl fb) σ H Q:=by
 obtain⟨ρ,S,δ,v,S',E,hf,q⟩:=h
 obtain⟨a,S1,h1,h2⟩:=R3.ao hf
 obtain⟨b,S2,h3,h4⟩:=R3.ao h2
 match a,b,h1,h3,h4 with
 | .d x, .d y,h1,h3,h4=>
   obtain⟨d,S3,h5,h6⟩:=R3.ao h4
   obtain⟨h7,e⟩:=R3.of_ok h5
   cases h6
   subst e
   refine⟨ρ,S,δ, .d x,S1,E,h1,fun u1 ρ1 H1 p1 w1 r1=>⟨ρ1,S1,δ, .d y,_,E.to p1 w1,h3,fun u2 ρ2 H2 p2 w2 r2=>?_⟩⟩
   have r1':=r1.pre p2
   unfold bw at r1' r2
   exact⟨ρ2.b,x,y,d,w2.bs,r1',r2,h7,fun z H' s r=>q z ρ2 H' (p1.trans (p2.trans (Pre.same s))) (w2.same s) (by unfold bw;exact r)⟩
 | .d x, .loc _,_,_,h4=>cases h4
 | .d x, .lst _,_,_,h4=>cases h4
 | .d x, .tup _,_,_,h4=>cases h4
 | .loc _,_,_,_,h4=>cases h4
 | .lst _,_,_,_,h4=>cases h4
 | .tup _,_,_,_,h4=>cases h4
theorem qO{op:Operator}{g:D→D→R D}{a b:Expr}{fa fb:FX}{pos:Pos}(ho:j3 X (binaryOp op) g)(ha:PX X cl a fa)(hb:PX X cl b fb):PX X cl (.BinOp a op b pos) (x2 g fa fb):=
 ⟨(zh ho.r ha.1 hb.1).imp fun σ H Q h=>Hj h⟩
theorem C3{op:CmpOp}{g:D→D→R D}{a b:Expr}{fa fb:FX}{pos:Pos}(ho:j3 X (compareOp op) g)(ha:PX X cl a fa)(hb:PX X cl b fb)(hm:behindInMarks op b=false):PX X cl (.Compare a [op] [b] pos) (x2 g fa fb):=
 ⟨(yZ ho.r ha.1 hb.1 hm).imp fun σ H Q h=>Hj h⟩
noncomputable def JR(g:D→D→R D)(fa fb:FX):FB:=fun δ S=>(x2 g fa fb δ S).bind fun v S=>match v with | .d (.bl b)=> .ok b S | _=> .no
theorem Fc{op:CmpOp}{g:D→D→R D}{a b:Expr}{fa fb:FX}{pos:Pos}(ho:j3 X (compareOp op) g)(ha:PX X cl a fa)(hb:PX X cl b fb)(hm:behindInMarks op b=false):zD X cl (.Compare a [op] [b] pos) (JR g fa fb):=
 ⟨(y9 ho.r ha.1 hb.1 hm).imp fun σ H Q ⟨ρ,S,δ,b,S',E,hf,q⟩=>by
   obtain⟨v,S1,h1,h2⟩:=R3.ao hf
   have hv:v= .d (.bl b)∧S1=S':=by
    match v,h2 with
    | .d (.bl k),h2=>cases h2;exact⟨rfl,rfl⟩
    | .d .cI,h2=>cases h2
    | .d (.int _),h2=>cases h2
    | .d (.str _),h2=>cases h2
    | .d (.lst _),h2=>cases h2
    | .d (.tup _),h2=>cases h2
    | .d (.dct _ _),h2=>cases h2
    | .loc _,h2=>cases h2
    | .lst _,h2=>cases h2
    | .tup _,h2=>cases h2
   obtain⟨rfl,rfl⟩:=hv
   exact Hj (g:=g) (Q:=fun x H'=>∃k,x= .bl k∧Q k H') ⟨ρ,S,δ,_,_,E,h1,fun u ρ' H' p w r=>⟨b,by unfold bw Rep at r;exact r,q ρ' H' p w⟩⟩⟩
inductive Ou where
 | nx (δ:DE) | rt (v:V3)
noncomputable abbrev FZ:=DE→aU→R3 Ou
noncomputable def DR(K:PySem.W.Frag)(cl:Nat→Addr)(ρ:P3)(H:Hp)(D:Ends)(S':aU):Ou→Prop
 | .nx δ'=>∀σ' ρ' H',Pre ρ H ρ' H'→fL K cl ρ' H' S' σ' δ'→D.nx σ' H'
 | .rt v=>∀u ρ' H',Pre ρ H ρ' H'→SW K cl ρ' H' S'→bw K ρ' H' v u→D.rt u H'
theorem DR.pre{K:PySem.W.Frag}{ρ ρ1:P3}{H H1:Hp}{D:Ends}{S':aU}{o:Ou}(q:DR K cl ρ H D S' o)(p:Pre ρ H ρ1 H1):DR K cl ρ1 H1 D S' o:=by
 cases o with
 | nx δ'=>exact fun σ' ρ' H' p' E'=>q σ' ρ' H' (p.trans p') E'
 | rt d=>exact fun v ρ' H' p' w r=>q v ρ' H' (p.trans p') w r
noncomputable def sX(K:PySem.W.Frag)(cl:Nat→Addr)(F:FZ):TS:=fun D σ H=>∃ρ S δ o S',fL K cl ρ H S σ δ∧F δ S= .ok o S'∧DR K cl ρ H D S' o
structure PZ (X:Cx) (cl:Nat→Addr) (st:Stmt) (F:FZ):Prop where
 go:PS X st (sX X.K cl F)
structure AD (X:Cx) (cl:Nat→Addr) (st:List Stmt) (F:FZ):Prop where
 go:uZ X st (sX X.K cl F)
noncomputable def pX:FZ:=fun δ S=> .ok (.nx δ) S
noncomputable def bG(F G:FZ):FZ:=fun δ S=>(F δ S).bind fun o S1=>match o with | .nx δ'=>G δ' S1 | .rt d=> .ok (.rt d) S1
theorem jq:AD X cl [] pX:=⟨yC.imp fun D σ H ⟨ρ,S,δ,o,S',E,hf,q⟩=>by
 cases hf
 exact q σ ρ H (Pre.refl ρ H) E⟩
theorem av{st:Stmt}{rest:List Stmt}{F G:FZ}(h1:PZ X cl st F)(h2:AD X cl rest G):AD X cl (st ::rest) (bG F G):=⟨(wV h1.1 h2.1).imp fun D σ H ⟨ρ,S,δ,o,S',E,hf,q⟩=>by
 obtain⟨o1,S1,h1,h2⟩:=R3.ao hf
 refine⟨ρ,S,δ,o1,S1,E,h1,?_⟩
 cases o1 with
 | nx δ1=>
   intro σ1 ρ1 H1 p1 E1
   exact⟨ρ1,S1,δ1,o,S',E1,h2,q.pre p1⟩
 | rt d=>
   cases h2
   exact q⟩
theorem aP{st:Stmt}{F:FZ}(h1:PZ X cl st F):AD X cl [st] F:=⟨zi h1.1⟩
noncomputable def cC(i:Nat)(f:FX):FZ:=fun δ S=>(f δ S).bind fun v S=>R3.cb (decide (i < δ.length)) (.ok (.nx (δ.set i (some v))) S)
theorem bo{i:Nat}{x:Str}{e:Expr}{f:FX}{pos pos':Pos}(hN:X.N.Nodup)(hi:X.N[i]? =some x)(hx:Loc X.env.scope x)(he:PX X cl e f)(hs:swapsWith e (some (.Name x pos')) pos.line X.env=pure false:=by rfl)(hf:X.fn x=true∨X.env.scope.names.lookup x=some .local:=by first | exact .inl rfl | exact .inr rfl | assumption) :
 PZ X cl (.Assign [.Name x pos'] e pos) (cC i f):=⟨(yh hN hi hx he.1 hs hf).imp fun D σ H ⟨ρ,S,δ,o,S',E,hf,q⟩=>by
 obtain⟨v,S1,h1,h2⟩:=R3.ao hf
 obtain⟨hi,h3⟩:=R3.bp h2
 cases h3
 refine⟨ρ,S,δ,v,_,E,h1,fun u ρ1 H1 p1 w1 r1=>?_⟩
 exact q _ ρ1 H1 p1 ((E.to p1 w1).set (by rw[←E.len];exact of_decide_eq_true hi) r1)⟩
noncomputable def ij(f:FX):FZ:=fun δ S=>(f δ S).bind fun v S=> .ok (.rt v) S
theorem c_{e:Expr}{f:FX}{pos:Pos}(he:PX X cl e f):PZ X cl (.Return (some e) pos) (ij f):=⟨(Cz he.1).imp fun D σ H ⟨ρ,S,δ,o,S',E,hf,q⟩=>by
 obtain⟨v,S1,h1,h2⟩:=R3.ao hf
 cases h2
 exact⟨ρ,S,δ,v,_,E,h1,fun u ρ1 H1 p1 w1 r1=>q u ρ1 H1 p1 w1 r1⟩⟩
noncomputable def yM(c:FB)(F G:FZ):FZ:=fun δ S=>(c δ S).bind fun b S=>if b then F δ S else G δ S
theorem mf{c:Expr}{a b:List Stmt}{fc:FB}{F G:FZ}{pos:Pos}(hc:zD X cl c fc)(ha:AD X cl a F)(hb:AD X cl b G):PZ X cl (.If c a b pos) (yM fc F G):=⟨(FI hc.1 ha.1 hb.1).imp fun D σ H ⟨ρ,S,δ,o,S',E,hf,q⟩=>by
 obtain⟨k,S1,h1,h2⟩:=R3.ao hf
 refine⟨ρ,S,δ,k,S1,E,h1,fun ρ1 H1 p1 w1=>?_⟩
 cases k with
 | true=>rw [if_pos rfl] at h2;exact BI ⟨ρ1,S1,δ,o,S',E.to p1 w1,h2,q.pre p1⟩
 | false=>rw [if_neg (by decide)] at h2;exact CQ ⟨ρ1,S1,δ,o,S',E.to p1 w1,h2,q.pre p1⟩⟩
noncomputable def Ld(f:FX):FZ:=fun δ S=>(f δ S).bind fun _ S=> .ok (.nx δ) S
noncomputable def lV(c:FB)(body:FZ):Nat→FZ
 | 0,_,_=> .no
 | n+1,δ,S=>(c δ S).bind fun b S=>if b then(body δ S).bind fun o S=>match o with | .nx δ2=>lV c body n δ2 S | .rt r=> .ok (.rt r) S else .ok (.nx δ) S
noncomputable def xy(n:Nat)(c:FB)(body:FZ):FZ:=fun δ S=>lV c body n δ S
theorem AQ(n:Nat){c:Expr}{body:List Stmt}{fc:FB}{F:FZ}{pos:Pos}(hp:PassesOwn (model X.prog X.w) X.A X.env X.xe)(hc:zD X cl c fc)(hb:AD X cl body F):PZ X cl (.While c body [] pos) (xy n fc F):=
 ⟨(BZ hp hc.1 hb.1).imp fun D σ H ⟨ρ,S,δ,o,S',E,hf,q⟩=>by
   refine⟨fun m σ' H'=>∃ρ1 S1 δ1,Pre ρ H ρ1 H'∧fL X.K cl ρ1 H' S1 σ' δ1∧lV fc F m δ1 S1= .ok o S',⟨n,ρ,S,δ,Pre.refl ρ H,E,hf⟩,?_⟩
   rintro m σ' H' ⟨ρ1,S1,δ1,p1,E1,hw⟩
   cases m with
   | zero=>cases hw
   | succ m=>
     obtain⟨b,S2,h1,h2⟩:=R3.ao hw
     refine⟨ρ1,S1,δ1,b,S2,E1,h1,fun ρ2 H2 p2 w2=>?_⟩
     cases b with
     | false=>
       rw[if_neg (by decide)] at h2
       cases h2
       exact CQ (q σ' ρ2 H2 (p1.trans p2) (E1.to p2 w2))
     | true=>
       rw[if_pos rfl] at h2
       obtain⟨o1,S3,h3,h4⟩:=R3.ao h2
       refine BI ⟨fun σ4 H4=>∃ρ4 S4 δ4,Pre ρ H ρ4 H4∧fL X.K cl ρ4 H4 S4 σ4 δ4∧lV fc F m δ4 S4= .ok o S',fun σ4 H4 n=>⟨m,Nat.lt_succ_self _,n⟩,ρ2,S2,δ1,o1,S3,E1.to p2 w2,h3,?_⟩
       cases o1 with
       | nx δ2=>exact fun σ3 ρ3 H3 p3 E3=>⟨ρ3,S3,δ2,(p1.trans p2).trans p3,E3,h4⟩
       | rt d=>
         cases h4
         exact fun v ρ3 H3 p3 w r=>q v ρ3 H3 ((p1.trans p2).trans p3) w r⟩
end
end L3
end
section
set_option maxRecDepth 100000
set_option maxHeartbeats 4000000
namespace L3
open PySem PySem.Spec PyProof.Rows L2
theorem aM.get{K:PySem.W.Frag}{ρ:P3}{H:Hp}:∀{ds:List V3} {xs:List V} {i:Nat} {d:V3},aM K ρ H ds xs→ds[i]? =some d→∃x,xs[i]? =some x∧bw K ρ H d x
 | [],_,_,_,_,e=>by simp at e
 | d ::ds,xs,0,d',h,e=>by
   obtain⟨x,r,rfl,h1,h2⟩:=h.cA
   simp at e;subst e
   exact⟨x,rfl,h1⟩
 | d ::ds,xs,i+1,d',h,e=>by
   obtain⟨x,r,rfl,h1,h2⟩:=h.cA
   obtain⟨y,e1,e2⟩:=aM.get (i:=i) h2 (by simpa using e)
   exact⟨y,by simpa using e1,e2⟩
noncomputable def Ib(K:PySem.W.Frag)(ρ:P3)(H:Hp)(J:It)(vs:List V3):Prop:=∀ρ' H',PW ρ H ρ' H'→(∀a∈ρ'.b,∃o,H' a=some o)→(∀(i:Nat) (d:V3),vs[i]? =some d→J.go i H'∧∀x H'',J.yld i H' x H''→a_ H' H''∧bw K ρ' H'' d x)∧J.stop vs.length H'
theorem Ib.of{K:PySem.W.Frag}{ρ:P3}{H:Hp}{J:It}{ds:List D}(h:De K ρ.b H J ds):Ib K ρ H J (ds.map .d):=fun ρ' H' p bs=>by
 obtain⟨h1,h2⟩:=h ρ'.b H' p.bx
 refine⟨fun i v hv=>?_,by rw[List.length_map];exact h2⟩
 rw[List.getElem?_map] at hv
 cases e:ds[i]? with
 | none=>rw [e] at hv;cases hv
 | some d=>
   rw[e] at hv
   cases hv
   obtain⟨g1,g2⟩:=h1 i d e
   exact⟨g1,fun x H'' y=>let⟨s,r⟩:=g2 x H'' y bs;⟨s,by unfold bw;exact r⟩⟩
noncomputable def LD(K:PySem.W.Frag)(cl:Nat→Addr)(f:FA):TI:=fun σ H R=>∃ρ S δ vs S',fL K cl ρ H S σ δ∧f δ S= .ok vs S'∧∀J ρ1 H1,Pre ρ H ρ1 H1→SW K cl ρ1 H1 S'→Ib K ρ1 H1 J vs→R J H1
structure G_ (X:Cx) (cl:Nat→Addr) (tg e:Expr) (f:FA):Prop where
 go:PI X tg e (LD X.K cl f)
section
variable {X:Cx} {cl:Nat→Addr}
noncomputable def iP(f:aw→R (List D)):FA:=fun δ S=>(R3.of (f (down δ)) S).bind fun ds S=> .ok (ds.map .d) S
theorem cH{tg e:Expr}{f:aw→R (List D)}(h:wY X tg e f):G_ X cl tg e (iP f):=⟨h.1.imp fun σ H Q ⟨ρ,S,δ,vs,S',E,hf,q⟩=>by
 obtain⟨ds,S1,h1,h2⟩:=R3.ao hf
 obtain⟨h3,e3⟩:=R3.of_ok h1
 cases h2
 subst e3
 exact⟨[],ρ.b,down δ,ds,E.down,h3,fun J H1 s r=>q J ρ H1 (Pre.same s) (E.sw.same s) (Ib.of r)⟩⟩
noncomputable def mj(f:FX):FA:=fun δ S=>(f δ S).bind fun v S=>match v with | .d (.int j)=>R3.cb (decide (-(2 ^ 62)≤j∧j < 2 ^ 62)) (.ok ((bQ 0 j.toNat).map .d) S) | _=> .no
theorem gY{tg a:Expr}{f:FX}{p pos:Pos}(h:PX X cl a f)(hg:Gl X "range")(hm:X.mg "range"=none)(hs:starEach [a] X.env=[(false,eval a X.env)]:=by rfl):G_ X cl tg (.Call (.Name "range" p) [a] [] pos) (mj f):=
 ⟨(tR hg hm (eA h.1 iA hs) hs).imp fun σ H RR ⟨ρ,S,δ,vs,S',E,hf,q⟩=>by
   obtain⟨v,S1,h1,h2⟩:=R3.ao hf
   match v,h1,h2 with
   | .d (.int j),h1,h2=>
     obtain⟨hb,h3⟩:=R3.bp h2
     cases h3
     have hb:=of_decide_eq_true hb
     refine⟨ρ,S,δ, .d (.int j),_,E,h1,fun u ρ1 H1 p1 w1 r1=>⟨j,?_,hb.1,hb.2,q _ ρ1 H1 p1 w1 (Ib.of (xm 0 _))⟩⟩
     unfold bw Rep at r1
     rw[r1]
   | .d .cI,_,h2=>cases h2
   | .d (.bl _),_,h2=>cases h2
   | .d (.str _),_,h2=>cases h2
   | .d (.lst _),_,h2=>cases h2
   | .d (.tup _),_,h2=>cases h2
   | .d (.dct _ _),_,h2=>cases h2
   | .loc _,_,h2=>cases h2
   | .lst _,_,h2=>cases h2
   | .tup _,_,h2=>cases h2⟩
noncomputable def E_(f:FX):FA:=fun δ S=>(f δ S).bind fun v S=>match v with | .d (.lst ds)=> .ok (ds.map .d) S | .lst vs=> .ok vs S | _=> .no
theorem y_{tg e:Expr}{f:FX}(h:PX X cl e f):G_ X cl tg e (E_ f):=⟨by
 intro pins s σ H RR I ⟨ρ,S,δ,vs,S',E,hf,q⟩
 obtain⟨v,S1,h1,h2⟩:=R3.ao hf
 refine dY (h.1 pins s σ H (fun u H1=>∃ρ1,Pre ρ H ρ1 H1∧SW X.K cl ρ1 H1 S1∧bw X.K ρ1 H1 v u) I ⟨ρ,S,δ,v,S1,E,h1,fun u ρ1 H1 p1 w1 r1=>⟨ρ1,p1,w1,r1⟩⟩) fun u s1 ⟨x,H1,I1,r1,ρ1,p1,w1,rr⟩=>?_
 have key:S1=S'∧∃a xs,x= .ref a∧r_ X.K ρ1.b H1 a xs∧aM X.K ρ1 H1 vs xs:=by
  match v,h2,rr with
  | .d (.lst ds),h2,rr=>
    cases h2
    unfold bw Rep at rr
    obtain⟨a,xs,e,l,r⟩:=rr
    exact⟨rfl,a,xs,e,l,aM.of r⟩
  | .lst ws,h2,rr=>
    cases h2
    unfold bw at rr
    exact⟨rfl,rr⟩
  | .d .cI,h2,_=>cases h2
  | .d (.bl _),h2,_=>cases h2
  | .d (.int _),h2,_=>cases h2
  | .d (.str _),h2,_=>cases h2
  | .d (.tup _),h2,_=>cases h2
  | .d (.dct _ _),h2,_=>cases h2
  | .loc _,h2,_=>cases h2
  | .tup _,h2,_=>cases h2
 obtain⟨rfl,a,xs,rfl,l,rr⟩:=key
 cases r1
 obtain⟨its,rv,p,hz⟩:=I1.list l.sq
 refine wpAny_pyIter_list p.isList ?_
 refine⟨s1.heap.objs.size,[s1.heap.objs.size],_,_,H1,rfl,I1.kept (t':=s1.toks) fun b o e=>Heap.get?_push_of_some _ e,tp a _,⟨_,Heap.get?_push_size _ rfl,rfl,rfl⟩,fun b hb=>?_,q _ ρ1 H1 p1 w1 fun ρ' H' pr bs=>?_⟩
 ·have e:b=s1.heap.objs.size:=by simpa using hb
  subst e
  exact I1.qC (Nat.le_refl _) (I1.hok.fresh (Nat.le_refl _))
 ·have l':r_ X.K ρ'.b H' a xs:=l.bx pr.bx
  have rr':=rr.pw pr
  refine⟨fun i d hd=>?_,⟨xs,l'.sq,by rw[rr.length];exact Nat.le_refl _⟩⟩
  obtain⟨x,hx,rx⟩:=rr'.get hd
  exact⟨⟨xs,x,l'.sq,hx⟩,fun y H'' ⟨e1,e2⟩=>by
   subst e1
   have:=e2 xs l'.sq
   rw[hx] at this
   cases this
   exact⟨a_.refl _,rx⟩⟩⟩
noncomputable abbrev FG:=V3→DE→Option DE
noncomputable abbrev Ey:=List V3→DE→Option DE
noncomputable def gX(K:PySem.W.Frag)(cl:Nat→Addr)(t:FG):TG:=fun v σ H Q=>∃ρ S δ x δ',fL K cl ρ H S σ δ∧bw K ρ H x v∧t x δ=some δ'∧∀σ' H',a_ H H'→fL K cl ρ H' S σ' δ'→Q σ' H'
noncomputable def Ma(K:PySem.W.Frag)(cl:Nat→Addr)(t:Ey):CJ:=fun v σ H Q=>∃ρ S δ x δ',fL K cl ρ H S σ δ∧aM K ρ H x v∧t x δ=some δ'∧∀σ' H',a_ H H'→fL K cl ρ H' S σ' δ'→Q σ' H'
structure Ic (X:Cx) (cl:Nat→Addr) (tg:Expr) (t:FG):Prop where
 go:PG X tg (gX X.K cl t)
structure Es (X:Cx) (cl:Nat→Addr) (tg:List Expr) (t:Ey):Prop where
 go:Dx X tg (Ma X.K cl t)
theorem fL.same{K:PySem.W.Frag}{ρ:P3}{H H':Hp}{S:aU}{σ:L2.St}{δ:DE}(E:fL K cl ρ H S σ δ)(s:a_ H H'):fL K cl ρ H' S σ δ:=E.to (Pre.same s) (E.sw.same s)
noncomputable def ju(i:Nat):FG:=fun d δ=>if i < δ.length then some (δ.set i (some d)) else none
theorem bq{i:Nat}{x:Str}{pos:Pos}(hN:X.N.Nodup)(hi:X.N[i]? =some x)(hx:Loc X.env.scope x)(hf:X.fn x=true∨X.env.scope.names.lookup x=some .local:=by first | exact .inl rfl | exact .inr rfl | assumption):Ic X cl (.Name x pos) (ju i):=
 ⟨(yR hN hi hx hf).imp fun v σ H Q ⟨ρ,S,δ,d,δ',E,r,ht,q⟩=>by
   unfold ju at ht
   split at ht
   ·rename_i hi
    cases ht
    exact q _ H (a_.refl H) (E.set (by rw[←E.len];exact hi) r)
   ·cases ht⟩
noncomputable def xH:Ey:=fun ds δ=>match ds with | []=>some δ | _=>none
noncomputable def sv(t:FG)(u:Ey):Ey:=fun ds δ=>match ds with | d ::r=>(t d δ).bind fun δ'=>u r δ' | []=>none
theorem jX:Es X cl [] xH:=⟨zu.imp fun vs σ H Q ⟨ρ,S,δ,ds,δ',E,r,ht,q⟩=>by
 cases ds with
 | nil=>unfold aM at r;cases ht;exact⟨r,q σ H (a_.refl H) E⟩
 | cons=>cases ht⟩
theorem dv{e:Expr}{es:List Expr}{t:FG}{u:Ey}(h1:Ic X cl e t)(h2:Es X cl es u)(hs:(assignEach (e ::es) X.env).map (·.2)=assign e X.env ::(assignEach es X.env).map (·.2):=by rfl):Es X cl (e ::es) (sv t u):=
 ⟨(vP h1.1 h2.1 hs).imp fun vs σ H Q ⟨ρ,S,δ,ds,δ',E,r,ht,q⟩=>by
   cases ds with
   | nil=>cases ht
   | cons d ds=>
     obtain⟨x,xs,rfl,r1,r2⟩:=r.cA
     have ht:(t d δ).bind (fun δ'=>u ds δ')=some δ':=ht
     cases e1:t d δ with
     | none=>rw [e1] at ht;cases ht
     | some δ1=>
       rw[e1] at ht
       exact⟨x,xs,rfl,ρ,S,δ,d,δ1,E,r1,e1,fun σ1 H1 s1 E1=>⟨ρ,S,δ1,ds,δ',E1,r2.pre (Pre.same s1),ht,fun σ2 H2 s2 E2=>q σ2 H2 (s1.trans s2) E2⟩⟩⟩
noncomputable def uW(n:Nat)(t:Ey):FG:=fun d δ=>match d with
 | .d (.tup ds)=>if ds.length=n then t (ds.map .d) δ else none
 | .tup vs=>if vs.length=n then t vs δ else none
 | _=>none
theorem lY{es:List Expr}{k:Nat}{t:Ey}{n:Nat}{pos:Pos}(hc:X.calm=true)(h:Es X cl es t)(hn:(assignEach es X.env).length=n:=by rfl)(hst:(assignEach es X.env).findIdx? (·.1)=none:=by rfl):Ic X cl (.Tuple es k pos) (uW n t):=
 ⟨(Bw hc h.1 hn hst).imp fun v σ H Q ⟨ρ,S,δ,d,δ',E,r,ht,q⟩=>by
   have key:∃vs a xs,v= .ref a∧sN X.K ρ.b H a xs∧aM X.K ρ H vs xs∧vs.length=n∧t vs δ=some δ':=by
    unfold uW at ht
    split at ht
    ·rename_i ds
     split at ht
     ·rename_i hl
      unfold bw Rep at r
      obtain⟨a,xs,e,l,r⟩:=r
      exact⟨ds.map .d,a,xs,e,l,aM.of r,by rw[List.length_map];exact hl,ht⟩
     ·cases ht
    ·rename_i vs
     split at ht
     ·rename_i hl
      unfold bw at r
      obtain⟨a,xs,e,l,r⟩:=r
      exact⟨vs,a,xs,e,l,r,hl,ht⟩
     ·cases ht
    ·cases ht
   obtain⟨vs,a,xs,rfl,l,r,hl,ht⟩:=key
   exact⟨a,xs,rfl,l.sq,by rw[←r.length];exact hl,ρ,S,δ,vs,δ',E,r,ht,q⟩⟩
noncomputable def MF(f:FX)(t:FG):FZ:=fun δ S=>(f δ S).bind fun d S=>match t d δ with | some δ'=> .ok (.nx δ') S | none=> .no
noncomputable def lQ(t:FG)(body:FZ):List V3→FZ
 | [],δ,S=> .ok (.nx δ) S
 | d ::ds,δ,S=>match t d δ with
   | none=> .no
   | some δ1=>(body δ1 S).bind fun o S=>match o with | .nx δ2=>lQ t body ds δ2 S | .rt r=> .ok (.rt r) S
noncomputable def ja(it:FA)(t:FG)(body:FZ):FZ:=fun δ S=>(it δ S).bind fun vs S=>lQ t body vs δ S
theorem dS{tg iter:Expr}{body:List Stmt}{it:FA}{t:FG}{F:FZ}{pos:Pos}(hp:PassesOwn (model X.prog X.w) X.A X.env X.xe)(hc:X.calm=true)(hi:G_ X cl tg iter it)(hg:Ic X cl tg t)(hb:AD X cl body F)
 (hs:∀x,foldedSetIterable iter X.env x=pure x:=by intro _;rfl):PZ X cl (.For tg iter body [] pos) (ja it t F):=⟨(CB hp hc hi.1 hg.1 hb.1 hs).imp fun D σ H ⟨ρ,S,δ,o,S',E,hf,q⟩=>by
 obtain⟨ds,S0,h1,h2⟩:=R3.ao hf
 refine⟨ρ,S,δ,ds,S0,E,h1,fun J ρ1 H1 p1 w1 ir=>?_⟩
 refine⟨fun i m σ' H'=>m=ds.length - i∧i≤ds.length∧∃ρ' S1 δ',Pre ρ1 H1 ρ' H'∧fL X.K cl ρ' H' S1 σ' δ'∧lQ t F (ds.drop i) δ' S1= .ok o S',⟨ds.length,rfl,Nat.zero_le _,ρ1,S0,δ,Pre.refl ρ1 H1,E.to p1 w1,by simpa using h2⟩,?_⟩
 rintro i m σ' H' ⟨rfl,hi,ρ',S1,δ',pv,E',hl⟩
 obtain⟨go,stop⟩:=ir ρ' H' pv.pw E'.sw.bs
 by_cases hlt:i < ds.length
 ·have hd:ds[i]? =some ds[i]:=List.getElem?_eq_getElem hlt
  have hdrop:ds.drop i=ds[i] ::ds.drop (i+1):=List.drop_eq_getElem_cons hlt
  rw[hdrop] at hl
  unfold lQ at hl
  split at hl
  ·cases hl
  ·rename_i δ1 h3
   obtain⟨o1,S2,h5,h6⟩:=R3.ao hl
   obtain⟨g1,g2⟩:=go i _ hd
   refine .inr ⟨g1,fun σ2 H2=>∃ρ2 S2 δ2,Pre ρ1 H1 ρ2 H2∧fL X.K cl ρ2 H2 S2 σ2 δ2∧lQ t F (ds.drop (i+1)) δ2 S2= .ok o S',fun σ2 H2 n=>⟨ds.length - (i+1),by omega,rfl,hlt,n⟩,fun x H'' y=>?_⟩
   obtain⟨ss,rr⟩:=g2 x H'' y
   refine⟨ρ',S1,δ',ds[i],δ1,E'.same ss,rr,h3,fun σ2 H2 s2 E2=>⟨ρ',S1,δ1,o1,S2,E2,h5,?_⟩⟩
   have pv2:Pre ρ1 H1 ρ' H2:=pv.trans (Pre.same (ss.trans s2))
   cases o1 with
   | nx δ2=>exact fun σ3 ρ3 H3 p3 E3=>⟨ρ3,S2,δ2,pv2.trans p3,E3,h6⟩
   | rt d=>
     cases h6
     exact fun v ρ3 H3 p3 w r=>q v ρ3 H3 (p1.trans (pv2.trans p3)) w r
 ·have e:i=ds.length:=by omega
  subst e
  rw[List.drop_length] at hl
  cases hl
  exact .inl ⟨stop,q σ' ρ' H' (p1.trans pv) E'⟩⟩
end
end L3
end
section
set_option maxRecDepth 100000
set_option maxHeartbeats 4000000
namespace L3
open PySem PySem.Spec PyProof.Rows L2
mutual
noncomputable def vk(n:Nat):V3→Bool
 | .d _=>true
 | .loc k=>decide (k < n)
 | .lst vs=>mL n vs
 | .tup vs=>mL n vs
noncomputable def mL(n:Nat):List V3→Bool
 | []=>true
 | v ::vs=>vk n v && mL n vs
end
noncomputable def nG(n:Nat):SO→Bool
 | .ins _ fs=>mL n (fs.map (·.2))
 | _=>true
theorem Fv{ρ:P3}{n:Nat}{b:Addr}(h:b∈(ρ.cut n).b):b∈ρ.b:=by
 rcases P3.eh.mp h with z | z
 ·exact P3.eh.mpr (.inl ⟨List.mem_of_mem_take z.1,z.2⟩)
 ·exact P3.eh.mpr (.inr z)
theorem i7{ρ:P3}{H:Hp}(n:Nat):dt ρ.b H (ρ.cut n).b H:=fun b o e nb=>⟨e,fun hb=>nb (Fv hb)⟩
mutual
theorem bw.cut{K:PySem.W.Frag}{ρ:P3}{H:Hp}{n:Nat}:∀{v:V3} {x:V},vk n v=true→bw K ρ H v x→bw K (ρ.cut n) H v x
 | .d y,x,_,h=>by unfold bw at h ⊢;exact h.bx (i7 n)
 | .loc k,x,o,h=>by
   unfold bw at h ⊢
   unfold vk at o
   obtain⟨a,h1,h2⟩:=h
   exact⟨a,by show(ρ.r.take n)[k]? =_;rw [List.getElem?_take_of_lt (of_decide_eq_true o)];exact h1,h2⟩
 | .lst vs,x,o,h=>by
   unfold bw at h ⊢
   unfold vk at o
   obtain⟨a,xs,e,l,r⟩:=h
   exact⟨a,xs,e,l.bx (i7 n),aM.cut o r⟩
 | .tup vs,x,o,h=>by
   unfold bw at h ⊢
   unfold vk at o
   obtain⟨a,xs,e,l,r⟩:=h
   exact⟨a,xs,e,sN.bx (i7 n) l,aM.cut o r⟩
theorem aM.cut{K:PySem.W.Frag}{ρ:P3}{H:Hp}{n:Nat}:∀{vs:List V3} {xs:List V},mL n vs=true→aM K ρ H vs xs→aM K (ρ.cut n) H vs xs
 | [],_,_,h=>by unfold aM at h ⊢;exact h
 | v ::vs,xs,o,h=>by
   unfold mL at o
   obtain⟨o1,o2⟩:=Bool.and_eq_true_iff.mp o
   obtain⟨x,r,rfl,h1,h2⟩:=h.cA
   exact aM.cons (bw.cut o1 h1) (aM.cut o2 h2)
end
theorem SW.cut{K:PySem.W.Frag}{cl:Nat→Addr}{ρ:P3}{H:Hp}{S:aU}(w:SW K cl ρ H S){n:Nat}(ok:(S.take n).all (nG n)=true):SW K cl (ρ.cut n) H (S.take n):=
 ⟨by show(ρ.r.take n).length=_;rw [List.length_take,List.length_take,w.len],fun i j a hi hj=>by
   have hi:(ρ.r.take n)[i]? =some a:=hi
   have hj:(ρ.r.take n)[j]? =some a:=hj
   have gi:ρ.r[i]? =some a:=by
    rw[List.getElem?_take] at hi;split at hi
    ·exact hi
    ·cases hi
   have gj:ρ.r[j]? =some a:=by
    rw[List.getElem?_take] at hj;split at hj
    ·exact hj
    ·cases hj
   exact w.nd i j a gi gj,fun k a o hk ho=>by
   have hk:(ρ.r.take n)[k]? =some a:=hk
   have gk:ρ.r[k]? =some a:=by
    rw[List.getElem?_take] at hk;split at hk
    ·exact hk
    ·cases hk
   have go:S[k]? =some o:=by
    rw[List.getElem?_take] at ho;split at ho
    ·exact ho
    ·cases ho
   have r:=w.ob k a o gk go
   have oo:nG n o=true:=List.all_eq_true.mp ok o (List.mem_of_getElem? ho)
   cases o with
   | lst ds=>obtain⟨xs,e,q⟩:=r;exact⟨xs,e,q.bx (i7 n)⟩
   | dct kvs=>obtain⟨ys,e,e2,q⟩:=r;exact⟨ys,e,e2,q.bx (i7 n)⟩
   | ins c fs=>obtain⟨dx,ys,e,e2,q⟩:=r;exact⟨dx,ys,e,e2,q.cut oo⟩
   | iz=>exact r,fun b hb=>let⟨h1,h2⟩:=w.zb b hb;⟨h1,fun h=>h2 (List.mem_of_mem_take h)⟩,(fun k a hk ho=>by
   have hk:(ρ.r.take n)[k]? =some a:=hk
   rw[List.getElem?_take] at hk
   split at hk
   ·rename_i hlt
    rw[List.getElem?_take_of_lt hlt] at ho
    exact w.fz k a hk ho
   ·cases hk),w.ff,(fun k a hk ho=>by
   have hk:(ρ.r.take n)[k]? =some a:=hk
   rw[List.getElem?_take] at hk
   split at hk
   ·rename_i hlt
    rw[List.getElem?_take_of_lt hlt] at ho
    exact w.fi k a hk ho
   ·cases hk)⟩
theorem SW.G6{K:PySem.W.Frag}{cl:Nat→Addr}{ρ ρ':P3}{H H':Hp}{n:Nat}(hn:ρ.r.length≤n)(p:Pre ρ H ρ' H'):Pre ρ H (ρ'.cut n) H':=
 ⟨p.bx.trans (i7 n),p.zz,p.zs,fun k a h=>by show(ρ'.r.take n)[k]? =_;rw [List.getElem?_take_of_lt (Nat.lt_of_lt_of_le (List.getElem?_eq_some_iff.mp h).1 hn)];exact p.ext k a h⟩
section
variable {X:Cx} {cl:Nat→Addr}
noncomputable def dr(S:aU)(k:Nat):Option (List D):=match S[k]? with | some (.lst ds)=>some ds | _=>none
theorem fZ{S:aU}{k:Nat}{ds:List D}(h:dr S k=some ds):S[k]? =some (.lst ds):=by
 unfold dr at h
 split at h
 ·rename_i e;cases h;exact e
 ·cases h
noncomputable def gM(δ:DE)(i:Nat):Option Nat:=match δ[i]? with | some (some (.loc k))=>some k | _=>none
theorem mR{δ:DE}{i k:Nat}(h:gM δ i=some k):δ[i]? =some (some (.loc k)):=by
 unfold gM at h
 split at h
 ·rename_i e;cases h;exact e
 ·cases h
noncomputable def j4(i:Nat)(f:FX):FZ:=fun δ S=>match gM δ i with
 | none=> .no
 | some k=>match dr S k with
   | none=> .no
   | some _=>(f δ S).bind fun v S1=>match v with
     | .d d=>(match dr S1 k with | some ds=>R3.cb (decide (ds.length < sizeLine)) (.ok (.nx δ) (S1.set k (.lst (ds++[d])))) | none=> .no)
     | _=> .no
theorem gT{i:Nat}{x:Str}{e:Expr}{f:FX}{npos apos cpos pos:Pos}(hN:X.N[i]? =some x)(hv:FU X.env.scope x)(he:PX X cl e f)
 (hd:(x==("__debug__":Str))=false:=by decide) (hcd:(x==("__classdict__":Str))=false:=by decide)
 (hs:starEach [e] X.env=(false,eval e X.env) ::starEach [] X.env:=by rfl) (hline:(apos.endLine==cpos.line)=true:=by rfl)
 (hfew:((backTo cpos (starEach [e] X.env)).all (fun x=>!x.1) && (backToKw cpos (keywordEach [] X.env)).all (fun x=>x.1.isSome)
   && decide (([e]:List Expr).length+([]:List Keyword).length+(if([]:List Keyword).isEmpty then 0 else 1) < 30))=true:=by rfl)
 (hsw:swapsWith (.Call (.Attribute (.Name x npos) "append" apos) [e] [] cpos) none pos.line X.env=pure false:=by rfl)
 (hbase:attributeBase (.Name x npos) "append" X.env (eval (.Name x npos) X.env)=eval (.Name x npos) X.env:=by rfl) :
 PZ X cl (.Expr (.Call (.Attribute (.Name x npos) "append" apos) [e] [] cpos) pos) (j4 i f):=by
 refine⟨(zj (A3 (X:=X) PySem.F.plainAttrs_list PySem.F.slot_list_append PySem.F.type_list_append o7 (uf hN hv hd hcd) (eA he.1 iA hs) hbase hfew hline hs) hsw).imp fun D σ H ⟨ρ,S,δ,o,S',E,hf,q⟩=>?_⟩
 unfold j4 at hf
 split at hf
 ·cases hf
 ·rename_i k hk
  split at hf
  ·cases hf
  ·rename_i ds0 h0
   obtain⟨v,S1,h1,h2⟩:=R3.ao hf
   split at h2
   ·rename_i d
    split at h2
    ·rename_i ds h3
     obtain⟨hl,h4⟩:=R3.bp h2
     cases h4
     obtain⟨u,u1,u2⟩:=E.val i _ (mR hk)
     unfold bw at u2
     obtain⟨a,a1,rfl⟩:=u2
     obtain⟨xs0,x0,_⟩:=E.sw.ob k a _ a1 (fZ h0)
     refine⟨.ref a,u1, .inl ⟨rfl,xs0,ny.of x0⟩,⟨ρ,S,δ, .d d,S1,E,h1,fun y ρ1 H1 p1 w1 r1=>?_⟩⟩
     have b1:=p1.ext k a a1
     obtain⟨xs,x1,x2⟩:=w1.ob k a _ b1 (fZ h3)
     refine⟨a,xs,y,rfl,rfl,x1,by rw[←x2.length];exact of_decide_eq_true hl,?_⟩
     unfold bw at r1
     obtain⟨w2,p2⟩:=w1.put (o:= .lst (ds++[d])) (u:= .lst (xs++[y])) b1 (w1.fz k a b1 (by rw[fZ h3];intro h;cases h)) ⟨xs++[y],rfl,x2.append (aK.cons r1 aK.nil)⟩
     exact q σ ρ1 _ (p1.trans p2) (E.to (p1.trans p2) w2)
    ·cases h2
   ·cases h2
noncomputable def xJ(fo fi fe:FX):FZ:=fun δ S=>(fe δ S).bind fun v S1=>(fo δ S1).bind fun o S2=>(fi δ S2).bind fun j S3=>match v,o,j with
 | .d d, .loc k, .d (.int n)=>(match dr S3 k with
   | some ds=>(match qp ds.length n with | some m=> .ok (.nx δ) (S3.set k (.lst (ds.set m d))) | none=> .no)
   | none=> .no)
 | _,_,_=> .no
noncomputable def BS(K:PySem.W.Frag)(cl:Nat→Addr)(n:Nat)(g:List V3→aU→R3 V3):Sp:=fun vs H Q _=>vs.length=n∧∃ρ S xs v S',SW K cl ρ H S∧aM K ρ H xs vs∧g xs S= .ok v S'∧∀u ρ' H',Pre ρ H ρ' H'→SW K cl ρ' H' S'→bw K ρ' H' v u→Q u H'
noncomputable def b_(g:List V3→aU→R3 V3)(fs:FA):FX:=fun δ S=>(fs δ S).bind g
noncomputable def aI(P:Program)(w:World)(K:PySem.W.Frag)(mg:Str→Option Value)(base:Heap)(cl:Nat→Addr)(k:Nat)(x:Str)(n:Nat)(g:List V3→aU→R3 V3):Prop:=
 ∃(f:Addr) (fd:FuncData) (ps:List Str),iQ P w K mg base si k f fd ps (BS K cl n g)∧mg x=some (.ref f)∧PySem.W.keepIn K (.ref f)=true∧Binds K fd ps []
theorem bC{g:List V3→aU→R3 V3}{k j n:Nat}{x:Str}{p pos:Pos}{e:Expr}{es:List Expr}{fs:FA}(C:aI X.prog X.w X.K X.mg X.base cl k x n g)(hr:eQ j X.A)(hkj:k≤j)(hg:Gl X x)(ha:Eh X cl (e ::es) fs)
 (hn:∀δ S ds S',fs δ S= .ok ds S'→ds.length=n) (hdb:(x==("__debug__":Str))=false:=by decide) (he:starEach (e ::es) X.env=(false,eval e X.env) ::starEach es X.env:=by rfl) (hpl:(backTo pos (starEach es X.env)).any (·.1)=false:=by rfl) :
 PX X cl (.Call (.Name x p) (e ::es) [] pos) (b_ g fs):=by
 obtain⟨f,fd,ps,F,hm,hk,hb⟩:=C
 refine⟨(uJ F (hr.mono hkj) hg hm hk hb .nil vf ha.1 hdb he hpl).imp fun σ H Q ⟨ρ,S,δ,v,S',E,hf,q⟩=>?_⟩
 obtain⟨vs,S1,h1,h2⟩:=R3.ao hf
 refine⟨ρ,S,δ,vs,S1,E,h1,fun us ρ1 H1 p1 w1 r1=>?_⟩
 show BS X.K cl n g (us++[]) H1 Q E0
 rw[List.append_nil]
 exact⟨by rw[←r1.length];exact hn δ S vs S1 h1,ρ1,S1,vs,v,S',w1,r1,h2,fun z ρ2 H2 p2 w2 r2=>q z ρ2 H2 (p1.trans p2) w2 r2⟩
end
noncomputable def bS(N:List Str)(vs:List V3):DE:=vs.map some++List.replicate (N.length - vs.length) none
theorem Bh{K:PySem.W.Frag}{cl:Nat→Addr}{ρ:P3}{H:Hp}{S:aU}{N:List Str}{ds:List V3}{vs:List V}(w:SW K cl ρ H S)(r:aM K ρ H ds vs):fL K cl ρ H S (L2.start N vs) (bS N ds) where
 len:=by unfold L2.start bS;simp [r.length]
 sw:=w
 val:=fun i d e=>by
  unfold bS at e
  unfold L2.start
  by_cases hi:i < ds.length
  ·rw[List.getElem?_append_left (by simpa using hi),List.getElem?_map] at e
   cases q:ds[i]? with
   | none=>rw [q] at e;cases e
   | some d'=>
     rw[q] at e
     cases e
     obtain⟨x,h1,h2⟩:=r.get q
     exact⟨x,by rw[List.getElem?_append_left (by rw[List.length_map,←r.length];exact hi),List.getElem?_map,h1];rfl,h2⟩
  ·rw[List.getElem?_append_right (by simpa using hi),List.getElem?_replicate] at e
   split at e <;> cases e
noncomputable def md(N:List Str)(F:FZ):List V3→aU→R3 V3:=fun vs S=>(F (bS N vs) S).bind fun o S'=>match o with | .rt v=> .ok v S' | .nx _=> .ok (.d .cI) S'
noncomputable def nF(N:List Str)(F:FZ):List V3→aU→R3 V3:=fun vs S=>(md N F vs S).bind fun v S'=>match res S' v with
 | some d=>R3.cb ((S'.take S.length).all (nG S.length) && eI S.length v) (.ok (.d d) (S'.take S.length))
 | none=> .no
theorem El{P:Program}{w:World}{K:PySem.W.Frag}{mg:Str→Option Value}{base:Heap}{cl:Nat→Addr}{x qual:Str}{st:Stmt}{f:Addr}{fd:FuncData}{N ps:List Str}{k:Nat}{F:FZ}(Fn:yW K x qual st f fd)(S:aZ N ps (af st))
 (hbody:∀(cdv:Value) (A:Around) (outer:List Env) (s:Shared) (H:Hp) (E:XK),eQ k (A.deeper (envOfC qual (af st) s.heap.objs.size f cdv))→
   AD (qX si P w K mg base N qual (af st) f cdv A outer s H E).Fj cl (ak st) F):iQ P w K mg base si (k+1) f fd ps (BS K cl ps.length (md N F)):=by
 refine Fn.ok S (fun vs H Q E h=>h.1) (fun cdv A outer s H vs Q E hr h=>⟨_,(hbody cdv A outer s H E hr).1,?_⟩)
 obtain⟨_,ρ,S,ds,v,S',w,r,hg,q⟩:=h
 obtain⟨o,S1,h1,h2⟩:=R3.ao hg
 refine⟨ρ,S,bS N ds,o,S1,Bh w r,h1,?_⟩
 cases o with
 | nx δ'=>
   cases h2
   exact fun σ' ρ' H' p' E'=>q _ ρ' H' p' E'.sw (by unfold bw Rep;rfl)
 | rt d'=>
   cases h2
   exact fun u ρ' H' p' w' r'=>q u ρ' H' p' w' r'
theorem w_{K:PySem.W.Frag}{cl:Nat→Addr}{N:List Str}{F:FZ}{n:Nat}{vs:List V}{H:Hp}{Q:VK}{E:XK}(h:BS K cl n (nF N F) vs H Q E):BS K cl n (md N F) vs H Q E:=by
 obtain⟨hl,ρ,S,xs,v,S',w,r,hg,q⟩:=h
 obtain⟨v1,S1,h1,h2⟩:=R3.ao hg
 refine⟨hl,ρ,S,xs,v1,S1,w,r,h1,fun u ρ1 H1 p1 w1 r1=>?_⟩
 have pc:Pre ρ H (ρ1.cut S.length) H1:=SW.G6 (K:=K) (cl:=cl) (by rw[w.len];exact Nat.le_refl _) p1
 split at h2
 ·rename_i d e
  obtain⟨ok,h3⟩:=R3.bp h2
  obtain⟨ok,hk⟩:=Bool.and_eq_true_iff.mp ok
  cases h3
  refine q u _ H1 pc (w1.cut ok) ?_
  unfold bw
  refine r1.resB w1 (i7 _) (fun k a hk a1 ha=>?_) hk e
  rcases P3.eh.mp ha with⟨z,_⟩ | z
  ·obtain⟨j,hj⟩:=List.getElem?_of_mem z
   have hj:(ρ1.r.take S.length)[j]? =some a:=hj
   rw[List.getElem?_take] at hj
   split at hj
   ·rename_i hjl
    have:=w1.nd j k a hj a1
    omega
   ·cases hj
  ·exact(w1.zb a z).2 (List.mem_of_getElem? a1)
 ·cases h2
end L3
end
section
set_option maxRecDepth 100000
set_option maxHeartbeats 4000000
namespace L3
open PySem PySem.Spec PyProof.Rows L2
theorem aK.setAt{K:PySem.W.Frag}{ρ:P3}{H:Hp}:∀{ds:List D} {xs:List V} {m:Nat} {d:D} {v:V},aK K ρ.b H ds xs→Rep K ρ.b H d v→aK K ρ.b H (ds.set m d) (xs.set m v)
 | [],_,_,_,_,h,_=>by unfold aK at h;subst h;exact aK.nil
 | e ::ds,xs,0,d,v,h,r=>by
   obtain⟨x,r',rfl,h1,h2⟩:=h.cA
   exact aK.cons r h2
 | e ::ds,xs,m+1,d,v,h,r=>by
   obtain⟨x,r',rfl,h1,h2⟩:=h.cA
   exact aK.cons h1 (aK.setAt h2 r)
section
variable {X:Cx} {cl:Nat→Addr}
theorem t7{o i e:Expr}{fo fi fe:FX}{spos pos:Pos}(he:PX X cl e fe)
 (hg:PG X (.Subscript o i spos) (Jz (tX X.K cl fo) (tX X.K cl fi) FV))
 (hs:swapsWithSole [.Subscript o i spos] e pos.line X.env=pure false:=by rfl) (hw:swappedStores [.Subscript o i spos] e X.env=pure none:=by rfl)
 (h1:(assignEach [.Subscript o i spos] X.env).map (·.2)=[assign (.Subscript o i spos) X.env]:=by rfl):PZ X cl (.Assign [.Subscript o i spos] e pos) (xJ fo fi fe):=⟨(BQ he.1 hg hs hw h1).imp fun D σ H ⟨ρ,S,δ,ou,S',E,hf,q⟩=>by
 obtain⟨v,S1,h1,h2⟩:=R3.ao hf
 obtain⟨vo,S2,h3,h4⟩:=R3.ao h2
 obtain⟨vi,S3,h5,h6⟩:=R3.ao h4
 split at h6
 ·rename_i d k n
  split at h6
  ·rename_i ds hds
   split at h6
   ·rename_i m hm
    cases h6
    refine⟨ρ,S,δ, .d d,S1,E,h1,fun u ρ1 H1 p1 w1 r1=>⟨ρ1,S1,δ, .loc k,S2,E.to p1 w1,h3,fun u2 ρ2 H2 p2 w2 r2=>⟨ρ2,S2,δ, .d (.int n),S3,(E.to p1 w1).to p2 w2,h5,fun u3 ρ3 H3 p3 w3 r3=>?_⟩⟩⟩
    unfold bw at r2
    obtain⟨a,a1,rfl⟩:=r2
    have a3:=p3.ext k a a1
    obtain⟨xs,x1,x2⟩:=w3.ob k a _ a3 (fZ hds)
    unfold bw Rep at r3
    have r1':=r1.pre (p2.trans p3)
    unfold bw at r1'
    obtain⟨w4,p4⟩:=w3.put (o:= .lst (ds.set m d)) (u:= .lst (xs.set m u)) a3 (w3.fz k a a3 (by rw[fZ hds];intro h;cases h)) ⟨xs.set m u,rfl,aK.setAt x2 r1'⟩
    exact⟨a,xs,n,m,rfl,r3,x1,by rw[←x2.length];exact hm,q σ ρ3 _ (((p1.trans p2).trans p3).trans p4) (E.to (((p1.trans p2).trans p3).trans p4) w4)⟩
   ·cases h6
  ·cases h6
 ·cases h6⟩
noncomputable def kX(δ:DE)(i:Nat):Option V3:=match δ[i]? with | some (some v)=>some v | _=>none
noncomputable def gP(own:List Str)(kp:List Nat)(δ:DE):DE:=List.replicate own.length none++kp.map (kX δ)
theorem DQ{K:PySem.W.Frag}{ρ ρ':P3}{H H':Hp}{S S':aU}{σ:L2.St}{δ:DE}{own:List Str}{kp:List Nat}(E:fL K cl ρ H S σ δ)(p:PW ρ H ρ' H')(w:SW K cl ρ' H' S'):fL K cl ρ' H' S' (dU own kp σ) (gP own kp δ) where
 len:=by unfold dU gP;simp
 sw:=w
 val:=fun i d e=>by
  unfold gP at e
  unfold dU
  by_cases hi:i < own.length
  ·rw[List.getElem?_append_left (by simpa using hi),List.getElem?_replicate] at e
   split at e <;> cases e
  ·rw[List.getElem?_append_right (by simpa using hi),List.length_replicate,List.getElem?_map] at e ⊢
   cases q:kp[i - own.length]? with
   | none=>rw [q] at e;cases e
   | some j=>
     rw[q] at e
     have e:kX δ j=some d:=Option.some.inj e
     unfold kX at e
     split at e
     ·rename_i d' ed
      cases e
      obtain⟨v,h1,h2⟩:=E.val j d ed
      exact⟨v,by simp [h1],h2.pw p⟩
     ·cases e
noncomputable def mC(t:FG)(c:FB)(f:FX)(δ:DE):List V3→aU→R3 (List V3)
 | [],S=> .ok [] S
 | v ::vs,S=>match t v δ with
   | none=> .no
   | some δ1=>(c δ1 S).bind fun b S1=>if b then(f δ1 S1).bind fun y S2=>(mC t c f δ vs S2).bind fun ys S3=> .ok (y ::ys) S3 else mC t c f δ vs S1
noncomputable def kR(it:FA)(t:FG)(c:FB)(f:FX)(own:List Str)(kp:List Nat):FX:=fun δ S=>(it δ S).bind fun vs S1=>R3.cb (decide (vs.length≤sizeLine)) ((mC t c f (gP own kp δ) vs S1).bind fun ys S2=> .ok (je ys) S2)
theorem aM.append{K:PySem.W.Frag}{ρ:P3}{H:Hp}:∀{ds es:List V3} {xs ys:List V},aM K ρ H ds xs→aM K ρ H es ys→aM K ρ H (ds++es) (xs++ys)
 | [],_,_,_,h,t=>by unfold aM at h;subst h;exact t
 | d ::ds,es,xs,ys,h,t=>by
   obtain⟨x,r,rfl,h1,h2⟩:=h.cA
   exact aM.cons h1 (aM.append h2 t)
theorem zp{K:PySem.W.Frag}{it:FA}{t:FG}{c:FB}{f:FX}{own:List Str}{kp:List Nat}{σ:L2.St}{H:Hp}{Q:VK}(h:tX K cl (kR it t c f own kp) σ H Q) :
 zo (LD K cl it) (gX K cl t) (GN K cl c) (tX K cl f) own kp σ H Q:=by
 obtain⟨ρ,S,δ,v,SF,E,hf,q⟩:=h
 obtain⟨es,S1,h1,h2⟩:=R3.ao hf
 obtain⟨hl,h3⟩:=R3.bp h2
 have hl:=of_decide_eq_true hl
 obtain⟨vs,S2,h4,h5⟩:=R3.ao h3
 cases h5
 refine⟨ρ,S,δ,es,S1,E,h1,fun J ρ1 H1 p1 w1 ir Dd hD=>?_⟩
 have nDz:Dd ∉ ρ1.b:=fun hb=>by obtain⟨o,ho⟩:=w1.bs Dd hb;rw [hD] at ho;cases ho
 have nDr:Dd ∉ ρ1.r:=fun hb=>by obtain⟨o,ho⟩:=w1.rs Dd hb;rw [hD] at ho;cases ho
 have toZ:∀{r' f':List Addr} {H':Hp},Pre ρ1 H1 ⟨r',ρ1.z,f'⟩ H'→PW ρ1 H1 ⟨r',Dd ::ρ1.z,f'⟩ H':=fun {r' f' H'} p=>⟨fun b o e nb=>⟨(p.bx b o e nb).1,fun hb=>by
  rcases P3.eh.mp hb with z | z
  ·exact(p.bx b o e nb).2 (P3.eh.mpr (.inl z))
  ·rcases List.mem_cons.mp z with y | y
   ·exact cv e hD y
   ·exact(p.bx b o e nb).2 (P3.eh.mpr (.inr y))⟩,p.ext⟩
 have w0:SW K cl ⟨ρ1.r,Dd ::ρ1.z,ρ1.f⟩ (upd H1 Dd (.lst [])) S1:=by
  have s0:a_ H1 (upd H1 Dd (.lst [])):=aX hD
  have ws:=w1.same s0
  refine⟨ws.len,ws.nd,fun k a o hk ho=>?_,fun b hb=>?_,ws.fz,ws.ff,ws.fi⟩
  ·have r:=w1.ob k a o hk ho
   obtain⟨u,hu⟩:=r.some
   rw[s0 a u hu,←hu]
   exact r.pw (toZ (Pre.same s0))
  ·rcases List.mem_cons.mp hb with y | y
   ·subst y;exact⟨⟨_,bf⟩,nDr⟩
   ·exact ws.zb b y
 refine⟨fun i m ys H'=>m=es.length - i∧i≤es.length∧ys.length≤i∧H' Dd=some (.lst ys)∧∃r' f' S' done rest,Pre ρ1 H1 ⟨r',ρ1.z,f'⟩ H'∧SW K cl ⟨r',Dd ::ρ1.z,f'⟩ H' S'∧vs=done++rest∧aM K ⟨r',Dd ::ρ1.z,f'⟩ H' done ys∧mC t c f (gP own kp δ) (es.drop i) S'= .ok rest SF,
  ⟨es.length,rfl,Nat.zero_le _,Nat.le_refl _,bf,ρ1.r,ρ1.f,S1,[],vs,Pre.same (aX hD),w0,rfl,aM.nil,by simpa using h4⟩,?_⟩
 rintro i m ys H' ⟨rfl,hi,hy,hDl,r',f',S',done,rest,pv,w',rfl,rd,hc⟩
 obtain⟨go,stop⟩:=ir ⟨r',Dd ::ρ1.z,f'⟩ H' (toZ pv) w'.bs
 have unZ:∀{ρ4:P3} {H4:Hp},Pre ⟨r',Dd ::ρ1.z,f'⟩ H' ρ4 H4→Pre ρ1 H1 ⟨ρ4.r,ρ1.z,ρ4.f⟩ H4:=fun {ρ4 H4} p4=>⟨fun b o e nb=>by
  obtain⟨e1,n1⟩:=(toZ pv).bx b o e nb
  obtain⟨e2',n2⟩:=p4.bx b o e1 n1
  refine⟨e2',fun hb=>n2 ?_⟩
  rcases P3.eh.mp hb with z | z
  ·exact P3.eh.mpr (.inl z)
  ·exact P3.eh.mpr (.inr (by rw[p4.zz];exact List.mem_cons_of_mem _ z)),rfl,fun b o hb h=>p4.zs b o (List.mem_cons_of_mem _ hb) (pv.zs b o hb h),fun k a h=>p4.ext k a (pv.ext k a h)⟩
 by_cases hlt:i < es.length
 ·have hd:es[i]? =some es[i]:=List.getElem?_eq_getElem hlt
  have hdrop:es.drop i=es[i] ::es.drop (i+1):=List.drop_eq_getElem_cons hlt
  rw[hdrop] at hc
  unfold mC at hc
  split at hc
  ·cases hc
  ·rename_i δ1 h6
   obtain⟨b,T1,h7,h8⟩:=R3.ao hc
   obtain⟨g1,g2⟩:=go i _ hd
   refine .inr ⟨g1,fun x H2 y=>?_⟩
   obtain⟨sy,ry⟩:=g2 x H2 y
   have Ec:fL K cl ⟨r',Dd ::ρ1.z,f'⟩ H2 S' (dU own kp σ) (gP own kp δ):=DQ E (p1.pw.trans ((toZ pv).trans (Pre.same sy).pw)) (w'.same sy)
   refine⟨⟨r',Dd ::ρ1.z,f'⟩,S',gP own kp δ,es[i],δ1,Ec,ry,h6,fun σ3 H3 s3 E3=>⟨⟨r',Dd ::ρ1.z,f'⟩,S',δ1,b,T1,E3,h7,fun ρ4 H4 p4 w4=>?_⟩⟩
   have pv4:Pre ⟨r',Dd ::ρ1.z,f'⟩ H' ρ4 H4:=(Pre.same (sy.trans s3)).trans p4
   cases b with
   | true=>
     rw[if_pos rfl] at h8
     refine BI ?_
     obtain⟨yv,T2,h9,h10⟩:=R3.ao h8
     obtain⟨rs,T3,h11,h12⟩:=R3.ao h10
     cases h12
     refine⟨ρ4,T1,δ1,yv,T2,E3.to p4 w4,h9,fun v5 ρ5 H5 p5 w5 r5=>?_⟩
     have pv5:Pre ⟨r',Dd ::ρ1.z,f'⟩ H' ρ5 H5:=pv4.trans p5
     have hD5:H5 Dd=some (.lst ys):=pv5.zs Dd _ List.mem_cons_self hDl
     have u5:=unZ pv5
     obtain⟨r5',z5,f5⟩:=ρ5
     have ez:z5=Dd ::ρ1.z:=pv5.zz
     subst ez
     have nr:Dd ∉ r5':=(w5.zb Dd List.mem_cons_self).2
     have pw:PW ⟨r5',Dd ::ρ1.z,f5⟩ H5 ⟨r5',Dd ::ρ1.z,f5⟩ (upd H5 Dd (.lst (ys++[v5]))):=⟨fun b o e nb=>⟨by rw[br (fun(z:b=Dd)=>nb (by rw[z];exact P3.eh.mpr (.inr List.mem_cons_self)))];exact e,nb⟩,fun _ _ h=>h⟩
     refine⟨hD5,by omega,es.length - (i+1),by omega,rfl,hlt,by rw[List.length_append,List.length_singleton];omega,bf,r5',f5,T2,done++[yv],rs,?_,?_,by simp,aM.append ((rd.pre pv5).pw pw) (aM.cons (r5.pw pw) aM.nil),h11⟩
     ·refine⟨fun b o e nb=>⟨by rw[br (cv e hD)];exact(u5.bx b o e nb).1,(u5.bx b o e nb).2⟩,rfl,fun b o hb h=>?_,u5.ext⟩
      rw[br (cv h hD)]
      exact u5.zs b o hb h
     ·refine⟨w5.len,w5.nd,fun k a o hk ho=>?_,fun b hb=>?_,w5.fz,fun b hb=>?_,w5.fi⟩
      ·have ne:a≠Dd:=fun z=>nr (by rw[←z];exact List.mem_of_getElem? hk)
       rw[br ne]
       exact(w5.ob k a o hk ho).pw pw
      ·obtain⟨⟨o,ho⟩,n⟩:=w5.zb b hb
       refine⟨?_,n⟩
       by_cases z:b=Dd
       ·subst z;exact⟨_,bf⟩
       ·rw[br z];exact⟨o,ho⟩
      ·obtain⟨o,ho⟩:=w5.ff b hb
       by_cases z:b=Dd
       ·subst z;exact⟨_,bf⟩
       ·rw[br z];exact⟨o,ho⟩
   | false=>
     rw[if_neg (by decide)] at h8
     refine CQ ?_
     have hD4:H4 Dd=some (.lst ys):=pv4.zs Dd _ List.mem_cons_self hDl
     have u4:=unZ pv4
     obtain⟨r4',z4,f4⟩:=ρ4
     have ez:z4=Dd ::ρ1.z:=pv4.zz
     subst ez
     exact⟨es.length - (i+1),by omega,rfl,hlt,by omega,hD4,r4',f4,T1,done,rest,u4,w4,rfl,rd.pre pv4,h8⟩
 ·have e:i=es.length:=by omega
  subst e
  rw[List.drop_length] at hc
  cases hc
  rw[List.append_nil] at q
  refine .inl ⟨stop,?_⟩
  have back:PW ⟨r',Dd ::ρ1.z,f'⟩ H' ⟨r',ρ1.z,f'⟩ H':=⟨fun b o e nb=>⟨e,fun hb=>nb (by
   rcases P3.eh.mp hb with z | z
   ·exact P3.eh.mpr (.inl z)
   ·exact P3.eh.mpr (.inr (List.mem_cons_of_mem _ z)))⟩,fun _ _ h=>h⟩
  have wB:SW K cl ⟨r',ρ1.z,f'⟩ H' _:=⟨w'.len,w'.nd,fun k a o hk ho=>(w'.ob k a o hk ho).pw back,fun b hb=>w'.zb b (List.mem_cons_of_mem _ hb),w'.fz,w'.ff,w'.fi⟩
  refine q _ ⟨r',ρ1.z,f'⟩ H' (p1.trans pv) wB (tL (.inl ⟨fun hb=>?_, .inl hDl⟩) (rd.pw back))
  rcases P3.eh.mp hb with z | z
  ·exact(w'.zb Dd List.mem_cons_self).2 z.1
  ·exact nDz (P3.eh.mpr (.inr z))
end
end L3
end
section
set_option maxRecDepth 100000
set_option maxHeartbeats 4000000
namespace L3
open PySem PySem.Spec PyProof.Rows L2
section
variable {X:Cx} {cl:Nat→Addr}
theorem qe{scope:Scope}{own:List Str}{kp:List Nat}{kn:List Str}{tg iter elt:Expr}{ifs:List Expr}{it:FA}{t:FG}{c:FB}{f:FX}{pos:Pos}(hc:X.calm=true)(C:cD X scope own kp kn)(hi:G_ X cl tg iter it)
 (hg:∀fp s H,Ic (bU X scope (own++kn) fp s H) cl tg t) (hif:∀fp s H,oC (bU X scope (own++kn) fp s H) ifs (GN X.K cl c)) (he:∀fp s H,PX (bU X scope (own++kn) fp s H) cl elt f)
 (hs:∀x,foldedSetIterable iter X.env x=pure x:=by intro _;rfl):PX X cl (.ListComp elt [⟨tg,iter,ifs,0⟩] scope pos) (kR it t c f own kp):=
 ⟨(y1 hc C hi.1 (fun fp s H=>(hg fp s H).1) hif (fun fp s H=>(he fp s H).1) hs).imp fun σ H Q h=>zp h⟩
noncomputable def A8:FB:=fun _ S=> .ok true S
theorem o3:oC X [] (GN X.K cl A8):=fun pins s σ H Q I ⟨ρ,S,δ,b,S',E,hf,q⟩=>vd pins s σ H Q I (by cases hf;exact q ρ H (Pre.refl ρ H) E.sw)
theorem rC{e:Expr}{c:FB}(h:zD X cl e c):oC X [e] (GN X.K cl c):=vc h.1
theorem GL{K:PySem.W.Frag}{i:Nat}{f:FX}{D:Ends}{σ:L2.St}{H:Hp}(h:sX K cl (cC i f) D σ H):zK (tX K cl f) (rE i) D σ H:=by
 obtain⟨ρ,S,δ,o,S',E,hf,q⟩:=h
 obtain⟨v,S1,h1,h2⟩:=R3.ao hf
 obtain⟨hi,h3⟩:=R3.bp h2
 cases h3
 refine⟨ρ,S,δ,v,_,E,h1,fun u ρ1 H1 p1 w1 r1=>?_⟩
 exact q _ ρ1 H1 p1 ((E.to p1 w1).set (by rw[←E.len];exact of_decide_eq_true hi) r1)
theorem rG{i:Nat}{x:Str}{pos' spos:Pos}{scope:Scope}{own:List Str}{kp:List Nat}{kn:List Str}{tg iter elt:Expr}{ifs:List Expr}{it:FA}{t:FG}{c:FB}{f:FX}{pos:Pos}(hc:X.calm=true)
 (hN:X.N.Nodup) (hx:X.N[i]? =some x) (hxl:X.env.scope.names.lookup x=some .local) (C:cD X scope own kp kn) (hi:G_ X cl tg iter it)
 (hg:∀fp s H,Ic (bU X scope (own++kn) fp s H) cl tg t) (hif:∀fp s H,oC (bU X scope (own++kn) fp s H) ifs (GN X.K cl c)) (he:∀fp s H,PX (bU X scope (own++kn) fp s H) cl elt f)
 (hsw:swapsWith (.ListComp elt [⟨tg,iter,ifs,0⟩] scope pos) (some (.Name x pos')) spos.line X.env=pure true:=by rfl)
 (hs:∀x,foldedSetIterable iter X.env x=pure x:=by intro _;rfl):PZ X cl (.Assign [.Name x pos'] (.ListComp elt [⟨tg,iter,ifs,0⟩] scope pos) spos) (cC i (kR it t c f own kp)):=
 ⟨(xK hc hN hx hxl C hi.1 (fun fp s H=>(hg fp s H).1) hif (fun fp s H=>(he fp s H).1) hsw hs).imp fun D σ H h=>zp (GL h)⟩
noncomputable def MU(g:FA):FX:=fun δ S=>(g δ S).bind fun vs S1=>match j9 vs with
 | some ds=>R3.cb (decide (ds.length≤sizeLine)) (.ok (.loc S1.length) (S1++[.lst ds]))
 | none=> .no
end
end L3
end
section
set_option maxRecDepth 100000
set_option maxHeartbeats 4000000
namespace L3
open PySem PySem.Spec PyProof.Rows L2
section
variable {X:Cx} {cl:Nat→Addr}
noncomputable def rN(g:List D→R D)(fs:FA):FX:=fun δ S=>(fs δ S).bind fun vs S1=>match j9 vs with
 | some ds=>(R3.of (g ds) S1).bind fun d S=> .ok (.d d) S
 | none=> .no
noncomputable def MS(c:FB)(f g:FX):FX:=fun δ S=>(c δ S).bind fun b S=>if b then f δ S else g δ S
theorem aN:∀(δ:DE) (S:aU) (ds:List V3) (S':aU),cw δ S= .ok ds S'→ds.length=0:=fun δ S ds S' h=>by cases h;rfl
theorem ai{f:FX}{g:FA}{n:Nat}(h:∀(δ:DE) (S:aU) (ds:List V3) (S':aU),g δ S= .ok ds S'→ds.length=n):∀(δ:DE) (S:aU) (ds:List V3) (S':aU),ax f g δ S= .ok ds S'→ds.length=n+1:=fun δ S ds S' e=>by
 obtain⟨v,S1,h1,h2⟩:=R3.ao e
 obtain⟨vs,S2,h3,h4⟩:=R3.ao h2
 cases h4
 rw[List.length_cons,h δ S1 vs _ h3]
end
end L3
end
section
set_option maxRecDepth 100000
set_option maxHeartbeats 4000000
namespace L3
open PySem PySem.Spec PyProof.Rows L2
theorem sS{K:PySem.W.Frag}{ρ:P3}{H:Hp}{ds:List V3}{xs:List V}{i:Int}{d:V3}(r:aM K ρ H ds xs)(h:o_ ds i=some d):∃x,o_ xs i=some x∧bw K ρ H d x:=by
 unfold o_ at h ⊢
 rw[←r.length]
 cases e:qp ds.length i with
 | none=>rw [e] at h;cases h
 | some j=>
   rw[e] at h
   exact r.get h
section
variable {X:Cx} {cl:Nat→Addr}
noncomputable def Bt(fa fb:FX):FX:=fun δ S=>(fa δ S).bind fun a S1=>(fb δ S1).bind fun b S2=>match a,b with
 | .d x, .d y=>(R3.of (cg x y) S2).bind fun d S=> .ok (.d d) S
 | .lst vs, .d (.int i)=>(match o_ vs i with | some v=> .ok v S2 | none=> .no)
 | .tup vs, .d (.int i)=>(match o_ vs i with | some v=> .ok v S2 | none=> .no)
 | _,_=> .no
theorem pO{a b:Expr}{fa fb:FX}{pos:Pos}(ha:PX X cl a fa)(hb:PX X cl b fb)(hs:qj b):PX X cl (.Subscript a b pos) (Bt fa fb):=by
 refine⟨(FW (r:=Kt X.K) CZ ha.1 hb.1 hs).imp fun σ H Q ⟨ρ,S,δ,v,S',E,hf,q⟩=>?_⟩
 obtain⟨v1,S1,h1,h2⟩:=R3.ao hf
 obtain⟨v2,S2,h3,h4⟩:=R3.ao h2
 refine⟨ρ,S,δ,v1,S1,E,h1,fun u1 ρ1 H1 p1 w1 r1=>⟨ρ1,S1,δ,v2,S2,E.to p1 w1,h3,fun u2 ρ2 H2 p2 w2 r2=>?_⟩⟩
 have r1':=r1.pre p2
 have p12:=p1.trans p2
 split at h4
 ·rename_i x y
  obtain⟨d,S3,h5,h6⟩:=R3.ao h4
  obtain⟨h7,e7⟩:=R3.of_ok h5
  cases h6
  subst e7
  unfold bw at r1' r2
  unfold cg at h7
  split at h7
  ·split at h7
   ·rename_i e
    cases h7
    obtain⟨p,xs,rfl,l,rs⟩:=Rep.lst.mp r1'
    obtain⟨y,e1,e2⟩:=nQ rs e
    exact .inl ⟨p,xs,_,y,rfl,Rep.int.mp r2,l.sq,e1,q y ρ2 H2 p12 w2 (by unfold bw;exact e2)⟩
   ·cases h7
  ·split at h7
   ·rename_i e
    cases h7
    obtain⟨p,xs,rfl,l,rs⟩:=Rep.tup.mp r1'
    obtain⟨y,e1,e2⟩:=nQ rs e
    exact .inr (.inl ⟨p,xs,_,y,rfl,Rep.int.mp r2,l.sq,e1,q y ρ2 H2 p12 w2 (by unfold bw;exact e2)⟩)
   ·cases h7
  ·obtain⟨hl,h8⟩:=R.bp h7
   split at h8
   ·rename_i e
    cases h8
    exact .inr (.inr ⟨_,_,_,Rep.str.mp r1',Rep.int.mp r2,of_decide_eq_true hl,e,q _ ρ2 H2 p12 w2 (by unfold bw;exact Rep.str.mpr rfl)⟩)
   ·cases h8
  ·cases h7
 ·split at h4
  ·rename_i e
   cases h4
   unfold bw at r1' r2
   obtain⟨p,xs,rfl,l,rs⟩:=r1'
   obtain⟨y,e1,e2⟩:=sS rs e
   exact .inl ⟨p,xs,_,y,rfl,Rep.int.mp r2,l.sq,e1,q y ρ2 H2 p12 w2 e2⟩
  ·cases h4
 ·split at h4
  ·rename_i e
   cases h4
   unfold bw at r1' r2
   obtain⟨p,xs,rfl,l,rs⟩:=r1'
   obtain⟨y,e1,e2⟩:=sS rs e
   exact .inr (.inl ⟨p,xs,_,y,rfl,Rep.int.mp r2,l.sq,e1,q y ρ2 H2 p12 w2 e2⟩)
  ·cases h4
 ·cases h4
end
end L3
end
section
set_option maxRecDepth 100000
set_option maxHeartbeats 4000000
namespace L3
open PySem PySem.Spec PyProof.Rows L2
section
variable {X:Cx} {cl:Nat→Addr}
structure Ie (X:Cx) (cl:Nat→Addr) (e:Expr) (f:FB):Prop where
 go:L2.PW X e (GN X.K cl f)
theorem Ie.pb{e:Expr}{f:FB}(h:Ie X cl e f):zD X cl e f:=⟨L2.PW.pt h.1⟩
noncomputable def HM(f g:FB):FB:=fun δ S=>(f δ S).bind fun b S=>if b then g δ S else .ok false S
noncomputable def M6(f g:FB):FB:=fun δ S=>(f δ S).bind fun b S=>if b then .ok true S else g δ S
noncomputable def Gv(f:FB):FB:=fun δ S=>(f δ S).bind fun b S=> .ok (!b) S
theorem C4{a:Expr}{f:FB}{pos:Pos}(h:zD X cl a f):Ie X cl (.BoolOp .And [a] pos) f:=⟨yU h.1⟩
theorem Ez{a b:Expr}{rest:List Expr}{f g:FB}{pos:Pos}(ha:zD X cl a f)(hb:Ie X cl (.BoolOp .And (b ::rest) pos) g):Ie X cl (.BoolOp .And (a ::b ::rest) pos) (HM f g):=⟨by
 intro wh pins s σ H Q I ⟨ρ,S,δ,k,S',E,hf,q⟩
 refine Df ha.1 hb.1 wh pins s σ H Q I ?_
 obtain⟨c,S1,h1,h2⟩:=R3.ao hf
 refine⟨ρ,S,δ,c,S1,E,h1,fun ρ1 H1 p1 w1=>?_⟩
 cases c with
 | true=>rw [if_pos rfl] at h2 ⊢;exact⟨ρ1,S1,δ,k,S',E.to p1 w1,h2,fun ρ2 H' p2 w2=>q ρ2 H' (p1.trans p2) w2⟩
 | false=>rw [if_neg (by decide)] at h2 ⊢;cases h2;exact q ρ1 H1 p1 w1⟩
theorem D1{a:Expr}{f:FB}{pos:Pos}(ha:zD X cl a f):zD X cl (.UnaryOp .Not a pos) (Gv f):=⟨(Bq ha.1).imp fun σ H Q ⟨ρ,S,δ,k,S',E,hf,q⟩=>by
 obtain⟨c,S1,h1,h2⟩:=R3.ao hf
 cases h2
 exact⟨ρ,S,δ,c,_,E,h1,fun ρ1 H1 p1 w1=>q ρ1 H1 p1 w1⟩⟩
noncomputable def EV(f:FX):FB:=fun δ S=>(f δ S).bind fun v S=>match v with | .d d=>R3.of (p8 d) S | _=> .no
theorem Fx{a:Expr}{f:FX}(ha:PX X cl a f)(ht:∀{t:TE},PE X a t→PT X a (fun σ H Q=>t σ H fun x H'=>∃b,Fw X.K x H' b∧Q b H')):zD X cl a (EV f):=
 ⟨(ht ha.1).imp fun σ H Q ⟨ρ,S,δ,b,S',E,hf,q⟩=>by
   obtain⟨v,S1,h1,h2⟩:=R3.ao hf
   split at h2
   ·rename_i d
    obtain⟨h3,e3⟩:=R3.of_ok h2
    subst e3
    exact⟨ρ,S,δ, .d d,_,E,h1,fun u ρ1 H1 p1 w1 r1=>⟨b,CM (by unfold bw at r1;exact r1) h3,q ρ1 H1 p1 w1⟩⟩
   ·cases h2⟩
noncomputable abbrev IU:=DE→aU→R3 (Option Int)
noncomputable def Mp(K:PySem.W.Frag)(cl:Nat→Addr)(f:IU):TO:=fun σ H Q=>∃ρ S δ o S',fL K cl ρ H S σ δ∧f δ S= .ok o S'∧∀ρ' H',Pre ρ H ρ' H'→SW K cl ρ' H' S'→Q o H'
structure M_ (X:Cx) (cl:Nat→Addr) (e:Option Expr) (f:IU):Prop where
 go:PO X e (Mp X.K cl f)
noncomputable def KC:IU:=fun _ S=> .ok none S
noncomputable def KO(f:FX):IU:=fun δ S=>(f δ S).bind fun v S=>match v with | .d (.int i)=> .ok (some i) S | _=> .no
noncomputable def M8(f:FX)(fl fh:IU):FX:=fun δ S=>(f δ S).bind fun v S1=>(fl δ S1).bind fun lo S2=>(fh δ S2).bind fun hi S3=>match v with
 | .d d=>(R3.of (HB d lo hi) S3).bind fun r S=> .ok (.d r) S
 | _=> .no
end
end L3
end
section
set_option maxRecDepth 100000
set_option maxHeartbeats 4000000
namespace L2
open PySem PySem.Spec PyProof.Rows
section
variable {X:Cx}
noncomputable def mS(t T:String):Bool:=t==T || (t=="bool" && T=="int")
theorem oB{K:PySem.W.Frag}(t T:String)(ht:t∈["NoneType","bool","int","str","list","tuple"])(hT:T∈["bool","int","str","list","tuple"]):PySem.W.kitOne K (.type t) (.type T)=some (mS t T):=by
 simp only[List.mem_cons,List.not_mem_nil,or_false] at ht hT
 rcases ht with rfl | rfl | rfl | rfl | rfl | rfl <;> rcases hT with rfl | rfl | rfl | rfl | rfl <;> rfl
noncomputable def kh(T:String)(f:FD):FD:=fun δ=>(f δ).bind fun d=>match d with | .dct _ _=> .no | _=> .ok (.bl (mS (tyName d) T))
theorem hW{T:Str}{Ts:String}{p p2 pos:Pos}{e:Expr}{f:FD}(he:QD X e f)(hT:Ts∈["bool","int","str","list","tuple"])(hg:Gl X "isinstance")(hm:X.mg "isinstance"=none)(hgT:Gl X T)(hmT:X.mg T=none)(hvT:bootBuiltins T=some (.type Ts))(hnT:T≠"__name__":=by decide)(hdT:(T==("__debug__":Str))=false:=by decide)
 (hs:starEach [e, .Name T p2] X.env=(false,eval e X.env) ::starEach [.Name T p2] X.env:=by rfl) (hpl:(backTo pos (starEach [.Name T p2] X.env)).any (·.1)=false:=by rfl):QD X (.Call (.Name "isinstance" p) [e, .Name T p2] [] pos) (kh Ts f):=by
 have hc:jR X (.builtin "isinstance") (fun xs H Q=>∃B d x,Rep X.K B H d x∧(∀a b,d≠ .dct a b)∧xs=[x, .ty Ts]∧Q (.bl (mS (tyName d) Ts)) H):=by
  intro pins s σ H xs us Q I r h
  obtain⟨B,d,x,rd,ha,rfl,q⟩:=h
  obtain⟨u,w',rfl,ru,rw'⟩:=vals2 r
  cases rw'
  have fin:∀tk,EP X pins σ Q (.bool (mS (tyName d) Ts)) {s with toks:=tk}:=fun tk=>⟨.bl _,H,I.tok _,rfl,q⟩
  cases d with
  | cI=>exact l4 I ru (by rw[Rep.cI.mp rd];exact .cI) (oB "NoneType" Ts (by decide) hT) fin
  | bl b=>exact l4 I ru (by rw[Rep.bl.mp rd];exact .bl b) (oB "bool" Ts (by decide) hT) fin
  | int i=>exact l4 I ru (by rw[Rep.int.mp rd];exact .int i) (oB "int" Ts (by decide) hT) fin
  | str z=>exact l4 I ru (by rw[Rep.str.mp rd];exact .str z) (oB "str" Ts (by decide) hT) fin
  | lst es=>
    obtain⟨a,ys,rfl,l,_⟩:=Rep.lst.mp rd
    cases(show u=Value.ref a from ru)
    obtain⟨its2,n2,r2,h1,z2⟩:=I.Ho l
    exact PySem.W.kia_one PySem.W.kitx_list I.oX ⟨_,h1,rfl⟩ (oB "list" Ts (by decide) hT) (fun z=>nomatch z) fin
  | tup es=>
    obtain⟨a,ys,rfl,l,_⟩:=Rep.tup.mp rd
    cases(show u=Value.ref a from ru)
    obtain⟨its,rv,p,hz⟩:=I.tuple l.sq
    obtain⟨o,h1,h2,_⟩:=p
    exact PySem.W.kia_one PySem.W.kitx_tuple I.oX ⟨o,h1,h2⟩ (oB "tuple" Ts (by decide) hT) (fun z=>nomatch z) fin
  | dct a b=>exact absurd rfl (ha a b)
 refine⟨(wb hc hg hm boot_isinstance (eA he.1 (eA (Ed (v:= .ty Ts) hgT hmT hvT rfl hnT hdT) iA) hs) (by decide) (by decide) hs hpl).imp fun σ H Q ⟨Z,B,δ,d,E,hf,q⟩=>?_⟩
 obtain⟨d1,h1,h2⟩:=R.ao hf
 have key:(∀a b,d1≠ .dct a b)∧d= .bl (mS (tyName d1) Ts):=by
  cases d1 with
  | dct a b=>cases h2
  | _=>cases h2;exact⟨fun _ _ z=>(by cases z),rfl⟩
 obtain⟨k1,rfl⟩:=key
 exact⟨Z,B,δ,d1,E,h1,fun v H1 s1 r1=>⟨B,d1,v,r1,k1,rfl,q _ H1 s1 (Rep.bl.mpr rfl)⟩⟩
noncomputable def nList(f:FD):aw→R (List D):=fun δ=>(f δ).bind fun d=>match d with | .lst ds=> .ok ds | .tup ds=> .ok ds | _=> .no
end
end L2
namespace L3
open PySem PySem.Spec PyProof.Rows L2
theorem cm{P:Program}{w:World}{K:PySem.W.Frag}{mg:Str→Option Value}{base:Heap}{cl:Nat→Addr}{x qual:Str}{st:Stmt}{f:Addr}{fd:FuncData}{N ps:List Str}{k:Nat}{F:FZ}{b:List Stmt}{sc:Scope}(hb:ak st=b)(hs:af st=sc)(Fn:yW K x qual st f fd)(S:aZ N ps sc)
 (hbody:∀(cdv:Value) (A:Around) (outer:List Env) (s:Shared) (H:Hp) (E:XK),eQ k (A.deeper (envOfC qual sc s.heap.objs.size f cdv))→
   AD (qX si P w K mg base N qual sc f cdv A outer s H E).Fj cl b F):iQ P w K mg base si (k+1) f fd ps (BS K cl ps.length (md N F)):=by
 subst hb hs
 exact El Fn S hbody
theorem aI.p{P:Program}{w:World}{K:PySem.W.Frag}{mg:Str→Option Value}{base:Heap}{cl:Nat→Addr}{k:Nat}{x:Str}{n:Nat}{N:List Str}{F:FZ}(C:aI P w K mg base cl k x n (md N F)):aI P w K mg base cl k x n (nF N F):=
 let⟨f,fd,ps,F,h⟩:=C;⟨f,fd,ps,F.imp fun _ _ _ _ h=>w_ h,h⟩
noncomputable def J1(N:List Str)(F:FZ):List D→R D:=fun ds=>match nF N F (ds.map .d) [] with
 | .ok (.d d) []=>R.cb d.atom (.ok d)
 | _=> .no
theorem G3{K:PySem.W.Frag}{cl:Nat→Addr}{N:List Str}{F:FZ}{n:Nat}{vs:List V}{H:Hp}{Q:VK}{E:XK}(h:Bf K n (J1 N F) vs H Q E):BS K cl n (md N F) vs H Q E:=by
 obtain⟨hl,B,ds,d,hb,r,hg,q⟩:=h
 unfold J1 at hg
 split at hg
 ·rename_i d' e
  obtain⟨ha,h2⟩:=R.bp hg
  cases h2
  have r0:aK K (⟨[],[],[]⟩:P3).b H ds vs:=r.bx fun b o e _=>⟨e,by simp [P3.b]⟩
  refine w_ ⟨hl,⟨[],[],[]⟩,[],ds.map .d, .d d,[],⟨rfl,fun i j a hi=>by simp at hi,fun k a o hk=>by simp at hk,fun b hb=>by simp at hb,fun k a hk=>by simp at hk,fun b hb=>by simp at hb,fun k a hk=>by simp at hk⟩,aM.of r0,e,fun u ρ' H' p w' r'=>q u H' (fun b o eb=>?_) ?_⟩
  ·exact(p.bx b o eb (by simp [P3.b])).1
  ·unfold bw at r'
   exact r'.atom ha
 ·cases hg
section
variable {X:Cx} {cl:Nat→Addr}
theorem Bc{a:Expr}{f:FX}(ha:PX X cl a f)(he:∀whole,isTrue a X.env whole=(do let v ←whole;standAt a.pos;holding [v] (truthy v)):=by intro _;rfl):zD X cl a (EV f):=Fx ha fun h=>v_ h he
theorem qM{g:List D→R D}{k j n:Nat}{x:Str}{p pos:Pos}{e:Expr}{es:List Expr}{fs:FA}(C:Callee X.prog X.w X.K X.mg X.base k x n g)(hr:eQ j X.A)(hkj:k≤j)(hg:Gl X x)(ha:Eh X cl (e ::es) fs)
 (hn:∀δ S ds S',fs δ S= .ok ds S'→ds.length=n) (hdb:(x==("__debug__":Str))=false:=by decide) (he:starEach (e ::es) X.env=(false,eval e X.env) ::starEach es X.env:=by rfl) (hpl:(backTo pos (starEach es X.env)).any (·.1)=false:=by rfl) :
 PX X cl (.Call (.Name x p) (e ::es) [] pos) (rN g fs):=by
 obtain⟨f,fd,ps,F,hm,hk,hb⟩:=C
 refine⟨(uJ F (hr.mono hkj) hg hm hk hb .nil vf ha.1 hdb he hpl).imp fun σ H Q ⟨ρ,S,δ,v,S',E,hf,q⟩=>?_⟩
 obtain⟨vs,S1,h1,h2⟩:=R3.ao hf
 split at h2
 ·rename_i ds e
  obtain⟨d,S2,h3,h4⟩:=R3.ao h2
  obtain⟨h5,e5⟩:=R3.of_ok h3
  cases h4
  subst e5
  refine⟨ρ,S,δ,vs,_,E,h1,fun us ρ1 H1 p1 w1 r1=>?_⟩
  have hl:=hn δ S vs _ h1
  rw[jT e] at r1
  show Bf X.K n g (us++[]) H1 Q E0
  rw[List.append_nil]
  exact⟨by rw[←r1.length,←jT e];exact hl,ρ1.b,ds,d,w1.bs,r1.to,h5,fun z H' s r=>q z ρ1 H' (p1.trans (Pre.same s)) (w1.same s) (by unfold bw;exact r)⟩
 ·cases h2
noncomputable def KQ(f:FX):FA:=fun δ S=>(f δ S).bind fun v S=>match v with | .d (.tup ds)=> .ok (ds.map .d) S | .tup vs=> .ok vs S | _=> .no
end
end L3
end
section
set_option maxRecDepth 100000
set_option maxHeartbeats 4000000
namespace L3
open PySem PySem.Spec PyProof.Rows L2
noncomputable def W3{α:Type}(r:R3 α)(Q:α→aU→Prop):Prop:=∃a S,r= .ok a S∧Q a S
section
variable {α β:Type} {Q Q':α→aU→Prop} {S:aU} {δ:DE}
theorem W3.ok{a:α}(h:Q a S):W3 (.ok a S) Q:=⟨a,S,rfl,h⟩
theorem W3.bind{Q:β→aU→Prop}{r:R3 α}{f:α→aU→R3 β}(h:W3 r fun a S=>W3 (f a S) Q):W3 (r.bind f) Q:=by
 obtain⟨a,S1,e1,b,S2,h2,q⟩:=h
 exact⟨b,S2,by rw[e1];exact h2,q⟩
theorem W3.mono{r:R3 α}(h:W3 r Q)(m:∀a S,Q a S→Q' a S):W3 r Q':=let⟨a,S,e,q⟩:=h;⟨a,S,e,m a S q⟩
theorem W3.eq{r:R3 α}{a:α}{S':aU}(e:r= .ok a S')(h:Q a S'):W3 r Q:=⟨a,S',e,h⟩
theorem W3.wh{c:Bool}{r:R3 α}(hc:c=true)(h:W3 r Q):W3 (R3.cb c r) Q:=by rw[hc];exact h
theorem W3.of{r:R α}{a:α}(e:r= .ok a)(h:Q a S):W3 (R3.of r S) Q:=by rw[e];exact⟨a,S,rfl,h⟩
end
section
variable {S:aU} {δ:DE} {QV:V3→aU→Prop} {QB:Bool→aU→Prop} {QA:List V3→aU→Prop} {QO:Ou→aU→Prop}
theorem dg{f:FD}{d:D}(e:f (down δ)= .ok d)(h:QV (.d d) S):W3 (xP f δ S) QV:=W3.bind (W3.of e (W3.ok h))
theorem uY{f:FD}{d:D}(e:f (b3 S δ)= .ok d)(ha:k5 d=true)(h:QV (.d d) S):W3 (xT f δ S) QV:=W3.bind (W3.of e (W3.wh ha (W3.ok h)))
theorem ve{f:aw→R Bool}{b:Bool}(e:f (down δ)= .ok b)(h:QB b S):W3 (bP f δ S) QB:=W3.of e h
theorem HS{f:aw→R Bool}{b:Bool}(e:f (b3 S δ)= .ok b)(h:QB b S):W3 (bT f δ S) QB:=W3.of e h
theorem w_var{i:Nat}{v:V3}(e:δ[i]? =some (some v))(h:QV v S):W3 (bO i δ S) QV:=by unfold bO;rw [e];exact W3.ok h
theorem kO{f:aw→R (List D)}{ds:List D}(e:f (down δ)= .ok ds)(h:QV (.loc S.length) (S++[.lst ds])):W3 (nY f δ S) QV:=W3.bind (W3.of e (W3.ok h))
theorem cX(h:QA [] S):W3 (cw δ S) QA:=W3.ok h
theorem aJ{f:FX}{g:FA}(h:W3 (f δ S) fun v S1=>W3 (g δ S1) fun vs S2=>QA (v ::vs) S2):W3 (ax f g δ S) QA:=W3.bind (h.mono fun _ _ h=>W3.bind (h.mono fun _ _ h=>W3.ok h))
theorem yI{g:FA}(h:W3 (g δ S) fun vs S1=>vs.length≤sizeLine∧QV (kZ vs) S1):W3 (zR g δ S) QV:=W3.bind (h.mono fun _ _ h=>W3.wh (decide_eq_true h.1) (W3.ok h.2))
theorem IQ{g:FA}(h:W3 (g δ S) fun vs S1=>vs.length≤sizeLine∧QV (je vs) S1):W3 (G7 g δ S) QV:=W3.bind (h.mono fun _ _ h=>W3.wh (decide_eq_true h.1) (W3.ok h.2))
theorem EM{g:D→D→R D}{fa fb:FX}(h:W3 (fa δ S) fun a S1=>W3 (fb δ S1) fun b S2=>∃x y d,a= .d x∧b= .d y∧g x y= .ok d∧QV (.d d) S2):W3 (x2 g fa fb δ S) QV:=
 W3.bind (h.mono fun _ _ h=>W3.bind (h.mono fun _ _ ⟨_,_,_,e1,e2,e3,q⟩=>by subst e1 e2;exact W3.bind (W3.of e3 (W3.ok q))))
theorem K2{g:D→D→R D}{fa fb:FX}(h:W3 (fa δ S) fun a S1=>W3 (fb δ S1) fun b S2=>∃x y k,a= .d x∧b= .d y∧g x y= .ok (.bl k)∧QB k S2):W3 (JR g fa fb δ S) QB:=
 W3.bind (EM (h.mono fun _ _ h=>h.mono fun _ _ ⟨x,y,k,e1,e2,e3,q⟩=>⟨x,y, .bl k,e1,e2,e3,W3.ok q⟩))
theorem xi{fa fb:FX}(h:W3 (fa δ S) fun a S1=>W3 (fb δ S1) fun b S2=>∃x y d,a= .d x∧b= .d y∧cg x y= .ok d∧QV (.d d) S2):W3 (Bt fa fb δ S) QV:=
 W3.bind (h.mono fun _ _ h=>W3.bind (h.mono fun _ _ ⟨_,_,_,e1,e2,e3,q⟩=>by subst e1 e2;exact W3.bind (W3.of e3 (W3.ok q))))
theorem eK{g:List V3→aU→R3 V3}{fs:FA}(h:W3 (fs δ S) fun vs S1=>W3 (g vs S1) QV):W3 (b_ g fs δ S) QV:=W3.bind h
theorem uj{g:List D→R D}{fs:FA}(h:W3 (fs δ S) fun vs S1=>∃ds d,vs=ds.map .d∧g ds= .ok d∧QV (.d d) S1):W3 (rN g fs δ S) QV:=
 W3.bind (h.mono fun _ _ ⟨ds,_,e1,e2,q⟩=>by subst e1;rw [qG];exact W3.bind (W3.of e2 (W3.ok q)))
theorem G8{it:FA}{t:FG}{c:FB}{f:FX}{own:List Str}{kp:List Nat}(h:W3 (it δ S) fun vs S1=>vs.length≤sizeLine∧W3 (mC t c f (gP own kp δ) vs S1) fun ys S2=>QV (je ys) S2):W3 (kR it t c f own kp δ S) QV:=
 W3.bind (h.mono fun _ _ h=>W3.wh (decide_eq_true h.1) (W3.bind (h.2.mono fun _ _ h=>W3.ok h)))
theorem Jk{f:FX}(h:W3 (f δ S) fun v S1=>∃d b,v= .d d∧p8 d= .ok b∧QB b S1):W3 (EV f δ S) QB:=W3.bind (h.mono fun _ _ ⟨_,_,e,e2,q⟩=>by subst e;exact W3.of e2 q)
theorem w_not{f:FB}(h:W3 (f δ S) fun b S1=>QB (!b) S1):W3 (Gv f δ S) QB:=W3.bind (h.mono fun _ _ h=>W3.ok h)
theorem bc{F G:FZ}(h:W3 (F δ S) fun o S1=>∃δ1,o= .nx δ1∧W3 (G δ1 S1) QO):W3 (bG F G δ S) QO:=W3.bind (h.mono fun _ _ ⟨_,e,h⟩=>by subst e;exact h)
theorem HW{F G:FZ}(h:W3 (F δ S) fun o S1=>∃v,o= .rt v∧QO (.rt v) S1):W3 (bG F G δ S) QO:=W3.bind (h.mono fun _ _ ⟨_,e,h⟩=>by subst e;exact W3.ok h)
theorem bL{i:Nat}{f:FX}(hi:i < δ.length)(h:W3 (f δ S) fun v S1=>QO (.nx (δ.set i (some v))) S1):W3 (cC i f δ S) QO:=W3.bind (h.mono fun _ _ h=>W3.wh (decide_eq_true hi) (W3.ok h))
theorem eW{f:FX}(h:W3 (f δ S) fun v S1=>QO (.rt v) S1):W3 (ij f δ S) QO:=W3.bind (h.mono fun _ _ h=>W3.ok h)
theorem rA{c:FB}{F G:FZ}(h:W3 (c δ S) fun b S1=>if b then W3 (F δ S1) QO else W3 (G δ S1) QO):W3 (yM c F G δ S) QO:=W3.bind (h.mono fun b _ h=>by cases b <;> exact h)
theorem nc(h:QO (.nx δ) S):W3 (pX δ S) QO:=W3.ok h
theorem k3{f:aw→R (List D)}{ds:List D}(e:f (down δ)= .ok ds)(h:QA (ds.map .d) S):W3 (iP f δ S) QA:=W3.bind (W3.of e (W3.ok h))
theorem oH{f:FX}(h:W3 (f δ S) fun v S1=>∃n:Nat,v= .d (.int n)∧n < 1000000∧QA ((bQ 0 n).map .d) S1):W3 (mj f δ S) QA:=W3.bind (h.mono fun _ _ ⟨n,e,hn,q⟩=>by
 subst e
 refine W3.wh (decide_eq_true ⟨by omega,by omega⟩) (W3.ok ?_)
 rw[Int.toNat_natCast];exact q)
theorem yQ{f:FX}(h:W3 (f δ S) fun v S1=>∃ds,v= .d (.lst ds)∧QA (ds.map .d) S1):W3 (E_ f δ S) QA:=W3.bind (h.mono fun _ _ ⟨n,e,q⟩=>by subst e;exact W3.ok q)
theorem fR{it:FA}{t:FG}{F:FZ}(h:W3 (it δ S) fun vs S1=>W3 (lQ t F vs δ S1) QO):W3 (ja it t F δ S) QO:=W3.bind h
theorem j2{i k:Nat}{f:FX}(hk:δ[i]? =some (some (.loc k)))(h0:∃ds,S[k]? =some (.lst ds))(h:W3 (f δ S) fun v S1=>∃d ds,v= .d d∧S1[k]? =some (.lst ds)∧ds.length < sizeLine∧QO (.nx δ) (S1.set k (.lst (ds++[d])))):W3 (j4 i f δ S) QO:=by
 obtain⟨es,h0⟩:=h0
 unfold j4
 have e1:gM δ i=some k:=by unfold gM;rw [hk]
 have e2:dr S k=some es:=by unfold dr;simp only[h0]
 rw[e1];show W3 (match dr S k with | none=>_ | some _=>_) _
 rw[e2]
 refine W3.bind (h.mono fun v S1 ⟨d,ds,e,h1,hl,q⟩=>?_)
 subst e
 have e3:dr S1 k=some ds:=by unfold dr;simp only[h1]
 show W3 (match dr S1 k with | some ds=>_ | none=>_) _
 rw[e3]
 exact W3.wh (decide_eq_true hl) (W3.ok q)
theorem BX{fo fi fe:FX}(h:W3 (fe δ S) fun v S1=>W3 (fo δ S1) fun o S2=>W3 (fi δ S2) fun j S3=>∃d k n ds m,v= .d d∧o= .loc k∧j= .d (.int n)∧S3[k]? =some (.lst ds)∧qp ds.length n=some m∧QO (.nx δ) (S3.set k (.lst (ds.set m d)))):W3 (xJ fo fi fe δ S) QO:=
 W3.bind (h.mono fun _ _ h=>W3.bind (h.mono fun _ _ h=>W3.bind (h.mono fun _ S3 ⟨d,k,n,ds,m,e1,e2,e3,h1,h2,q⟩=>by
  subst e1 e2 e3
  have e3:dr S3 k=some ds:=by unfold dr;simp only[h1]
  show W3 (match dr S3 k with | some ds=>_ | none=>_) _
  rw[e3]
  show W3 (match qp ds.length n with | some m=>_ | none=>_) _
  rw[h2]
  exact W3.ok q)))
theorem qy{t:FG}{body:FZ}:∀(vs:List V3) (n:Nat) (P:Nat→DE→aU→Prop) {δ:DE} {S:aU},P n δ S→
 (∀i v δ S,vs[i]? =some v→P (n+i) δ S→∃δ1,t v δ=some δ1∧W3 (body δ1 S) fun o S1=>∃δ2,o= .nx δ2∧P (n+i+1) δ2 S1)→W3 (lQ t body vs δ S) fun o S1=>∃δ2,o= .nx δ2∧P (n+vs.length) δ2 S1
 | [],n,P,δ,S,h0,_=>W3.ok ⟨δ,rfl,h0⟩
 | v ::vs,n,P,δ,S,h0,hs=>by
   obtain⟨δ1,e1,o,S1,e2,δ2,rfl,p2⟩:=hs 0 v δ S rfl h0
   have ih:=qy vs (n+1) P p2 (fun i v' δ' S' hi hp=>by
    have:=hs (i+1) v' δ' S' (by simpa using hi) (by rw[show n+(i+1)=n+1+i by omega];exact hp)
    rw[show n+(i+1)+1=n+1+i+1 by omega] at this
    exact this)
   rw[show n+1+vs.length=n+(v ::vs).length by rw[List.length_cons];omega] at ih
   unfold lQ
   rw[e1]
   refine W3.bind ⟨_,_,e2,?_⟩
   exact ih
theorem cT{t:FG}{body:FZ}{vs:List V3}(P:Nat→DE→aU→Prop){δ:DE}{S:aU}(h0:P 0 δ S)
 (hs:∀i v δ S,vs[i]? =some v→P i δ S→∃δ1,t v δ=some δ1∧W3 (body δ1 S) fun o S1=>∃δ2,o= .nx δ2∧P (i+1) δ2 S1):W3 (lQ t body vs δ S) fun o S1=>∃δ2,o= .nx δ2∧P vs.length δ2 S1:=by
 have:=qy (t:=t) (body:=body) vs 0 P h0 (fun i v δ S hi hp=>by simpa using hs i v δ S hi (by simpa using hp))
 simpa using this
theorem rK{t:FG}{c:FB}{f:FX}{δ:DE}:∀(vs:List V3) (n:Nat) (P:Nat→List V3→aU→Prop) {ys:List V3} {S:aU},P n ys S→
 (∀i v ys S,vs[i]? =some v→P (n+i) ys S→∃δ1,t v δ=some δ1∧W3 (c δ1 S) fun b S1=>if b then W3 (f δ1 S1) fun y S2=>P (n+i+1) (ys++[y]) S2 else P (n+i+1) ys S1)→W3 (mC t c f δ vs S) fun zs S1=>P (n+vs.length) (ys++zs) S1
 | [],n,P,ys,S,h0,_=>W3.ok (by rw[List.append_nil];exact h0)
 | v ::vs,n,P,ys,S,h0,hs=>by
   obtain⟨δ1,e1,b,S1,e2,h2⟩:=hs 0 v ys S rfl h0
   have ih:∀{ys' S'},P (n+1) ys' S'→W3 (mC t c f δ vs S') fun zs S1=>P (n+(v ::vs).length) (ys'++zs) S1:=fun {ys' S'} p=>by
    have:=rK (t:=t) (c:=c) (f:=f) (δ:=δ) vs (n+1) P p (fun i v' ys' S' hi hp=>by
     have:=hs (i+1) v' ys' S' (by simpa using hi) (by rw[show n+(i+1)=n+1+i by omega];exact hp)
     rw[show n+(i+1)+1=n+1+i+1 by omega] at this
     exact this)
    rw[show n+1+vs.length=n+(v ::vs).length by rw[List.length_cons];omega] at this
    exact this
   unfold mC
   rw[e1]
   refine W3.bind ⟨b,S1,e2,?_⟩
   cases b with
   | true=>
     rw[if_pos rfl] at h2 ⊢
     exact W3.bind (h2.mono fun y S2 p=>W3.bind ((ih p).mono fun zs S3 q=>W3.ok (by rw[List.append_assoc] at q;exact q)))
   | false=>rw [if_neg (by decide)] at h2 ⊢;exact ih h2
theorem Aa{t:FG}{c:FB}{f:FX}{δ:DE}{vs:List V3}(P:Nat→List V3→aU→Prop){S:aU}(h0:P 0 [] S)
 (hs:∀i v ys S,vs[i]? =some v→P i ys S→∃δ1,t v δ=some δ1∧W3 (c δ1 S) fun b S1=>if b then W3 (f δ1 S1) fun y S2=>P (i+1) (ys++[y]) S2 else P (i+1) ys S1):W3 (mC t c f δ vs S) fun zs S1=>P vs.length zs S1:=by
 have:=rK (t:=t) (c:=c) (f:=f) (δ:=δ) vs 0 P h0 (fun i v ys S hi hp=>by simpa using hs i v ys S hi (by simpa using hp))
 simpa using this
theorem B_{QB:Bool→aU→Prop}(h:QB true S):W3 (A8 δ S) QB:=W3.ok h
theorem uB{N:List Str}{F:FZ}{vs:List V3}{δ:DE}(e:bS N vs=δ)(h:W3 (F δ S) fun o S1=>∃v,o= .rt v∧QV v S1):W3 (md N F vs S) QV:=by
 subst e
 exact W3.bind (h.mono fun _ _ ⟨_,e,q⟩=>by subst e;exact W3.ok q)
noncomputable def Lx(S:aU):Prop:=∀o∈S,∃ds,o=SO.lst ds
end
end L3
namespace L3
open PySem PySem.Spec PyProof.Rows L2
section
variable {S:aU} {δ:DE} {QV:V3→aU→Prop}
theorem nD{it:FA}{t:FG}{c:FB}{f:FX}{own:List Str}{kp:List Nat}(P:Nat→List D→aU→Prop)(h:W3 (it δ S) fun vs S1=>vs.length≤sizeLine∧P 0 [] S1∧
 (∀i v ds S2,vs[i]? =some v→P i ds S2→∃δ1,t v (gP own kp δ)=some δ1∧W3 (c δ1 S2) fun b S3=>if b then W3 (f δ1 S3) fun y S4=>∃d,y= .d d∧P (i+1) (ds++[d]) S4 else P (i+1) ds S3)∧
 ∀ds S2,P vs.length ds S2→QV (.d (.lst ds)) S2):W3 (kR it t c f own kp δ S) QV:=by
 refine G8 (h.mono fun vs S1 ⟨hl,h0,hs,hq⟩=>⟨hl,?_⟩)
 refine(Aa (fun i ys S=>∃ds,ys=ds.map V3.d∧P i ds S) ⟨[],rfl,h0⟩ ?_).mono fun zs S2 ⟨ds,e,p⟩=>?_
 ·rintro i v ys S2 hv ⟨ds,rfl,p⟩
  obtain⟨δ1,e1,h1⟩:=hs i v ds S2 hv p
  refine⟨δ1,e1,h1.mono fun b S3 h3=>?_⟩
  cases b with
  | true=>
    rw[if_pos rfl] at h3 ⊢
    exact h3.mono fun y S4 ⟨d,e,p⟩=>by subst e;exact⟨ds++[d],by simp,p⟩
  | false=>rw [if_neg (by decide)] at h3 ⊢;exact⟨ds,rfl,h3⟩
 ·subst e
  unfold je
  rw[qG]
  exact hq ds S2 p
structure ky (n:Nat) (d:D):Prop where
 pl:eV d=true
 ly:(toPy d).canLay0=true
 dp:(toPy d).depth≤n
theorem ky.int(i:Int):ky 0 (.int i):=⟨by unfold eV;rfl,by unfold toPy PyData.canLay0;rfl,by unfold toPy PyData.depth;omega⟩
theorem ky.bl(b:Bool):ky 0 (.bl b):=⟨by unfold eV;rfl,by unfold toPy PyData.canLay0;rfl,by unfold toPy PyData.depth;omega⟩
theorem ky.str{s:Str}(h:(PyData.str s).canLay0=true):ky 0 (.str s):=⟨by unfold eV;rfl,by unfold toPy;exact h,by unfold toPy PyData.depth;omega⟩
theorem ky.mono{n m:Nat}{d:D}(h:ky n d)(hm:n≤m):ky m d:=⟨h.pl,h.ly,Nat.le_trans h.dp hm⟩
theorem ky.all{n:Nat}:∀{ds:List D},(∀d∈ds,ky n d)→jt ds=true∧PyData.canLayAll0 (kW ds)=true∧PyData.depthAll (kW ds)≤n
 | [],_=>⟨by unfold jt;rfl,by unfold kW PyData.canLayAll0;rfl,by unfold kW PyData.depthAll;omega⟩
 | d ::ds,h=>by
   obtain⟨h1,h2,h3⟩:=ky.all (ds:=ds) fun x hx=>h x (List.mem_cons_of_mem _ hx)
   have f:=h d List.mem_cons_self
   refine⟨by unfold jt;rw [f.pl,h1];rfl,by unfold kW PyData.canLayAll0;rw [f.ly,h2];rfl,?_⟩
   unfold kW PyData.depthAll
   have:=f.dp
   omega
theorem ky.lst{n:Nat}{ds:List D}(h:∀d∈ds,ky n d):ky (n+1) (.lst ds):=by
 obtain⟨h1,h2,h3⟩:=ky.all h
 exact⟨by unfold eV;exact h1,by unfold toPy PyData.canLay0;exact h2,by unfold toPy PyData.depth;omega⟩
theorem ky.tup{n:Nat}{ds:List D}(h:∀d∈ds,ky n d):ky (n+1) (.tup ds):=by
 obtain⟨h1,h2,h3⟩:=ky.all h
 exact⟨by unfold eV;exact h1,by unfold toPy PyData.canLay0;exact h2,by unfold toPy PyData.depth;omega⟩
theorem ky.sh{n:Nat}{d:D}(h:ky n d)(hn:n≤64):SeqAt.shaped (toPy d)=true:=by
 unfold SeqAt.shaped
 rw[h.ly,decide_eq_true (Nat.le_trans h.dp hn)]
 rfl
theorem GQ{d e:List D}:FJ (.lst d) (.lst e)=R.cb (eV (.lst d) && eV (.lst e) && SeqAt.shaped (toPy (.lst d)) && SeqAt.shaped (toPy (.lst e))) (.ok (PyData.eqv (toPy (.lst d)) (toPy (.lst e)))):=rfl
theorem Hu{d e:List D}:FJ (.tup d) (.tup e)=R.cb (eV (.tup d) && eV (.tup e) && SeqAt.shaped (toPy (.tup d)) && SeqAt.shaped (toPy (.tup e))) (.ok (PyData.eqv (toPy (.tup d)) (toPy (.tup e)))):=rfl
end
end L3
namespace L3
open PySem PySem.Spec PyProof.Rows L2
end L3
end
section
set_option maxRecDepth 100000
set_option maxHeartbeats 4000000
namespace L2
open PySem PySem.Spec PyProof.Rows
section
variable {X:Cx}
noncomputable def AO:D→Bool | .cI=>true | _=>false
noncomputable def JT(d e:D):R D:=match e with | .cI=> .ok (.bl (AO d)) | _=> .no
noncomputable def BR(d e:D):R D:=match e with | .cI=> .ok (.bl (!AO d)) | _=> .no
theorem yH{K:PySem.W.Frag}{B:List Addr}{H:Hp}{d:D}{x:V}(r:Rep K B H d x):decide (x= .cI)=AO d:=by
 cases d with
 | cI=>rw [Rep.cI.mp r];rfl
 | bl b=>rw [Rep.bl.mp r];rfl
 | int b=>rw [Rep.int.mp r];rfl
 | str b=>rw [Rep.str.mp r];rfl
 | lst ds=>obtain⟨a,xs,rfl,_⟩:=Rep.lst.mp r;rfl
 | tup ds=>obtain⟨a,xs,rfl,_⟩:=Rep.tup.mp r;rfl
 | dct ks ds=>unfold Rep at r;obtain⟨a,xs,rfl,_⟩:=r;rfl
theorem Jl:j3 X (compareOp .Is) JT:=j3.of Hk fun B H da db d x y Q _ ra rb hg q=>by
 unfold JT at hg
 split at hg
 ·cases hg
  exact⟨Rep.cI.mp rb,by rw[yH ra];exact q _ H (a_.refl H) (Rep.bl.mpr rfl)⟩
 ·cases hg
theorem F3:j3 X (compareOp .IsNot) BR:=j3.of Fe fun B H da db d x y Q _ ra rb hg q=>by
 unfold BR at hg
 split at hg
 ·cases hg
  exact⟨Rep.cI.mp rb,by rw[yH ra];exact q _ H (a_.refl H) (Rep.bl.mpr rfl)⟩
 ·cases hg
theorem Ay:jR X (.type "int") (fun xs H Q=>∃x n,xs=[.str x]∧PySem.intText? x=some n∧x.length≤640∧Q (.int n) H):=by
 intro pins s σ H xs us Q I r h
 obtain⟨x,n,rfl,h1,h2,q⟩:=h
 obtain⟨u,rfl,ru⟩:=vals1 r
 obtain⟨t,rfl⟩:=ru
 exact PySem.W.KIN.call_text h1 h2 ⟨.int n,H,I.tok _,⟨_,rfl⟩,q⟩
noncomputable def Bn:List D→R D
 | [.str x]=>R.cb (decide (x.length≤640)) (match PySem.intText? x with | some n=> .ok (.int n) | none=> .no)
 | _=> .no
theorem Gm:cW X (.type "int") Bn:=cW.of Ay fun B H ds d xs Q _ rs hg q=>by
 unfold Bn at hg
 split at hg
 ·obtain⟨h1,h2⟩:=R.bp hg
  split at h2
  ·rename_i e
   cases h2
   obtain⟨x,rfl,r⟩:=rs.one
   exact⟨_,_,by rw[Rep.str.mp r],e,of_decide_eq_true h1,q _ H (a_.refl H) (Rep.int.mpr rfl)⟩
  ·cases h2
 ·cases hg
noncomputable def q9(ds:List D):R D:=match ds with | [.str _]=>Bn ds | _=>cInt ds
theorem um:cW X (.type "int") q9:=cW.or Gm IM fun a d h=>by
 unfold q9 at h
 split at h
 ·exact .inl h
 ·exact .inr h
noncomputable def DS(f:FD):FD:=fun δ=>(f δ).bind fun d=>match d with | .int i=> .ok (.int (-i)) | _=> .no
theorem ua{a:Expr}{f:FD}{pos:Pos}(h:QD X a f):QD X (.UnaryOp .USub a pos) (DS f):=⟨(JB Gs h.1).imp fun σ H Q ⟨Z,B,δ,d,E,hf,q⟩=>by
 obtain⟨d1,h1,h2⟩:=R.ao hf
 split at h2
 ·cases h2
  exact⟨Z,B,δ,_,E,h1,fun v H1 s1 r1=>⟨_,Rep.int.mp r1,q _ H1 s1 (Rep.int.mpr rfl)⟩⟩
 ·cases h2⟩
noncomputable def y0(d:D)(ds:List D):R D:=match d,ds with
 | .str x,[.str y]=> .ok (.int (Txt.find x y))
 | _,_=> .no
theorem m_find:JY X "str.find" y0:=by
 intro pins s σ H B da d ds x xs v us I hb rx rxs ra rs hg
 unfold y0 at hg
 split at hg
 ·cases hg
  rw[Rep.str.mp ra] at rx
  obtain⟨t,rfl⟩:=rx
  obtain⟨y,rfl,r⟩:=rs.one
  rw[Rep.str.mp r] at rxs
  obtain⟨u,rfl,ru⟩:=vals1 rxs
  obtain⟨t2,rfl⟩:=ru
  exact PySem.SC.find ⟨.int _,H,I.tok _,⟨_,rfl⟩,a_.refl H,Rep.int.mpr rfl⟩
 ·cases hg
theorem AX{o e:Expr}{f:FD}{fs:aw→R (List D)}{apos cpos:Pos}(ho:QD X o f)(ha:DP X [e] fs)
 (hbase:attributeBase o "find" X.env (eval o X.env)=eval o X.env:=by rfl)
 (hfew:((backTo cpos (starEach [e] X.env)).all (fun x=>!x.1) && (backToKw cpos (keywordEach [] X.env)).all (fun x=>x.1.isSome)
   && decide (([e]:List Expr).length+([]:List Keyword).length+(if([]:List Keyword).isEmpty then 0 else 1) < 30))=true:=by rfl)
 (hline:(apos.endLine==cpos.line)=true:=by rfl) (hs:starEach [e] X.env=(false,eval e X.env) ::starEach [] X.env:=by rfl) :
 QD X (.Call (.Attribute o "find" apos) [e] [] cpos) (z_ "str" y0 f fs):=⟨I0 F.plainAttrs_str F.slot_str_find F.type_str_find m_find ho.1 ha.1 (.inl rfl) hbase hfew hline hs⟩
noncomputable def L0(kvs:List (Str × Str)):D:= .dct (kvs.map fun p=>Sum.inr p.1) (kvs.map fun p=> .str p.2)
noncomputable def MR(kvs:List (Str × Str)):List (Key × V):=kvs.map fun p=>((Sum.inr p.1:Key),V.str p.2)
noncomputable def MG(d k:D):R D:=match d,k with
 | .dct ks ds, .str x=>(match (ks.zip ds).find? fun p=>decide (p.1=Sum.inr x) with | some p=> .ok p.2 | none=> .no)
 | _,_=> .no
end
theorem FH{P:Program}{w:World}{K:PySem.W.Frag}{mg:Str→Option Value}{base:Heap}{k n:Nat}{f:Addr}{fd:FuncData}{ps:List Str}:iQ P w K mg base si k f fd ps (Bf K n fun _=> .no):=
 ⟨fun vs H Q E h=>(by obtain⟨_,_,_,_,_,_,h,_⟩:=h;cases h),fun A outer s H args us vs Q E _ _ _ _ h=>(by obtain⟨_,_,_,_,_,_,h,_⟩:=h;cases h)⟩
end L2
namespace L3
open PySem PySem.Spec PyProof.Rows L2
section
variable {X:Cx} {cl:Nat→Addr}
noncomputable def Lu(f:FX):FB:=fun δ S=>(f δ S).bind fun v S=>match v with | .d (.bl b)=> .ok b S | _=> .no
noncomputable def MB(f g:FX):FX:=fun δ S=>(Lu f δ S).bind fun b S=>if b then g δ S else .ok (.d (.bl false)) S
noncomputable def Na(f g:FX):FX:=fun δ S=>(Lu f δ S).bind fun b S=>if b then .ok (.d (.bl true)) S else g δ S
noncomputable def CC(i:Nat)(F:FZ):FZ:=fun δ S=>match gM δ i with
 | some k=>(match dr S k with | some ds=>F (δ.set i (some (.d (.lst ds)))) (S.set k .iz) | none=> .no)
 | none=> .no
theorem DW(i:Nat){sts:List Stmt}{F:FZ}(h:AD X cl sts F):AD X cl sts (CC i F):=⟨h.1.imp fun D σ H ⟨ρ,S,δ,o,S',E,hf,q⟩=>by
 unfold CC at hf
 split at hf
 ·rename_i k hk
  split at hf
  ·rename_i ds hds
   obtain⟨v,v1,v2⟩:=E.val i _ (mR hk)
   unfold bw at v2
   obtain⟨a,a1,rfl⟩:=v2
   obtain⟨w,p,r⟩:=E.sw.iz a1 (fZ hds)
   have E1:fL X.K cl ⟨ρ.r,ρ.z,a ::ρ.f⟩ H (S.set k .iz) σ (δ.set i (some (.d (.lst ds)))):=⟨by rw[List.length_set];exact E.len,w,fun j d e=>by
    by_cases h:i=j
    ·subst h
     rw[List.getElem?_set_self (by obtain⟨h1,_⟩:=List.getElem?_eq_some_iff.mp (mR hk);exact h1)] at e
     cases e
     exact⟨_,v1,by unfold bw;exact r⟩
    ·rw[List.getElem?_set_ne h] at e
     obtain⟨u,u1,u2⟩:=E.val j d e
     exact⟨u,u1,u2.pre p⟩⟩
   exact⟨_,_,_,o,S',E1,hf,q.pre p⟩
  ·cases hf
 ·cases hf⟩
theorem Jt{i k:Nat}{ds:List D}{F:FZ}{δ:DE}{S:aU}{QO:Ou→aU→Prop}(hk:δ[i]? =some (some (.loc k)))(hS:S[k]? =some (.lst ds))(h:W3 (F (δ.set i (some (.d (.lst ds)))) (S.set k .iz)) QO):W3 (CC i F δ S) QO:=by
 unfold CC
 have e1:gM δ i=some k:=by unfold gM;rw [hk]
 have e2:dr S k=some ds:=by unfold dr;simp only[hS]
 simp only[e1,e2]
 exact h
end
noncomputable def Flat(S:aU):Prop:=∀o∈S,∀n,nG n o=true
theorem Flat.all{S:aU}(h:Flat S)(n:Nat):(S.take n).all (nG n)=true:=List.all_eq_true.mpr fun o ho=>h o (List.mem_of_mem_take ho) n
theorem Flat.set{S:aU}(h:Flat S)(k:Nat){x:SO}(hx:∀n,nG n x=true):Flat (S.set k x):=fun o ho=>by
 rcases List.mem_or_eq_of_mem_set ho with z | z
 ·exact h o z
 ·rw[z];exact hx
theorem Flat.push{S:aU}(h:Flat S){x:SO}(hx:∀n,nG n x=true):Flat (S++[x]):=fun o ho=>by
 rcases List.mem_append.mp ho with z | z
 ·exact h o z
 ·rw[List.mem_singleton.mp z];exact hx
theorem Flat.take{S:aU}(h:Flat S)(n:Nat):Flat (S.take n):=fun o ho=>h o (List.mem_of_mem_take ho)
theorem Flat.nil:Flat []:=fun o ho=>by cases ho
theorem qY{N:List Str}{F:FZ}{vs:List V3}{S:aU}{QV:V3→aU→Prop}(h:W3 (md N F vs S) fun v S1=>Flat S1∧eI S.length v=true∧∃d,res S1 v=some d∧QV (.d d) (S1.take S.length)):W3 (nF N F vs S) QV:=
 W3.bind (h.mono fun v S1 ⟨hl,hg,d,e,q⟩=>by
  rw[e]
  exact W3.wh (by rw[hl.all,hg];rfl) (W3.ok q))
end L3
end
section
set_option maxRecDepth 100000
set_option maxHeartbeats 4000000
namespace PySem
open Sem (wp)
open AutoSeq1 (wpAny_loadPart')
section
variable {prog:Program} {w:World} {A:Around} {E:Value→Shared→Prop} {s:Shared}
end
end PySem
namespace L2
open PySem PySem.Spec PyProof.Rows
section
variable {X:Cx}
noncomputable def JZ(f:FD):FD:=fun δ=>(f δ).bind fun d=>match d with
 | .int j=>R.cb (decide (-(2 ^ 62)≤j∧j < 16777216)) (.ok (.tup (bQ 0 j.toNat)))
 | _=> .no
end
end L2
end
section
set_option maxRecDepth 100000
set_option maxHeartbeats 4000000
namespace PySem
open Sem (wp)
open AutoSeq1 (wpAny_loadPart')
section
variable {prog:Program} {w:World} {A:Around} {E:Value→Shared→Prop} {s:Shared}
theorem kT{it l:Addr}{i:Nat}{items:Array Value}{x:Value}{Q:Value→Shared→Prop}(hit:s.heap.IsTupleIter it l i)(hl:s.heap.IsTuple l items)(hx:items[i]? =some x)
 (hQ:∀h',h'.IsTupleIter it l (i+1)→Heap.SameBut it s.heap h'→Q x {s with heap:=h'}):wpAny (model prog w) A (Builtin.SmallTypes.nextOf (.ref it)) Q E s:=by
 obtain⟨o,ho,hc,hd⟩:=id hit;obtain⟨ol,hol,_,nl,hdl⟩:=hl
 unfold Builtin.SmallTypes.nextOf
 refine wpAny_bind (wpAny_callSpecial?_slot (name:=Str.ofString "__next__") hit.typeIs F.slot_tuple_iterator_next (wpAny_call_entry F.slot_tuple_iterator_next hit.typeIs F.entry_tuple_iterator_next ?_ (F.args_tuple_iterator_next_1 _)))
 show wpAny _ _ (field (.ref it) 0 >>=_) _ _ s;refine wpAny_bind (wpAny_field ho hd (x:= .ref l) rfl ?_)
 show wpAny _ _ (if(Value.ref l==Value.none)=true then _ else _) _ _ s;rw [if_neg (show ¬((Value.ref l==Value.none)=true) from Bool.false_ne_true)]
 show wpAny _ _ (field (.ref it) 1 >>=_) _ _ s;refine wpAny_bind (wpAny_field ho hd (x:= .int i 0) rfl ?_)
 show wpAny _ _ (seqItems? (.ref l) >>=_) _ _ s;refine wpAny_bind (wpAny_seqItems hol hdl ?_)
 simp only[Int.toNat_natCast,hx]
 refine wpAny_bind (wpAny_setField ho hd (by simp) (wpAny_pure ⟨x,rfl,wpAny_pure (hQ _ ⟨_,Heap.get?_update_self _ ho (Obj.isFreed_of_fields (Obj.data_mapFields hd _)),(Obj.cls_mapFields ..).trans hc,by rw[Obj.data_mapFields hd];simp [rawInt]⟩ (Heap.SameBut.update ..))⟩))
theorem i0{it l:Addr}{i:Nat}{items:Array Value}{Q:Value→Shared→Prop}(hh:A.handled=none)(hit:s.heap.IsTupleIter it l i)(hl:s.heap.IsTuple l items)(hx:items[i]? =none)
 (hE:∀h' e,Heap.ExtBut it s.heap h'→(∃o,h'.get? e=some o∧o.cls= .type "StopIteration")→E (.ref e) {s with heap:=h'}):wpAny (model prog w) A (Builtin.SmallTypes.nextOf (.ref it)) Q E s:=by
 obtain⟨o,ho,hc,hd⟩:=id hit;obtain⟨ol,hol,_,nl,hdl⟩:=hl
 unfold Builtin.SmallTypes.nextOf
 refine wpAny_bind (wpAny_callSpecial?_slot (name:=Str.ofString "__next__") hit.typeIs F.slot_tuple_iterator_next (wpAny_call_entry F.slot_tuple_iterator_next hit.typeIs F.entry_tuple_iterator_next ?_ (F.args_tuple_iterator_next_1 _)))
 show wpAny _ _ (field (.ref it) 0 >>=_) _ _ s;refine wpAny_bind (wpAny_field ho hd (x:= .ref l) rfl ?_)
 show wpAny _ _ (if(Value.ref l==Value.none)=true then _ else _) _ _ s;rw [if_neg (show ¬((Value.ref l==Value.none)=true) from Bool.false_ne_true)]
 show wpAny _ _ (field (.ref it) 1 >>=_) _ _ s;refine wpAny_bind (wpAny_field ho hd (x:= .int i 0) rfl ?_)
 show wpAny _ _ (seqItems? (.ref l) >>=_) _ _ s;refine wpAny_bind (wpAny_seqItems hol hdl ?_)
 simp only[Int.toNat_natCast,hx]
 refine wpAny_bind (wpAny_rule (wpAny_bind (wpAny_setField ho hd (by simp) ?_)))
 show wpAny _ _ (newExc (.type "StopIteration") [] >>=_) _ _ _;refine wpAny_bind ?_;simp only[newExc,newTuple]
 refine wpAny_bind (wpAny_newObj_type ?_ (by size_fits))
 refine wpAny_bind (m:=firstArgMember _ _) (wpAny_of_eq (a:=Value.none) (by first | rfl | (simp only[firstArgMember];rfl)) ?_);refine wpAny_newObj_type ?_ (by size_fits)
 simp only[raiseNew];refine wpAny_bind (wpAny_handled ?_)
 first | rw[show A.in1.handled=none from hh] | rw[hh]
 exact wpAny_bind (wpAny_pure (wpAny_throw (hE _ _ (((Heap.SameBut.update ..).extBut.push _).push _) ⟨_,Heap.get?_push_size _ rfl,rfl⟩)))
end
theorem z6{prog:Program}{w:World}{A:Around}(hh:A.handled=none)(it l:Addr)(hne:l≠it)(items:Array Value) :
 Draws prog w A it [it,l] items.size (fun i v=>items[i]? =some v) (fun i h=>h.IsTupleIter it l i∧h.IsTuple l items) where
 live:=fun _ _ st=>let⟨o,ho,_⟩:=st.1;⟨o,ho⟩
 frame:=fun _ _ _ st hk=>⟨st.1.at fun o e=>hk it (by simp) o e,Heap.IsTuple.at st.2 fun o e=>hk l (by simp) o e⟩
 item:=fun i s Q E hi st hQ=>kT st.1 st.2 (x:=items[i]) (by simp [hi]) fun h' hit' hs'=>hQ _ h' s.toks (by simp [hi]) ⟨hit',st.2.extBut hs'.extBut hne⟩ hs'
 done:=fun s Q E st hE=>i0 hh st.1 st.2 (by simp) hE
theorem p6(l:Addr)(items:Array Value)(o:Obj)(n:Nat)(hc:o.cls= .type "tuple")(hd:o.data= .seq items n) :
 Meets (Builtin.«enumerate.__new__» ⟨[.type "enumerate", .ref l],[]⟩) (fun _ R s=>s.heap.get? l=some o∧
  R (.ok (.ret (.ref (s.heap.push {cls:= .type "tuple_iterator",data:= .fields #[.ref l, .int 0 0]}).objs.size)))
   {s with heap:=(s.heap.push {cls:= .type "tuple_iterator",data:= .fields #[.ref l, .int 0 0]}).push {cls:= .type "enumerate",data:= .fields #[.none, .bool false, .ref s.heap.objs.size,rawInt 0, .none, .none]}}):=
 .of_wp fun prog w A R s h=>by
  obtain⟨hp,g,d,tk,os⟩:=s;obtain⟨hl,h⟩:=h
  have hsub:=sub_enumerate
  have hL:Heap.IsTuple (Shared.heap ⟨hp,g,d,tk,os⟩) l items:=⟨_,hl,hc,n,hd⟩
  wp_walk using wpAny_loadPart' hl
  refine wpAny_stack_any fun st=>wpAny_pure ?_
  split
  ·rename_i c _ _ _ _ _
   cases(c==Value.type "enumerate") <;> (wp_walk using wpAny_loadPart' hl,wpAny_pyIter_tuple hL;exact⟨_,rfl,h⟩)
  ·wp_walk using wpAny_loadPart' hl,wpAny_pyIter_tuple hL
   exact⟨_,rfl,h⟩
theorem xF{prog:Program}{w:World}{A:Around}{E:Value→Shared→Prop}{s:Shared}{l:Addr}{items:Array Value}{Q:Value→Shared→Prop}(hL:s.heap.IsTuple l items)
 (h:∀h':Heap,IsEnum h' (s.heap.objs.size+1) s.heap.objs.size 0 .none→h'.IsTupleIter s.heap.objs.size l 0→(∀b o,s.heap.get? b=some o→h'.get? b=some o)→Q (.ref (s.heap.objs.size+1)) {s with heap:=h'}) :
 wpAny (model prog w) A (call (.type "enumerate") [.ref l]) Q E s:=by
 obtain⟨o,hl,hc,n,hd⟩:=hL
 refine callType_new F.called_enumerate (by decide) (F.typeCall_enumerate_1 _) (F.newCall_enumerate_1 _) (fun obj=>F.args_object_init_2 obj _) F.entry_enumerate_new (p6 l items o n hc hd) ⟨hl,?_⟩
 have hz:(s.heap.push {cls:= .type "tuple_iterator",data:= .fields #[.ref l, .int 0 0]}).objs.size=s.heap.objs.size+1:=Heap.size_push ..
 show _∧_;rw [hz]
 have he:IsEnum ((s.heap.push {cls:= .type "tuple_iterator",data:= .fields #[.ref l, .int 0 0]}).push {cls:= .type "enumerate",data:= .fields #[.none, .bool false, .ref s.heap.objs.size,rawInt 0, .none, .none]}) (s.heap.objs.size+1) s.heap.objs.size 0 .none:=by
  have:=Heap.get?_push_size (s.heap.push {cls:= .type "tuple_iterator",data:= .fields #[.ref l, .int 0 0]}) (o:={cls:= .type "enumerate",data:= .fields #[.none, .bool false, .ref s.heap.objs.size,rawInt 0, .none, .none]}) rfl
  rw[hz] at this;exact this
 exact⟨⟨_,he,rfl⟩,h _ he ⟨_,Heap.get?_push_of_some _ (Heap.get?_push_size _ rfl),rfl,rfl⟩ fun b o x=>Heap.get?_push_of_some _ (Heap.get?_push_of_some _ x)⟩
end PySem
namespace L2
open PySem PySem.Spec PyProof.Rows
noncomputable def Kv(K:PySem.W.Frag)(a:Addr):It:=
 ⟨fun i H=>∃xs x,pK K H a xs∧xs[i]? =some x,fun i H v H'=>∃p x,H p=none∧v= .ref p∧(∀xs,pK K H a xs→xs[i]? =some x)∧H'=upd H p (.tup [.int i,x]),fun i H=>∃xs,pK K H a xs∧xs.length≤i⟩
theorem xY{P:Program}{w:World}{K:PySem.W.Frag}{elts:List Expr}{k:Nat}{pos:Pos}(a e it:Addr)(hei:e≠it):Turn P w K (.Tuple elts k pos) (Kv K a) [e,it] e (fun i h=>(∃old,IsEnum h e it ((i:Nat):Int) old)∧h.IsTupleIter it a i) where
 mem:=by simp
 obj:=fun i h st b hb=>by
  obtain⟨⟨old,he⟩,o,ho,c,d⟩:=st
  rcases List.mem_cons.mp hb with rfl | hb
  ·exact⟨_,he,fun v z=>by cases z⟩
  ·have e:b=it:=by simpa using hb
   subst e
   exact⟨o,ho,fun v z=>by rw[d] at z;cases z⟩
 keep:=fun i h h' st k=>by
  obtain⟨⟨old,he⟩,hi⟩:=st
  exact⟨⟨old,k e (by simp) _ he⟩,hi.at fun o x=>k it (by simp) o x⟩
 item:=by
  intro X hP hw hK hc i pins s σ H E I hf st hg
  subst hP hw hK
  obtain⟨xs,x,hq,hx⟩:=hg
  obtain⟨its,rv,p,hz⟩:=I.tuple hq
  have p':s.heap.IsTuple a its.toArray:=p
  obtain⟨u,hu,ru⟩:=rv.get hx
  obtain⟨⟨old,he⟩,hit⟩:=st
  obtain⟨f0,f1,f2,f3,f4,f5⟩:=hf e (by simp)
  obtain⟨g0,g1,g2,g3,g4,g5⟩:=hf it (by simp)
  have ha_it:a≠it:=fun z=>by
   obtain⟨o1,h1,c1,_⟩:=p'
   obtain⟨o2,h2,c2,_⟩:=hit
   rw[z,h2] at h1;cases h1
   rw[c2] at c1;exact absurd c1 (by decide)
  have ha_e:e ∉ [it,a]:=fun z=>by
   rcases List.mem_cons.mp z with q | q
   ·exact hei q
   ·have q:e=a:=by simpa using q
    obtain⟨o1,h1,c1,_⟩:=p'
    rw[←q,he] at h1;cases h1
    exact absurd (show Value.type "enumerate"=Value.type "tuple" from c1) (by decide)
  refine wpAny_pyNext_enum_itemD (z6 (A:=X.A.in1) (I.ok.hd hc) it a ha_it its.toArray) he ⟨hit,p'⟩ (by have:=(List.getElem?_eq_some_iff.mp hu).1;simpa using this) hei ha_e fun u2 h₁ tk hu2 heo st₁ ht₁ hz₁ hk₁=>⟨_,rfl,?_⟩
  obtain rfl:u2=u:=by
   have h1:its[i]? =some u2:=by simpa using hu2
   rw[hu] at h1;cases h1;rfl
  obtain⟨hit₁,_⟩:=st₁
  refine wpAny_letOwnedTupleGo_enum heo fun h₂ he₂ hs₂=>?_
  replace hs₂:Heap.SameBut e h₁ h₂:=hs₂
  have hel:e < s.heap.objs.size:=Heap.lt_size he
  have ht₂:h₂.get? s.heap.objs.size=some {cls:= .type "tuple",data:= .seq #[.int i tk,u2]}:=(hs₂.2 _ (Nat.ne_of_gt hel)).trans ht₁
  have kk:∀b o,b≠e→b≠it→s.heap.get? b=some o→h₂.get? b=some o:=fun b o h1 h2 q=>(hs₂.2 b h1).trans (hk₁ b o h1 h2 q)
  have hn:H s.heap.objs.size=none:=I.fresh
  have sm:a_ H (upd H s.heap.objs.size (.tup [.int i,x])):=aX hn
  have nit:∀b o,H b=some o→b≠e∧b≠it:=fun b o q=>⟨fun z=>(by rw[z,f0] at q;cases q),fun z=>(by rw[z,g0] at q;cases q)⟩
  have hok:mG X.prog X.w (upd H s.heap.objs.size (.tup [.int i,x])) h₂:=fun b ob q=>by
   by_cases hb:b=s.heap.objs.size
   ·subst hb
    rw[bf] at q
    cases q
    exact⟨by show 2≤sizeLine;decide,[.int i tk,u2], .cons ⟨_,rfl⟩ (.cons ru .nil),⟨_,ht₂,rfl,_,rfl⟩⟩
   ·rw[br hb] at q
    refine(I.hok b ob q).uR (fun c v hc z=>?_) (fun c z=>sm c _ z) fun c ys z=>sm c _ z
    rcases hc with rfl | hc
    ·exact kk c v (nit c _ q).1 (nit c _ q).2 z
    ·exact kk c v (nit c _ hc).1 (nit c _ hc).2 z
  have nch:∀b,b ∉ [e,it]→b≠e∧b≠it:=fun b hb=>⟨fun z=>hb (by simp [z]),fun z=>hb (by simp [z])⟩
  have I2:Inv X pins σ (upd H s.heap.objs.size (.tup [.int i,x])) {s with heap:=h₂,toks:=tk+1}:=by
   refine I.step (g':=s.gens) (d':=s.drawn) (ch:=[e,it]) (fun b hb=>?_) (fun b o _ _ hb q _=>kk b o (nch b hb).1 (nch b hb).2 q) (fun b o _ _ hb q _=>⟨o.slots,kk b o (nch b hb).1 (nch b hb).2 q⟩)
    (fun b o hb q n=>by rw[br (Nat.ne_of_lt (Heap.lt_size q))];exact n) (fun b o hb q=>⟨o,kk b o (nch b hb).1 (nch b hb).2 q⟩) (fun b ys z=>sm b _ z) (fun b o u z=>sm b _ z) (fun b ps z=>⟨#[],by rw[sm b _ z];simp⟩) (fun m hm=>?_) hok I.bare
   ·rcases List.mem_cons.mp hb with rfl | hb
    ·exact⟨f3,f1,f4,f5⟩
    ·have z:b=it:=by simpa using hb
     subst z
     exact⟨g3,g1,g4,g5⟩
   ·obtain⟨o,es,ep,ho,r⟩:=hm
    exact⟨o,es,ep,kk _ o (Ne.symm f1) (Ne.symm g1) ho,r⟩
  refine⟨.ref s.heap.objs.size,_,I2,rfl,⟨s.heap.objs.size,x,hn,rfl,fun ys hy=>(by rw[I.oQ hy hq];exact hx),rfl⟩,⟨⟨_,by simpa using he₂⟩,hit₁.at fun o q=>(hs₂.2 it (Ne.symm hei)).trans q⟩,fun b hb=>?_⟩
  rcases List.mem_cons.mp hb with rfl | hb
  ·rw[br (Nat.ne_of_lt hel)];exact f0
  ·have z:b=it:=by simpa using hb
   subst z
   obtain⟨o,ho,_⟩:=hit
   rw[br (Nat.ne_of_lt (Heap.lt_size ho))];exact g0
 done:=by
  intro X hP hw hK hc i pins s σ H E I hf st hg
  subst hP hw hK
  obtain⟨xs,hq,hx⟩:=hg
  obtain⟨its,rv,p,hz⟩:=I.tuple hq
  have p':s.heap.IsTuple a its.toArray:=p
  obtain⟨⟨old,he⟩,hit⟩:=st
  obtain⟨g0,g1,g2,g3,g4,g5⟩:=hf it (by simp)
  have hl:=rv.length
  have hT:s.TypeIs (.ref e) "enumerate":=⟨_,he,rfl⟩
  unfold pyNext
  refine wpAny_bind (wpAny_attempt (wpAny_callSpecial?_slot (name:=Str.ofString "__next__") hT F.slot_enumerate_next (wpAny_call_entry F.slot_enumerate_next hT F.entry_enumerate_next ?_ (F.args_enumerate_next_1 _))))
  show wpAny _ _ (field (.ref e) 2 >>=_) _ _ _;refine wpAny_bind (wpAny_field he rfl (x:= .ref it) rfl ?_)
  refine wpAny_bind (i0 (A:=X.A.in1) (I.ok.hd hc) hit p' (by simp;omega) fun h' x he' hx'=>?_)
  obtain⟨o,ho,hcl⟩:=hx'
  refine wpAny_bind (wpAny_isInstance (T:="StopIteration") (b:=true) ⟨o,ho,hcl⟩ isSubtype_stop ?_)
  exact wpAny_pure ⟨rfl,I.turned (t':=s.toks) (fun b o hb q=>he' b o hb q) g0 g1 g3 g4 g5⟩
 self:=fun A i s Q E st h=>let⟨⟨_,he⟩,_⟩:=st;wpAny_pyIter_enum he h
section
variable {X:Cx}
noncomputable def uH(f:FD):aw→R (List D):=fun δ=>(f δ).bind fun d=>match d with | .tup ds=> .ok (dH ds) | _=> .no
theorem xX{elts:List Expr}{k:Nat}{tpos:Pos}{a:Expr}{f:FD}{p pos:Pos}(h:QD X a f)(hg:Gl X "enumerate")(hm:X.mg "enumerate"=none)(hs:starEach [a] X.env=[(false,eval a X.env)]:=by rfl):wY X (.Tuple elts k tpos) (.Call (.Name "enumerate" p) [a] [] pos) (uH f):=by
 refine⟨?_⟩
 intro pins s σ H RR I ⟨Z,B,δ,ds,E,hf,q⟩
 obtain⟨d,h1,h2⟩:=R.ao hf
 have hA:=eA h.1 iA hs pos pins s σ H (fun vs H1=>a_ H H1∧∃v,vs=[v]∧Rep X.K B H1 d v) I ⟨Z,B,δ,d,E,h1,fun v H1 s1 r1=>⟨s1,v,rfl,r1⟩⟩
 refine Call_ (jN I hg hm boot_enumerate (PyProof.Rows.callWith_type1 (dY hA fun us s1 ⟨vs,H1,I1,r1,ss,v,ev,rr⟩=>?_) hs rfl))
 subst ev
 obtain⟨u,rfl,ru⟩:=vals1 r1
 cases d with
 | tup es=>
   cases h2
   obtain⟨b,xs,rfl,l,rs⟩:=Rep.tup.mp rr
   cases ru
   obtain⟨its,rv,pt,hz⟩:=I1.tuple l.sq
   refine xF (items:=its.toArray) pt fun h' he hit kk=>wpAny_pyIter_enum he ?_
   have I2:Inv X pins σ H1 {s1 with heap:=h'}:=I1.kept (t':=s1.toks) kk
   refine⟨s1.heap.objs.size+1,[s1.heap.objs.size+1,s1.heap.objs.size],_,_,H1,rfl,I2,xY b (s1.heap.objs.size+1) s1.heap.objs.size (Nat.succ_ne_self _),⟨⟨_,he⟩,hit⟩,fun c hc=>?_,q _ H1 ss fun B' H' pr=>?_⟩
   ·have hle:s1.heap.objs.size≤c:=by
     rcases List.mem_cons.mp hc with z | hc
     ·rw[z];exact Nat.le_succ _
     ·have z:c=s1.heap.objs.size:=by simpa using hc
      rw[z];exact Nat.le_refl _
    exact I1.qC hle (I1.hok.fresh hle)
   ·have l':sN X.K B' H' b xs:=l.elim (fun z=> .inl ⟨(pr.rd z.2 z.1).2,(pr.rd z.2 z.1).1⟩) .inr
    have rs':=rs.bx pr
    refine⟨fun i d hd=>?_,⟨xs,l'.sq,by rw[←rs.length];unfold dH;simp⟩⟩
    unfold dH at hd
    rw[List.getElem?_map,List.getElem?_zipIdx] at hd
    cases e:es[i]? with
    | none=>rw [e] at hd;cases hd
    | some d0=>
      rw[e] at hd
      have hd:D.tup [.int ((0+i:Nat):Int),d0]=d:=Option.some.inj hd
      rw[Nat.zero_add] at hd
      obtain⟨x,hx,rx⟩:=rs'.get e
      refine⟨⟨xs,x,l'.sq,hx⟩,fun v H'' y hB'=>?_⟩
      obtain⟨p,y,hp,rfl,hy,rfl⟩:=y
      refine⟨aX hp,?_⟩
      subst hd
      have hy2:=hy xs l'.sq
      rw[hx] at hy2
      cases hy2
      refine Rep.tup.mpr ⟨p,_,rfl, .inl ⟨fun ha=>?_, .inl bf⟩,aK.cons (Rep.int.mpr rfl) (aK.cons (rx.same (aX hp)) aK.nil)⟩
      obtain⟨o,ho⟩:=hB' p ha
      rw[hp] at ho;cases ho
 | _=>cases h2
end
end L2
end
section
set_option maxRecDepth 100000
set_option maxHeartbeats 4000000
namespace L2
open PySem PySem.Spec PyProof.Rows
section
variable {X:Cx}
theorem Cu:k6 X (binaryOp .FloorDiv) (rI (fun _ j=>0 < j∧j.natAbs.log2 < 9000) fun i j=> .int (i / j)):=Ju fun i j _ _ _ _ _ hc q=>by
 have h1:(0:Int) < j:=hc.1
 exact floordiv_int (by omega) (by rw[Int.fdiv_eq_ediv_of_nonneg i (by omega)];exact q) (.inl (PyProof.noPylong_of_log2 hc.2))
noncomputable abbrev wq:D→D→R D:=wI (fun _ j=>decide (0 < j∧j.natAbs.log2 < 9000)) fun i j=>i / j
theorem CA:j3 X (binaryOp .FloorDiv) wq:=yX Cu fun i j h=>(of_decide_eq_true h:0 < j∧j.natAbs.log2 < 9000)
theorem vL{K:PySem.W.Frag}{B:List Addr}{H:Hp}{ds:List D}{xs:List V}(r:aK K B H ds xs):∀n:Nat,aK K B H (List.replicate n ds).flatten (List.replicate n xs).flatten
 | 0=>aK.nil
 | n+1=>by rw[List.replicate_succ,List.replicate_succ,List.flatten_cons,List.flatten_cons];exact r.append (vL r n)
noncomputable def D7(f:aw→R (List D))(g:FD):aw→R (List D):=fun δ=>(f δ).bind fun ds=>(g δ).bind fun d=>match d with
 | .int k=>R.cb (decide (0≤k∧k < 1000000∧ds.length*k.toNat≤sizeLine)) (.ok (List.replicate k.toNat ds).flatten)
 | _=> .no
theorem Ff{a b:Expr}{f:aw→R (List D)}{g:FD}{pos:Pos}(ha:QN X a f)(hb:QD X b g):QN X (.BinOp a .Mult b pos) (D7 f g):=by
 refine⟨(zh HG ha.1 hb.1).imp fun σ H Q ⟨Z,B,δ,es,E,hf,q⟩=>?_⟩
 obtain⟨ds,h1,h2⟩:=R.ao hf
 obtain⟨d,h3,h4⟩:=R.ao h2
 split at h4
 ·rename_i k
  obtain⟨h5,h6⟩:=R.bp h4
  cases h6
  obtain⟨k0,k1,k2⟩:=of_decide_eq_true h5
  refine⟨Z,B,δ,ds,E,h1,fun a xs H1 s1 n1 e1 r1=>⟨Z,B,δ, .int k,E.same s1,h3,fun v H2 s2 r2=>⟨a,k,xs,rfl,Rep.int.mp r2,s2 a _ e1,by omega,by omega,by rw[←r1.length];exact k2,fun p hp=>?_⟩⟩⟩
  refine q p _ _ (s1.trans (s2.trans (aX hp))) ((s1.trans s2).free hp) bf ?_
  refine(vL r1 k.toNat).bx fun b o e nb=>⟨(s2.trans (aX hp)) b o e,fun hm=>?_⟩
  rcases List.mem_cons.mp hm with z | z
  ·rw[z] at e;rw [s2 p _ e] at hp;cases hp
  ·exact nb (List.mem_cons_of_mem _ z)
 ·cases h4
noncomputable def Jw(ns:List Int):List Int:=ns.mergeSort fun a b=>decide (a≤b)
noncomputable def JS:List D→R D
 | [.lst ds]=>(match ints? ds with | some ns=>R.cb (decide (ns.length < 64)) (.ok (.lst ((Jw ns).map .int))) | none=> .no)
 | _=> .no
theorem getD_in{l:List Int}{i:Nat}(h:i < l.length):l.getD i 0∈l:=by
 have e:l.getD i 0=l[i]:=by simp [h]
 rw[e];exact List.getElem_mem h
theorem fold_min:∀(ns:List Int) (n:Int),ns.foldl min n∈n ::ns∧∀a∈n ::ns,ns.foldl min n≤a
 | [],n=>⟨by simp,fun a ha=>by simp at ha;subst ha;exact Int.le_refl _⟩
 | x ::ns,n=>by
   obtain⟨h1,h2⟩:=fold_min ns (min n x)
   rw[List.foldl_cons]
   refine⟨?_,fun a ha=>?_⟩
   ·rcases List.mem_cons.mp h1 with z | z
    ·rw[z];by_cases hc:n≤x
     ·rw[Int.min_eq_left hc];simp
     ·rw[Int.min_eq_right (by omega)];simp
    ·exact List.mem_cons_of_mem _ (List.mem_cons_of_mem _ z)
   ·have hm:=h2 _ List.mem_cons_self
    rcases List.mem_cons.mp ha with z | z
    ·subst z;omega
    ·rcases List.mem_cons.mp z with z | z
     ·subst z;omega
     ·exact h2 a (List.mem_cons_of_mem _ z)
theorem fold_max:∀(ns:List Int) (n:Int),ns.foldl max n∈n ::ns∧∀a∈n ::ns,a≤ns.foldl max n
 | [],n=>⟨by simp,fun a ha=>by simp at ha;subst ha;exact Int.le_refl _⟩
 | x ::ns,n=>by
   obtain⟨h1,h2⟩:=fold_max ns (max n x)
   rw[List.foldl_cons]
   refine⟨?_,fun a ha=>?_⟩
   ·rcases List.mem_cons.mp h1 with z | z
    ·rw[z];by_cases hc:n≤x
     ·rw[Int.max_eq_right hc];simp
     ·rw[Int.max_eq_left (by omega)];simp
    ·exact List.mem_cons_of_mem _ (List.mem_cons_of_mem _ z)
   ·have hm:=h2 _ List.mem_cons_self
    rcases List.mem_cons.mp ha with z | z
    ·subst z;omega
    ·rcases List.mem_cons.mp z with z | z
     ·subst z;omega
     ·exact h2 a (List.mem_cons_of_mem _ z)
noncomputable def tu:List D→R D
 | [.lst ds]=>(match ints? ds with | some (n ::ns)=> .ok (.int (ns.foldl min n)) | _=> .no)
 | ds=>rW ds
noncomputable def Bj:List D→R D
 | [.lst ds]=>(match ints? ds with | some (n ::ns)=> .ok (.int (ns.foldl max n)) | _=> .no)
 | ds=>Hn ds
theorem BJ(hc:X.calm=true):cW X (.builtin "min") tu:=by
 intro pins s σ H B ds d xs us I hb rx rs hg
 unfold tu at hg
 split at hg
 ·split at hg
  ·rename_i es n ns e
   cases hg
   obtain⟨x,rfl,r⟩:=rs.one
   obtain⟨a,ys,rfl,l,r⟩:=Rep.lst.mp r
   obtain⟨u,rfl,ru⟩:=vals1 rx
   cases ru
   obtain⟨its,k,rv,e1,hz⟩:=I.Ho l
   rw[gm r e] at rv
   obtain⟨ps,rfl,hps⟩:=g_ rv
   have hl:s.heap.IsList a (intItems ps.toArray):=⟨_,e1,rfl,k,by simp [intItems]⟩
   have hlp:ps.length=ns.length+1:=by have:=congrArg List.length hps;simpa using this
   refine min_intList (I.ok.hd hc) hl (by simp;omega) fun v h' tk hv hk=>?_
   obtain⟨t,rfl⟩:=intItems_at hv
   obtain⟨b1,b2⟩:=argBest_lt (numAt ps.toArray) (ps.toArray.size - 1)
   refine⟨.int _,H,I.kept hk,⟨t,rfl⟩,a_.refl H,Rep.int.mpr ?_⟩
   obtain⟨m1,m2⟩:=fold_min ns n
   have hge:∀j,j < ps.length→numAt ps.toArray j=(n ::ns).getD j 0:=fun j hj=>by rw[numAt_eq,←hps]
   have hin:numAt ps.toArray (argBest (fun i j=>decide (numAt ps.toArray i < numAt ps.toArray j)) (ps.toArray.size - 1))∈n ::ns:=by
    rw[hge _ (by simp at b1 ⊢;omega)];exact getD_in (by simp at b1 ⊢;omega)
   have hle:=m2 _ hin
   obtain⟨j,hj,ej⟩:=List.getElem_of_mem m1
   have hj':j < ns.length+1:=by simpa using hj
   have h3:=b2 j (by simp;omega)
   rw[hge j (by omega)] at h3
   have h4:(n ::ns).getD j 0=ns.foldl min n:=by rw[←ej,List.getD_eq_getElem?_getD,List.getElem?_eq_getElem hj];rfl
   rw[h4] at h3
   congr 1
   omega
  ·cases hg
 ·exact Jp hc pins s σ H B _ d xs us I hb rx rs hg
theorem GV(hc:X.calm=true):cW X (.builtin "max") Bj:=by
 intro pins s σ H B ds d xs us I hb rx rs hg
 unfold Bj at hg
 split at hg
 ·split at hg
  ·rename_i es n ns e
   cases hg
   obtain⟨x,rfl,r⟩:=rs.one
   obtain⟨a,ys,rfl,l,r⟩:=Rep.lst.mp r
   obtain⟨u,rfl,ru⟩:=vals1 rx
   cases ru
   obtain⟨its,k,rv,e1,hz⟩:=I.Ho l
   rw[gm r e] at rv
   obtain⟨ps,rfl,hps⟩:=g_ rv
   have hl:s.heap.IsList a (intItems ps.toArray):=⟨_,e1,rfl,k,by simp [intItems]⟩
   have hlp:ps.length=ns.length+1:=by have:=congrArg List.length hps;simpa using this
   refine max_intList (I.ok.hd hc) hl (by simp;omega) fun v h' tk hv hk=>?_
   obtain⟨t,rfl⟩:=intItems_at hv
   obtain⟨b1,b2⟩:=argBest_gt (numAt ps.toArray) (ps.toArray.size - 1)
   refine⟨.int _,H,I.kept hk,⟨t,rfl⟩,a_.refl H,Rep.int.mpr ?_⟩
   obtain⟨m1,m2⟩:=fold_max ns n
   have hge:∀j,j < ps.length→numAt ps.toArray j=(n ::ns).getD j 0:=fun j hj=>by rw[numAt_eq,←hps]
   have hin:numAt ps.toArray (argBest (fun i j=>decide (numAt ps.toArray i > numAt ps.toArray j)) (ps.toArray.size - 1))∈n ::ns:=by
    rw[hge _ (by simp at b1 ⊢;omega)];exact getD_in (by simp at b1 ⊢;omega)
   have hle:=m2 _ hin
   obtain⟨j,hj,ej⟩:=List.getElem_of_mem m1
   have hj':j < ns.length+1:=by simpa using hj
   have h3:=b2 j (by simp;omega)
   rw[hge j (by omega)] at h3
   have h4:(n ::ns).getD j 0=ns.foldl max n:=by rw[←ej,List.getD_eq_getElem?_getD,List.getElem?_eq_getElem hj];rfl
   rw[h4] at h3
   congr 1
   omega
  ·cases hg
 ·exact Jv hc pins s σ H B _ d xs us I hb rx rs hg
end
end L2
namespace L3
open PySem PySem.Spec PyProof.Rows L2
noncomputable def yj(S:aU):V3→Option (List D)
 | .d (.lst ds)=>some ds
 | .loc k=>dr S k
 | _=>none
theorem Cr{K:PySem.W.Frag}{cl:Nat→Addr}{ρ:P3}{H:Hp}{S:aU}{v:V3}{x:V}{ds:List D}(w:SW K cl ρ H S)(h:yj S v=some ds)(r:bw K ρ H v x):∃a xs,x= .ref a∧r_ K [] H a xs∧aK K ρ.b H ds xs:=by
 unfold yj at h
 split at h
 ·cases h
  unfold bw Rep at r
  obtain⟨a,xs,e,l,rs⟩:=r
  exact⟨a,xs,e,l.bx (fun b o e _=>⟨e,by simp⟩),rs⟩
 ·unfold bw at r
  obtain⟨a,a1,rfl⟩:=r
  obtain⟨xs,e,rs⟩:=w.ob _ a _ a1 (fZ h)
  exact⟨a,xs,rfl, .inl ⟨by simp, .inl e⟩,rs⟩
 ·cases h
section
variable {X:Cx} {cl:Nat→Addr}
noncomputable def DA(fa fb:FX):FX:=fun δ S=>(fa δ S).bind fun a S1=>(fb δ S1).bind fun b S2=>match yj S2 a,yj S2 b with
 | some ds,some es=>R3.cb (decide (ds.length+es.length≤sizeLine)) (.ok (.loc S2.length) (S2++[.lst (ds++es)]))
 | _,_=> .no
theorem Bl{a b:Expr}{fa fb:FX}{pos:Pos}(ha:PX X cl a fa)(hb:PX X cl b fb):PX X cl (.BinOp a .Add b pos) (DA fa fb):=⟨(zh yP ha.1 hb.1).imp fun σ H Q ⟨ρ,S,δ,v,S',E,hf,q⟩=>by
 obtain⟨a,S1,h1,h2⟩:=R3.ao hf
 obtain⟨b,S2,h3,h4⟩:=R3.ao h2
 split at h4
 ·rename_i ds es e1 e2'
  obtain⟨hl,h5⟩:=R3.bp h4
  cases h5
  refine⟨ρ,S,δ,a,S1,E,h1,fun u1 ρ1 H1 p1 w1 r1=>⟨ρ1,S1,δ,b,S2,E.to p1 w1,h3,fun u2 ρ2 H2 p2 w2 r2=>?_⟩⟩
  obtain⟨la,xs,rfl,l1,rs1⟩:=Cr w2 e1 (r1.pre p2)
  obtain⟨lb,ys,rfl,l2,rs2⟩:=Cr w2 e2' r2
  refine⟨[],la,lb,xs,ys,rfl,rfl,l1,l2,by rw[←rs1.length,←rs2.length];exact of_decide_eq_true hl,fun p hp=>?_⟩
  obtain⟨w3,p3⟩:=w2.new (a:=p) (o:= .lst (ds++es)) (aX (o:= .lst (xs++ys)) hp) hp ⟨xs++ys,bf,(rs1.append rs2).bx (fun b o e nb=>⟨by rw[br (cv e hp)];exact e,fun hb=>by
   rcases P3.mem_push hb with z | z
   ·exact nb z
   ·exact cv e hp z⟩)⟩
  exact q _ _ _ (p1.trans (p2.trans p3)) w3 (by unfold bw;exact⟨p,by show(ρ2.r++[p])[_]? =_;rw [←w2.len,List.getElem?_append_right (Nat.le_refl _),Nat.sub_self];rfl,rfl⟩)
 ·cases h4⟩
theorem FP{fa fb:FX}{δ:DE}{S:aU}{Q:V3→aU→Prop}(h:W3 (fa δ S) fun a S1=>W3 (fb δ S1) fun b S2=>∃ds es,yj S2 a=some ds∧yj S2 b=some es∧ds.length+es.length≤sizeLine∧Q (.loc S2.length) (S2++[.lst (ds++es)])):W3 (DA fa fb δ S) Q:=
 W3.bind (h.mono fun _ _ h=>W3.bind (h.mono fun _ _ ⟨ds,es,e1,e2',hl,q⟩=>by
  simp only[e1,e2']
  exact W3.wh (decide_eq_true hl) (W3.ok q)))
noncomputable def L7(i:Nat):FZ:=fun δ S=>match gM δ i with
 | none=> .no
 | some k=>(match dr S k with | some _=> .ok (.nx δ) (S.set k (.lst [])) | none=> .no)
end
end L3
end
section
set_option maxRecDepth 100000
set_option maxHeartbeats 4000000
namespace L3
open PySem PySem.Spec PyProof.Rows L2
noncomputable def ll(S:aU)(c k:Nat):Option (List (Str × V3)):=match S[k]? with | some (.ins c' fs)=>(if c'=c then some fs else none) | _=>none
theorem ko{S:aU}{c k:Nat}{fs:List (Str × V3)}(h:ll S c k=some fs):S[k]? =some (.ins c fs):=by
 unfold ll at h
 split at h
 ·rename_i c' fs' e
  split at h
  ·rename_i hc;cases h;rw [e,hc]
  ·cases h
 ·cases h
theorem zm{K:PySem.W.Frag}{ρ:P3}{H:Hp}{f:Str}{v:V3}:∀{fs:List (Str × V3)} {ys:List (Str × V)},ys.map (·.1)=fs.map (·.1)→aM K ρ H (fs.map (·.2)) (ys.map (·.2))→fs.lookup f=some v→∃x,ys.lookup f=some x∧bw K ρ H v x
 | [],ys,_,_,h=>by simp at h
 | (g,w) ::fs,[],e,_,_=>by simp at e
 | (g,w) ::fs,(g',y) ::ys,e,r,h=>by
   obtain⟨e1,e2'⟩:=List.cons.inj e
   have e1:g'=g:=e1
   subst e1
   obtain⟨x,xs,ex,r1,r2⟩:=r.cA
   cases ex
   rw[List.lookup_cons] at h ⊢
   cases hq:f==g' with
   | true=>rw [hq] at h;cases h;exact⟨y,rfl,r1⟩
   | false=>rw [hq] at h;exact zm e2' r2 h
theorem vX{f:Str}:∀{fs:List (Str × V3)} {ys:List (Str × V)},ys.map (·.1)=fs.map (·.1)→fs.lookup f=none→ys.lookup f=none
 | [],[],_,_=>rfl
 | [],_ ::_,e,_=>by simp at e
 | _ ::_,[],e,_=>by simp at e
 | (g,w) ::fs,(g',y) ::ys,e,h=>by
   obtain⟨e1,e2'⟩:=List.cons.inj e
   have e1:g'=g:=e1
   subst e1
   rw[List.lookup_cons] at h ⊢
   cases hq:f==g' with
   | true=>rw [hq] at h;cases h
   | false=>rw [hq] at h;exact vX e2' h
noncomputable def wg(f:Str)(v:V3):List (Str × V3)→List (Str × V3)
 | []=>[(f,v)]
 | (g,x) ::r=>if g=f then(g,v) ::r else(g,x) ::wg f v r
theorem yY{K:PySem.W.Frag}{ρ:P3}{H:Hp}{f:Str}{v:V3}{u:V}(rv:bw K ρ H v u):∀{fs:List (Str × V3)} {ys:List (Str × V)},ys.map (·.1)=fs.map (·.1)→aM K ρ H (fs.map (·.2)) (ys.map (·.2))→
 (jO f u ys).map (·.1)=(wg f v fs).map (·.1)∧aM K ρ H ((wg f v fs).map (·.2)) ((jO f u ys).map (·.2))
 | [],[],_,_=>⟨rfl,aM.cons rv aM.nil⟩
 | [],_ ::_,e,_=>by simp at e
 | _ ::_,[],e,_=>by simp at e
 | (g,w) ::fs,(g',y) ::ys,e,r=>by
   obtain⟨e1,e2'⟩:=List.cons.inj e
   have e1:g'=g:=e1
   subst e1
   obtain⟨x,xs,ex,r1,r2⟩:=r.cA
   cases ex
   unfold wg jO
   by_cases hg:g'=f
   ·rw[if_pos hg,if_pos hg]
    exact⟨by rw[List.map_cons,List.map_cons,e2'],aM.cons rv r2⟩
   ·rw[if_neg hg,if_neg hg]
    obtain⟨h1,h2⟩:=yY rv e2' r2
    exact⟨by rw[List.map_cons,List.map_cons,h1],aM.cons r1 h2⟩
section
variable {X:Cx} {cl:Nat→Addr}
noncomputable def oK(c:Nat)(f:Str)(g:FX):FX:=fun δ S=>(g δ S).bind fun v S1=>match v with
 | .loc k=>(match ll S1 c k with | some fs=>(match fs.lookup f with | some v=> .ok v S1 | none=> .no) | none=> .no)
 | _=> .no
theorem jj{c:Nat}{e:Expr}{f:Str}{g:FX}{pos:Pos}(hC:u0 X.K (cl c))(hn:dk X.K (cl c) f)(he:PX X cl e g)(hb:attributeBase e f X.env (eval e X.env)=eval e X.env:=by rfl):PX X cl (.Attribute e f pos) (oK c f g):=⟨(HC he.1 hb).imp fun σ H Q ⟨ρ,S,δ,v,S',E,hf,q⟩=>by
 obtain⟨o,S1,h1,h2⟩:=R3.ao hf
 split at h2
 ·rename_i k
  split at h2
  ·rename_i fs e1
   split at h2
   ·rename_i w e2'
    cases h2
    refine⟨ρ,S,δ, .loc k,_,E,h1,fun u ρ1 H1 p1 w1 r1=>?_⟩
    unfold bw at r1
    obtain⟨a,a1,rfl⟩:=r1
    obtain⟨dx,ys,ey,ek,rs⟩:=w1.ob k a _ a1 (ko e1)
    obtain⟨x,hx,rx⟩:=zm ek rs e2'
    exact⟨a,cl c,dx,ys,x,rfl,ey,hC,hn,hx,q x ρ1 H1 p1 w1 rx⟩
   ·cases h2
  ·cases h2
 ·cases h2⟩
theorem w_fld{c k:Nat}{f:Str}{g:FX}{δ:DE}{S:aU}{Q:V3→aU→Prop}(h:W3 (g δ S) fun v S1=>∃fs w,v= .loc k∧S1[k]? =some (.ins c fs)∧fs.lookup f=some w∧Q w S1):W3 (oK c f g δ S) Q:=
 W3.bind (h.mono fun v S1 ⟨fs,w,e1,e2',e3,q⟩=>by
  subst e1
  have e4:ll S1 c k=some fs:=by unfold ll;simp only[e2',if_true]
  simp only[e4,e3]
  exact W3.ok q)
noncomputable def fT(P:Program)(w:World)(K:PySem.W.Frag)(mg:Str→Option Value)(base:Heap)(cl:Nat→Addr)(k c:Nat)(m:Str)(n:Nat)(g:List V3→aU→R3 V3):Prop:=
 ∃(f:Addr) (fd:FuncData) (ps:List Str),u0 K (cl c)∧Meth K (cl c) m f∧iQ P w K mg base si k f fd ps (BS K cl (n+1) g)∧Binds K fd ps []
noncomputable def rF(c:Nat)(m:Str)(g:List V3→aU→R3 V3)(fo:FX)(fs:FA):FX:=fun δ S=>(fo δ S).bind fun o S1=>match o with
 | .loc k=>(match ll S1 c k with | some ys=>(match ys.lookup m with | none=>(fs δ S1).bind fun vs S2=>g (.loc k ::vs) S2 | some _=> .no) | none=> .no)
 | _=> .no
theorem n5{g:List V3→aU→R3 V3}{k j n c:Nat}{m:Str}{o e:Expr}{es:List Expr}{fo:FX}{fs:FA}{apos pos:Pos}{pl:Sem Bool}(M:fT X.prog X.w X.K X.mg X.base cl k c m n g)(hr:eQ j X.A)(hkj:k≤j)(ho:PX X cl o fo)(ha:Eh X cl (e ::es) fs)(hn:∀δ S ds S',fs δ S= .ok ds S'→ds.length=n)
 (hst:starEach (e ::es) X.env=(false,eval e X.env) ::starEach es X.env:=by rfl) (hpl:(backTo pos (starEach es X.env)).any (·.1)=false:=by rfl)
 (ht:eval (.Call (.Attribute o m apos) (e ::es) [] pos) X.env=(do
   let ov ←eval o X.env
   standAt apos.atName
   let(f,first) ←holding [ov] (getMethod ov m pl)
   callWith pos f first (backTo pos (starEach (e ::es) X.env)) (backToKw pos (keywordEach [] X.env))):=by rfl) :
 PX X cl (.Call (.Attribute o m apos) (e ::es) [] pos) (rF c m g fo fs):=by
 obtain⟨f,fd,ps,hC,hm,F,hb⟩:=M
 refine⟨(EE ho.1 hC hm F (hr.mono hkj) hb .nil vf ha.1 hst hpl ht).imp fun σ H Q ⟨ρ,S,δ,v,S',E,hf,q⟩=>?_⟩
 obtain⟨ov,S1,h1,h2⟩:=R3.ao hf
 split at h2
 ·rename_i kk
  split at h2
  ·rename_i ys e1
   split at h2
   ·rename_i e2'
    obtain⟨vs,S2,h3,h4⟩:=R3.ao h2
    refine⟨ρ,S,δ, .loc kk,S1,E,h1,fun u ρ1 H1 p1 w1 r1=>?_⟩
    have r1':=r1
    unfold bw at r1
    obtain⟨a,a1,rfl⟩:=r1
    obtain⟨dx,zs,ey,ek,rs⟩:=w1.ob kk a _ a1 (ko e1)
    refine⟨a,dx,zs,rfl,ey,vX ek e2',ρ1,S1,δ,vs,S2,E.to p1 w1,h3,fun us ρ2 H2 p2 w2 r2=>?_⟩
    show BS X.K cl (n+1) g (V.ref a ::(us++[])) H2 Q E0
    rw[List.append_nil]
    exact⟨by rw[List.length_cons,←r2.length,hn δ S1 vs S2 h3],ρ2,S2, .loc kk ::vs,v,S',w2,aM.cons (r1'.pre p2) r2,h4,fun z ρ3 H3 p3 w3 r3=>q z ρ3 H3 (p1.trans (p2.trans p3)) w3 r3⟩
   ·cases h2
  ·cases h2
 ·cases h2
noncomputable def qx(P:Program)(w:World)(K:PySem.W.Frag)(mg:Str→Option Value)(base:Heap)(cl:Nat→Addr)(k c:Nat)(x:Str)(n:Nat)(g:List V3→aU→R3 V3):Prop:=
 ∃(f:Addr) (fd:FuncData) (ps:List Str),Mk K (cl c) f∧iQ P w K mg base si k f fd ps (BS K cl (n+1) g)∧mg x=some (.ref (cl c))∧Binds K fd ps []
noncomputable def yB(c:Nat)(g:List V3→aU→R3 V3)(fs:FA):FX:=fun δ S=>(fs δ S).bind fun vs S1=>(g (.loc S1.length ::vs) (S1++[.ins c []])).bind fun v S2=>match v with
 | .d .cI=> .ok (.loc S1.length) S2
 | _=> .no
theorem zr{g:List V3→aU→R3 V3}{k j n c:Nat}{x:Str}{p pos:Pos}{e:Expr}{es:List Expr}{fs:FA}(M:qx X.prog X.w X.K X.mg X.base cl k c x n g)(hr:eQ j X.A)(hkj:k+1≤j)(hg:Gl X x)(ha:Eh X cl (e ::es) fs)(hn:∀δ S ds S',fs δ S= .ok ds S'→ds.length=n)
 (hdb:(x==("__debug__":Str))=false:=by decide) (he:starEach (e ::es) X.env=(false,eval e X.env) ::starEach es X.env:=by rfl) (hpl:(backTo pos (starEach es X.env)).any (·.1)=false:=by rfl) :
 PX X cl (.Call (.Name x p) (e ::es) [] pos) (yB c g fs):=by
 obtain⟨f,fd,ps,M,F,hm,hb⟩:=M
 refine⟨(ES M F (hr.mono hkj) hg hm hb .nil vf ha.1 hdb he hpl).imp fun σ H Q ⟨ρ,S,δ,v,S',E,hf,q⟩=>?_⟩
 obtain⟨vs,S1,h1,h2⟩:=R3.ao hf
 obtain⟨v0,S2,h3,h4⟩:=R3.ao h2
 split at h4
 ·cases h4
  refine⟨ρ,S,δ,vs,S1,E,h1,fun us ρ1 H1 p1 w1 r1 xa dx hx hdx hne=>?_⟩
  have hx1:upd H1 dx (.own xa) xa=none:=by rw[br (fun z=>hne z.symm)];exact hx
  have sm:a_ H1 (upd (upd H1 dx (.own xa)) xa (.ins (cl c) dx [])):=(aX hdx).trans (aX hx1)
  obtain⟨w2,p2⟩:=w1.new (a:=xa) (o:= .ins c []) sm hx ⟨dx,[],bf,rfl,aM.nil⟩
  show BS X.K cl (n+1) g (V.ref xa ::(us++[])) _ _ E0
  rw[List.append_nil]
  have rl:bw X.K (ρ1.push xa) (upd (upd H1 dx (.own xa)) xa (.ins (cl c) dx [])) (.loc S1.length) (.ref xa):=by
   unfold bw
   exact⟨xa,by show(ρ1.r++[xa])[_]? =_;rw [←w1.len,List.getElem?_append_right (Nat.le_refl _),Nat.sub_self];rfl,rfl⟩
  exact⟨by rw[List.length_cons,←r1.length,hn δ S vs S1 h1],_,_, .loc S1.length ::vs, .d .cI,_,w2,aM.cons rl (r1.pre p2),h3,fun z ρ3 H3 p3 w3 r3=>⟨by unfold bw Rep at r3;exact r3,q _ ρ3 H3 (p1.trans (p2.trans p3)) w3 (rl.pre p3)⟩⟩
 ·cases h4
noncomputable def uu(c:Nat)(f:Str)(fo fe:FX):FZ:=fun δ S=>(fe δ S).bind fun v S1=>(fo δ S1).bind fun o S2=>match o with
 | .loc k=>(match ll S2 c k with | some fs=>R3.cb (decide (fs.length < 1000)) (.ok (.nx δ) (S2.set k (.ins c (wg f v fs)))) | none=> .no)
 | _=> .no
theorem mK{c:Nat}{o value:Expr}{f:Str}{fo fe:FX}{pos pos':Pos}(hC:u0 X.K (cl c))(hn:dk X.K (cl c) f)(ho:PX X cl o fo)(he:PX X cl value fe)(hs:swapsWith value (some (.Attribute o f pos')) pos.line X.env=pure false:=by rfl) :
 PZ X cl (.Assign [.Attribute o f pos'] value pos) (uu c f fo fe):=⟨(Gu ho.1 he.1 hs).imp fun D σ H ⟨ρ,S,δ,ou,S',E,hf,q⟩=>by
 obtain⟨v,S1,h1,h2⟩:=R3.ao hf
 obtain⟨vo,S2,h3,h4⟩:=R3.ao h2
 split at h4
 ·rename_i k
  split at h4
  ·rename_i fs e1
   obtain⟨hl,h5⟩:=R3.bp h4
   cases h5
   refine⟨ρ,S,δ,v,S1,E,h1,fun u ρ1 H1 p1 w1 r1=>⟨ρ1,S1,δ, .loc k,S2,E.to p1 w1,h3,fun u2 ρ2 H2 p2 w2 r2=>?_⟩⟩
   unfold bw at r2
   obtain⟨a,a1,rfl⟩:=r2
   obtain⟨dx,ys,ey,ek,rs⟩:=w2.ob k a _ a1 (ko e1)
   have hlen:ys.length=fs.length:=by have:=congrArg List.length ek;simpa using this
   obtain⟨k1,k2⟩:=yY (f:=f) (r1.pre p2) ek rs
   obtain⟨w3,p3⟩:=w2.put (o:= .ins c (wg f v fs)) (u:= .ins (cl c) dx (jO f u ys)) a1 (w2.fz k a a1 (by rw[ko e1];intro h;cases h)) ⟨dx,_,rfl,k1,k2⟩
   exact⟨a,cl c,dx,ys,rfl,ey,hC,hn,by rw[hlen];exact of_decide_eq_true hl,q σ ρ2 _ (p1.trans (p2.trans p3)) (E.to (p1.trans (p2.trans p3)) w3)⟩
  ·cases h4
 ·cases h4⟩
theorem i3{c k:Nat}{f:Str}{fo fe:FX}{δ:DE}{S:aU}{QO:Ou→aU→Prop}(h:W3 (fe δ S) fun v S1=>W3 (fo δ S1) fun o S2=>∃fs,o= .loc k∧S2[k]? =some (.ins c fs)∧fs.length < 1000∧QO (.nx δ) (S2.set k (.ins c (wg f v fs)))):W3 (uu c f fo fe δ S) QO:=
 W3.bind (h.mono fun v S1 h=>W3.bind (h.mono fun o S2 ⟨fs,e1,e2',hl,q⟩=>by
  subst e1
  have e4:ll S2 c k=some fs:=by unfold ll;simp only[e2',if_true]
  simp only[e4]
  exact W3.wh (decide_eq_true hl) (W3.ok q)))
theorem rf{c k:Nat}{m:Str}{g:List V3→aU→R3 V3}{fo:FX}{fs:FA}{δ:DE}{S:aU}{Q:V3→aU→Prop}(h:W3 (fo δ S) fun o S1=>∃ys,o= .loc k∧S1[k]? =some (.ins c ys)∧ys.lookup m=none∧W3 (fs δ S1) fun vs S2=>W3 (g (.loc k ::vs) S2) Q):W3 (rF c m g fo fs δ S) Q:=
 W3.bind (h.mono fun o S1 ⟨ys,e1,e2',e3,h⟩=>by
  subst e1
  have e4:ll S1 c k=some ys:=by unfold ll;simp only[e2',if_true]
  simp only[e4,e3]
  exact W3.bind h)
theorem C5{c:Nat}{g:List V3→aU→R3 V3}{fs:FA}{δ:DE}{S:aU}{Q:V3→aU→Prop}(h:W3 (fs δ S) fun vs S1=>W3 (g (.loc S1.length ::vs) (S1++[.ins c []])) fun v S2=>v= .d .cI∧Q (.loc S1.length) S2):W3 (yB c g fs δ S) Q:=
 W3.bind (h.mono fun vs S1 h=>W3.bind (h.mono fun v S2 ⟨e,q⟩=>by subst e;exact W3.ok q))
end
end L3
end
section
set_option maxRecDepth 100000
set_option maxHeartbeats 4000000
namespace PySem
open Sem (wp)
noncomputable def gB(t:Bool)(h:Heap)(i l:Addr)(k:Nat):Prop:=cond t (h.IsTupleIter i l k) (h.IsListIter i l k)
noncomputable def jk(t:Bool)(h:Heap)(l:Addr)(xs:Array Value):Prop:=cond t (h.IsTuple l xs) (h.IsList l xs)
noncomputable def rR(t:Bool):String:=cond t "tuple_iterator" "list_iterator"
theorem gB.at{t:Bool}{h h':Heap}{i l:Addr}{k:Nat}(x:gB t h i l k)(e:∀o,h.get? i=some o→h'.get? i=some o):gB t h' i l k:=by
 cases t with
 | true=>exact Heap.IsTupleIter.at x e
 | false=>exact Heap.IsListIter.at x e
theorem jk.at{t:Bool}{h h':Heap}{l:Addr}{xs:Array Value}(x:jk t h l xs)(e:∀o,h.get? l=some o→h'.get? l=some o):jk t h' l xs:=by
 cases t with
 | true=>exact Heap.IsTuple.at x e
 | false=>exact Heap.IsList.at x e
theorem gB.xb{t:Bool}{h h':Heap}{i l b:Addr}{k:Nat}(x:gB t h i l k)(hs:Heap.ExtBut b h h')(hab:i≠b):gB t h' i l k:=x.at fun o e=>hs i o hab e
theorem jk.xb{t:Bool}{h h':Heap}{l b:Addr}{xs:Array Value}(x:jk t h l xs)(hs:Heap.ExtBut b h h')(hab:l≠b):jk t h' l xs:=x.at fun o e=>hs l o hab e
theorem gB.ob{t:Bool}{h:Heap}{i l:Addr}{k:Nat}(x:gB t h i l k):∃o,h.get? i=some o∧∀v,o.data≠ .cell v:=by
 cases t with
 | true=>obtain⟨o,e,_,d⟩:=x;exact⟨o,e,fun v z=>by rw[d] at z;cases z⟩
 | false=>obtain⟨o,e,_,d⟩:=x;exact⟨o,e,fun v z=>by rw[d] at z;cases z⟩
theorem jk.lt{t:Bool}{h:Heap}{l:Addr}{xs:Array Value}(x:jk t h l xs):l < h.objs.size:=by
 cases t with
 | true=>obtain⟨o,e,_⟩:=x;exact Heap.lt_size e
 | false=>obtain⟨o,e,_⟩:=x;exact Heap.lt_size e
theorem gB.lt{t:Bool}{h:Heap}{i l:Addr}{k:Nat}(x:gB t h i l k):i < h.objs.size:=let⟨_,e,_⟩:=x.ob;Heap.lt_size e
section
variable {prog:Program} {w:World} {A:Around} {E:Value→Shared→Prop} {s:Shared}
theorem jd{t:Bool}{it l:Addr}{i:Nat}{items:Array Value}{x:Value}{Q:Value→Shared→Prop}(hit:gB t s.heap it l i)(hl:jk t s.heap l items)(hx:items[i]? =some x)
 (hQ:∀h',gB t h' it l (i+1)→Heap.SameBut it s.heap h'→Q x {s with heap:=h'}):wpAny (model prog w) A (Builtin.SmallTypes.nextOf (.ref it)) Q E s:=by
 cases t with
 | true=>exact kT hit hl hx hQ
 | false=>exact wpAny_nextOf_list_item hit hl hx hQ
theorem my{t:Bool}{it l:Addr}{i:Nat}{items:Array Value}{Q:Value→Shared→Prop}(hh:A.handled=none)(hit:gB t s.heap it l i)(hl:jk t s.heap l items)(hx:items[i]? =none)
 (hE:∀h' e,Heap.ExtBut it s.heap h'→(∃o,h'.get? e=some o∧o.cls= .type "StopIteration")→E (.ref e) {s with heap:=h'}):wpAny (model prog w) A (Builtin.SmallTypes.nextOf (.ref it)) Q E s:=by
 cases t with
 | true=>exact i0 hh hit hl hx hE
 | false=>exact wpAny_nextOf_list_end hh hit hl hx hE
theorem tV{t:Bool}{l:Addr}{items:Array Value}{Q:Value→Shared→Prop}(hl:jk t s.heap l items)
 (hQ:Q (.ref s.heap.objs.size) {s with heap:=s.heap.push {cls:= .type (rR t),data:= .fields #[.ref l, .int 0 0]}}):wpAny (model prog w) A (pyIter (.ref l)) Q E s:=by
 cases t with
 | true=>exact wpAny_pyIter_tuple hl hQ
 | false=>exact wpAny_pyIter_list hl hQ
theorem zF{t u:Bool}{z TI TO i1 i2 l1 l2:Addr}{k1 k2:Nat}{xs ys:Array Value}{x y a b:Value}{Q:Value→Shared→Prop}(D:ZipApart z TI TO i1 i2 l1 l2)(hz:IsZip s.heap z TI TO .none)(hTI:IsPair s.heap TI (.ref i1) (.ref i2))
 (hTO:IsPair s.heap TO a b) (h1:gB t s.heap i1 l1 k1) (h2:gB u s.heap i2 l2 k2) (hl1:jk t s.heap l1 xs) (hl2:jk u s.heap l2 ys) (hx:xs[k1]? =some x) (hy:ys[k2]? =some y)
 (hQ:∀h',IsZip h' z TI TO (rawInt s.heap.objs.size)→IsPair h' TO x y→gB t h' i1 l1 (k1+1)→gB u h' i2 l2 (k2+1)→IsPair h' s.heap.objs.size x y→h'.objs.size=s.heap.objs.size+1→(∀c o,c≠z→c≠TO→c≠i1→c≠i2→s.heap.get? c=some o→h'.get? c=some o)→Q (.ref s.heap.objs.size) {s with heap:=h'}) :
 wpAny (model prog w) A (Builtin.«zip.__next__» ⟨[.ref z],[]⟩) (fun fin s'=>∃v,fin= .done (.ret v)∧Q v s') E s:=by
 show wpAny _ _ (field (.ref z) 2 >>=_) _ _ _;refine wpAny_bind (wpAny_field hz rfl (x:= .bool false) rfl ?_);show wpAny _ _ (field (.ref z) 3 >>=_) _ _ _
 refine wpAny_bind (wpAny_field hz rfl (x:= .ref TI) rfl ?_);refine wpAny_bind (wpAny_seqItems hTI rfl ?_);show wpAny _ _ (Builtin.SmallTypes.ownedTupleIsFree (.ref z) >>=_) _ _ _
 refine wpAny_bind ?_;unfold Builtin.SmallTypes.ownedTupleIsFree;refine wpAny_bind (wpAny_field hz rfl (x:= .none) rfl (wpAny_pure ?_));simp only[if_true]
 refine wpAny_bind (wpAny_rule ?_);refine wpAny_bind (wpAny_field hz rfl (x:= .ref TO) rfl ?_);refine wpAny_bind (wpAny_setField_rec hz (by simp) fun h₁ hz₁ hs₁=>?_)
 replace hz₁:IsZip h₁ z TI TO .ellipsis:=hz₁;refine wpAny_bind ?_;simp only[List.zipIdx_cons,List.zipIdx_nil,List.forIn_cons,List.forIn_nil]
 refine wpAny_bind (wpAny_bind (wpAny_onRaise ?_));show wpAny _ _ (Builtin.SmallTypes.nextOf (.ref i1) >>=_) _ _ _
 refine wpAny_bind (jd (h1.xb hs₁.extBut D.i1z) (hl1.xb hs₁.extBut D.l1z) hx fun h₂ h1₂ hs₂=>wpAny_pure ?_)
 have hTO₂:IsPair h₂ TO a b:=hs₂.extBut _ _ D.TOi1 (hs₁.extBut _ _ D.TOz hTO);refine wpAny_bind (wpAny_seqItems hTO₂ rfl ?_);refine wpAny_bind (wpAny_updateSeq_pair hTO₂ fun h₃ hTO₃ hs₃=>?_)
 replace hTO₃:IsPair h₃ TO x b:=hTO₃;refine wpAny_bind (wpAny_letGo (wpAny_pure ?_));refine wpAny_bind (wpAny_bind (wpAny_onRaise ?_));show wpAny _ _ (Builtin.SmallTypes.nextOf (.ref i2) >>=_) _ _ _
 refine wpAny_bind (jd (((h2.xb hs₁.extBut D.i2z).xb hs₂.extBut D.i12.symm).xb hs₃.extBut D.TOi2.symm) (((hl2.xb hs₁.extBut D.l2z).xb hs₂.extBut D.l2i1).xb hs₃.extBut D.l2TO) hy fun h₄ h2₄ hs₄=>wpAny_pure ?_)
 have hTO₄:IsPair h₄ TO x b:=hs₄.extBut _ _ D.TOi2 hTO₃;refine wpAny_bind (wpAny_seqItems hTO₄ rfl ?_);refine wpAny_bind (wpAny_updateSeq_pair hTO₄ fun h₅ hTO₅ hs₅=>?_)
 replace hTO₅:IsPair h₅ TO x y:=hTO₅;refine wpAny_bind (wpAny_letGo (wpAny_pure (wpAny_pure ?_)));refine wpAny_bind (wpAny_seqItems hTO₅ rfl ?_);refine wpAny_bind (wpAny_newTuple ?_)
 have hsz:h₅.objs.size=s.heap.objs.size:=(hs₅.1.trans (hs₄.1.trans (hs₃.1.trans (hs₂.1.trans hs₁.1))))
 have hz₅:IsZip h₅ z TI TO .ellipsis:=hs₅.extBut _ _ D.TOz.symm <| hs₄.extBut _ _ D.i2z.symm <| hs₃.extBut _ _ D.TOz.symm <| hs₂.extBut _ _ D.i1z.symm hz₁
 have hk₅:∀c o,c≠z→c≠TO→c≠i1→c≠i2→s.heap.get? c=some o→h₅.get? c=some o:=fun c o c1 c2 c3 c4 e=>hs₅.extBut _ _ c2 <| hs₄.extBut _ _ c4 <| hs₃.extBut _ _ c2 <| hs₂.extBut _ _ c3 <| hs₁.extBut _ _ c1 e
 have h1₅:gB t h₅ i1 l1 (k1+1):=((h1₂.xb hs₃.extBut D.TOi1.symm).xb hs₄.extBut D.i12).xb hs₅.extBut D.TOi1.symm
 have h2₅:gB u h₅ i2 l2 (k2+1):=h2₄.xb hs₅.extBut D.TOi2.symm
 have hzlt:=Heap.lt_size hz₅
 show wpAny _ _ (Builtin.SmallTypes.ownedTupleHandOut (.ref z) (.ref h₅.objs.size) >>=_) _ _ _;refine wpAny_bind ?_;unfold Builtin.SmallTypes.ownedTupleHandOut
 have hz₆:IsZip (h₅.push {cls:= .type "tuple",data:= .seq #[x,y]}) z TI TO .ellipsis:=Heap.get?_push_of_some _ hz₅;refine wpAny_bind (wpAny_setField_rec hz₆ (by simp) fun h₇ hz₇ hs₇=>?_)
 replace hz₇:IsZip h₇ z TI TO (rawInt h₅.objs.size):=hz₇;refine wpAny_setField_rec hz₇ (by simp) fun h₈ hz₈ hs₈=>?_;replace hz₈:IsZip h₈ z TI TO (rawInt h₅.objs.size):=hz₈
 have up:∀c o,c≠z→h₅.get? c=some o→h₈.get? c=some o:=fun c o c1 e=>hs₈.extBut _ _ c1 <| hs₇.extBut _ _ c1 (Heap.get?_push_of_some _ e)
 have hT₈:IsPair h₈ h₅.objs.size x y:=hs₈.extBut _ _ (Nat.ne_of_gt hzlt) <| hs₇.extBut _ _ (Nat.ne_of_gt hzlt) (Heap.get?_push_size _ rfl)
 have hz8:h₈.objs.size=h₅.objs.size+1:=(hs₈.1.trans hs₇.1).trans (Heap.size_push ..)
 rw[hsz] at hz₈ hT₈ hz8;refine wpAny_pure ⟨_,rfl,?_⟩;show Q (.ref h₅.objs.size) _;rw [hsz]
 exact hQ h₈ hz₈ (up _ _ D.TOz hTO₅) (h1₅.at fun o e=>up _ o D.i1z e) (h2₅.at fun o e=>up _ o D.i2z e) hT₈ hz8 fun c o c1 c2 c3 c4 e=>up c o c1 (hk₅ c o c1 c2 c3 c4 e)
theorem B0{t u:Bool}{z TI TO i1 i2 l1 l2:Addr}{k1 k2:Nat}{xs ys:Array Value}{a b:Value}{Q:Fin→Shared→Prop}(hh:A.handled=none)(D:ZipApart z TI TO i1 i2 l1 l2)(hz:IsZip s.heap z TI TO .none)
 (hTI:IsPair s.heap TI (.ref i1) (.ref i2)) (hTO:IsPair s.heap TO a b) (h1:gB t s.heap i1 l1 k1) (h2:gB u s.heap i2 l2 k2) (hl1:jk t s.heap l1 xs) (hl2:jk u s.heap l2 ys) (hend:xs[k1]? =none∨ys[k2]? =none)
 (hE:∀h' e,(∀c o,c≠z→c≠TO→c≠i1→c≠i2→s.heap.get? c=some o→h'.get? c=some o)→(∃o,h'.get? e=some o∧o.cls= .type "StopIteration")→E (.ref e) {s with heap:=h'}):wpAny (model prog w) A (Builtin.«zip.__next__» ⟨[.ref z],[]⟩) Q E s:=by
 show wpAny _ _ (field (.ref z) 2 >>=_) _ _ _;refine wpAny_bind (wpAny_field hz rfl (x:= .bool false) rfl ?_);show wpAny _ _ (field (.ref z) 3 >>=_) _ _ _
 refine wpAny_bind (wpAny_field hz rfl (x:= .ref TI) rfl ?_);refine wpAny_bind (wpAny_seqItems hTI rfl ?_);show wpAny _ _ (Builtin.SmallTypes.ownedTupleIsFree (.ref z) >>=_) _ _ _
 refine wpAny_bind ?_;unfold Builtin.SmallTypes.ownedTupleIsFree;refine wpAny_bind (wpAny_field hz rfl (x:= .none) rfl (wpAny_pure ?_));simp only[if_true]
 refine wpAny_bind (wpAny_rule ?_);refine wpAny_bind (wpAny_field hz rfl (x:= .ref TO) rfl ?_);refine wpAny_bind (wpAny_setField_rec hz (by simp) fun h₁ hz₁ hs₁=>?_)
 replace hz₁:IsZip h₁ z TI TO .ellipsis:=hz₁;refine wpAny_bind ?_;simp only[List.zipIdx_cons,List.zipIdx_nil,List.forIn_cons,List.forIn_nil]
 refine wpAny_bind (wpAny_bind (wpAny_onRaise ?_));show wpAny _ _ (Builtin.SmallTypes.nextOf (.ref i1) >>=_) _ _ _
 cases hx:xs[k1]? with
 | none=>
   refine wpAny_bind (my hh (h1.xb hs₁.extBut D.i1z) (hl1.xb hs₁.extBut D.l1z) hx fun h₂ e hs₂ he=>?_)
   obtain⟨oe,hoe,hce⟩:=he;have hz₂:IsZip h₂ z TI TO .ellipsis:=hs₂ _ _ D.i1z.symm hz₁
   have hez:e≠z:=fun x=>by {subst x;rw [hz₂] at hoe;cases hoe;simp at hce}
   exact wpAny_setField_rec hz₂ (by simp) fun h₃ _ hs₃=>hE h₃ e (fun c o c1 _ c3 _ x=>hs₃.extBut _ _ c1 <| hs₂ _ _ c3 <| hs₁.extBut _ _ c1 x) ⟨oe,hs₃.extBut _ _ hez hoe,hce⟩
 | some x=>
   have hy:ys[k2]? =none:=hend.resolve_left fun h=>by {rw [hx] at h;cases h}
   refine wpAny_bind (jd (h1.xb hs₁.extBut D.i1z) (hl1.xb hs₁.extBut D.l1z) hx fun h₂ h1₂ hs₂=>wpAny_pure ?_)
   have hTO₂:IsPair h₂ TO a b:=hs₂.extBut _ _ D.TOi1 (hs₁.extBut _ _ D.TOz hTO);refine wpAny_bind (wpAny_seqItems hTO₂ rfl ?_);refine wpAny_bind (wpAny_updateSeq_pair hTO₂ fun h₃ hTO₃ hs₃=>?_)
   refine wpAny_bind (wpAny_letGo (wpAny_pure ?_));refine wpAny_bind (wpAny_bind (wpAny_onRaise ?_));show wpAny _ _ (Builtin.SmallTypes.nextOf (.ref i2) >>=_) _ _ _
   refine wpAny_bind (my hh (((h2.xb hs₁.extBut D.i2z).xb hs₂.extBut D.i12.symm).xb hs₃.extBut D.TOi2.symm) (((hl2.xb hs₁.extBut D.l2z).xb hs₂.extBut D.l2i1).xb hs₃.extBut D.l2TO) hy fun h₄ e hs₄ he=>?_)
   obtain⟨oe,hoe,hce⟩:=he;have hz₄:IsZip h₄ z TI TO .ellipsis:=hs₄ _ _ D.i2z.symm <| hs₃.extBut _ _ D.TOz.symm <| hs₂.extBut _ _ D.i1z.symm hz₁
   have hez:e≠z:=fun x=>by {subst x;rw [hz₄] at hoe;cases hoe;simp at hce}
   exact wpAny_setField_rec hz₄ (by simp) fun h₅ _ hs₅=>hE h₅ e (fun c o c1 c2 c3 c4 x=>hs₅.extBut _ _ c1 <| hs₄ _ _ c4 <| hs₃.extBut _ _ c2 <| hs₂.extBut _ _ c3 <| hs₁.extBut _ _ c1 x) ⟨oe,hs₅.extBut _ _ hez hoe,hce⟩
end
noncomputable abbrev JW(t:Bool)(h:Heap)(l1:Addr):Heap:=h.push {cls:= .type (rR t),data:= .fields #[.ref l1, .int 0 0]}
noncomputable abbrev J5(t u:Bool)(h:Heap)(l1 l2:Addr):Heap:=(JW t h l1).push {cls:= .type (rR u),data:= .fields #[.ref l2, .int 0 0]}
noncomputable abbrev J0(t u:Bool)(h:Heap)(l1 l2:Addr):Heap:=(J5 t u h l1 l2).push {cls:= .type "tuple",data:= .seq #[.ref h.objs.size, .ref (JW t h l1).objs.size]}
noncomputable abbrev JP(t u:Bool)(h:Heap)(l1 l2:Addr):Heap:=(J0 t u h l1 l2).push {cls:= .type "tuple",data:= .seq #[.none, .none]}
noncomputable abbrev H0(t u:Bool)(h:Heap)(l1 l2:Addr):Heap:=(JP t u h l1 l2).push {cls:= .type "zip",data:= .fields #[.none, .bool false, .bool false, .ref (J5 t u h l1 l2).objs.size, .ref (J0 t u h l1 l2).objs.size]}
theorem xg(t u:Bool)(l1 l2:Addr)(xs ys:Array Value):Meets (Builtin.«zip.__new__» ⟨[.type "zip", .ref l1, .ref l2],[]⟩) (fun _ R s=>jk t s.heap l1 xs∧jk u s.heap l2 ys∧R (.ok (.ret (.ref (JP t u s.heap l1 l2).objs.size))) {s with heap:=H0 t u s.heap l1 l2}):=
 .of_wp fun prog w A R s h=>by
  obtain⟨hp,g,d,tk,os⟩:=s
  obtain⟨hl1,hl2,h⟩:=h;have hsub:=sub_zip
  have hL1:jk t (Shared.heap ⟨hp,g,d,tk,os⟩) l1 xs:=hl1
  have hL2:jk u (Shared.heap ⟨hp.push {cls:= .type (rR t),data:= .fields #[.ref l1, .int 0 0]},g,d,tk,os⟩) l2 ys:=hl2.at fun o e=>Heap.get?_push_of_some _ e
  wp_walk using tV hL1,tV hL2
  exact⟨_,rfl,h⟩
theorem gB.new{t:Bool}{h:Heap}{i l:Addr}(e:h.get? i=some {cls:= .type (rR t),data:= .fields #[.ref l, .int 0 0]}):gB t h i l 0:=by
 cases t with
 | true=>exact⟨_,e,rfl,rfl⟩
 | false=>exact⟨_,e,rfl,rfl⟩
theorem tE{prog:Program}{w:World}{A:Around}{E:Value→Shared→Prop}{s:Shared}{t u:Bool}{l1 l2:Addr}{xs ys:Array Value}{Q:Value→Shared→Prop}(hl1:jk t s.heap l1 xs)(hl2:jk u s.heap l2 ys)
 (h:∀h',IsZip h' (s.heap.objs.size+4) (s.heap.objs.size+2) (s.heap.objs.size+3) .none→IsPair h' (s.heap.objs.size+2) (.ref s.heap.objs.size) (.ref (s.heap.objs.size+1))→IsPair h' (s.heap.objs.size+3) .none .none→
   gB t h' s.heap.objs.size l1 0→gB u h' (s.heap.objs.size+1) l2 0→(∀c o,s.heap.get? c=some o→h'.get? c=some o)→Q (.ref (s.heap.objs.size+4)) {s with heap:=h'}):wpAny (model prog w) A (call (.type "zip") [.ref l1, .ref l2]) Q E s:=by
 refine callType_new F.called_zip (by decide) (F.typeCall_zip_2 _ _) (F.newCall_zip_2 _ _) (fun obj=>F.args_object_init_3 obj _ _) F.entry_zip_new (xg t u l1 l2 xs ys) ⟨hl1,hl2,?_⟩
 have z1:(JW t s.heap l1).objs.size=s.heap.objs.size+1:=Heap.size_push ..
 have z2:(J5 t u s.heap l1 l2).objs.size=s.heap.objs.size+2:=(Heap.size_push ..).trans (congrArg (·+1) z1)
 have z3:(J0 t u s.heap l1 l2).objs.size=s.heap.objs.size+3:=(Heap.size_push ..).trans (congrArg (·+1) z2)
 have z4:(JP t u s.heap l1 l2).objs.size=s.heap.objs.size+4:=(Heap.size_push ..).trans (congrArg (·+1) z3)
 have g5:(H0 t u s.heap l1 l2).get? (JP t u s.heap l1 l2).objs.size=some _:=Heap.get?_push_size _ rfl
 have g4:(H0 t u s.heap l1 l2).get? (J0 t u s.heap l1 l2).objs.size=some _:=Heap.get?_push_of_some _ (Heap.get?_push_size _ rfl)
 have g3:(H0 t u s.heap l1 l2).get? (J5 t u s.heap l1 l2).objs.size=some _:=Heap.get?_push_of_some _ <| Heap.get?_push_of_some _ (Heap.get?_push_size _ rfl)
 have g2:(H0 t u s.heap l1 l2).get? (JW t s.heap l1).objs.size=some _:=Heap.get?_push_of_some _ <| Heap.get?_push_of_some _ <| Heap.get?_push_of_some _ (Heap.get?_push_size _ rfl)
 have g1:(H0 t u s.heap l1 l2).get? s.heap.objs.size=some _:=Heap.get?_push_of_some _ <| Heap.get?_push_of_some _ <| Heap.get?_push_of_some _ <| Heap.get?_push_of_some _ (Heap.get?_push_size _ rfl)
 show _∧_
 rw[z2,z3,z4] at g5;rw [z1,z2] at g3;rw [z3] at g4;rw [z1] at g2;rw [z4]
 exact⟨⟨_,g5,rfl⟩,h _ g5 g3 g4 (gB.new g1) (gB.new g2) fun c o x=>Heap.get?_push_of_some _ <| Heap.get?_push_of_some _ <| Heap.get?_push_of_some _ <| Heap.get?_push_of_some _ <| Heap.get?_push_of_some _ x⟩
end PySem
namespace L2
open PySem PySem.Spec PyProof.Rows
noncomputable def Ds(t:Bool)(K:PySem.W.Frag)(H:Hp)(a:Addr)(xs:List V):Prop:=cond t (pK K H a xs) (ny K H a xs)
theorem Inv.Ae{X:Cx}{pins:List (Addr × Obj)}{σ:L2.St}{H:Hp}{s:Shared}{t:Bool}{a:Addr}{xs:List V}(I:Inv X pins σ H s)(h:Ds t X.K H a xs):∃its:List Value,Vals xs its∧jk t s.heap a its.toArray:=by
 cases t with
 | true=>obtain⟨its,r,p,_⟩:=I.tuple h;exact⟨its,r,p⟩
 | false=>obtain⟨its,r,p,_⟩:=I.list h;exact⟨its,r,p.isList⟩
theorem Inv.yO{X:Cx}{pins:List (Addr × Obj)}{σ:L2.St}{H:Hp}{s:Shared}{t:Bool}{a:Addr}{xs ys:List V}(I:Inv X pins σ H s)(h:Ds t X.K H a xs)(h':Ds t X.K H a ys):xs=ys:=by
 cases t with
 | true=>exact I.oQ h h'
 | false=>exact I.ox h h'
noncomputable def Mq(K:PySem.W.Frag)(t u:Bool)(a b:Addr):It:=
 ⟨fun i H=>∃xs ys x y,Ds t K H a xs∧Ds u K H b ys∧xs[i]? =some x∧ys[i]? =some y,
  fun i H v H'=>∃p x y,H p=none∧v= .ref p∧(∀xs,Ds t K H a xs→xs[i]? =some x)∧(∀ys,Ds u K H b ys→ys[i]? =some y)∧H'=upd H p (.tup [x,y]),
  fun i H=>∃xs ys,Ds t K H a xs∧Ds u K H b ys∧(xs.length≤i∨ys.length≤i)⟩
theorem wC{P:Program}{w:World}{K:PySem.W.Frag}{elts:List Expr}{k:Nat}{pos:Pos}{t u:Bool}{z TI TO i1 i2 a b:Addr}(D:ZipApart z TI TO i1 i2 a b):Turn P w K (.Tuple elts k pos) (Mq K t u a b) [z,TI,TO,i1,i2] z
 (fun i h=>IsZip h z TI TO .none∧IsPair h TI (.ref i1) (.ref i2)∧(∃x y,IsPair h TO x y)∧gB t h i1 a i∧gB u h i2 b i) where
 mem:=by simp
 obj:=fun i h st c hc=>by
  obtain⟨hz,hTI,⟨x,y,hTO⟩,h1,h2⟩:=st
  simp only[List.mem_cons,List.not_mem_nil,or_false] at hc
  rcases hc with rfl | rfl | rfl | rfl | rfl
  ·exact⟨_,hz,fun v z=>by cases z⟩
  ·exact⟨_,hTI,fun v z=>by cases z⟩
  ·exact⟨_,hTO,fun v z=>by cases z⟩
  ·exact h1.ob
  ·exact h2.ob
 keep:=fun i h h' st k=>by
  obtain⟨hz,hTI,⟨x,y,hTO⟩,h1,h2⟩:=st
  exact⟨k z (by simp) _ hz,k TI (by simp) _ hTI,⟨x,y,k TO (by simp) _ hTO⟩,h1.at fun o e=>k i1 (by simp) o e,h2.at fun o e=>k i2 (by simp) o e⟩
 item:=by
  intro X hP hw hK hc i pins s σ H E I hf st hg
  subst hP hw hK
  obtain⟨xs,ys,x,y,hq,hr,hx,hy⟩:=hg
  obtain⟨its,rv,p⟩:=I.Ae hq
  obtain⟨jts,rw',p'⟩:=I.Ae hr
  obtain⟨ux,hu,ru⟩:=rv.get hx
  obtain⟨uy,hu',ru'⟩:=rw'.get hy
  obtain⟨hz,hTI,⟨a0,b0,hTO⟩,h1,h2⟩:=st
  have hT:s.TypeIs (.ref z) "zip":=⟨_,hz,rfl⟩
  unfold pyNext
  refine wpAny_bind (wpAny_attempt (wpAny_callSpecial?_slot (name:=Str.ofString "__next__") hT F.slot_zip_next (wpAny_call_entry F.slot_zip_next hT F.entry_zip_next (zF D hz hTI hTO h1 h2 p p' (x:=ux) (y:=uy) (by simpa using hu) (by simpa using hu') fun h₁ a1 a2 a3 a4 a5 a6 hk₁=>wpAny_pure ?_) (F.args_zip_next_1 _))))
  refine⟨_,rfl,wpAny_letOwnedTupleGo_zip a1 fun h₂ hz₂ hs₂=>?_⟩
  replace hs₂:Heap.SameBut z h₁ h₂:=hs₂
  have hzl:z < s.heap.objs.size:=Heap.lt_size hz
  have ht₂:h₂.get? s.heap.objs.size=some {cls:= .type "tuple",data:= .seq #[ux,uy]}:=(hs₂.2 _ (Nat.ne_of_gt hzl)).trans a5
  have kk:∀b o,b≠z→b≠TO→b≠i1→b≠i2→s.heap.get? b=some o→h₂.get? b=some o:=fun b o c1 c2 c3 c4 q=>(hs₂.2 b c1).trans (hk₁ b o c1 c2 c3 c4 q)
  have hn:H s.heap.objs.size=none:=I.fresh
  have sm:a_ H (upd H s.heap.objs.size (.tup [x,y])):=aX hn
  have f0:∀c∈[z,TI,TO,i1,i2],H c=none:=fun c hc=>(hf c hc).1
  have nit:∀b o,H b=some o→b≠z∧b≠TO∧b≠i1∧b≠i2:=fun b o q=>by
   refine⟨fun e=>?_,fun e=>?_,fun e=>?_,fun e=>?_⟩
   ·rw[e,f0 z (by simp)] at q;cases q
   ·rw[e,f0 TO (by simp)] at q;cases q
   ·rw[e,f0 i1 (by simp)] at q;cases q
   ·rw[e,f0 i2 (by simp)] at q;cases q
  have kH:∀b o q,H b=some q→s.heap.get? b=some o→h₂.get? b=some o:=fun b o q hb e=>let⟨c1,c2,c3,c4⟩:=nit b q hb;kk b o c1 c2 c3 c4 e
  have hok:mG X.prog X.w (upd H s.heap.objs.size (.tup [x,y])) h₂:=fun b ob q=>by
   by_cases hb:b=s.heap.objs.size
   ·subst hb
    rw[bf] at q
    cases q
    exact⟨by show 2≤sizeLine;decide,[ux,uy], .cons ru (.cons ru' .nil),⟨_,ht₂,rfl,_,rfl⟩⟩
   ·rw[br hb] at q
    refine(I.hok b ob q).uR (fun c v hc e=>?_) (fun c e=>sm c _ e) fun c ys e=>sm c _ e
    rcases hc with rfl | hc
    ·exact kH c v _ q e
    ·exact kH c v _ hc e
  have nch:∀b,b ∉ [z,TI,TO,i1,i2]→b≠z∧b≠TO∧b≠i1∧b≠i2:=fun b hb=>⟨fun e=>hb (by simp [e]),fun e=>hb (by simp [e]),fun e=>hb (by simp [e]),fun e=>hb (by simp [e])⟩
  have kc:∀b o,b ∉ [z,TI,TO,i1,i2]→s.heap.get? b=some o→h₂.get? b=some o:=fun b o hb e=>let⟨c1,c2,c3,c4⟩:=nch b hb;kk b o c1 c2 c3 c4 e
  have I2:Inv X pins σ (upd H s.heap.objs.size (.tup [x,y])) {s with heap:=h₂,toks:=s.toks}:=by
   refine I.step (g':=s.gens) (d':=s.drawn) (ch:=[z,TI,TO,i1,i2]) (fun b hb=>?_) (fun b o _ _ hb q _=>kc b o hb q) (fun b o _ _ hb q _=>⟨o.slots,kc b o hb q⟩)
    (fun b o hb q n=>by rw[br (Nat.ne_of_lt (Heap.lt_size q))];exact n) (fun b o hb q=>⟨o,kc b o hb q⟩) (fun b ys e=>sm b _ e) (fun b o u e=>sm b _ e) (fun b ps e=>⟨#[],by rw[sm b _ e];simp⟩) (fun m hm=>?_) hok I.bare
   ·obtain⟨g0,g1,g2,g3,g4,g5⟩:=hf b hb
    exact⟨g3,g1,g4,g5⟩
   ·obtain⟨o,es,ep,ho,r⟩:=hm
    refine⟨o,es,ep,kc _ o (fun hb=>?_) ho,r⟩
    exact(hf _ hb).2.1 rfl
  have up:∀c,c≠z→∀o,h₁.get? c=some o→h₂.get? c=some o:=fun c hc o e=>(hs₂.2 c hc).trans e
  refine⟨.ref s.heap.objs.size,_,I2,rfl,⟨s.heap.objs.size,x,y,hn,rfl,fun zs hy'=>(by rw[I.yO hy' hq];exact hx),fun zs hy'=>(by rw[I.yO hy' hr];exact hy),rfl⟩,
   ⟨hz₂,up _ D.TIz _ (hk₁ TI _ D.TIz D.TITO D.TIi1 D.TIi2 hTI),⟨_,_,up _ D.TOz _ a2⟩,a3.at fun o e=>up _ D.i1z o e,a4.at fun o e=>up _ D.i2z o e⟩,fun c hc=>?_⟩
  have hlt:c < s.heap.objs.size:=by
   simp only[List.mem_cons,List.not_mem_nil,or_false] at hc
   rcases hc with rfl | rfl | rfl | rfl | rfl
   ·exact hzl
   ·exact Heap.lt_size hTI
   ·exact Heap.lt_size hTO
   ·exact h1.lt
   ·exact h2.lt
  rw[br (Nat.ne_of_lt hlt)]
  exact f0 c hc
 done:=by
  intro X hP hw hK hc i pins s σ H E I hf st hg
  subst hP hw hK
  obtain⟨xs,ys,hq,hr,hl⟩:=hg
  obtain⟨its,rv,p⟩:=I.Ae hq
  obtain⟨jts,rw',p'⟩:=I.Ae hr
  obtain⟨hz,hTI,⟨a0,b0,hTO⟩,h1,h2⟩:=st
  have hT:s.TypeIs (.ref z) "zip":=⟨_,hz,rfl⟩
  have l1:=rv.length
  have l2:=rw'.length
  unfold pyNext
  refine wpAny_bind (wpAny_attempt (wpAny_callSpecial?_slot (name:=Str.ofString "__next__") hT F.slot_zip_next (wpAny_call_entry F.slot_zip_next hT F.entry_zip_next (B0 (I.ok.hd hc) D hz hTI hTO h1 h2 p p' ?_ fun h' e hk he=>?_) (F.args_zip_next_1 _))))
  ·rcases hl with hl | hl
   ·exact .inl (by simp;omega)
   ·exact .inr (by simp;omega)
  obtain⟨o,ho,hcl⟩:=he
  refine wpAny_bind (wpAny_isInstance (T:="StopIteration") (b:=true) ⟨o,ho,hcl⟩ isSubtype_stop ?_)
  have nch:∀b,b ∉ [z,TI,TO,i1,i2]→b≠z∧b≠TO∧b≠i1∧b≠i2:=fun b hb=>⟨fun e=>hb (by simp [e]),fun e=>hb (by simp [e]),fun e=>hb (by simp [e]),fun e=>hb (by simp [e])⟩
  have kc:∀b o,b ∉ [z,TI,TO,i1,i2]→s.heap.get? b=some o→h'.get? b=some o:=fun b o hb e=>let⟨c1,c2,c3,c4⟩:=nch b hb;hk b o c1 c2 c3 c4 e
  have f0:∀c∈[z,TI,TO,i1,i2],H c=none:=fun c hc=>(hf c hc).1
  have kH:∀b o q,H b=some q→s.heap.get? b=some o→h'.get? b=some o:=fun b o q hb e=>kc b o (fun z=>by rw[f0 b z] at hb;cases hb) e
  refine wpAny_pure ⟨rfl,?_⟩
  refine I.step (h':=h') (H':=H) (g':=s.gens) (d':=s.drawn) (t':=s.toks) (ch:=[z,TI,TO,i1,i2]) (fun b hb=>?_) (fun b o _ _ hb q _=>kc b o hb q) (fun b o _ _ hb q _=>⟨o.slots,kc b o hb q⟩)
   (fun b o hb q n=>n) (fun b o hb q=>⟨o,kc b o hb q⟩) (fun b ys e=>e) (fun b o u e=>e) (fun b ps e=>⟨#[],by rw[e];simp⟩) (fun m hm=>?_) (fun b ob q=>?_) I.bare
  ·obtain⟨g0,g1,g2,g3,g4,g5⟩:=hf b hb
   exact⟨g3,g1,g4,g5⟩
  ·obtain⟨o,es,ep,ho,r⟩:=hm
   refine⟨o,es,ep,kc _ o (fun hb=>?_) ho,r⟩
   exact(hf _ hb).2.1 rfl
  ·refine(I.hok b ob q).uR (fun c v hc e=>?_) (fun c e=>e) fun c ys e=>e
   rcases hc with rfl | hc
   ·exact kH c v _ q e
   ·exact kH c v _ hc e
 self:=fun A i s Q E st h=>wpAny_pyIter_zip st.1 h
section
variable {X:Cx}
noncomputable def oY(ds es:List D):List D:=(ds.zip es).map fun p=> .tup [p.1,p.2]
noncomputable def seqD?:D→Option (List D)
 | .lst ds=>some ds
 | .tup ds=>some ds
 | _=>none
noncomputable def A7(f g:FD):aw→R (List D):=fun δ=>(f δ).bind fun d=>(g δ).bind fun e=>match seqD? d,seqD? e with | some ds,some es=> .ok (oY ds es) | _,_=> .no
theorem Rep.Ae{K:PySem.W.Frag}{B:List Addr}{H:Hp}{d:D}{v:V}{ds:List D}(r:Rep K B H d v)(h:seqD? d=some ds):∃t a xs,v= .ref a∧(∀B' H',dt B H B' H'→Ds t K H' a xs∧aK K B' H' ds xs):=by
 cases d with
 | lst es=>
   cases h
   obtain⟨a,xs,rfl,l,rs⟩:=Rep.lst.mp r
   exact⟨false,a,xs,rfl,fun B' H' p=>⟨(l.bx p).sq,rs.bx p⟩⟩
 | tup es=>
   cases h
   obtain⟨a,xs,rfl,l,rs⟩:=Rep.tup.mp r
   refine⟨true,a,xs,rfl,fun B' H' p=>⟨?_,rs.bx p⟩⟩
   have l':sN K B' H' a xs:=l.elim (fun z=> .inl ⟨(p.rd z.2 z.1).2,(p.rd z.2 z.1).1⟩) .inr
   exact l'.sq
 | _=>cases h
theorem CG{elts:List Expr}{k:Nat}{tpos:Pos}{a b:Expr}{f g:FD}{p pos:Pos}(h:QD X a f)(h':QD X b g)(hg:Gl X "zip")(hm:X.mg "zip"=none)(hs:starEach [a,b] X.env=[(false,eval a X.env),(false,eval b X.env)]:=by rfl)(hs2:starEach [b] X.env=[(false,eval b X.env)]:=by rfl) :
 wY X (.Tuple elts k tpos) (.Call (.Name "zip" p) [a,b] [] pos) (A7 f g):=by
 refine⟨?_⟩
 intro pins s σ H RR I ⟨Z,B,δ,ds,E,hf,q⟩
 obtain⟨d,h1,h2⟩:=R.ao hf
 obtain⟨e,h3,h4⟩:=R.ao h2
 have hA:=eA h.1 (eA h'.1 iA hs2) (by rw[hs,hs2]) pos pins s σ H (fun vs H1=>a_ H H1∧∃v v',vs=[v,v']∧Rep X.K B H1 d v∧Rep X.K B H1 e v') I
  ⟨Z,B,δ,d,E,h1,fun v H1 s1 r1=>⟨Z,B,δ,e,E.same s1,h3,fun v' H2 s2 r2=>⟨s1.trans s2,v,v',rfl,r1.same s2,r2⟩⟩⟩
 refine Call_ (jN I hg hm boot_zip (PyProof.Rows.callWith_type1 (dY hA fun us s1 ⟨vs,H1,I1,r1,ss,v,v',ev,rr,rr'⟩=>?_) (by rw[hs,hs2]) (by rw[hs2];rfl)))
 subst ev
 obtain⟨u,u',rfl,ru,ru'⟩:=vals2 r1
 cases e1:seqD? d with
 | none=>rw [e1] at h4;cases h4
 | some ls=>
   cases e2:seqD? e with
   | none=>rw [e1,e2] at h4;cases h4
   | some ms=>
     rw[e1,e2] at h4
     cases h4
     obtain⟨t,a,xs,rfl,k1⟩:=rr.Ae e1
     obtain⟨w,b,ys,rfl,k2⟩:=rr'.Ae e2
     cases ru
     cases ru'
     obtain⟨its,rv,pp⟩:=I1.Ae (k1 B H1 (dt.refl B H1)).1
     obtain⟨jts,rw',pp'⟩:=I1.Ae (k2 B H1 (dt.refl B H1)).1
     have la:=pp.lt
     have lb:=pp'.lt
     refine tE pp pp' fun h₂ hz hTI hTO hi1 hi2 kk=>wpAny_pyIter_zip hz ?_
     have I2:Inv X pins σ H1 {s1 with heap:=h₂}:=I1.kept (t':=s1.toks) kk
     refine⟨s1.heap.objs.size+4,[s1.heap.objs.size+4,s1.heap.objs.size+2,s1.heap.objs.size+3,s1.heap.objs.size,s1.heap.objs.size+1],_,_,H1,rfl,I2,wC (t:=t) (u:=w) (zipApart_new la lb),⟨hz,hTI,⟨_,_,hTO⟩,hi1,hi2⟩,fun c hc=>?_,q _ H1 ss fun B' H' pr=>?_⟩
     ·have hle:s1.heap.objs.size≤c:=by
       simp only[List.mem_cons,List.not_mem_nil,or_false] at hc
       rcases hc with rfl | rfl | rfl | rfl | rfl <;> omega
      exact I1.qC hle (I1.hok.fresh hle)
     ·obtain⟨l1,rs1⟩:=k1 B' H' pr
      obtain⟨l2,rs2⟩:=k2 B' H' pr
      refine⟨fun i d hd=>?_,⟨xs,ys,l1,l2,?_⟩⟩
      ·unfold oY at hd
       rw[List.getElem?_map] at hd
       cases ez:(ls.zip ms)[i]? with
       | none=>rw [ez] at hd;cases hd
       | some pr'=>
         rw[ez] at hd
         have hd:D.tup [pr'.1,pr'.2]=d:=Option.some.inj hd
         obtain⟨ea,eb⟩:=List.getElem?_zip_eq_some.mp ez
         obtain⟨x,hx,rx⟩:=rs1.get ea
         obtain⟨y,hy,ry⟩:=rs2.get eb
         refine⟨⟨xs,ys,x,y,l1,l2,hx,hy⟩,fun v H'' yl hB'=>?_⟩
         obtain⟨p,x2,y2,hp,rfl,hx2,hy2,rfl⟩:=yl
         refine⟨aX hp,?_⟩
         subst hd
         have hx2:=hx2 xs l1
         have hy2:=hy2 ys l2
         rw[hx] at hx2;cases hx2
         rw[hy] at hy2;cases hy2
         refine Rep.tup.mpr ⟨p,_,rfl, .inl ⟨fun ha=>?_, .inl bf⟩,aK.cons (rx.same (aX hp)) (aK.cons (ry.same (aX hp)) aK.nil)⟩
         obtain⟨o,ho⟩:=hB' p ha
         rw[hp] at ho;cases ho
      ·rw[←rs1.length,←rs2.length]
       unfold oY
       rw[List.length_map,List.length_zip]
       omega
noncomputable def LL(T U:String)(f:FD):FD:=fun δ=>(f δ).bind fun d=>match d with | .dct _ _=> .no | _=> .ok (.bl (mS (tyName d) T || mS (tyName d) U))
noncomputable def MY(lo:Int)(n:Nat):It:=⟨fun i _=>i < n,fun i H x H'=>H'=H∧x= .int (lo - i),fun i _=>n≤i⟩
noncomputable def Kn(lo:Int)(n:Nat):List D:=(List.range n).map fun(i:Nat)=>D.int (lo - i)
noncomputable def Lo(f g h:FD):aw→R (List D):=fun δ=>(f δ).bind fun d=>(g δ).bind fun e=>(h δ).bind fun k=>match d,e,k with
 | .int i, .int j, .int m=>R.cb (decide (m= -1∧ -(2 ^ 60)≤i∧i < 2 ^ 60∧ -(2 ^ 60)≤j∧j < 2 ^ 60)) (.ok (Kn i (i - j).toNat)) | _,_,_=> .no
noncomputable def bls?:List D→Option (List Bool)
 | []=>some []
 | .bl b ::ds=>(bls? ds).map (b ::·)
 | _ ::_=>none
noncomputable def LZ:List D→R D
 | [.lst ds]=>(match bls? ds with | some bs=> .ok (.bl (bs.all id)) | none=> .no)
 | _=> .no
noncomputable def My:List D→R D
 | [.lst ds]=>(match bls? ds with | some bs=> .ok (.bl (bs.any id)) | none=> .no)
 | _=> .no
end
end L2
end
section
set_option maxRecDepth 100000
set_option maxHeartbeats 4000000
namespace L2
open PySem PySem.Spec PyProof.Rows
section
variable {X:Cx}
noncomputable def MW:FS:=fun _=> .no
noncomputable def LA(f:FD):FS:=fun δ=>(f δ).bind fun _=> .ok (.nx δ)
end
end L2
namespace L3
open PySem PySem.Spec PyProof.Rows L2
section
variable {X:Cx} {cl:Nat→Addr}
noncomputable def M7:FZ:=fun _ _=> .no
noncomputable def Ln(f:aw→R (List D)):FX:=fun δ S=>(R3.of (f (b3 S δ)) S).bind fun ds S=>R3.cb (jC ds) (.ok (.loc S.length) (S++[.lst ds]))
noncomputable def Mf(i:Nat)(f:FX):FZ:=fun δ S=>match gM δ i with
 | none=> .no
 | some k=>match dr S k with
   | none=> .no
   | some _=>(f δ S).bind fun v S1=>match v with
     | .d (.lst es)=>(match dr S1 k with
       | some ds=>R3.cb (decide (ds.length+es.length≤sizeLine)) (.ok (.nx δ) (S1.set k (.lst (ds++es))))
       | none=> .no)
     | _=> .no
end
end L3
end
section
set_option maxRecDepth 100000
set_option maxHeartbeats 4000000
namespace L2
open PySem PySem.Spec PyProof.Rows
section
variable {X:Cx}
theorem B9{prog:Program}{w:World}{A:Around}{E:Value→Shared→Prop}{s:Shared}{t b:Addr}{vs ws:List Value}{Q:Value→Shared→Prop}(ht:IsTup s.heap t vs.toArray)(hb:IsTup s.heap b ws.toArray)
 (h0:vs=[]→Q (.ref b) s) (h1:vs≠[]→ws=[]→Q (.ref t) s) (h2:vs≠[]→ws≠[]→Q (.ref s.heap.objs.size) {s with heap:=s.heap.push {cls:= .type "tuple",data:= .seq (vs++ws).toArray}})
 (hsz:vs.length+ws.length≤sizeLine):wpAny (model prog w) A (binaryOp .Add (.ref t) (.ref b)) Q E s:=by
 by_cases hv:vs=[]
 ·obtain⟨⟨cls,dd,data,sl⟩,ho,hc,n,hd⟩:=id ht;obtain⟨⟨cls2,dd2,data2,sl2⟩,ho2,hc2,n2,hd2⟩:=id hb
  simp only at hc hd hc2 hd2;subst hc hd hc2 hd2
  exact concat_meets ⟨_,ho,rfl⟩ ⟨_,ho2,rfl⟩ noFill_tuple_add seq_tuple_add PySem.F.slot_tuple_add PySem.F.entry_tuple_add (PySem.F.args_tuple_add_2 _ _) (tuple_addW0 t b vs.toArray ws.toArray n n2 dd dd2 sl sl2 (by simp [hv])) ⟨ho,ho2,h0 hv⟩
 ·exact HT.DY ht hb hv (h1 hv) (h2 hv) hsz
noncomputable def iB(d e:D):R D:=match d,e with
 | .tup a, .tup b=>R.cb (decide (a.length+b.length≤sizeLine)) (.ok (.tup (a++b)))
 | d,e=>eG d e
theorem sN.fresh{K:PySem.W.Frag}{B:List Addr}{H:Hp}{p:Addr}{xs:List V}(hb:∀a∈B,∃o,H a=some o)(hp:H p=none):sN K B (upd H p (.tup xs)) p xs:= .inl ⟨fun ha=>(by obtain⟨o,ho⟩:=hb p ha;rw [hp] at ho;cases ho), .inl bf⟩
theorem j_:j3 X (binaryOp .Add) iB:=by
 intro pins s σ H B da db d x y v u I hb rx ry ra rb hg
 by_cases ht:∃a b,da= .tup a∧db= .tup b
 ·obtain⟨a,b,rfl,rfl⟩:=ht
  have hg:R.cb (decide (a.length+b.length≤sizeLine)) (.ok (.tup (a++b)))= .ok d:=hg
  obtain⟨h1,h2⟩:=R.bp hg
  cases h2
  have h1:=of_decide_eq_true h1
  have ra':=ra
  have rb':=rb
  obtain⟨a1,xs1,rfl,l1,r1⟩:=Rep.tup.mp ra
  obtain⟨a2,xs2,rfl,l2,r2⟩:=Rep.tup.mp rb
  cases rx
  cases ry
  obtain⟨its,rv1,p1,_⟩:=I.tuple l1.sq
  obtain⟨its2,rv2,p2,_⟩:=I.tuple l2.sq
  have e1:=rv1.length
  have e2:=rv2.length
  have e3:=r1.length
  have e4:=r2.length
  refine B9 p1 p2 (fun z=>⟨.ref a2,H,I,rfl,a_.refl H,?_⟩) (fun _ z=>⟨.ref a1,H,I,rfl,a_.refl H,?_⟩) (fun _ _=>?_) (by omega)
  ·obtain rfl:a=[]:=List.eq_nil_of_length_eq_zero (by rw[e3,e1,z];rfl)
   exact rb'
  ·obtain rfl:b=[]:=List.eq_nil_of_length_eq_zero (by rw[e4,e2,z];rfl)
   rw[List.append_nil];exact ra'
  ·have hp:H s.heap.objs.size=none:=I.hok.fresh (Nat.le_refl _)
   refine⟨.ref s.heap.objs.size,_,I.laid (t':=s.toks) (o:= .tup (xs1++xs2)) (fun b ob q=>Heap.get?_push_of_some _ q) (Nat.le_refl _) ⟨by rw[List.length_append];omega,_,rv1.append rv2,IsTup.new _ _⟩,rfl,aX hp,Rep.tup.mpr ⟨_,_,rfl,sN.fresh hb hp,(r1.append r2).same (aX hp)⟩⟩
 ·have hg:eG da db= .ok d:=by
   unfold iB at hg
   split at hg
   ·exact absurd ⟨_,_,rfl,rfl⟩ ht
   ·exact hg
  exact gp pins s σ H B da db d x y v u I hb rx ry ra rb hg
theorem wY.or{tg e:Expr}{F F1 F2:aw→R (List D)}(h1:wY X tg e F1)(h2:wY X tg e F2)(h:∀δ ds,F δ= .ok ds→F1 δ= .ok ds∨F2 δ= .ok ds):wY X tg e F:=
 ⟨fun pins s σ H R I ⟨Z,B,δ,ds,E,hf,q⟩=>(h δ ds hf).elim (fun z=>h1.1 pins s σ H R I ⟨Z,B,δ,ds,E,z,q⟩) fun z=>h2.1 pins s σ H R I ⟨Z,B,δ,ds,E,z,q⟩⟩
noncomputable def yL(f:FD):aw→R (List D):=fun δ=>(f δ).bind fun d=>match d with | .lst ds=> .ok (dH ds) | .tup ds=> .ok (dH ds) | _=> .no
theorem xS{elts:List Expr}{k:Nat}{tpos:Pos}{a:Expr}{f:FD}{p pos:Pos}(h:QD X a f)(hg:Gl X "enumerate")(hm:X.mg "enumerate"=none)(hs:starEach [a] X.env=[(false,eval a X.env)]:=by rfl):wY X (.Tuple elts k tpos) (.Call (.Name "enumerate" p) [a] [] pos) (yL f):=
 wY.or (F1:=jb f) (F2:=uH f) ⟨u_ h.1 hg hm hs⟩ (xX h hg hm hs) fun δ ds hf=>by
  obtain⟨d,h1,h2⟩:=R.ao hf
  cases d with
  | lst es=>cases h2;exact .inl (by unfold jb;rw [h1];rfl)
  | tup es=>cases h2;exact .inr (by unfold uH;rw [h1];rfl)
  | _=>cases h2
noncomputable def L6(K:PySem.W.Frag)(a:Addr)(n:Nat):It:=
 ⟨fun i H=>∃xs x,ny K H a xs∧xs.length=n∧i < n∧xs[n - 1 - i]? =some x,fun i H v H'=>H'=H∧∀xs,ny K H a xs→xs[n - 1 - i]? =some v,fun i H=>(∃xs,ny K H a xs)∧i=n⟩
theorem Di{P:Program}{w:World}{K:PySem.W.Frag}{tg:Expr}(a it:Addr)(n:Nat):Turn P w K tg (L6 K a n) [it] it (fun i h=>h.IsRevIter it a ((n:Int) - 1 - (i:Int))) where
 mem:=by simp
 obj:=fun i h st b hb=>by
  have e:b=it:=by simpa using hb
  subst e
  obtain⟨o,e,c,d⟩:=st
  exact⟨o,e,fun v z=>by rw[d] at z;cases z⟩
 keep:=fun i h h' st k=>st.at fun o e=>k it (by simp) o e
 item:=by
  intro X hP hw hK hc i pins s σ H E I hf st hg
  subst hP hw hK
  obtain⟨xs,x,hq,hn,hi,hx⟩:=hg
  obtain⟨its,rv,p,hz⟩:=I.list hq
  obtain⟨u,hu,ru⟩:=rv.get hx
  obtain⟨f0,f1,f2,f3,f4,f5⟩:=hf it (by simp)
  have e0:(n:Int) - 1 - (i:Int)=((n - 1 - i:Nat):Int):=by omega
  rw[e0] at st
  refine wpAny_pyNext_rev_item st p.isList (x:=u) (by simpa using hu) fun h' st' sb=>?_
  have I1:Inv X pins σ H {s with heap:=h'}:=I.turned (t':=s.toks) (fun b o hb e=>(sb.2 b hb).trans e) f0 f1 f3 f4 f5
  have st2:h'.IsRevIter it a ((n:Int) - 1 - ((i+1:Nat):Int)):=by
   rw[show((n - 1 - i:Nat):Int) - 1=(n:Int) - 1 - ((i+1:Nat):Int) by omega] at st';exact st'
  obtain⟨o,e,c,d⟩:=id st2
  exact⟨u,rfl,yG (s:={s with heap:=h'}) e c d (by decide) ⟨x,H,I1,ru,⟨rfl,fun ys hy=>by rw[I.ox hy hq];exact hx⟩,st2,fun b hb=>(hf b hb).1⟩⟩
 done:=by
  intro X hP hw hK hc i pins s σ H E I hf st hg
  subst hP hw hK
  obtain⟨_,rfl⟩:=hg
  obtain⟨f0,f1,f2,f3,f4,f5⟩:=hf it (by simp)
  rw[show(i:Int) - 1 - (i:Int)= -1 by omega] at st
  exact wpAny_pyNext_rev_end (I.ok.hd hc) st fun h' eb=>⟨rfl,I.turned (t':=s.toks) (fun b o hb e=>eb b o hb e) f0 f1 f3 f4 f5⟩
 self:=fun _ _ _ _ _ st h=>wpAny_pyIter_revIter st h
noncomputable def FN(f:FD):aw→R (List D):=fun δ=>(f δ).bind fun d=>match d with | .lst ds=> .ok ds.reverse | _=> .no
theorem BW{tg a:Expr}{f:FD}{p pos:Pos}(h:QD X a f)(hg:Gl X "reversed")(hm:X.mg "reversed"=none)(hs:starEach [a] X.env=[(false,eval a X.env)]:=by rfl):wY X tg (.Call (.Name "reversed" p) [a] [] pos) (FN f):=by
 refine⟨?_⟩
 intro pins s σ H RR I ⟨Z,B,δ,ds,E,hf,q⟩
 obtain⟨d,h1,h2⟩:=R.ao hf
 have hA:=eA h.1 iA hs pos pins s σ H (fun vs H1=>a_ H H1∧∃v,vs=[v]∧Rep X.K B H1 d v) I ⟨Z,B,δ,d,E,h1,fun v H1 s1 r1=>⟨s1,v,rfl,r1⟩⟩
 refine Call_ (jN I hg hm boot_reversed (PyProof.Rows.callWith_type1 (dY hA fun us s1 ⟨vs,H1,I1,r1,ss,v,ev,rr⟩=>?_) hs rfl))
 subst ev
 obtain⟨u,rfl,ru⟩:=vals1 r1
 cases d with
 | lst es=>
   cases h2
   obtain⟨b,xs,rfl,l,rs⟩:=Rep.lst.mp rr
   cases ru
   obtain⟨its,rv,pl,hz⟩:=I1.list l.sq
   have e1:=rv.length
   have e2:=rs.length
   refine call_reversed_list pl.isList (wpAny_pyIter_revIter (i:=(its.toArray.size:Int) - 1) ⟨_,Heap.get?_push_size _ rfl,rfl,rfl⟩ ?_)
   refine⟨s1.heap.objs.size,[s1.heap.objs.size],_,_,H1,rfl,I1.kept (t':=s1.toks) fun b o e=>Heap.get?_push_of_some _ e,Di b _ es.length,?_,fun c hc=>?_,q _ H1 ss fun B' H' pr=>?_⟩
   ·refine⟨_,Heap.get?_push_size _ rfl,rfl,?_⟩
    show Data.fields #[.ref b,rawInt ((its.toArray.size:Int) - 1)]=Data.fields #[.ref b,rawInt ((es.length:Int) - 1 - ((0:Nat):Int))]
    rw[List.size_toArray,←e1,←e2,show((es.length:Nat):Int) - 1 - ((0:Nat):Int)=(es.length:Int) - 1 by omega]
   ·have e:c=s1.heap.objs.size:=by simpa using hc
    subst e
    exact I1.qC (Nat.le_refl _) (I1.hok.fresh (Nat.le_refl _))
   ·have l':r_ X.K B' H' b xs:=l.bx pr
    have rs':=rs.bx pr
    refine⟨fun i d hd=>?_,⟨xs,l'.sq⟩,by rw[List.length_reverse]⟩
    have hi:i < es.length:=by have:=(List.getElem?_eq_some_iff.mp hd).1;rwa [List.length_reverse] at this
    rw[List.getElem?_reverse hi] at hd
    obtain⟨x,hx,rx⟩:=rs'.get hd
    refine⟨⟨xs,x,l'.sq,e2.symm,hi,hx⟩,fun v H'' yl hB'=>?_⟩
    obtain⟨rfl,hy⟩:=yl
    have hy2:=hy xs l'.sq
    rw[hx] at hy2
    cases hy2
    exact⟨a_.refl _,rx⟩
 | _=>cases h2
noncomputable def p_(K:PySem.W.Frag)(C:Addr)(m qual:Str)(st:Stmt):Prop:=∃f fd,yW K m qual st f fd∧Meth K C m f
noncomputable def z9(K:PySem.W.Frag)(C:Addr)(m qual:Str)(st:Stmt):Prop:=∃f fd,yW K m qual st f fd∧Mk K C f
end
end L2
namespace L3
open PySem PySem.Spec PyProof.Rows L2
section
variable {X:Cx} {cl:Nat→Addr}
theorem fT.p{P:Program}{w:World}{K:PySem.W.Frag}{mg:Str→Option Value}{base:Heap}{cl:Nat→Addr}{k c:Nat}{m:Str}{n:Nat}{N:List Str}{F:FZ}(C:fT P w K mg base cl k c m n (md N F)):fT P w K mg base cl k c m n (nF N F):=
 let⟨f,fd,ps,c1,c2,F,h⟩:=C;⟨f,fd,ps,c1,c2,F.imp fun _ _ _ _ h=>w_ h,h⟩
end
end L3
end
section
set_option maxRecDepth 100000
set_option maxHeartbeats 4000000
namespace L2
open PySem PySem.Spec PyProof.Rows
section
variable {X:Cx}
noncomputable def LP(f:FD):aw→R (List D):=fun δ=>(f δ).bind fun d=>match d with | .int j=>R.cb (decide (-(2 ^ 62)≤j∧j < 16777216)) (.ok (bQ 0 j.toNat)) | _=> .no
noncomputable def MQ(f:FD):FD:=fun δ=>(f δ).bind fun d=>match d with | .lst ds=> .ok (.lst ds.reverse) | _=> .no
end
end L2
end
section
set_option maxRecDepth 100000
set_option maxHeartbeats 4000000
namespace L2
open PySem PySem.Spec PyProof.Rows
section
variable {X:Cx}
noncomputable def MJ(K:PySem.W.Frag)(n:Nat)(t:CJ):TG:=fun v σ H Q=>∃a xs,v= .ref a∧ny K H a xs∧xs.length=n∧t xs σ H Q
end
end L2
namespace L3
open PySem PySem.Spec PyProof.Rows L2
section
variable {X:Cx} {cl:Nat→Addr}
noncomputable def M0(n:Nat)(t:Ey):FG:=fun d δ=>match d with
 | .d (.lst ds)=>if ds.length=n then t (ds.map .d) δ else none
 | .lst vs=>if vs.length=n then t vs δ else none
 | _=>none
noncomputable def HP(f g:FX):FA:=fun δ S=>(ax f (ax g cw) δ S).bind fun vs S1=>match vs with
 | [.d d, .d e]=>(match seqD? d,seqD? e with | some ds,some es=> .ok ((oY ds es).map .d) S1 | _,_=> .no)
 | _=> .no
theorem Fi{elts:List Expr}{k:Nat}{tpos:Pos}{a b:Expr}{f g:FX}{p pos:Pos}(h:PX X cl a f)(h':PX X cl b g)(hg:Gl X "zip")(hm:X.mg "zip"=none)(hs:starEach [a,b] X.env=[(false,eval a X.env),(false,eval b X.env)]:=by rfl)(hs2:starEach [b] X.env=[(false,eval b X.env)]:=by rfl) :
 G_ X cl (.Tuple elts k tpos) (.Call (.Name "zip" p) [a,b] [] pos) (HP f g):=by
 refine⟨?_⟩
 intro pins s σ H RR I ⟨ρ,S,δ,vs,S',E,hf,q⟩
 obtain⟨ws,S1,h1,h2⟩:=R3.ao hf
 have hA:=(aj h (aj h' aS hs2) (by rw[hs,hs2])).1 pos pins s σ H (fun us H1=>∃ρ1,Pre ρ H ρ1 H1∧SW X.K cl ρ1 H1 S1∧aM X.K ρ1 H1 ws us) I
  ⟨ρ,S,δ,ws,S1,E,h1,fun us ρ1 H1 p1 w1 r1=>⟨ρ1,p1,w1,r1⟩⟩
 refine Call_ (jN I hg hm boot_zip (PyProof.Rows.callWith_type1 (dY hA fun us s1 ⟨xs,H1,I1,r1,ρ1,p1,w1,rr⟩=>?_) (by rw[hs,hs2]) (by rw[hs2];rfl)))
 rcases hsh:ws with _ | ⟨w0,_ | ⟨w2,_ | ⟨w3,wr⟩⟩⟩ <;> subst hsh
 ·cases h2
 ·cases w0 <;> cases h2
 ·rcases w0 with d | _ | _ | _ <;> rcases w2 with e | _ | _ | _ <;> try (cases h2;done)
  have h2:(match seqD? d,seqD? e with | some ds,some es=>R3.ok ((oY ds es).map V3.d) S1 | _,_=> .no)= .ok vs S':=h2
  cases e1:seqD? d with
  | none=>rw [e1] at h2;cases h2
  | some ls=>
    cases e2:seqD? e with
    | none=>rw [e1,e2] at h2;cases h2
    | some ms=>
      rw[e1,e2] at h2
      cases h2
      obtain⟨v,ys,ev,ra,rr⟩:=rr.cA
      obtain⟨v',zs,ev',rb,rr⟩:=rr.cA
      unfold aM at rr
      subst rr ev' ev
      obtain⟨u,u',rfl,ru,ru'⟩:=vals2 r1
      unfold bw at ra rb
      obtain⟨t,a,xs,rfl,k1⟩:=ra.Ae e1
      obtain⟨w,b,ys,rfl,k2⟩:=rb.Ae e2
      cases ru
      cases ru'
      obtain⟨its,rv,pp⟩:=I1.Ae (k1 ρ1.b H1 (dt.refl _ H1)).1
      obtain⟨jts,rw',pp'⟩:=I1.Ae (k2 ρ1.b H1 (dt.refl _ H1)).1
      have la:=pp.lt
      have lb:=pp'.lt
      refine tE pp pp' fun h₂ hz hTI hTO hi1 hi2 kk=>wpAny_pyIter_zip hz ?_
      have I2:Inv X pins σ H1 {s1 with heap:=h₂}:=I1.kept (t':=s1.toks) kk
      refine⟨s1.heap.objs.size+4,[s1.heap.objs.size+4,s1.heap.objs.size+2,s1.heap.objs.size+3,s1.heap.objs.size,s1.heap.objs.size+1],_,_,H1,rfl,I2,wC (t:=t) (u:=w) (zipApart_new la lb),⟨hz,hTI,⟨_,_,hTO⟩,hi1,hi2⟩,fun c hc=>?_,q _ ρ1 H1 p1 w1 (Ib.of fun B' H' pr=>?_)⟩
      ·have hle:s1.heap.objs.size≤c:=by
        simp only[List.mem_cons,List.not_mem_nil,or_false] at hc
        rcases hc with rfl | rfl | rfl | rfl | rfl <;> omega
       exact I1.qC hle (I1.hok.fresh hle)
      ·obtain⟨l1,rs1⟩:=k1 B' H' pr
       obtain⟨l2,rs2⟩:=k2 B' H' pr
       refine⟨fun i d hd=>?_,⟨xs,ys,l1,l2,?_⟩⟩
       ·unfold oY at hd
        rw[List.getElem?_map] at hd
        cases ez:(ls.zip ms)[i]? with
        | none=>rw [ez] at hd;cases hd
        | some pr'=>
          rw[ez] at hd
          have hd:D.tup [pr'.1,pr'.2]=d:=Option.some.inj hd
          obtain⟨ea,eb⟩:=List.getElem?_zip_eq_some.mp ez
          obtain⟨x,hx,rx⟩:=rs1.get ea
          obtain⟨y,hy,ry⟩:=rs2.get eb
          refine⟨⟨xs,ys,x,y,l1,l2,hx,hy⟩,fun v H'' yl hB'=>?_⟩
          obtain⟨p,x2,y2,hp,rfl,hx2,hy2,rfl⟩:=yl
          refine⟨aX hp,?_⟩
          subst hd
          have hx2:=hx2 xs l1
          have hy2:=hy2 ys l2
          rw[hx] at hx2;cases hx2
          rw[hy] at hy2;cases hy2
          refine Rep.tup.mpr ⟨p,_,rfl, .inl ⟨fun ha=>?_, .inl bf⟩,aK.cons (rx.same (aX hp)) (aK.cons (ry.same (aX hp)) aK.nil)⟩
          obtain⟨o,ho⟩:=hB' p ha
          rw[hp] at ho;cases ho
       ·rw[←rs1.length,←rs2.length]
        unfold oY
        rw[List.length_map,List.length_zip]
        omega
 ·cases w0 <;> cases w2 <;> cases h2
theorem Ja{f g:FX}{δ:DE}{S:aU}{Q:List V3→aU→Prop}(h:W3 (f δ S) fun v S1=>W3 (g δ S1) fun w S2=>∃d e ds es,v= .d d∧w= .d e∧seqD? d=some ds∧seqD? e=some es∧Q ((oY ds es).map .d) S2):W3 (HP f g δ S) Q:=
 W3.bind (W3.bind (h.mono fun v S1 h2=>W3.bind (W3.bind (h2.mono fun w S2 ⟨d,e,ds,es,e1,e2',e3,e4,q⟩=>by
  subst e1 e2'
  exact W3.bind (W3.ok (W3.ok (W3.ok (by simp only[e3,e4];exact W3.ok q))))))))
noncomputable def yn(S:aU):Prop:=∀o∈S,nG S.length o=true
theorem Flat.Lf{S:aU}(h:Flat S):yn S:=fun o ho=>h o ho _
theorem IE{N:List Str}{F:FZ}{vs:List V3}{S:aU}{QV:V3→aU→Prop}(h:W3 (md N F vs S) fun v S1=>(∀o∈S1.take S.length,nG S.length o=true)∧eI S.length v=true∧∃d,res S1 v=some d∧QV (.d d) (S1.take S.length)):W3 (nF N F vs S) QV:=
 W3.bind (h.mono fun v S1 ⟨hl,hg,d,e,q⟩=>by
  rw[e]
  exact W3.wh (by rw[List.all_eq_true.mpr hl,hg];rfl) (W3.ok q))
theorem mw{N:List Str}{F:FZ}{vs:List V3}{S:aU}{QV:V3→aU→Prop}(hS:yn S)(h:W3 (md N F vs S) fun v S1=>eI S.length v=true∧(∃T,S1=S++T)∧∃d,res S1 v=some d∧QV (.d d) S):W3 (nF N F vs S) QV:=
 IE (h.mono fun v S1 ⟨hg,⟨T,e1⟩,d,e,q⟩=>by
  subst e1
  rw[List.take_append_of_le_length (Nat.le_refl _),List.take_length]
  exact⟨hS,hg,d,e,q⟩)
end
end L3
end
section
set_option maxRecDepth 100000
set_option maxHeartbeats 4000000
namespace NT
noncomputable def mx(f:Nat→Nat)(w:List Nat):Nat:=(w.map f).foldl max 0
structure BA (f:Nat→Nat) (M:Nat) (bs:List Int):Prop where
 a:∀(z:Nat) (v:Int),bs[z]? =some v→v= -1∨(0≤v∧v+f z≤M)
noncomputable def BB(f:Nat→Nat)(M:Nat)(bs:List Int)(n:Nat):Prop:=∃(z:Nat) (v:Int),z < n∧bs[z]? =some v∧0≤v∧(M:Int)≤v+f z
noncomputable def Up(bs bs':List Int):Prop:=bs'.length=bs.length∧∀(z:Nat) (v:Int),bs[z]? =some v→∃v',bs'[z]? =some v'∧v≤v'
end NT
namespace NT
open PySem PySem.Spec PyProof.Rows L2 L3
structure Gt where
 k:Str
 w:List Nat
 s:Bool
noncomputable def nN(z:Nat):D:= .int z
noncomputable def wN(w:List Nat):D:= .tup (w.map nN)
noncomputable def gN(g:Gt):D:= .tup [.str g.k,wN g.w, .bl g.s]
noncomputable def iN(x:Str × Nat):D:= .tup [.str x.1, .int x.2]
noncomputable def oN(x:Str × List Nat):D:= .tup [.str x.1,wN x.2]
structure Net where
 i:List (Str × Nat)
 g:List Gt
 o:List (Str × List Nat)
noncomputable def Net.d(n:Net):D:= .tup [.lst (n.i.map iN), .lst (n.g.map gN), .lst (n.o.map oN)]
noncomputable def Net.first(n:Net):Nat:=(n.i.map (·.2)).sum
structure Lq (n:Nat) (w:List Nat):Prop where
 ne:w≠[]
 le:w.length≤3
 lt:∀z∈w,z < n
structure Net.Ok (n:Net):Prop where
 i1:1≤n.i.length
 i6:n.i.length≤6
 iw:∀x∈n.i,1≤x.2∧x.2≤3
 is:∀x∈n.i,ky 0 (.str x.1)
 g60:n.g.length≤60
 gw:∀(p:Nat) (g:Gt),n.g[p]? =some g→Lq (n.first+p) g.w
 gs:∀g∈n.g,ky 0 (.str g.k)
 o1:1≤n.o.length
 o6:n.o.length≤6
 ow:∀x∈n.o,Lq (n.first+n.g.length) x.2
 os:∀x∈n.o,ky 0 (.str x.1)
inductive Sm:Nat→D→Prop where
 | int (n:Nat) (i:Int):Sm n (.int i)
 | bl (n:Nat) (b:Bool):Sm n (.bl b)
 | str (n:Nat) (s:Str):Sm n (.str s)
 | lst {n:Nat} {ds:List D} (h:∀d∈ds,Sm n d) (hl:ds.length≤1000000):Sm (n+1) (.lst ds)
 | tup {n:Nat} {ds:List D} (h:∀d∈ds,Sm n d) (hl:ds.length≤1000000):Sm (n+1) (.tup ds)
theorem l8{F G:FS}{δ:aw}{d:D}(h:F δ= .ok (.rt d)):cK F G δ= .ok (.rt d):=by unfold cK;rw [h];rfl
theorem jF{m i:Nat}{v:V3}(h:((bQ 0 m).map V3.d)[i]? =some v):i < m∧v= .d (.int i):=by
 rw[List.getElem?_map,bQ,List.getElem?_map] at h
 cases q:(List.range m)[i]? with
 | none=>rw [q] at h;cases h
 | some j=>
   rw[q] at h;cases h
   obtain⟨q1,q2⟩:=List.getElem?_eq_some_iff.mp q
   rw[List.getElem_range] at q2
   rw[List.length_range] at q1
   subst q2
   exact⟨q1,by simp⟩
theorem qw{α:Type}{l:List α}{f:α→D}{i:Nat}{v:V3}(h:((l.map f).map V3.d)[i]? =some v):∃x,l[i]? =some x∧v= .d (f x):=by
 rw[List.getElem?_map,List.getElem?_map] at h
 cases q:l[i]? with
 | none=>rw [q] at h;cases h
 | some x=>rw [q] at h;cases h;exact⟨x,rfl,rfl⟩
theorem ql{α:Type}{l:List α}{f:α→D}{i:Nat}{v:D}(h:(l.map f)[i]? =some v):∃x,l[i]? =some x∧v=f x:=by
 rw[List.getElem?_map] at h
 cases q:l[i]? with
 | none=>rw [q] at h;cases h
 | some x=>rw [q] at h;cases h;exact⟨x,rfl,rfl⟩
theorem fg{α:Type}{t:FT}{c:aw→R Bool}{f:FD}{δ:aw}(a b:α→D):∀{xs:List α},(∀x∈xs,∃δ1,t (a x) δ= .ok δ1∧c δ1= .ok true∧f δ1= .ok (b x))→nC t c f δ (xs.map a)= .ok (xs.map b)
 | [],_=>rfl
 | x ::xs,h=>by
   obtain⟨δ1,h1,h2,h3⟩:=h x List.mem_cons_self
   have ih:=fg (t:=t) (c:=c) (f:=f) (δ:=δ) a b (xs:=xs) fun y hy=>h y (List.mem_cons_of_mem _ hy)
   rw[List.map_cons]
   unfold nC
   rw[h1,R.aH,h2,R.aH,if_pos rfl,h3,R.aH,ih]
   rfl
theorem kr{α:Type}{t:FT}{c:aw→R Bool}{f:FD}{δ:aw}(p:α→Bool)(a b:α→D):∀{xs:List α},(∀x∈xs,∃δ1,t (a x) δ= .ok δ1∧c δ1= .ok (p x)∧(p x=true→f δ1= .ok (b x)))→nC t c f δ (xs.map a)= .ok ((xs.filter p).map b)
 | [],_=>rfl
 | x ::xs,h=>by
   obtain⟨δ1,h1,h2,h3⟩:=h x List.mem_cons_self
   have ih:=kr (t:=t) (c:=c) (f:=f) (δ:=δ) p a b (xs:=xs) fun y hy=>h y (List.mem_cons_of_mem _ hy)
   rw[List.map_cons]
   unfold nC
   rw[h1,R.aH,h2,R.aH]
   cases e:p x with
   | true=>rw [if_pos rfl,h3 e,R.aH,ih,List.filter_cons,if_pos e];rfl
   | false=>rw [if_neg (by decide),ih,List.filter_cons,if_neg (by rw[e];decide)]
theorem Eo{n z:Nat}(h:z < n):qp n (z:Int)=some z:=by
 unfold qp
 rw[if_pos (by omega),if_pos (by omega)]
 simp
theorem vY{α:Type}{xs:List α}{z:Nat}{x:α}(h:xs[z]? =some x):o_ xs (z:Int)=some x:=by
 have hl:=(List.getElem?_eq_some_iff.mp h).1
 unfold o_
 rw[Eo hl]
 exact h
theorem oh{ds:List D}{z:Nat}{x:D}(h:ds[z]? =some x):cg (.lst ds) (.int z)= .ok x:=jg (vY h)
theorem DM{ds:List D}{z:Nat}{x:D}(h:ds[z]? =some x):cg (.tup ds) (.int z)= .ok x:=ng (vY h)
end NT
end
section
set_option maxRecDepth 100000
set_option maxHeartbeats 4000000
namespace MT
open PySem PySem.Spec PyProof.Rows L2 L3
noncomputable abbrev M:=Nat→Bool
theorem JK{N:List Str}{F:FZ}{vs:List V3}{δ:DE}{S:aU}{QV:V3→aU→Prop}(e:bS N vs=δ)(h:W3 (F δ S) fun o S1=>∃δ',o= .nx δ'∧QV (.d .cI) S1):W3 (md N F vs S) QV:=by
 subst e
 exact W3.bind (h.mono fun _ _ ⟨_,e,q⟩=>by subst e;exact W3.ok q)
noncomputable def i4:Nat→M→Nat
 | 0,_=>0
 | N+1,f=>(if f 0 then 1 else 0)+2*i4 N (fun i=>f (i+1))
theorem ia:∀(N:Nat) (f:M) (i:Nat),(i4 N f).testBit i=(decide (i < N) && f i)
 | 0,f,i=>by unfold i4;simp
 | N+1,f,0=>by
   unfold i4
   rw[Nat.testBit_zero]
   cases f 0 <;> simp <;> omega
 | N+1,f,i+1=>by
   unfold i4
   rw[Nat.testBit_succ]
   have:((if f 0=true then 1 else 0)+2*i4 N fun i=>f (i+1)) / 2=i4 N fun i=>f (i+1):=by split <;> omega
   rw[this,ia N _ i]
   simp
theorem lX:∀{N:Nat} {f g:M},(∀i,i < N→f i=g i)→i4 N f=i4 N g
 | 0,_,_,_=>rfl
 | N+1,f,g,h=>by
   unfold i4
   rw[h 0 (by omega),lX (N:=N) fun i hi=>h (i+1) (by omega)]
theorem yy(N:Nat)(f g:M):i4 N f &&& i4 N g=i4 N fun i=>f i && g i:=by
 refine Nat.eq_of_testBit_eq fun i=>?_
 rw[Nat.testBit_and,ia,ia,ia]
 cases decide (i < N) <;> simp
theorem B5(N:Nat)(f g:M):i4 N f ||| i4 N g=i4 N fun i=>f i || g i:=by
 refine Nat.eq_of_testBit_eq fun i=>?_
 rw[Nat.testBit_or,ia,ia,ia]
 cases decide (i < N) <;> simp
theorem zq:∀(N:Nat) (f g:M),((i4 N fun i=>f i || g i:Nat):Int) - (i4 N fun i=>f i && g i:Nat)=(i4 N fun i=>f i !=g i:Nat)
 | 0,f,g=>rfl
 | N+1,f,g=>by
   have ih:=zq N (fun i=>f (i+1)) (fun i=>g (i+1))
   have e:∀h:M,i4 (N+1) h=(if h 0 then 1 else 0)+2*i4 N (fun i=>h (i+1)):=fun _=>rfl
   rw[e,e,e]
   generalize i4 N (fun i=>f (i+1) || g (i+1))=a at ih ⊢
   generalize i4 N (fun i=>f (i+1) && g (i+1))=b at ih ⊢
   generalize i4 N (fun i=>f (i+1) !=g (i+1))=c at ih ⊢
   show(((if(f 0 || g 0) then 1 else 0)+2*a:Nat):Int) - ((if(f 0 && g 0) then 1 else 0)+2*b:Nat)=((if(f 0 !=g 0) then 1 else 0)+2*c:Nat)
   cases f 0 <;> cases g 0 <;> simp <;> omega
theorem r9(x y:Nat):Builtin.bitAnd (x:Int) (y:Int)=((x &&& y:Nat):Int):=by
 unfold Builtin.bitAnd
 rw[decide_eq_true (by omega:(0:Int)≤x),decide_eq_true (by omega:(0:Int)≤y)]
 simp
theorem yt(x y:Nat):Builtin.bitOr (x:Int) (y:Int)=((x ||| y:Nat):Int):=by
 unfold Builtin.bitOr Builtin.bitAnd Builtin.bitNot
 rw[decide_eq_false (by omega:¬(0:Int)≤ -(x:Int) - 1),decide_eq_false (by omega:¬(0:Int)≤ -(y:Int) - 1)]
 show -(-(((-(-(x:Int) - 1) - 1).toNat ||| (-(-(y:Int) - 1) - 1).toNat:Nat):Int) - 1) - 1=_
 rw[show(-(-(x:Int) - 1) - 1).toNat=x by omega,show(-(-(y:Int) - 1) - 1).toNat=y by omega]
 omega
noncomputable def mI(N:Nat)(f:M):D:= .int (i4 N f:Nat)
theorem vh{N:Nat}{f g:M}(h:∀i,i < N→f i=g i):mI N f=mI N g:=by unfold mI;rw [lX h]
theorem qL(N:Nat)(f g:M):AG (mI N f) (mI N g)= .ok (mI N fun i=>f i && g i):=by
 show R.ok (D.int (Builtin.bitAnd (i4 N f:Int) (i4 N g:Int)))=_
 rw[r9,yy];rfl
theorem wa(N:Nat)(f g:M):Dq (mI N f) (mI N g)= .ok (mI N fun i=>f i || g i):=by
 show R.ok (D.int (Builtin.bitOr (i4 N f:Int) (i4 N g:Int)))=_
 rw[yt,B5];rfl
theorem zt(N:Nat)(f g:M):AF (mI N f) (mI N g)= .ok (mI N fun i=>f i !=g i):=by
 show R.ok (D.int (Builtin.bitOr (i4 N f:Int) (i4 N g:Int) - Builtin.bitAnd (i4 N f:Int) (i4 N g:Int)))=_
 rw[yt,r9,B5,yy,zq];rfl
noncomputable def one:M:=fun _=>true
theorem wG(N:Nat)(f:M):AF (mI N one) (mI N f)= .ok (mI N fun i=>!f i):=by
 rw[zt]
 have:(fun i=>one i !=f i)=fun i=>!f i:=by funext i;unfold one;simp
 rw[this]
theorem CY(N:Nat)(f:M)(c:Bool):(if c then AF (mI N one) (mI N f) else .ok (mI N f))= .ok (mI N fun i=>f i !=c):=by
 cases c with
 | true=>
   rw[if_pos rfl,wG]
   have:(fun i=>!f i)=fun i=>f i !=true:=by funext i;cases f i <;> rfl
   rw[this]
 | false=>
   rw[if_neg (by decide)]
   have:f=fun i=>f i !=false:=by funext i;cases f i <;> rfl
   rw[←this]
theorem wm{N:Nat}{f:M}:i4 N f=0↔∀i,i < N→f i=false:=by
 constructor
 ·intro h i hi
  have:=ia N f i
  rw[h,Nat.zero_testBit,decide_eq_true hi,Bool.true_and] at this
  exact this.symm
 ·intro h
  refine Nat.eq_of_testBit_eq fun i=>?_
  rw[ia,Nat.zero_testBit]
  by_cases q:i < N
  ·rw[h i q];simp
  ·rw[decide_eq_false q];rfl
theorem JL(N:Nat)(f:M)(n:Nat):(oO (mI N f) (.int n)).bind (fun d=>AG d (.int 1))= .ok (.int (if decide (n < N) && f n then 1 else 0)):=by
 have h1:oO (mI N f) (.int n)= .ok (.int ((i4 N f / 2 ^ n:Nat):Int)):=by
  show R.cb (decide ((0:Int)≤n)) (.ok (D.int ((i4 N f:Int) / 2 ^ ((n:Int)).toNat)))=_
  rw[bR _ (by omega),Int.toNat_natCast]
  congr 2
 rw[h1,R.aH]
 show R.ok (D.int (Builtin.bitAnd ((i4 N f / 2 ^ n:Nat):Int) ((1:Nat):Int)))=_
 rw[r9,Nat.and_one_is_mod,←ia]
 congr 2
 unfold Nat.testBit
 rw[Nat.shiftRight_eq_div_pow,Nat.one_and_eq_mod_two]
 have:i4 N f / 2 ^ n % 2=0∨i4 N f / 2 ^ n % 2=1:=by omega
 rcases this with q | q <;> rw[q] <;> rfl
noncomputable def bI(b:Bool):D:= .int (if b then 1 else 0)
noncomputable def Dp:List Bool→Nat
 | []=>0
 | b ::bs=>(if b then 1 else 0)+2*Dp bs
theorem Dh:∀bs:List Bool,Dp bs=i4 bs.length fun i=>bs.getD i false
 | []=>rfl
 | b ::bs=>by
   unfold Dp
   rw[Dh bs]
   rfl
noncomputable def nI(n:Nat):D:= .int (n:Int)
noncomputable def kS:Nat→Str | 0=>Str.ofString "not" | 1=>Str.ofString "and" | 2=>Str.ofString "or" | 3=>Str.ofString "xor" | _=>Str.ofString "vote"
noncomputable def ar:Nat→Nat | 0=>1 | 4=>3 | _=>2
theorem vI(k:Nat):ar k≤3:=by unfold ar;split <;> omega
noncomputable def gv:Nat→List Bool→Bool
 | 0,[a]=>!a
 | 1,[a,b]=>a && b
 | 2,[a,b]=>a || b
 | 3,[a,b]=>a !=b
 | 4,[a,b,c]=>(a && b) || (a && c) || (b && c)
 | _,_=>false
noncomputable def iC(ws:List M)(n:Nat):M:=ws.getD n fun _=>false
theorem qd{ws:List M}{b:M}{n:Nat}(h:n < ws.length):iC (ws++[b]) n=iC ws n:=by
 unfold iC
 rw[List.getD_eq_getElem?_getD,List.getElem?_append_left h,List.getD_eq_getElem?_getD]
theorem qS(ws:List M)(b:M):iC (ws++[b]) ws.length=b:=by
 unfold iC
 rw[List.getD_eq_getElem?_getD,List.getElem?_append_right (Nat.le_refl _),Nat.sub_self]
 rfl
noncomputable abbrev Gt:=Nat × List Nat × Bool
noncomputable def gR(g:Gt):D:= .tup [.str (kS g.1), .tup (g.2.1.map nI), .bl g.2.2]
noncomputable def l_(n:Nat)(g:Gt):Prop:=g.1≤4∧g.2.1.length=ar g.1∧∀w∈g.2.1,w < n
noncomputable def inD(x:Str × Nat):D:= .tup [.str x.1,nI x.2]
noncomputable def xj(x:Str × List Nat):D:= .tup [.str x.1, .tup (x.2.map nI)]
noncomputable def bK(ins:List (Str × Nat))(gs:List Gt)(os:List (Str × List Nat)):D:= .tup [.lst (ins.map inD), .lst (gs.map gR), .lst (os.map xj)]
noncomputable def jh(ins:List (Str × Nat)):Nat:=(ins.map (·.2)).sum
noncomputable def gF(g:Gt)(ws:List M):M:=fun p=>gv g.1 (g.2.1.map fun n=>iC ws n p)
noncomputable def fK(bad:List Int)(b:M):Nat→List M→List M
 | 0,ws=>ws
 | n+1,ws=>fK bad b n ws++[fun p=>b p !=bad.contains ((fK bad b n ws).length:Int)]
theorem f_(bad:List Int)(b:M):∀n ws,(fK bad b n ws).length=ws.length+n
 | 0,ws=>rfl
 | n+1,ws=>by unfold fK;rw [List.length_append,f_ bad b n ws];rfl
noncomputable def cu(ins:List (Str × Nat))(bits:List M)(bad:List Int):Nat→List M
 | 0=>[]
 | i+1=>match ins[i]?,bits[i]? with | some x,some b=>fK bad b x.2 (cu ins bits bad i) | _,_=>cu ins bits bad i
theorem jY{ins:List (Str × Nat)}{bits:List M}{bad:List Int}(hb:bits.length=ins.length):∀i,i≤ins.length→(cu ins bits bad i).length=jh (ins.take i)
 | 0,_=>rfl
 | i+1,hi=>by
   have h1:ins[i]? =some ins[i]:=List.getElem?_eq_getElem (by omega)
   have h2:bits[i]? =some bits[i]:=List.getElem?_eq_getElem (by omega)
   unfold cu
   rw[h1,h2]
   show(fK bad bits[i] ins[i].2 (cu ins bits bad i)).length=_
   rw[f_,jY hb i (by omega),List.take_add_one,h1]
   unfold jh
   simp only[Option.toList_some,List.map_append,List.sum_append,List.map_cons,List.map_nil,List.sum_cons,List.sum_nil]
   omega
noncomputable def j7(gs:List Gt)(turned:List Int)(w0:List M):Nat→List M
 | 0=>w0
 | i+1=>match gs[i]? with | some g=>j7 gs turned w0 i++[fun p=>gF g (j7 gs turned w0 i) p !=turned.contains (i:Int)] | none=>j7 gs turned w0 i
theorem l6{gs:List Gt}{turned:List Int}{w0:List M}:∀i,i≤gs.length→(j7 gs turned w0 i).length=w0.length+i
 | 0,_=>rfl
 | i+1,hi=>by
   have h1:gs[i]? =some gs[i]:=List.getElem?_eq_getElem (by omega)
   unfold j7
   rw[h1]
   show(j7 gs turned w0 i++[_]).length=_
   rw[List.length_append,l6 i (by omega)]
   rfl
structure i9 (ins:List (Str × Nat)) (gs:List Gt) (os:List (Str × List Nat)):Prop where
 hi:ins.length < 100
 hw:∀x∈ins,x.2 < 100
 hg:gs.length < 1000
 g:∀(i:Nat) (x:Gt),gs[i]? =some x→l_ (jh ins+i) x
 ho:os.length < 1000
 o:∀x∈os,x.2.length < 1000∧∀w∈x.2,w < jh ins+gs.length
noncomputable def rj(ins:List (Str × Nat))(gs:List Gt)(bits:List M)(turned bad:List Int):List M:=j7 gs turned (cu ins bits bad ins.length) gs.length
theorem ue:∀{l:List (Str × Nat)},(∀x∈l,x.2 < 100)→jh l≤100*l.length
 | [],_=>by simp [jh]
 | x ::l,h=>by
   have ih:=ue (l:=l) fun y hy=>h y (List.mem_cons_of_mem _ hy)
   have:=h x List.mem_cons_self
   unfold jh at ih ⊢
   rw[List.map_cons,List.sum_cons,List.length_cons]
   omega
theorem vQ{ins:List (Str × Nat)}{gs:List Gt}{bits:List M}{turned bad:List Int}(hb:bits.length=ins.length):(rj ins gs bits turned bad).length=jh ins+gs.length:=by unfold rj;rw [l6 _ (Nat.le_refl _),jY hb _ (Nat.le_refl _),List.take_length]
noncomputable def tell(ws:List M)(x:Str × List Nat):List M:=x.2.map (iC ws)
noncomputable def H_:List Bool→Bool × Bool
 | [a]=>(!a,a)
 | [a,b]=>(!(a || b),a && b)
 | [a,b,c]=>let v:=(a && b) || (a && c) || (b && c);(!v,v)
 | _=>(false,false)
noncomputable def brk(safe:Bool)(x y:Bool × Bool):Bool:=if safe then(x.1 && y.2) || (x.2 && y.1) else(x.1 !=y.1) || (x.2 !=y.2)
theorem qo(i:Int)(ps:List Int):pZ (.int i) (.tup (ps.map .int))= .ok (.bl (ps.contains i)):=by
 show((match ints? (ps.map D.int) with | some ss=>R.ok (ss.contains i) | none=> .no)).bind (fun b=>R.ok (D.bl b))=_
 rw[L2.ints_map];rfl
theorem uF{ds:List D}{i:Nat}{v:V3}(h:((dH ds).map V3.d)[i]? =some v):∃d,ds[i]? =some d∧v= .d (.tup [.int i,d]):=by
 rw[List.getElem?_map,dH,List.getElem?_map,List.getElem?_zipIdx] at h
 cases q:ds[i]? with
 | none=>rw [q] at h;cases h
 | some d=>
   rw[q] at h
   simp at h
   exact⟨d,rfl,h.symm⟩
theorem uC{c:aw→R Bool}{f g:FD}{δ:aw}{b:Bool}{r:R D}(h:c δ= .ok b)(h2:(if b then f δ else g δ)=r):xc c f g δ=r:=by unfold xc;rw [h,R.aH];exact h2
theorem gI(S:aU)(x y:SO):(S++[x]).set S.length y=S++[y]:=by
 rw[List.set_append_right _ _ (Nat.le_refl _),Nat.sub_self];rfl
theorem bM(S:aU)(x:SO):(S++[x])[S.length]? =some x:=by rw[List.getElem?_append_right (Nat.le_refl _),Nat.sub_self];rfl
theorem Cy{N:Nat}{ws:List M}{n:Nat}(h:n < ws.length):cg (.lst (ws.map (mI N))) (nI n)= .ok (mI N (iC ws n)):=by
 refine NT.oh ?_
 rw[List.getElem?_map,List.getElem?_eq_getElem h]
 unfold iC
 rw[List.getD_eq_getElem?_getD,List.getElem?_eq_getElem h]
 rfl
end MT
namespace MT
open PySem PySem.Spec PyProof.Rows L2 L3
theorem fj{α:Type}{t:FG}{body:FZ}{S:aU}(g:α→V3)(f:α→Option V3)(E:DE→Prop):∀{xs:List α} {δ:DE},E δ→
 (∀x∈xs,∀δ,E δ→∃δ1,t (g x) δ=some δ1∧W3 (body δ1 S) fun o S1=>S1=S∧(match f x with | some v=>o= .rt v | none=>∃δ2,o= .nx δ2∧E δ2))→
 W3 (lQ t body (xs.map g) δ S) fun o S1=>S1=S∧(match xs.findSome? f with | some v=>o= .rt v | none=>∃δ2,o= .nx δ2∧E δ2)
 | [],δ,h0,_=>W3.ok ⟨rfl,δ,rfl,h0⟩
 | x ::xs,δ,h0,hs=>by
   obtain⟨δ1,e1,o,S1,e2,rfl,h2⟩:=hs x List.mem_cons_self δ h0
   rw[List.map_cons]
   unfold lQ
   rw[e1]
   refine W3.bind ⟨_,_,e2,?_⟩
   rw[List.findSome?_cons]
   cases hf:f x with
   | some v=>rw [hf] at h2;subst h2;exact W3.ok ⟨rfl,rfl⟩
   | none=>
     rw[hf] at h2
     obtain⟨δ2,rfl,h2⟩:=h2
     exact fj g f E h2 fun y hy=>hs y (List.mem_cons_of_mem _ hy)
noncomputable def iq:List Nat→Nat→List (List Nat)
 | _,0=>[[]]
 | ps,s+1=>(List.range ps.length).flatMap fun a=>(iq (ps.drop (a+1)) s).map (ps.getD a 0 ::·)
theorem qA:∀{s:Nat} {ps T:List Nat},T∈iq ps s→T.length=s∧∀x∈T,x∈ps
 | 0,ps,T,h=>by unfold iq at h;rw [List.mem_singleton.mp h];simp
 | s+1,ps,T,h=>by
   unfold iq at h
   obtain⟨a,ha,h⟩:=List.mem_flatMap.mp h
   obtain⟨R,hR,rfl⟩:=List.mem_map.mp h
   rw[List.mem_range] at ha
   obtain⟨h1,h2⟩:=qA hR
   refine⟨by simp [h1],fun x hx=>?_⟩
   rcases List.mem_cons.mp hx with rfl | hx
   ·rw[List.getD_eq_getElem?_getD,List.getElem?_eq_getElem ha];exact List.getElem_mem ha
   ·exact List.mem_of_mem_drop (h2 x hx)
theorem w6:∀{l:List Nat} {m:Nat},(∀x∈l,x≤m)→l.sum≤l.length*m
 | [],_,_=>by simp
 | x ::l,m,h=>by
   have:=w6 (l:=l) (m:=m) fun y hy=>h y (List.mem_cons_of_mem _ hy)
   have h0:=h x List.mem_cons_self
   rw[List.sum_cons,List.length_cons,Nat.add_mul]
   omega
theorem l0:∀{s:Nat} {ps:List Nat} {n:Nat},ps.length≤n→(iq ps s).length≤n ^ s
 | 0,ps,n,_=>by unfold iq;simp
 | s+1,ps,n,h=>by
   unfold iq
   rw[List.length_flatMap,Nat.pow_succ]
   refine Nat.le_trans (w6 (m:=n ^ s) fun x hx=>?_) ?_
   ·obtain⟨a,_,rfl⟩:=List.mem_map.mp hx
    rw[List.length_map]
    exact l0 (by rw[List.length_drop];omega)
   ·rw[List.length_map,List.length_range,Nat.mul_comm]
    exact Nat.mul_le_mul_left _ h
theorem uk{F G:FZ}{δ:DE}{S:aU}{QO:Ou→aU→Prop}(h:W3 (F δ S) fun o S1=>match o with | .nx δ1=>W3 (G δ1 S1) QO | .rt v=>QO (.rt v) S1):W3 (bG F G δ S) QO:=
 W3.bind (h.mono fun o S1 q=>by cases o with | nx δ1=>exact q | rt v=>exact W3.ok q)
end MT
end
section
set_option Elab.async false
set_option linter.all false
set_option maxRecDepth 100000
set_option maxHeartbeats 4000000
namespace K14
open PySem PySem.Spec PyProof.Rows L2 L3
noncomputable def top(i:Nat):Stmt:=PySem.Challenge.pw_bearfaults_k14_faults_by_trial.main.body.getD i (.Pass ⟨0,0,0,0⟩)
structure Tp (K:PySem.W.Frag) (mg:Str→Option Value) (cl:Nat→Addr):Prop where
 z_enumerate:mg (Str.ofString "enumerate")=none
 z_range:mg (Str.ofString "range")=none
 z_len:mg (Str.ofString "len")=none
 z_tuple:mg (Str.ofString "tuple")=none
 z_reversed:mg (Str.ofString "reversed")=none
 z_zip:mg (Str.ofString "zip")=none
 z_abs:mg (Str.ofString "abs")=none
 z_min:mg (Str.ofString "min")=none
 z_max:mg (Str.ofString "max")=none
 z_sum:mg (Str.ofString "sum")=none
 z_int:mg (Str.ofString "int")=none
 z_isinstance:mg (Str.ofString "isinstance")=none
 z_bool:mg (Str.ofString "bool")=none
 z_str:mg (Str.ofString "str")=none
 z_list:mg (Str.ofString "list")=none
 C_Bench:u0 K (cl 0)
 N_Bench_net:dk K (cl 0) (Str.ofString "net")
 N_Bench_many_inputs:dk K (cl 0) (Str.ofString "many_inputs")
 N_Bench_full:dk K (cl 0) (Str.ofString "full")
 N_Bench_in_masks:dk K (cl 0) (Str.ofString "in_masks")
 M_Bench:mg (Str.ofString "Bench")=some (.ref (cl 0))
 C_Trial:u0 K (cl 1)
 N_Trial_bench:dk K (cl 1) (Str.ofString "bench")
 N_Trial_plain:dk K (cl 1) (Str.ofString "plain")
 N_Trial_unsure:dk K (cl 1) (Str.ofString "unsure")
 M_Trial:mg (Str.ofString "Trial")=some (.ref (cl 1))
noncomputable abbrev fF:Stmt:=top 2
noncomputable abbrev sR:List Str:=[(Str.ofString "masks")]
noncomputable def xx:{b:List Stmt // ak fF=b}:=by
 have e:ak fF=ak fF:=rfl
 conv at e=>rhs;whnf
 exact⟨_,e⟩
noncomputable def rJ:{b:Scope // af fF=b}:=by
 have e:af fF=af fF:=rfl
 conv at e=>rhs;whnf
 exact⟨_,e⟩
theorem Ab:aZ sR [(Str.ofString "masks")] rJ.1:=⟨rfl,rfl,rfl,by decide+kernel,rfl,by decide+kernel,by decide+kernel⟩
noncomputable def sM:FS:=(cQ (e2 Dq (e2 Dq (e2 AG (e2 cg (ae 0) (eC (.int 0))) (e2 cg (ae 0) (eC (.int 1)))) (e2 AG (e2 cg (ae 0) (eC (.int 0))) (e2 cg (ae 0) (eC (.int 2))))) (e2 AG (e2 cg (ae 0) (eC (.int 1))) (e2 cg (ae 0) (eC (.int 2))))))
noncomputable def gd:List D→R D:=lL sR sM
theorem Ap{P:Program}{w:World}{K:PySem.W.Frag}{mg:Str→Option Value}{base:Heap}{cl:Nat→Addr}(T:Tp K mg cl)(h:Def K mg (Str.ofString "vote_of") fF):Callee P w K mg base 1 (Str.ofString "vote_of") 1 gd:=by
 obtain⟨f,fd,F,hm⟩:=h
 exact⟨f,fd,_,cj (k:=0) xx.2 rJ.2 F Ab (fun cdv A outer s H E hr=>(aF (ba (aL vq (aL vq (aL vZ (az (aa 0) ag (fun _ _=>rfl)) (az (aa 0) ag (fun _ _=>rfl))) (aL vZ (az (aa 0) ag (fun _ _=>rfl)) (az (aa 0) ag (fun _ _=>rfl)))) (aL vZ (az (aa 0) ag (fun _ _=>rfl)) (az (aa 0) ag (fun _ _=>rfl))))))),hm,F.kp,F.binds fun _ _ _ _ _ _ us hl=>match us,hl with | [_],_=>rfl⟩
noncomputable abbrev dI:Stmt:=top 3
noncomputable abbrev k7:List Str:=[(Str.ofString "kind"),(Str.ofString "masks"),(Str.ofString "full")]
noncomputable def ud:{b:List Stmt // ak dI=b}:=by
 have e:ak dI=ak dI:=rfl
 conv at e=>rhs;whnf
 exact⟨_,e⟩
noncomputable def n_:{b:Scope // af dI=b}:=by
 have e:af dI=af dI:=rfl
 conv at e=>rhs;whnf
 exact⟨_,e⟩
theorem wM:aZ k7 [(Str.ofString "kind"),(Str.ofString "masks"),(Str.ofString "full")] n_.1:=⟨rfl,rfl,rfl,by decide+kernel,rfl,by decide+kernel,by decide+kernel⟩
noncomputable def pL:FS:=(cK (k4 (b2 iV (ae 0) (eC (.str (Str.ofString "not")))) (cQ (e2 AF (ae 2) (e2 cg (ae 1) (eC (.int 0))))) fO) (cK (k4 (b2 iV (ae 0) (eC (.str (Str.ofString "and")))) (cQ (e2 AG (e2 cg (ae 1) (eC (.int 0))) (e2 cg (ae 1) (eC (.int 1))))) fO) (cK (k4 (b2 iV (ae 0) (eC (.str (Str.ofString "or")))) (cQ (e2 Dq (e2 cg (ae 1) (eC (.int 0))) (e2 cg (ae 1) (eC (.int 1))))) fO) (cK (k4 (b2 iV (ae 0) (eC (.str (Str.ofString "xor")))) (cQ (e2 AF (e2 cg (ae 1) (eC (.int 0))) (e2 cg (ae 1) (eC (.int 1))))) fO) (cQ (aG gd (aq (ae 1) aD)))))))
noncomputable def f9:List D→R D:=lL k7 pL
theorem vJ{P:Program}{w:World}{K:PySem.W.Frag}{mg:Str→Option Value}{base:Heap}{cl:Nat→Addr}(T:Tp K mg cl)(h:Def K mg (Str.ofString "gate_mask") dI)(C_vote_of:Callee P w K mg base 1 (Str.ofString "vote_of") 1 gd):Callee P w K mg base 2 (Str.ofString "gate_mask") 3 f9:=by
 obtain⟨f,fd,F,hm⟩:=h
 exact⟨f,fd,_,cj (k:=1) ud.2 n_.2 F wM (fun cdv A outer s H E hr=>(aQ (cE (bt (g8 hr.units) (aa 0) bu (bF _)) (aF (ba (aL wK (aa 2) (az (aa 1) ag (fun _ _=>rfl))))) ck) (aQ (cE (bt (g8 hr.units) (aa 0) bu (bF _)) (aF (ba (aL vZ (az (aa 1) ag (fun _ _=>rfl)) (az (aa 1) ag (fun _ _=>rfl))))) ck) (aQ (cE (bt (g8 hr.units) (aa 0) bu (bF _)) (aF (ba (aL vq (az (aa 1) ag (fun _ _=>rfl)) (az (aa 1) ag (fun _ _=>rfl))))) ck) (aQ (cE (bt (g8 hr.units) (aa 0) bu (bF _)) (aF (ba (aL wK (az (aa 1) ag (fun _ _=>rfl)) (az (aa 1) ag (fun _ _=>rfl))))) ck) (aF (ba (bJ C_vote_of hr (by decide) rfl (ab (aa 1) ah) (aC bX))))))))),hm,F.kp,F.binds fun _ _ _ _ _ _ us hl=>match us,hl with | [_,_,_],_=>rfl⟩
noncomputable abbrev cq:Stmt:=top 4
noncomputable abbrev fV:List Str:=[(Str.ofString "ins"),(Str.ofString "in_masks"),(Str.ofString "full"),(Str.ofString "bad"),(Str.ofString "wires"),(Str.ofString "place"),(Str.ofString "mask"),(Str.ofString "figure")]
noncomputable def oI:{b:List Stmt // ak cq=b}:=by
 have e:ak cq=ak cq:=rfl
 conv at e=>rhs;whnf
 exact⟨_,e⟩
noncomputable def jW:{b:Scope // af cq=b}:=by
 have e:af cq=af cq:=rfl
 conv at e=>rhs;whnf
 exact⟨_,e⟩
theorem eJ:aZ fV [(Str.ofString "ins"),(Str.ofString "in_masks"),(Str.ofString "full"),(Str.ofString "bad")] jW.1:=⟨rfl,rfl,rfl,by decide+kernel,rfl,by decide+kernel,by decide+kernel⟩
noncomputable def gG:FZ:=(j4 4 (xT (xc (b2 pZ (aG cP (aq (ae 4) aD)) (ae 3)) (e2 AF (ae 2) (ae 6)) (ae 6))))
noncomputable def jm:FZ:=(ja (iP (d5 (e2 cg (e2 cg (ae 0) (ae 5)) (eC (.int 1))))) (ju 7) gG)
noncomputable def iy:FZ:=(bG (cC 4 (nY (dX aD))) (bG (ja (iP (yL (ae 1))) (uW 2 (sv (ju 5) (sv (ju 6) xH))) jm) (ij (bO 4))))
noncomputable def di:List V3→aU→R3 V3:=md fV iy
noncomputable def oG:List V3→aU→R3 V3:=nF fV iy
theorem qb{P:Program}{w:World}{K:PySem.W.Frag}{mg:Str→Option Value}{base:Heap}{cl:Nat→Addr}(T:Tp K mg cl)(h:Def K mg (Str.ofString "in_wire_masks") cq):aI P w K mg base cl 1 (Str.ofString "in_wire_masks") 4 di:=by
 obtain⟨f,fd,F,hm⟩:=h
 exact⟨f,fd,_,cm (k:=0) oI.2 jW.2 F eJ (fun cdv A outer s H E hr=>(av (bo eJ.nd rfl (Or.inl rfl) (ix (bW ah))) (av (dS PassesOwn.never rfl (cH (xS (aa 1) rfl T.z_enumerate)) (lY rfl (dv (bq eJ.nd rfl (Or.inl rfl)) (dv (bq eJ.nd rfl (Or.inl rfl)) jX))) (aP (dS PassesOwn.never rfl (cH (bY (az (az (aa 0) (aa 5) (fun _ _=>rfl)) ag (fun _ _=>rfl)) rfl T.z_range)) (bq eJ.nd rfl (Or.inl rfl)) (aP (gT rfl (Or.inl rfl) (cF (yg (bt zX (aO df rfl T.z_len PySem.boot_len (ab (aa 4) ah)) (aa 3) (by with_unfolding_all rfl)) (aL wK (aa 2) (aa 6)) (aa 6)))))))) (aP (c_ (aT 4)))))),hm,F.kp,F.binds fun _ _ _ _ _ _ us hl=>match us,hl with | [_,_,_,_],_=>rfl⟩
noncomputable abbrev el:Stmt:=top 5
noncomputable abbrev mP:List Str:=[(Str.ofString "wires"),(Str.ofString "numbers")]
noncomputable def wF:{b:List Stmt // ak el=b}:=by
 have e:ak el=ak el:=rfl
 conv at e=>rhs;whnf
 exact⟨_,e⟩
noncomputable def lP:{b:Scope // af el=b}:=by
 have e:af el=af el:=rfl
 conv at e=>rhs;whnf
 exact⟨_,e⟩
theorem yd:aZ mP [(Str.ofString "wires"),(Str.ofString "numbers")] lP.1:=⟨rfl,rfl,rfl,by decide+kernel,rfl,by decide+kernel,by decide+kernel⟩
noncomputable def rH:FS:=(cQ (aG fY (aq (eNew (gO (eZ (ae 1)) (aV 0) rV (e2 cg (ae 1) (ae 0)) [(Str.ofString "number")] [0])) aD)))
noncomputable def fq:List D→R D:=lL mP rH
theorem xE{P:Program}{w:World}{K:PySem.W.Frag}{mg:Str→Option Value}{base:Heap}{cl:Nat→Addr}(T:Tp K mg cl)(h:Def K mg (Str.ofString "masks_at") el):Callee P w K mg base 1 (Str.ofString "masks_at") 2 fq:=by
 obtain⟨f,fd,F,hm⟩:=h
 exact⟨f,fd,_,cj (k:=0) wF.2 lP.2 F yd (fun cdv A outer s H E hr=>(aF (ba (dj qi rfl T.z_tuple PyProof.Rows.boot_tuple (ab (cn (eT rfl (cD.of (own:=[(Str.ofString "number")]) (kp:=[0]) (kn:=[(Str.ofString "wires")]) (sc:=lP.1) (N:=mP) rfl rfl (by decide+kernel)) (cO (aa 1)) (fun _ _ _=>(bj (show List.Nodup [(Str.ofString "number"),(Str.ofString "wires")] from by decide+kernel) rfl (Or.inl rfl))) (fun _ _ _=>gf) (fun _ _ _=>(az (aa 1) (aa 0) (fun _ _=>rfl))))) ah))))),hm,F.kp,F.binds fun _ _ _ _ _ _ us hl=>match us,hl with | [_,_],_=>rfl⟩
noncomputable abbrev dc:Stmt:=top 6
noncomputable abbrev iI:List Str:=[(Str.ofString "net"),(Str.ofString "in_masks"),(Str.ofString "full"),(Str.ofString "turned"),(Str.ofString "bad"),(Str.ofString "wires"),(Str.ofString "place"),(Str.ofString "gate"),(Str.ofString "mask")]
noncomputable def su:{b:List Stmt // ak dc=b}:=by
 have e:ak dc=ak dc:=rfl
 conv at e=>rhs;whnf
 exact⟨_,e⟩
noncomputable def mh:{b:Scope // af dc=b}:=by
 have e:af dc=af dc:=rfl
 conv at e=>rhs;whnf
 exact⟨_,e⟩
theorem gn:aZ iI [(Str.ofString "net"),(Str.ofString "in_masks"),(Str.ofString "full"),(Str.ofString "turned"),(Str.ofString "bad")] mh.1:=⟨rfl,rfl,rfl,by decide+kernel,rfl,by decide+kernel,by decide+kernel⟩
noncomputable def iY:FZ:=(bG (cC 8 (xT (aG f9 (aq (e2 cg (ae 7) (eC (.int 0))) (aq (aG fq (aq (ae 5) (aq (e2 cg (ae 7) (eC (.int 1))) aD))) (aq (ae 2) aD)))))) (j4 5 (xP (xc (b2 pZ (ae 6) (ae 3)) (e2 AF (ae 2) (ae 8)) (ae 8)))))
noncomputable def kf:FZ:=(bG (cC 5 (b_ di (ax (xP (e2 cg (ae 0) (eC (.int 0)))) (ax (xP (ae 1)) (ax (xP (ae 2)) (ax (xP (ae 4)) cw)))))) (bG (ja (iP (jb (e2 cg (ae 0) (eC (.int 1))))) (uW 2 (sv (ju 6) (sv (ju 7) xH))) iY) (ij (bO 5))))
noncomputable def mD:List V3→aU→R3 V3:=md iI kf
noncomputable def fS:List V3→aU→R3 V3:=nF iI kf
theorem uO{P:Program}{w:World}{K:PySem.W.Frag}{mg:Str→Option Value}{base:Heap}{cl:Nat→Addr}(T:Tp K mg cl)(h:Def K mg (Str.ofString "wire_masks") dc)(C_masks_at:Callee P w K mg base 1 (Str.ofString "masks_at") 2 fq)(C_gate_mask:Callee P w K mg base 2 (Str.ofString "gate_mask") 3 f9)(XK_in_wire_masks:aI P w K mg base cl 1 (Str.ofString "in_wire_masks") 4 di):aI P w K mg base cl 3 (Str.ofString "wire_masks") 5 mD:=by
 obtain⟨f,fd,F,hm⟩:=h
 exact⟨f,fd,_,cm (k:=2) su.2 mh.2 F gn (fun cdv A outer s H E hr=>(av (bo gn.nd rfl (Or.inl rfl) (bC XK_in_wire_masks hr (by decide) rfl (aj (au (az (aa 0) ag (fun _ _=>rfl))) (aj (au (aa 1)) (aj (au (aa 2)) (aj (au (aa 4)) aS)))) (ai (ai (ai (ai aN)))))) (av (dS PassesOwn.never rfl (cH (l9 (az (aa 0) ag (fun _ _=>rfl)) rfl T.z_enumerate)) (lY rfl (dv (bq gn.nd rfl (Or.inl rfl)) (dv (bq gn.nd rfl (Or.inl rfl)) jX))) (av (bo gn.nd rfl (Or.inl rfl) (cF (bJ C_gate_mask hr (by decide) rfl (ab (az (aa 7) ag (fun _ _=>rfl)) (ab (bJ C_masks_at hr (by decide) rfl (ab (aa 5) (ab (az (aa 7) ag (fun _ _=>rfl)) ah)) (aC (aC bX))) (ab (aa 2) ah))) (aC (aC (aC bX)))))) (aP (gT rfl (Or.inl rfl) (au (yg (bt zX (aa 6) (aa 3) (by with_unfolding_all rfl)) (aL wK (aa 2) (aa 8)) (aa 8))))))) (aP (c_ (aT 5)))))),hm,F.kp,F.binds fun _ _ _ _ _ _ us hl=>match us,hl with | [_,_,_,_,_],_=>rfl⟩
noncomputable abbrev dF:Stmt:=top 7
noncomputable abbrev ic:List Str:=[(Str.ofString "net"),(Str.ofString "wires")]
noncomputable def uc:{b:List Stmt // ak dF=b}:=by
 have e:ak dF=ak dF:=rfl
 conv at e=>rhs;whnf
 exact⟨_,e⟩
noncomputable def ku:{b:Scope // af dF=b}:=by
 have e:af dF=af dF:=rfl
 conv at e=>rhs;whnf
 exact⟨_,e⟩
theorem vV:aZ ic [(Str.ofString "net"),(Str.ofString "wires")] ku.1:=⟨rfl,rfl,rfl,by decide+kernel,rfl,by decide+kernel,by decide+kernel⟩
noncomputable def lp:FZ:=(ij (nY (gO (eZ (e2 cg (ae 0) (eC (.int 2)))) (gL 2 (cJ (aV 0) (cJ (aV 1) gQ))) rV (aG fq (aq (ae 2) (aq (ae 1) aD))) [(Str.ofString "name"),(Str.ofString "numbers")] [1])))
noncomputable def nU:List V3→aU→R3 V3:=md ic lp
noncomputable def gz:List V3→aU→R3 V3:=nF ic lp
theorem vt{P:Program}{w:World}{K:PySem.W.Frag}{mg:Str→Option Value}{base:Heap}{cl:Nat→Addr}(T:Tp K mg cl)(h:Def K mg (Str.ofString "out_masks") dF)(C_masks_at:Callee P w K mg base 1 (Str.ofString "masks_at") 2 fq):aI P w K mg base cl 2 (Str.ofString "out_masks") 2 nU:=by
 obtain⟨f,fd,F,hm⟩:=h
 exact⟨f,fd,_,cm (k:=1) uc.2 ku.2 F vV (fun cdv A outer s H E hr=>(aP (c_ (ix (eT rfl (cD.of (own:=[(Str.ofString "name"),(Str.ofString "numbers")]) (kp:=[1]) (kn:=[(Str.ofString "wires")]) (sc:=ku.1) (N:=ic) rfl rfl (by decide+kernel)) (cO (az (aa 0) ag (fun _ _=>rfl))) (fun _ _ _=>(lN rfl (dm (bj (show List.Nodup [(Str.ofString "name"),(Str.ofString "numbers"),(Str.ofString "wires")] from by decide+kernel) rfl (Or.inl rfl)) (dm (bj (show List.Nodup [(Str.ofString "name"),(Str.ofString "numbers"),(Str.ofString "wires")] from by decide+kernel) rfl (Or.inl rfl)) jV)))) (fun _ _ _=>gf) (fun _ _ _=>(bJ C_masks_at hr (by decide) rfl (ab (aa 2) (ab (aa 1) ah)) (aC (aC bX))))))))),hm,F.kp,F.binds fun _ _ _ _ _ _ us hl=>match us,hl with | [_,_],_=>rfl⟩
noncomputable abbrev fH:Stmt:=top 8
noncomputable abbrev l7:List Str:=[(Str.ofString "masks"),(Str.ofString "full"),(Str.ofString "ones")]
noncomputable def x_:{b:List Stmt // ak fH=b}:=by
 have e:ak fH=ak fH:=rfl
 conv at e=>rhs;whnf
 exact⟨_,e⟩
noncomputable def rg:{b:Scope // af fH=b}:=by
 have e:af fH=af fH:=rfl
 conv at e=>rhs;whnf
 exact⟨_,e⟩
theorem sT:aZ l7 [(Str.ofString "masks"),(Str.ofString "full")] rg.1:=⟨rfl,rfl,rfl,by decide+kernel,rfl,by decide+kernel,by decide+kernel⟩
noncomputable def sO:FS:=(cK (k4 (b2 iV (aG cP (aq (ae 0) aD)) (eC (.int 2))) (cQ (dM (aq (e2 AF (ae 1) (e2 Dq (e2 cg (ae 0) (eC (.int 0))) (e2 cg (ae 0) (eC (.int 1))))) (aq (e2 AG (e2 cg (ae 0) (eC (.int 0))) (e2 cg (ae 0) (eC (.int 1)))) aD)))) fO) (cK (ig 2 (xc (b2 iV (aG cP (aq (ae 0) aD)) (eC (.int 1))) (e2 cg (ae 0) (eC (.int 0))) (aG gd (aq (ae 0) aD)))) (cQ (dM (aq (e2 AF (ae 1) (ae 2)) (aq (ae 2) aD))))))
noncomputable def iR:List D→R D:=lL l7 sO
theorem Aq{P:Program}{w:World}{K:PySem.W.Frag}{mg:Str→Option Value}{base:Heap}{cl:Nat→Addr}(T:Tp K mg cl)(h:Def K mg (Str.ofString "reading") fH)(C_vote_of:Callee P w K mg base 1 (Str.ofString "vote_of") 1 gd):Callee P w K mg base 2 (Str.ofString "reading") 2 iR:=by
 obtain⟨f,fd,F,hm⟩:=h
 exact⟨f,fd,_,cj (k:=1) x_.2 rg.2 F sT (fun cdv A outer s H E hr=>(aQ (cE (bt (g8 hr.units) (aO df rfl T.z_len PySem.boot_len (ab (aa 0) ah)) ag (bF _)) (aF (ba (bV (ab (aL wK (aa 1) (aL vq (az (aa 0) ag (fun _ _=>rfl)) (az (aa 0) ag (fun _ _=>rfl)))) (ab (aL vZ (az (aa 0) ag (fun _ _=>rfl)) (az (aa 0) ag (fun _ _=>rfl))) ah))))) ck) (aQ (d9 sT.nd rfl (Or.inl rfl) (yg (bt (g8 hr.units) (aO df rfl T.z_len PySem.boot_len (ab (aa 0) ah)) ag (bF _)) (az (aa 0) ag (fun _ _=>rfl)) (bJ C_vote_of hr (by decide) rfl (ab (aa 0) ah) (aC bX)))) (aF (ba (bV (ab (aL wK (aa 1) (aa 2)) (ab (aa 2) ah)))))))),hm,F.kp,F.binds fun _ _ _ _ _ _ us hl=>match us,hl with | [_,_],_=>rfl⟩
noncomputable abbrev gy:Stmt:=top 9
noncomputable abbrev wo:List Str:=[(Str.ofString "mask"),(Str.ofString "number")]
noncomputable def Ar:{b:List Stmt // ak gy=b}:=by
 have e:ak gy=ak gy:=rfl
 conv at e=>rhs;whnf
 exact⟨_,e⟩
noncomputable def sQ:{b:Scope // af gy=b}:=by
 have e:af gy=af gy:=rfl
 conv at e=>rhs;whnf
 exact⟨_,e⟩
theorem AV:aZ wo [(Str.ofString "mask"),(Str.ofString "number")] sQ.1:=⟨rfl,rfl,rfl,by decide+kernel,rfl,by decide+kernel,by decide+kernel⟩
noncomputable def vS:FS:=(cQ (e2 AG (e2 oO (ae 0) (ae 1)) (eC (.int 1))))
noncomputable def jU:List D→R D:=lL wo vS
theorem Bd{P:Program}{w:World}{K:PySem.W.Frag}{mg:Str→Option Value}{base:Heap}{cl:Nat→Addr}(T:Tp K mg cl)(h:Def K mg (Str.ofString "bit_at") gy):Callee P w K mg base 1 (Str.ofString "bit_at") 2 jU:=by
 obtain⟨f,fd,F,hm⟩:=h
 exact⟨f,fd,_,cj (k:=0) Ar.2 sQ.2 F AV (fun cdv A outer s H E hr=>(aF (ba (aL vZ (aL Iy (aa 0) (aa 1)) ag)))),hm,F.kp,F.binds fun _ _ _ _ _ _ us hl=>match us,hl with | [_,_],_=>rfl⟩
noncomputable abbrev de:Stmt:=top 10
noncomputable abbrev iM:List Str:=[(Str.ofString "count"),(Str.ofString "inputs"),(Str.ofString "place"),(Str.ofString "longer"),(Str.ofString "bits")]
noncomputable def sk:{b:List Stmt // ak de=b}:=by
 have e:ak de=ak de:=rfl
 conv at e=>rhs;whnf
 exact⟨_,e⟩
noncomputable def mz:{b:Scope // af de=b}:=by
 have e:af de=af de:=rfl
 conv at e=>rhs;whnf
 exact⟨_,e⟩
theorem fu:aZ iM [(Str.ofString "count")] mz.1:=⟨rfl,rfl,rfl,by decide+kernel,rfl,by decide+kernel,by decide+kernel⟩
noncomputable def lK:FZ:=(bG (j4 3 (xP (e2 iB (ae 4) (dM (aq (eC (.int 0)) aD))))) (j4 3 (xP (e2 iB (ae 4) (dM (aq (eC (.int 1)) aD))))))
noncomputable def k9:FZ:=(CC 1 (bG (cC 3 (nY (dX aD))) (bG (ja (iP (eZ (ae 1))) (ju 4) lK) (cC 1 (bO 3)))))
noncomputable def km:FZ:=(bG (cC 1 (nY (dX (aq (dM aD) aD)))) (bG (ja (iP (d5 (ae 0))) (ju 2) k9) (ij (bO 1))))
noncomputable def mm:List V3→aU→R3 V3:=md iM km
noncomputable def fN:List V3→aU→R3 V3:=nF iM km
theorem ui{P:Program}{w:World}{K:PySem.W.Frag}{mg:Str→Option Value}{base:Heap}{cl:Nat→Addr}(T:Tp K mg cl)(h:Def K mg (Str.ofString "all_inputs") de):aI P w K mg base cl 1 (Str.ofString "all_inputs") 1 mm:=by
 obtain⟨f,fd,F,hm⟩:=h
 exact⟨f,fd,_,cm (k:=0) sk.2 mz.2 F fu (fun cdv A outer s H E hr=>(av (bo fu.nd rfl (Or.inl rfl) (ix (bW (ab (bV ah) ah)))) (av (dS PassesOwn.never rfl (cH (bY (aa 0) rfl T.z_range)) (bq fu.nd rfl (Or.inl rfl)) (DW 1 (av (bo fu.nd rfl (Or.inl rfl) (ix (bW ah))) (av (dS PassesOwn.never rfl (cH (cO (aa 1))) (bq fu.nd rfl (Or.inl rfl)) (av (gT rfl (Or.inl rfl) (au (aL j_ (aa 4) (bV (ab ag ah))))) (aP (gT rfl (Or.inl rfl) (au (aL j_ (aa 4) (bV (ab ag ah)))))))) (aP (bo fu.nd rfl (Or.inl rfl) (aT 3))))))) (aP (c_ (aT 1)))))),hm,F.kp,F.binds fun _ _ _ _ _ _ us hl=>match us,hl with | [_],_=>rfl⟩
noncomputable abbrev fA:Stmt:=top 11
noncomputable abbrev o5:List Str:=[(Str.ofString "bits"),(Str.ofString "mask"),(Str.ofString "bit")]
noncomputable def xU:{b:List Stmt // ak fA=b}:=by
 have e:ak fA=ak fA:=rfl
 conv at e=>rhs;whnf
 exact⟨_,e⟩
noncomputable def rB:{b:Scope // af fA=b}:=by
 have e:af fA=af fA:=rfl
 conv at e=>rhs;whnf
 exact⟨_,e⟩
theorem lW:aZ o5 [(Str.ofString "bits")] rB.1:=⟨rfl,rfl,rfl,by decide+kernel,rfl,by decide+kernel,by decide+kernel⟩
noncomputable def lM:FS:=(ig 1 (e2 eG (e2 mT (ae 1) (eC (.int 2))) (ae 2)))
noncomputable def tU:FS:=(cK (ig 1 (eC (.int 0))) (cK (nq (FN (ae 0)) (aV 2) lM) (cQ (ae 1))))
noncomputable def f7:List D→R D:=lL o5 tU
theorem Ac{P:Program}{w:World}{K:PySem.W.Frag}{mg:Str→Option Value}{base:Heap}{cl:Nat→Addr}(T:Tp K mg cl)(h:Def K mg (Str.ofString "mask_of") fA):Callee P w K mg base 1 (Str.ofString "mask_of") 1 f7:=by
 obtain⟨f,fd,F,hm⟩:=h
 exact⟨f,fd,_,cj (k:=0) xU.2 rB.2 F lW (fun cdv A outer s H E hr=>(aQ (d9 lW.nd rfl (Or.inl rfl) ag) (aQ (eR PassesOwn.never rfl (BW (aa 0) rfl T.z_reversed) (bj lW.nd rfl (Or.inl rfl)) (aF (d9 lW.nd rfl (Or.inl rfl) (aL gp (aL wX (aa 1) ag) (aa 2))))) (aF (ba (aa 1)))))),hm,F.kp,F.binds fun _ _ _ _ _ _ us hl=>match us,hl with | [_],_=>rfl⟩
noncomputable abbrev fw:Stmt:=top 12
noncomputable abbrev oT:List Str:=[(Str.ofString "inputs"),(Str.ofString "place")]
noncomputable def xW:{b:List Stmt // ak fw=b}:=by
 have e:ak fw=ak fw:=rfl
 conv at e=>rhs;whnf
 exact⟨_,e⟩
noncomputable def m6:{b:Scope // af fw=b}:=by
 have e:af fw=af fw:=rfl
 conv at e=>rhs;whnf
 exact⟨_,e⟩
theorem zG:aZ oT [(Str.ofString "inputs"),(Str.ofString "place")] m6.1:=⟨rfl,rfl,rfl,by decide+kernel,rfl,by decide+kernel,by decide+kernel⟩
noncomputable def tJ:FS:=(cQ (aG f7 (aq (eNew (gO (eZ (ae 0)) (aV 0) rV (e2 cg (ae 0) (ae 1)) [(Str.ofString "bits")] [1])) aD)))
noncomputable def iS:List D→R D:=lL oT tJ
theorem Ao{P:Program}{w:World}{K:PySem.W.Frag}{mg:Str→Option Value}{base:Heap}{cl:Nat→Addr}(T:Tp K mg cl)(h:Def K mg (Str.ofString "in_mask") fw)(C_mask_of:Callee P w K mg base 1 (Str.ofString "mask_of") 1 f7):Callee P w K mg base 2 (Str.ofString "in_mask") 2 iS:=by
 obtain⟨f,fd,F,hm⟩:=h
 exact⟨f,fd,_,cj (k:=1) xW.2 m6.2 F zG (fun cdv A outer s H E hr=>(aF (ba (bJ C_mask_of hr (by decide) rfl (ab (cn (eT rfl (cD.of (own:=[(Str.ofString "bits")]) (kp:=[1]) (kn:=[(Str.ofString "place")]) (sc:=m6.1) (N:=oT) rfl rfl (by decide+kernel)) (cO (aa 0)) (fun _ _ _=>(bj (show List.Nodup [(Str.ofString "bits"),(Str.ofString "place")] from by decide+kernel) rfl (Or.inl rfl))) (fun _ _ _=>gf) (fun _ _ _=>(az (aa 0) (aa 1) (fun _ _=>rfl))))) ah) (aC bX))))),hm,F.kp,F.binds fun _ _ _ _ _ _ us hl=>match us,hl with | [_,_],_=>rfl⟩
noncomputable abbrev fI:Stmt:=top 15
noncomputable abbrev j0:List Str:=[(Str.ofString "places"),(Str.ofString "size"),(Str.ofString "found"),(Str.ofString "ahead"),(Str.ofString "place"),(Str.ofString "rest")]
noncomputable def xM:{b:List Stmt // ak fI=b}:=by
 have e:ak fI=ak fI:=rfl
 conv at e=>rhs;whnf
 exact⟨_,e⟩
noncomputable def qu:{b:Scope // af fI=b}:=by
 have e:af fI=af fI:=rfl
 conv at e=>rhs;whnf
 exact⟨_,e⟩
theorem jS:aZ j0 [(Str.ofString "places"),(Str.ofString "size")] qu.1:=⟨rfl,rfl,rfl,by decide+kernel,rfl,by decide+kernel,by decide+kernel⟩
noncomputable def lR(self:List D→R D):FS:=(mN 2 (e2 iB (dM (aq (ae 4) aD)) (ae 5)))
noncomputable def lC(self:List D→R D):FS:=(nq (eZ (aG self (aq (xV (ae 0) (iF (e2 iB (ae 3) (eC (.int 1)))) kP) (aq (e2 jG (ae 1) (eC (.int 1))) aD)))) (aV 5) (lR self))
noncomputable def j6(self:List D→R D):FS:=(cK (k4 (b2 iV (ae 1) (eC (.int 0))) (cQ (eNew (dX (aq (dM aD) aD)))) fO) (cK (nj 2 (dX aD)) (cK (nq (jb (ae 0)) (gL 2 (cJ (aV 3) (cJ (aV 4) gQ))) (lC self)) (oU 2 (cQ (ae 2))))))
noncomputable def d3:Nat→List D→R D
 | 0=>fun _=> .no
 | n+1=>lL j0 (j6 (d3 n))
theorem tM{P:Program}{w:World}{K:PySem.W.Frag}{mg:Str→Option Value}{base:Heap}{cl:Nat→Addr}(T:Tp K mg cl)(h:Def K mg (Str.ofString "choices") fI):∀n,Callee P w K mg base (1+n) (Str.ofString "choices") 2 (d3 n)
 | 0=>by
   obtain⟨f,fd,F,hm⟩:=h
   exact⟨f,fd,[(Str.ofString "places"),(Str.ofString "size")],FH,hm,F.kp,F.binds fun _ _ _ _ _ _ us hl=>match us,hl with | [_,_],_=>rfl⟩
 | n+1=>by
   have C_self:=tM (P:=P) (w:=w) (K:=K) (mg:=mg) (base:=base) T h n
   obtain⟨f,fd,F,hm⟩:=h
   exact⟨f,fd,_,cj (k:=1+n) xM.2 qu.2 F jS (fun cdv A outer s H E hr=>(aQ (cE (bt (g8 hr.units) (aa 1) ag (bF _)) (aF (ba (cn (bW (ab (bV ah) ah))))) ck) (aQ (wO jS.nd rfl (Or.inl rfl) (bW ah)) (aQ (eR PassesOwn.never rfl (l9 (aa 0) rfl T.z_enumerate) (lN rfl (dm (bj jS.nd rfl (Or.inl rfl)) (dm (bj jS.nd rfl (Or.inl rfl)) jV))) (aF (eR PassesOwn.never rfl (cO (bJ C_self hr (by omega) rfl (ab (xR (aa 0) (nA (aL j_ (aa 3) ag)) vW) (ab (aL ot (aa 1) ag) ah)) (aC (aC bX)))) (bj jS.nd rfl (Or.inl rfl)) (aF (rp rfl (Or.inl rfl) (aL j_ (bV (ab (aa 4) ah)) (aa 5))))))) (vG 2 (aF (ba (aa 2)))))))),hm,F.kp,F.binds fun _ _ _ _ _ _ us hl=>match us,hl with | [_,_],_=>rfl⟩
noncomputable abbrev bA:Stmt:=inClass (top 13) 0
noncomputable abbrev dh:List Str:=[(Str.ofString "self"),(Str.ofString "net"),(Str.ofString "inputs")]
noncomputable def n4:{b:List Stmt // ak bA=b}:=by
 have e:ak bA=ak bA:=rfl
 conv at e=>rhs;whnf
 exact⟨_,e⟩
noncomputable def eN:{b:Scope // af bA=b}:=by
 have e:af bA=af bA:=rfl
 conv at e=>rhs;whnf
 exact⟨_,e⟩
theorem j5:aZ dh [(Str.ofString "self"),(Str.ofString "net")] eN.1:=⟨rfl,rfl,rfl,by decide+kernel,rfl,by decide+kernel,by decide+kernel⟩
noncomputable def g7:FZ:=(bG (cC 2 (b_ fN (ax (xP (aG cP (aq (e2 cg (ae 1) (eC (.int 0))) aD))) cw))) (bG (uu 0 (Str.ofString "net") (bO 0) (xP (ae 1))) (bG (uu 0 (Str.ofString "many_inputs") (bO 0) (xP (aG cP (aq (ae 2) aD)))) (bG (uu 0 (Str.ofString "full") (bO 0) (xP (aG f7 (aq (eNew (gO (eZ (ae 2)) (aV 0) rV (eC (.int 1)) [(Str.ofString "bits")] [])) aD)))) (uu 0 (Str.ofString "in_masks") (bO 0) (xP (eNew (gO (d5 (aG cP (aq (e2 cg (ae 1) (eC (.int 0))) aD))) (aV 0) rV (aG iS (aq (ae 1) (aq (ae 0) aD))) [(Str.ofString "place")] [2]))))))))
noncomputable def cR:List V3→aU→R3 V3:=md dh g7
noncomputable def yE:List V3→aU→R3 V3:=nF dh g7
theorem d_{P:Program}{w:World}{K:PySem.W.Frag}{mg:Str→Option Value}{base:Heap}{cl:Nat→Addr}(T:Tp K mg cl)(h:z9 K (cl 0) (Str.ofString "__init__") (Str.ofString "Bench.__init__") bA)(C_mask_of:Callee P w K mg base 1 (Str.ofString "mask_of") 1 f7)(C_in_mask:Callee P w K mg base 2 (Str.ofString "in_mask") 2 iS)(XP_all_inputs:aI P w K mg base cl 1 (Str.ofString "all_inputs") 1 fN):qx P w K mg base cl 3 0 (Str.ofString "Bench") 1 cR:=by
 obtain⟨f,fd,F,hm⟩:=h
 exact⟨f,fd,_,hm,cm (k:=2) n4.2 eN.2 F j5 (fun cdv A outer s H E hr=>(av (bo j5.nd rfl (Or.inr rfl) (bC XP_all_inputs hr (by decide) rfl (aj (au (aO df rfl T.z_len PySem.boot_len (ab (az (aa 1) ag (fun _ _=>rfl)) ah))) aS) (ai aN))) (av (mK T.C_Bench T.N_Bench_net (aT 0) (au (aa 1))) (av (mK T.C_Bench T.N_Bench_many_inputs (aT 0) (au (aO df rfl T.z_len PySem.boot_len (ab (aa 2) ah)))) (av (mK T.C_Bench T.N_Bench_full (aT 0) (au (bJ C_mask_of hr (by decide) rfl (ab (cn (eT rfl (cD.of (own:=[(Str.ofString "bits")]) (kp:=[]) (kn:=[]) (sc:=eN.1) (N:=dh) rfl rfl (by decide+kernel)) (cO (aa 2)) (fun _ _ _=>(bj (show List.Nodup [(Str.ofString "bits")] from by decide+kernel) rfl (Or.inl rfl))) (fun _ _ _=>gf) (fun _ _ _=>ag))) ah) (aC bX)))) (aP (mK T.C_Bench T.N_Bench_in_masks (aT 0) (au (cn (eT rfl (cD.of (own:=[(Str.ofString "place")]) (kp:=[2]) (kn:=[(Str.ofString "inputs")]) (sc:=eN.1) (N:=dh) rfl rfl (by decide+kernel)) (bY (aO df rfl T.z_len PySem.boot_len (ab (az (aa 1) ag (fun _ _=>rfl)) ah)) rfl T.z_range) (fun _ _ _=>(bj (show List.Nodup [(Str.ofString "place"),(Str.ofString "inputs")] from by decide+kernel) rfl (Or.inl rfl))) (fun _ _ _=>gf) (fun _ _ _=>(bJ C_in_mask hr (by decide) rfl (ab (aa 1) (ab (aa 0) ah)) (aC (aC bX)))))))))))))),T.M_Bench,F.binds fun _ _ _ _ _ _ us hl=>match us,hl with | [_,_],_=>rfl⟩
noncomputable abbrev bN:Stmt:=inClass (top 13) 1
noncomputable abbrev hX:List Str:=[(Str.ofString "self"),(Str.ofString "turned"),(Str.ofString "bad")]
noncomputable def qP:{b:List Stmt // ak bN=b}:=by
 have e:ak bN=ak bN:=rfl
 conv at e=>rhs;whnf
 exact⟨_,e⟩
noncomputable def lz:{b:Scope // af bN=b}:=by
 have e:af bN=af bN:=rfl
 conv at e=>rhs;whnf
 exact⟨_,e⟩
theorem sC:aZ hX [(Str.ofString "self"),(Str.ofString "turned"),(Str.ofString "bad")] lz.1:=⟨rfl,rfl,rfl,by decide+kernel,rfl,by decide+kernel,by decide+kernel⟩
noncomputable def jJ:FZ:=(ij (b_ gz (ax (oK 0 (Str.ofString "net") (bO 0)) (ax (b_ fS (ax (oK 0 (Str.ofString "net") (bO 0)) (ax (oK 0 (Str.ofString "in_masks") (bO 0)) (ax (oK 0 (Str.ofString "full") (bO 0)) (ax (xP (ae 1)) (ax (xP (ae 2)) cw)))))) cw))))
noncomputable def lA:List V3→aU→R3 V3:=md hX jJ
noncomputable def eY:List V3→aU→R3 V3:=nF hX jJ
theorem fP{P:Program}{w:World}{K:PySem.W.Frag}{mg:Str→Option Value}{base:Heap}{cl:Nat→Addr}(T:Tp K mg cl)(h:p_ K (cl 0) (Str.ofString "tells") (Str.ofString "Bench.tells") bN)(XP_out_masks:aI P w K mg base cl 2 (Str.ofString "out_masks") 2 gz)(XP_wire_masks:aI P w K mg base cl 3 (Str.ofString "wire_masks") 5 fS):fT P w K mg base cl 4 0 (Str.ofString "tells") 2 lA:=by
 obtain⟨f,fd,F,hm⟩:=h
 exact⟨f,fd,_,T.C_Bench,hm,cm (k:=3) qP.2 lz.2 F sC (fun cdv A outer s H E hr=>(aP (c_ (bC XP_out_masks hr (by decide) rfl (aj (jj T.C_Bench T.N_Bench_net (aT 0)) (aj (bC XP_wire_masks hr (by decide) rfl (aj (jj T.C_Bench T.N_Bench_net (aT 0)) (aj (jj T.C_Bench T.N_Bench_in_masks (aT 0)) (aj (jj T.C_Bench T.N_Bench_full (aT 0)) (aj (au (aa 1)) (aj (au (aa 2)) aS))))) (ai (ai (ai (ai (ai aN)))))) aS)) (ai (ai aN)))))),F.binds fun _ _ _ _ _ _ us hl=>match us,hl with | [_,_,_],_=>rfl⟩
noncomputable abbrev bz:Stmt:=inClass (top 13) 2
noncomputable abbrev ee:List Str:=[(Str.ofString "self"),(Str.ofString "turned")]
noncomputable def oi:{b:List Stmt // ak bz=b}:=by
 have e:ak bz=ak bz:=rfl
 conv at e=>rhs;whnf
 exact⟨_,e⟩
noncomputable def gu:{b:Scope // af bz=b}:=by
 have e:af bz=af bz:=rfl
 conv at e=>rhs;whnf
 exact⟨_,e⟩
theorem oZ:aZ ee [(Str.ofString "self"),(Str.ofString "turned")] gu.1:=⟨rfl,rfl,rfl,by decide+kernel,rfl,by decide+kernel,by decide+kernel⟩
noncomputable def gU:FZ:=(ij (kR (E_ (rF 0 (Str.ofString "tells") eY (bO 0) (ax (xP (ae 1)) (ax (xP (dM aD)) cw)))) (ju 0) A8 (rN iR (ax (xP (ae 0)) (ax (oK 0 (Str.ofString "full") (bO 1)) cw))) [(Str.ofString "masks")] [0]))
noncomputable def jr:List V3→aU→R3 V3:=md ee gU
noncomputable def cB:List V3→aU→R3 V3:=nF ee gU
theorem d4{P:Program}{w:World}{K:PySem.W.Frag}{mg:Str→Option Value}{base:Heap}{cl:Nat→Addr}(T:Tp K mg cl)(h:p_ K (cl 0) (Str.ofString "readings") (Str.ofString "Bench.readings") bz)(C_reading:Callee P w K mg base 2 (Str.ofString "reading") 2 iR)(XP_Bench_tells:fT P w K mg base cl 4 0 (Str.ofString "tells") 2 eY):fT P w K mg base cl 5 0 (Str.ofString "readings") 1 jr:=by
 obtain⟨f,fd,F,hm⟩:=h
 exact⟨f,fd,_,T.C_Bench,hm,cm (k:=4) oi.2 gu.2 F oZ (fun cdv A outer s H E hr=>(aP (c_ (qe rfl (cD.of (own:=[(Str.ofString "masks")]) (kp:=[0]) (kn:=[(Str.ofString "self")]) (sc:=gu.1) (N:=ee) rfl rfl (by decide+kernel)) (y_ (n5 XP_Bench_tells hr (by decide) (aT 0) (aj (au (aa 1)) (aj (au (bV ah)) aS)) (ai (ai aN)))) (fun _ _ _=>(bq (show List.Nodup [(Str.ofString "masks"),(Str.ofString "self")] from by decide+kernel) rfl (Or.inl rfl))) (fun _ _ _=>o3) (fun _ _ _=>(qM C_reading hr (by decide) rfl (aj (au (aa 0)) (aj (jj T.C_Bench T.N_Bench_full (aT 1)) aS)) (ai (ai aN)))))))),F.binds fun _ _ _ _ _ _ us hl=>match us,hl with | [_,_],_=>rfl⟩
noncomputable abbrev bB:Stmt:=inClass (top 16) 0
noncomputable abbrev d8:List Str:=[(Str.ofString "self"),(Str.ofString "net")]
noncomputable def n0:{b:List Stmt // ak bB=b}:=by
 have e:ak bB=ak bB:=rfl
 conv at e=>rhs;whnf
 exact⟨_,e⟩
noncomputable def gK:{b:Scope // af bB=b}:=by
 have e:af bB=af bB:=rfl
 conv at e=>rhs;whnf
 exact⟨_,e⟩
theorem oJ:aZ d8 [(Str.ofString "self"),(Str.ofString "net")] gK.1:=⟨rfl,rfl,rfl,by decide+kernel,rfl,by decide+kernel,by decide+kernel⟩
noncomputable def g6:FZ:=(bG (uu 1 (Str.ofString "bench") (bO 0) (yB 0 cR (ax (xP (ae 1)) cw))) (bG (uu 1 (Str.ofString "plain") (bO 0) (rF 0 (Str.ofString "readings") cB (oK 1 (Str.ofString "bench") (bO 0)) (ax (xP (dM aD)) cw))) (uu 1 (Str.ofString "unsure") (bO 0) (xP (eNew (gO (jb (e2 cg (ae 1) (eC (.int 1)))) (gL 2 (cJ (aV 0) (cJ (aV 1) gQ))) (kL (iW (e2 cg (ae 1) (eC (.int 2))))) (ae 0) [(Str.ofString "place"),(Str.ofString "gate")] []))))))
noncomputable def cU:List V3→aU→R3 V3:=md d8 g6
noncomputable def y8:List V3→aU→R3 V3:=nF d8 g6
theorem d7{P:Program}{w:World}{K:PySem.W.Frag}{mg:Str→Option Value}{base:Heap}{cl:Nat→Addr}(T:Tp K mg cl)(h:z9 K (cl 1) (Str.ofString "__init__") (Str.ofString "Trial.__init__") bB)(XK_Bench___init__:qx P w K mg base cl 3 0 (Str.ofString "Bench") 1 cR)(XP_Bench_readings:fT P w K mg base cl 5 0 (Str.ofString "readings") 1 cB):qx P w K mg base cl 6 1 (Str.ofString "Trial") 1 cU:=by
 obtain⟨f,fd,F,hm⟩:=h
 exact⟨f,fd,_,hm,cm (k:=5) n0.2 gK.2 F oJ (fun cdv A outer s H E hr=>(av (mK T.C_Trial T.N_Trial_bench (aT 0) (zr XK_Bench___init__ hr (by decide) rfl (aj (au (aa 1)) aS) (ai aN))) (av (mK T.C_Trial T.N_Trial_plain (aT 0) (n5 XP_Bench_readings hr (by decide) (jj T.C_Trial T.N_Trial_bench (aT 0)) (aj (au (bV ah)) aS) (ai aN))) (aP (mK T.C_Trial T.N_Trial_unsure (aT 0) (au (cn (eT rfl (cD.of (own:=[(Str.ofString "place"),(Str.ofString "gate")]) (kp:=[]) (kn:=[]) (sc:=gK.1) (N:=d8) rfl rfl (by decide+kernel)) (l9 (az (aa 1) ag (fun _ _=>rfl)) rfl T.z_enumerate) (fun _ _ _=>(lN rfl (dm (bj (show List.Nodup [(Str.ofString "place"),(Str.ofString "gate")] from by decide+kernel) rfl (Or.inl rfl)) (dm (bj (show List.Nodup [(Str.ofString "place"),(Str.ofString "gate")] from by decide+kernel) rfl (Or.inl rfl)) jV)))) (fun _ _ _=>(rD (oj (iK (az (aa 1) ag (fun _ _=>rfl)))))) (fun _ _ _=>(aa 0)))))))))),T.M_Trial,F.binds fun _ _ _ _ _ _ us hl=>match us,hl with | [_,_],_=>rfl⟩
noncomputable abbrev bh:Stmt:=inClass (top 16) 1
noncomputable abbrev eM:List Str:=[(Str.ofString "self"),(Str.ofString "turned"),(Str.ofString "level"),(Str.ofString "mask"),(Str.ofString "before"),(Str.ofString "after")]
noncomputable def nk:{b:List Stmt // ak bh=b}:=by
 have e:ak bh=ak bh:=rfl
 conv at e=>rhs;whnf
 exact⟨_,e⟩
noncomputable def i8:{b:Scope // af bh=b}:=by
 have e:af bh=af bh:=rfl
 conv at e=>rhs;whnf
 exact⟨_,e⟩
theorem cS:aZ eM [(Str.ofString "self"),(Str.ofString "turned"),(Str.ofString "level")] i8.1:=⟨rfl,rfl,rfl,by decide+kernel,rfl,by decide+kernel,by decide+kernel⟩
noncomputable def iG:FZ:=(yM (bP (b2 iV (ae 2) (eC (.str (Str.ofString "safe"))))) (cC 3 (xP (e2 Dq (e2 Dq (ae 3) (e2 AG (e2 cg (ae 4) (eC (.int 0))) (e2 cg (ae 5) (eC (.int 1))))) (e2 AG (e2 cg (ae 4) (eC (.int 1))) (e2 cg (ae 5) (eC (.int 0))))))) (cC 3 (xP (e2 Dq (e2 Dq (ae 3) (e2 AF (e2 cg (ae 4) (eC (.int 0))) (e2 cg (ae 5) (eC (.int 0))))) (e2 AF (e2 cg (ae 4) (eC (.int 1))) (e2 cg (ae 5) (eC (.int 1))))))))
noncomputable def gr:FZ:=(bG (cC 3 (xP (eC (.int 0)))) (bG (ja (HP (oK 1 (Str.ofString "plain") (bO 0)) (rF 0 (Str.ofString "readings") cB (oK 1 (Str.ofString "bench") (bO 0)) (ax (xP (ae 1)) cw))) (uW 2 (sv (ju 4) (sv (ju 5) xH))) iG) (ij (xP (ae 3)))))
noncomputable def jf:List V3→aU→R3 V3:=md eM gr
noncomputable def dq:List V3→aU→R3 V3:=nF eM gr
theorem dG{P:Program}{w:World}{K:PySem.W.Frag}{mg:Str→Option Value}{base:Heap}{cl:Nat→Addr}(T:Tp K mg cl)(h:p_ K (cl 1) (Str.ofString "breaks_at") (Str.ofString "Trial.breaks_at") bh)(XP_Bench_readings:fT P w K mg base cl 5 0 (Str.ofString "readings") 1 cB):fT P w K mg base cl 6 1 (Str.ofString "breaks_at") 2 jf:=by
 obtain⟨f,fd,F,hm⟩:=h
 exact⟨f,fd,_,T.C_Trial,hm,cm (k:=5) nk.2 i8.2 F cS (fun cdv A outer s H E hr=>(av (bo cS.nd rfl (Or.inl rfl) (au ag)) (av (dS PassesOwn.never rfl (Fi (jj T.C_Trial T.N_Trial_plain (aT 0)) (n5 XP_Bench_readings hr (by decide) (jj T.C_Trial T.N_Trial_bench (aT 0)) (aj (au (aa 1)) aS) (ai aN)) rfl T.z_zip) (lY rfl (dv (bq cS.nd rfl (Or.inl rfl)) (dv (bq cS.nd rfl (Or.inl rfl)) jX))) (aP (mf (ip (bt (g8 hr.units) (aa 2) bu (bF _))) (aP (bo cS.nd rfl (Or.inl rfl) (au (aL vq (aL vq (aa 3) (aL vZ (az (aa 4) ag (fun _ _=>rfl)) (az (aa 5) ag (fun _ _=>rfl)))) (aL vZ (az (aa 4) ag (fun _ _=>rfl)) (az (aa 5) ag (fun _ _=>rfl))))))) (aP (bo cS.nd rfl (Or.inl rfl) (au (aL vq (aL vq (aa 3) (aL wK (az (aa 4) ag (fun _ _=>rfl)) (az (aa 5) ag (fun _ _=>rfl)))) (aL wK (az (aa 4) ag (fun _ _=>rfl)) (az (aa 5) ag (fun _ _=>rfl)))))))))) (aP (c_ (au (aa 3))))))),F.binds fun _ _ _ _ _ _ us hl=>match us,hl with | [_,_,_],_=>rfl⟩
noncomputable abbrev bg:Stmt:=inClass (top 13) 4
noncomputable abbrev dz:List Str:=[(Str.ofString "self"),(Str.ofString "mask")]
noncomputable def nh:{b:List Stmt // ak bg=b}:=by
 have e:ak bg=ak bg:=rfl
 conv at e=>rhs;whnf
 exact⟨_,e⟩
noncomputable def fX:{b:Scope // af bg=b}:=by
 have e:af bg=af bg:=rfl
 conv at e=>rhs;whnf
 exact⟨_,e⟩
theorem nT:aZ dz [(Str.ofString "self"),(Str.ofString "mask")] fX.1:=⟨rfl,rfl,rfl,by decide+kernel,rfl,by decide+kernel,by decide+kernel⟩
noncomputable def gA:FZ:=(ij (kR (mj (oK 0 (Str.ofString "many_inputs") (bO 0))) (ju 0) (bP (b2 iV (aG jU (aq (ae 1) (aq (ae 0) aD))) (eC (.int 1)))) (xP (ae 0)) [(Str.ofString "number")] [1]))
noncomputable def iX:List V3→aU→R3 V3:=md dz gA
noncomputable def dn:List V3→aU→R3 V3:=nF dz gA
theorem dw{P:Program}{w:World}{K:PySem.W.Frag}{mg:Str→Option Value}{base:Heap}{cl:Nat→Addr}(T:Tp K mg cl)(h:p_ K (cl 0) (Str.ofString "inputs_in") (Str.ofString "Bench.inputs_in") bg)(C_bit_at:Callee P w K mg base 1 (Str.ofString "bit_at") 2 jU):fT P w K mg base cl 2 0 (Str.ofString "inputs_in") 1 iX:=by
 obtain⟨f,fd,F,hm⟩:=h
 exact⟨f,fd,_,T.C_Bench,hm,cm (k:=1) nh.2 fX.2 F nT (fun cdv A outer s H E hr=>(aP (c_ (qe rfl (cD.of (own:=[(Str.ofString "number")]) (kp:=[1]) (kn:=[(Str.ofString "mask")]) (sc:=fX.1) (N:=dz) rfl rfl (by decide+kernel)) (gY (jj T.C_Bench T.N_Bench_many_inputs (aT 0)) rfl T.z_range) (fun _ _ _=>(bq (show List.Nodup [(Str.ofString "number"),(Str.ofString "mask")] from by decide+kernel) rfl (Or.inl rfl))) (fun _ _ _=>(rC (ip (bt (g8 hr.units) (bJ C_bit_at hr (by decide) rfl (ab (aa 1) (ab (aa 0) ah)) (aC (aC bX))) ag (bF _))))) (fun _ _ _=>(au (aa 0))))))),F.binds fun _ _ _ _ _ _ us hl=>match us,hl with | [_,_],_=>rfl⟩
noncomputable abbrev iL:Stmt:=top 17
noncomputable abbrev qt:List Str:=[(Str.ofString "net"),(Str.ofString "many"),(Str.ofString "level"),(Str.ofString "trial"),(Str.ofString "size"),(Str.ofString "turned"),(Str.ofString "mask")]
noncomputable def BC:{b:List Stmt // ak iL=b}:=by
 have e:ak iL=ak iL:=rfl
 conv at e=>rhs;whnf
 exact⟨_,e⟩
noncomputable def wH:{b:Scope // af iL=b}:=by
 have e:af iL=af iL:=rfl
 conv at e=>rhs;whnf
 exact⟨_,e⟩
theorem oy:aZ qt [(Str.ofString "net"),(Str.ofString "many"),(Str.ofString "level")] wH.1:=⟨rfl,rfl,rfl,by decide+kernel,rfl,by decide+kernel,by decide+kernel⟩
noncomputable def o9:FZ:=(bG (cC 6 (rF 1 (Str.ofString "breaks_at") dq (bO 3) (ax (xP (ae 5)) (ax (xP (ae 2)) cw)))) (yM (bP (b2 sV (ae 6) (eC (.int 0)))) (ij (zR (ax (xP (eC (.str (Str.ofString "breaks")))) (ax (xP (ae 5)) (ax (Bt (rF 0 (Str.ofString "inputs_in") dn (oK 1 (Str.ofString "bench") (bO 3)) (ax (xP (ae 6)) cw)) (xP (eC (.int 0)))) cw))))) pX))
noncomputable def s_:FZ:=(ja (E_ (rN (d3 4) (ax (oK 1 (Str.ofString "unsure") (bO 3)) (ax (xP (ae 4)) cw)))) (ju 5) o9)
noncomputable def t9:FZ:=(bG (cC 3 (yB 1 cU (ax (xP (ae 0)) cw))) (bG (ja (iP (d5 (e2 eG (ae 1) (eC (.int 1))))) (ju 4) s_) (ij (xP (dM (aq (eC (.str (Str.ofString "bears"))) aD))))))
noncomputable def vn:List V3→aU→R3 V3:=md qt t9
noncomputable def oz:List V3→aU→R3 V3:=nF qt t9
theorem DJ{P:Program}{w:World}{K:PySem.W.Frag}{mg:Str→Option Value}{base:Heap}{cl:Nat→Addr}(T:Tp K mg cl)(h:Def K mg (Str.ofString "bears") iL)(C_choices:Callee P w K mg base 5 (Str.ofString "choices") 2 (d3 4))(XK_Trial___init__:qx P w K mg base cl 6 1 (Str.ofString "Trial") 1 cU)(XP_Trial_breaks_at:fT P w K mg base cl 6 1 (Str.ofString "breaks_at") 2 dq)(XP_Bench_inputs_in:fT P w K mg base cl 2 0 (Str.ofString "inputs_in") 1 dn):aI P w K mg base cl 8 (Str.ofString "bears") 3 vn:=by
 obtain⟨f,fd,F,hm⟩:=h
 exact⟨f,fd,_,cm (k:=7) BC.2 wH.2 F oy (fun cdv A outer s H E hr=>(av (bo oy.nd rfl (Or.inl rfl) (zr XK_Trial___init__ hr (by decide) rfl (aj (au (aa 0)) aS) (ai aN))) (av (dS PassesOwn.never rfl (cH (bY (aL gp (aa 1) ag) rfl T.z_range)) (bq oy.nd rfl (Or.inl rfl)) (aP (dS PassesOwn.never rfl (y_ (qM C_choices hr (by decide) rfl (aj (jj T.C_Trial T.N_Trial_unsure (aT 3)) (aj (au (aa 4)) aS)) (ai (ai aN)))) (bq oy.nd rfl (Or.inl rfl)) (av (bo oy.nd rfl (Or.inl rfl) (n5 XP_Trial_breaks_at hr (by decide) (aT 3) (aj (au (aa 5)) (aj (au (aa 2)) aS)) (ai (ai aN)))) (aP (mf (ip (bt (Cg hr.units) (aa 6) ag (bF _))) (aP (c_ (uh (aj (au bu) (aj (au (aa 5)) (aj (pO (n5 XP_Bench_inputs_in hr (by decide) (jj T.C_Trial T.N_Trial_bench (aT 3)) (aj (au (aa 6)) aS) (ai aN)) (au ag) (fun _ _=>rfl)) aS)))))) jq)))))) (aP (c_ (au (bV (ab bu ah)))))))),hm,F.kp,F.binds fun _ _ _ _ _ _ us hl=>match us,hl with | [_,_,_],_=>rfl⟩
noncomputable abbrev cL:Stmt:=top 19
noncomputable abbrev jK:List Str:=[(Str.ofString "script"),(Str.ofString "k")]
noncomputable def rO:{b:List Stmt // ak cL=b}:=by
 have e:ak cL=ak cL:=rfl
 conv at e=>rhs;whnf
 exact⟨_,e⟩
noncomputable def lu:{b:Scope // af cL=b}:=by
 have e:af cL=af cL:=rfl
 conv at e=>rhs;whnf
 exact⟨_,e⟩
theorem sH:aZ jK [(Str.ofString "script"),(Str.ofString "k")] lu.1:=⟨rfl,rfl,rfl,by decide+kernel,rfl,by decide+kernel,by decide+kernel⟩
noncomputable def jH:FS:=(cK (k4 (b2 AH (ae 1) (aG cP (aq (ae 0) aD))) (cQ (e2 cg (ae 0) (ae 1))) fO) (cQ (eC (.int 0))))
noncomputable def dR:List D→R D:=lL jK jH
theorem sG{P:Program}{w:World}{K:PySem.W.Frag}{mg:Str→Option Value}{base:Heap}{cl:Nat→Addr}(T:Tp K mg cl)(h:Def K mg (Str.ofString "_law_cell_at") cL):Callee P w K mg base 1 (Str.ofString "_law_cell_at") 2 dR:=by
 obtain⟨f,fd,F,hm⟩:=h
 exact⟨f,fd,_,cj (k:=0) rO.2 lu.2 F sH (fun cdv A outer s H E hr=>(aQ (cE (bt Ii (aa 1) (aO df rfl T.z_len PySem.boot_len (ab (aa 0) ah)) (bF _)) (aF (ba (az (aa 0) (aa 1) (fun _ _=>rfl)))) ck) (aF (ba ag)))),hm,F.kp,F.binds fun _ _ _ _ _ _ us hl=>match us,hl with | [_,_],_=>rfl⟩
noncomputable abbrev ei:Stmt:=top 20
noncomputable abbrev kx:List Str:=[(Str.ofString "cell")]
noncomputable def vT:{b:List Stmt // ak ei=b}:=by
 have e:ak ei=ak ei:=rfl
 conv at e=>rhs;whnf
 exact⟨_,e⟩
noncomputable def pP:{b:Scope // af ei=b}:=by
 have e:af ei=af ei:=rfl
 conv at e=>rhs;whnf
 exact⟨_,e⟩
theorem xu:aZ kx [(Str.ofString "cell")] pP.1:=⟨rfl,rfl,rfl,by decide+kernel,rfl,by decide+kernel,by decide+kernel⟩
noncomputable def nv:FZ:=(ij (nY (dX (aq (aG cAbs (aq (ae 0) aD)) (aq (e2 ie (e2 mT (e2 eG (e2 ie (ae 0) (eC (.int 2147483647))) (eC (.int 1))) (eC (.int 742938285))) (eC (.int 2147483647))) aD)))))
noncomputable def eg:List V3→aU→R3 V3:=md kx nv
noncomputable def vb:List V3→aU→R3 V3:=nF kx nv
theorem yp{P:Program}{w:World}{K:PySem.W.Frag}{mg:Str→Option Value}{base:Heap}{cl:Nat→Addr}(T:Tp K mg cl)(h:Def K mg (Str.ofString "_law_reel") ei):aI P w K mg base cl 1 (Str.ofString "_law_reel") 1 eg:=by
 obtain⟨f,fd,F,hm⟩:=h
 exact⟨f,fd,_,cm (k:=0) vT.2 pP.2 F xu (fun cdv A outer s H E hr=>(aP (c_ (ix (bW (ab (aO IB rfl T.z_abs PyProof.Rows.boot_abs (ab (aa 0) ah)) (ab (aL kQ (aL wX (aL gp (aL kQ (aa 0) ag) ag) ag) ag) ah))))))),hm,F.kp,F.binds fun _ _ _ _ _ _ us hl=>match us,hl with | [_],_=>rfl⟩
noncomputable abbrev eE:Stmt:=top 21
noncomputable abbrev kK:List Str:=[(Str.ofString "reel"),(Str.ofString "many"),(Str.ofString "found"),(Str.ofString "stir")]
noncomputable def vC:{b:List Stmt // ak eE=b}:=by
 have e:ak eE=ak eE:=rfl
 conv at e=>rhs;whnf
 exact⟨_,e⟩
noncomputable def pM:{b:Scope // af eE=b}:=by
 have e:af eE=af eE:=rfl
 conv at e=>rhs;whnf
 exact⟨_,e⟩
theorem mZ:aZ kK [(Str.ofString "reel"),(Str.ofString "many")] pM.1:=⟨rfl,rfl,rfl,by decide+kernel,rfl,by decide+kernel,by decide+kernel⟩
noncomputable def mX:FZ:=(bG (yM (bT (b2 Dr (e2 cg (ae 0) (eC (.int 0))) (e2 qv (eC (.int 10)) (eC (.int 18))))) (bG (cC 2 (xT (e2 ie (e2 cg (ae 0) (eC (.int 0))) (ae 1)))) (bG (xJ (bO 0) (xP (eC (.int 0))) (xT (e2 wq (e2 cg (ae 0) (eC (.int 0))) (ae 1)))) (ij (xP (ae 2))))) pX) (bG (xJ (bO 0) (xP (eC (.int 1))) (xT (e2 ie (e2 eG (e2 mT (e2 cg (ae 0) (eC (.int 1))) (eC (.int 48271))) (eC (.int 11))) (eC (.int 2147483647))))) (bG (cC 3 (xT (e2 ie (e2 mT (e2 cg (ae 0) (eC (.int 1))) (e2 cg (ae 0) (eC (.int 1)))) (eC (.int 2147483629))))) (ij (xP (e2 ie (e2 wq (e2 ie (e2 mT (ae 3) (eC (.int 69621))) (eC (.int 2147483587))) (eC (.int 8))) (ae 1)))))))
noncomputable def pC:List V3→aU→R3 V3:=md kK mX
noncomputable def aA:List V3→aU→R3 V3:=nF kK mX
theorem x4{P:Program}{w:World}{K:PySem.W.Frag}{mg:Str→Option Value}{base:Heap}{cl:Nat→Addr}(T:Tp K mg cl)(h:Def K mg (Str.ofString "_law_take") eE):aI P w K mg base cl 1 (Str.ofString "_law_take") 2 pC:=by
 obtain⟨f,fd,F,hm⟩:=h
 exact⟨f,fd,_,cm (k:=0) vC.2 pM.2 F mZ (fun cdv A outer s H E hr=>(av (mf (lG (bt Kd (az (aa 0) ag (fun _ _=>rfl)) (aL FQ ag ag) (bF _))) (av (bo mZ.nd rfl (Or.inl rfl) (cF (aL kQ (az (aa 0) ag (fun _ _=>rfl)) (aa 1)))) (av (t7 (cF (aL CA (az (aa 0) ag (fun _ _=>rfl)) (aa 1))) (ur (PX.go (aT 0)) (PX.go (au ag)) set_list)) (aP (c_ (au (aa 2)))))) jq) (av (t7 (cF (aL kQ (aL gp (aL wX (az (aa 0) ag (fun _ _=>rfl)) ag) ag) ag)) (ur (PX.go (aT 0)) (PX.go (au ag)) set_list)) (av (bo mZ.nd rfl (Or.inl rfl) (cF (aL kQ (aL wX (az (aa 0) ag (fun _ _=>rfl)) (az (aa 0) ag (fun _ _=>rfl))) ag))) (aP (c_ (au (aL kQ (aL CA (aL kQ (aL wX (aa 3) ag) ag) ag) (aa 1))))))))),hm,F.kp,F.binds fun _ _ _ _ _ _ us hl=>match us,hl with | [_,_],_=>rfl⟩
noncomputable abbrev dy:Stmt:=top 22
noncomputable abbrev jn:List Str:=[(Str.ofString "reel"),(Str.ofString "many"),(Str.ofString "letters"),(Str.ofString "words"),(Str.ofString "names"),(Str.ofString "k"),(Str.ofString "name"),(Str.ofString "j")]
noncomputable def uQ:{b:List Stmt // ak dy=b}:=by
 have e:ak dy=ak dy:=rfl
 conv at e=>rhs;whnf
 exact⟨_,e⟩
noncomputable def nR:{b:Scope // af dy=b}:=by
 have e:af dy=af dy:=rfl
 conv at e=>rhs;whnf
 exact⟨_,e⟩
theorem dO:aZ jn [(Str.ofString "reel"),(Str.ofString "many")] nR.1:=⟨rfl,rfl,rfl,by decide+kernel,rfl,by decide+kernel,by decide+kernel⟩
noncomputable def mq:FZ:=(cC 6 (x2 eG (xP (ae 6)) (Bt (xP (ae 2)) (b_ aA (ax (bO 0) (ax (xP (eC (.int 26))) cw))))))
noncomputable def h_:FZ:=(cC 6 (xP (e2 eG (xV (ae 6) kP (iF (DS (eC (.int 1))))) (e2 cg (ae 2) (e2 ie (e2 eG (z_ "str" y0 (ae 2) (aq (e2 cg (ae 6) (DS (eC (.int 1)))) aD)) (eC (.int 1))) (eC (.int 26)))))))
noncomputable def jM:FZ:=(bG (cC 6 (Bt (xP (e2 eG (eNew (dX (aq (eC (.str (Str.ofString ""))) (aq (eC (.str (Str.ofString ""))) (aq (eC (.str (Str.ofString "zz"))) (aq (eC (.str (Str.ofString "qrst"))) aD)))))) (ae 3))) (b_ aA (ax (bO 0) (ax (xP (eC (.int 13))) cw))))) (bG (ja (mj (x2 eG (xP (eC (.int 1))) (b_ aA (ax (bO 0) (ax (xP (eC (.int 4))) cw))))) (ju 7) mq) (bG (xy 1000 (bT (sL (b2 pZ (ae 6) (ae 4)) (b2 pZ (ae 6) (ae 3)))) h_) (j4 4 (xP (ae 6))))))
noncomputable def lh:FZ:=(bG (cC 2 (xP (eC (.str (Str.ofString "abcdefghijklmnopqrstuvwxyz"))))) (bG (cC 3 (xP (eNew (dX (aq (eC (.str (Str.ofString "in"))) (aq (eC (.str (Str.ofString "gate"))) (aq (eC (.str (Str.ofString "sure"))) (aq (eC (.str (Str.ofString "out"))) (aq (eC (.str (Str.ofString "not"))) (aq (eC (.str (Str.ofString "and"))) (aq (eC (.str (Str.ofString "or"))) (aq (eC (.str (Str.ofString "xor"))) (aq (eC (.str (Str.ofString "vote"))) aD))))))))))))) (bG (cC 4 (nY (dX aD))) (bG (ja (iP (d5 (ae 1))) (ju 5) jM) (ij (bO 4))))))
noncomputable def n8:List V3→aU→R3 V3:=md jn lh
noncomputable def gC:List V3→aU→R3 V3:=nF jn lh
theorem vR{P:Program}{w:World}{K:PySem.W.Frag}{mg:Str→Option Value}{base:Heap}{cl:Nat→Addr}(T:Tp K mg cl)(h:Def K mg (Str.ofString "_law_names") dy)(XP_law_take:aI P w K mg base cl 1 (Str.ofString "_law_take") 2 aA):aI P w K mg base cl 2 (Str.ofString "_law_names") 2 n8:=by
 obtain⟨f,fd,F,hm⟩:=h
 exact⟨f,fd,_,cm (k:=1) uQ.2 nR.2 F dO (fun cdv A outer s H E hr=>(av (bo dO.nd rfl (Or.inl rfl) (au bu)) (av (bo dO.nd rfl (Or.inl rfl) (au (cn (bW (ab bu (ab bu (ab bu (ab bu (ab bu (ab bu (ab bu (ab bu (ab bu ah))))))))))))) (av (bo dO.nd rfl (Or.inl rfl) (ix (bW ah))) (av (dS PassesOwn.never rfl (cH (bY (aa 1) rfl T.z_range)) (bq dO.nd rfl (Or.inl rfl)) (av (bo dO.nd rfl (Or.inl rfl) (pO (au (aL gp (cn (bW (ab bu (ab bu (ab bu (ab bu ah)))))) (aa 3))) (bC XP_law_take hr (by decide) rfl (aj (aT 0) (aj (au ag) aS)) (ai (ai aN))) (fun _ _=>rfl))) (av (dS PassesOwn.never rfl (gY (qO gp (au ag) (bC XP_law_take hr (by decide) rfl (aj (aT 0) (aj (au ag) aS)) (ai (ai aN)))) rfl T.z_range) (bq dO.nd rfl (Or.inl rfl)) (aP (bo dO.nd rfl (Or.inl rfl) (qO gp (au (aa 6)) (pO (au (aa 2)) (bC XP_law_take hr (by decide) rfl (aj (aT 0) (aj (au ag) aS)) (ai (ai aN))) (fun _ _=>rfl)))))) (av (AQ 1000 PassesOwn.never (lG (kD (uP (bt zX (aa 6) (aa 4) (by with_unfolding_all rfl)) (rZ (bt zX (aa 6) (aa 3) (by with_unfolding_all rfl)))))) (aP (bo dO.nd rfl (Or.inl rfl) (au (aL gp (xR (aa 6) vW (nA (ua ag))) (az (aa 2) (aL kQ (aL gp (AX (aa 2) (ab (az (aa 6) (ua ag) (fun _ _=>rfl)) ah)) ag) ag) (fun _ _=>rfl))))))) (aP (gT rfl (Or.inl rfl) (au (aa 6)))))))) (aP (c_ (aT 4)))))))),hm,F.kp,F.binds fun _ _ _ _ _ _ us hl=>match us,hl with | [_,_],_=>rfl⟩
noncomputable abbrev eB:Stmt:=top 23
noncomputable abbrev kg:List Str:=[(Str.ofString "reel"),(Str.ofString "kinds"),(Str.ofString "most_sure"),(Str.ofString "kind"),(Str.ofString "many"),(Str.ofString "wires"),(Str.ofString "k"),(Str.ofString "back"),(Str.ofString "wire")]
noncomputable def v8:{b:List Stmt // ak eB=b}:=by
 have e:ak eB=ak eB:=rfl
 conv at e=>rhs;whnf
 exact⟨_,e⟩
noncomputable def pI:{b:Scope // af eB=b}:=by
 have e:af eB=af eB:=rfl
 conv at e=>rhs;whnf
 exact⟨_,e⟩
theorem eU:aZ kg [(Str.ofString "reel"),(Str.ofString "kinds"),(Str.ofString "most_sure")] pI.1:=⟨rfl,rfl,rfl,by decide+kernel,rfl,by decide+kernel,by decide+kernel⟩
noncomputable def nV:FZ:=(bG (cC 7 (b_ aA (ax (bO 0) (ax (xP (eC (.int 2))) cw)))) (bG (cC 8 (b_ aA (ax (bO 0) (ax (xT (aG cP (aq (ae 1) aD))) cw)))) (bG (yM (bP (b2 iV (ae 7) (eC (.int 1)))) (cC 8 (xT (e2 jG (e2 jG (aG cP (aq (ae 1) aD)) (eC (.int 1))) (e2 ie (ae 8) (aG tu (aq (aG cP (aq (ae 1) aD)) (aq (eC (.int 4)) aD))))))) pX) (j4 5 (xP (ae 8))))))
noncomputable def mQ:FZ:=(bG (cC 3 (Bt (xP (eNew (dX (aq (eC (.str (Str.ofString "not"))) (aq (eC (.str (Str.ofString "and"))) (aq (eC (.str (Str.ofString "or"))) (aq (eC (.str (Str.ofString "xor"))) (aq (eC (.str (Str.ofString "vote"))) (aq (eC (.str (Str.ofString "xor"))) (aq (eC (.str (Str.ofString "and"))) aD)))))))))) (b_ aA (ax (bO 0) (ax (xP (eC (.int 7))) cw))))) (bG (cC 4 (xP (HA [((Sum.inr (Str.ofString "not"):Key),V.int 1),((Sum.inr (Str.ofString "vote"):Key),V.int 3)] (ae 3) (eC (.int 2))))) (bG (cC 5 (nY (dX aD))) (bG (ja (iP (d5 (ae 4))) (ju 6) nV) (ij (zR (ax (xP (ae 3)) (ax (xT (aG fY (aq (ae 5) aD))) (ax (x2 AH (b_ aA (ax (bO 0) (ax (xP (eC (.int 4))) cw))) (xP (ae 2))) cw)))))))))
noncomputable def pT:List V3→aU→R3 V3:=md kg mQ
noncomputable def gg:List V3→aU→R3 V3:=nF kg mQ
theorem yb{P:Program}{w:World}{K:PySem.W.Frag}{mg:Str→Option Value}{base:Heap}{cl:Nat→Addr}(T:Tp K mg cl)(h:Def K mg (Str.ofString "_law_gate") eB)(XP_law_take:aI P w K mg base cl 1 (Str.ofString "_law_take") 2 aA):aI P w K mg base cl 2 (Str.ofString "_law_gate") 3 pT:=by
 obtain⟨f,fd,F,hm⟩:=h
 exact⟨f,fd,_,cm (k:=1) v8.2 pI.2 F eU (fun cdv A outer s H E hr=>(av (bo eU.nd rfl (Or.inl rfl) (pO (au (cn (bW (ab bu (ab bu (ab bu (ab bu (ab bu (ab bu (ab bu ah)))))))))) (bC XP_law_take hr (by decide) rfl (aj (aT 0) (aj (au ag) aS)) (ai (ai aN))) (fun _ _=>rfl))) (av (bo eU.nd rfl (Or.inl rfl) (au (DF (Jm hr) (nB rS qI (nB rS qI y3)) rfl rfl (by simp) (fun _ _ _ h=>h) (by decide) (aa 3) ag ⟨rfl,rfl,rfl,rfl⟩ (DV (nB rS qI (nB rS qI y3)) rfl rfl (by simp) (by decide))))) (av (bo eU.nd rfl (Or.inl rfl) (ix (bW ah))) (av (dS PassesOwn.never rfl (cH (bY (aa 4) rfl T.z_range)) (bq eU.nd rfl (Or.inl rfl)) (av (bo eU.nd rfl (Or.inl rfl) (bC XP_law_take hr (by decide) rfl (aj (aT 0) (aj (au ag) aS)) (ai (ai aN)))) (av (bo eU.nd rfl (Or.inl rfl) (bC XP_law_take hr (by decide) rfl (aj (aT 0) (aj (cF (aO df rfl T.z_len PySem.boot_len (ab (aa 1) ah))) aS)) (ai (ai aN)))) (av (mf (ip (bt (g8 hr.units) (aa 7) ag (bF _))) (aP (bo eU.nd rfl (Or.inl rfl) (cF (aL ot (aL ot (aO df rfl T.z_len PySem.boot_len (ab (aa 1) ah)) ag) (aL kQ (aa 8) (aO (BJ rfl) rfl T.z_min PyProof.Rows.boot_min (ab (aO df rfl T.z_len PySem.boot_len (ab (aa 1) ah)) (ab ag ah)))))))) jq) (aP (gT rfl (Or.inl rfl) (au (aa 8)))))))) (aP (c_ (uh (aj (au (aa 3)) (aj (cF (dj qi rfl T.z_tuple PyProof.Rows.boot_tuple (ab (aa 5) ah))) (aj (C3 Ii (bC XP_law_take hr (by decide) rfl (aj (aT 0) (aj (au ag) aS)) (ai (ai aN))) (au (aa 2)) (bF _)) aS))))))))))),hm,F.kp,F.binds fun _ _ _ _ _ _ us hl=>match us,hl with | [_,_,_],_=>rfl⟩
noncomputable abbrev dD:Stmt:=top 24
noncomputable abbrev il:List Str:=[(Str.ofString "reel"),(Str.ofString "gate"),(Str.ofString "kinds"),(Str.ofString "wires"),(Str.ofString "wire"),(Str.ofString "same")]
noncomputable def uL:{b:List Stmt // ak dD=b}:=by
 have e:ak dD=ak dD:=rfl
 conv at e=>rhs;whnf
 exact⟨_,e⟩
noncomputable def kl:{b:Scope // af dD=b}:=by
 have e:af dD=af dD:=rfl
 conv at e=>rhs;whnf
 exact⟨_,e⟩
theorem jx:aZ il [(Str.ofString "reel"),(Str.ofString "gate"),(Str.ofString "kinds")] kl.1:=⟨rfl,rfl,rfl,by decide+kernel,rfl,by decide+kernel,by decide+kernel⟩
noncomputable def mH:FZ:=(bG (cC 5 (kR (mj (xT (aG cP (aq (ae 2) aD)))) (ju 0) (bT (b2 iV (e2 cg (ae 1) (ae 0)) (e2 cg (ae 1) (ae 2)))) (xP (ae 0)) [(Str.ofString "one")] [2,4])) (j4 3 (Bt (xP (ae 5)) (b_ aA (ax (bO 0) (ax (xP (aG cP (aq (ae 5) aD))) cw))))))
noncomputable def k_:FZ:=(bG (cC 3 (nY (dX aD))) (bG (ja (iP (eZ (e2 cg (ae 1) (eC (.int 1))))) (ju 4) mH) (ij (zR (ax (xP (e2 cg (ae 1) (eC (.int 0)))) (ax (xT (aG fY (aq (ae 3) aD))) (ax (x2 iV (b_ aA (ax (bO 0) (ax (xP (eC (.int 4))) cw))) (xP (eC (.int 0)))) cw)))))))
noncomputable def nM:List V3→aU→R3 V3:=md il k_
noncomputable def gx:List V3→aU→R3 V3:=nF il k_
theorem va{P:Program}{w:World}{K:PySem.W.Frag}{mg:Str→Option Value}{base:Heap}{cl:Nat→Addr}(T:Tp K mg cl)(h:Def K mg (Str.ofString "_law_again") dD)(XP_law_take:aI P w K mg base cl 1 (Str.ofString "_law_take") 2 aA):aI P w K mg base cl 2 (Str.ofString "_law_again") 3 nM:=by
 obtain⟨f,fd,F,hm⟩:=h
 exact⟨f,fd,_,cm (k:=1) uL.2 kl.2 F jx (fun cdv A outer s H E hr=>(av (bo jx.nd rfl (Or.inl rfl) (ix (bW ah))) (av (dS PassesOwn.never rfl (cH (cO (az (aa 1) ag (fun _ _=>rfl)))) (bq jx.nd rfl (Or.inr rfl)) (av (rG rfl jx.nd rfl rfl (cD.of (own:=[(Str.ofString "one")]) (kp:=[2,4]) (kn:=[(Str.ofString "kinds"),(Str.ofString "wire")]) (sc:=kl.1) (N:=il) rfl rfl (by decide+kernel)) (gY (cF (aO df rfl T.z_len PySem.boot_len (ab (aa 2) ah))) rfl T.z_range) (fun _ _ _=>(bq (show List.Nodup [(Str.ofString "one"),(Str.ofString "kinds"),(Str.ofString "wire")] from by decide+kernel) rfl (Or.inl rfl))) (fun _ _ _=>(rC (lG (bt (g8 hr.units) (az (aa 1) (aa 0) (fun _ _=>rfl)) (az (aa 1) (aa 2) (fun _ _=>rfl)) (bF _))))) (fun _ _ _=>(au (aa 0)))) (aP (gT rfl (Or.inl rfl) (pO (au (aa 5)) (bC XP_law_take hr (by decide) rfl (aj (aT 0) (aj (au (aO df rfl T.z_len PySem.boot_len (ab (aa 5) ah))) aS)) (ai (ai aN))) (fun _ _=>rfl)))))) (aP (c_ (uh (aj (au (az (aa 1) ag (fun _ _=>rfl))) (aj (cF (dj qi rfl T.z_tuple PyProof.Rows.boot_tuple (ab (aa 3) ah))) (aj (C3 (g8 hr.units) (bC XP_law_take hr (by decide) rfl (aj (aT 0) (aj (au ag) aS)) (ai (ai aN))) (au ag) (bF _)) aS))))))))),hm,F.kp,F.binds fun _ _ _ _ _ _ us hl=>match us,hl with | [_,_,_],_=>rfl⟩
noncomputable abbrev eH:Stmt:=top 25
noncomputable abbrev gZ:List Str:=[(Str.ofString "reel"),(Str.ofString "kinds"),(Str.ofString "names"),(Str.ofString "most"),(Str.ofString "outs"),(Str.ofString "k"),(Str.ofString "wire"),(Str.ofString "same"),(Str.ofString "width"),(Str.ofString "some"),(Str.ofString "way")]
noncomputable def wL:{b:List Stmt // ak eH=b}:=by
 have e:ak eH=ak eH:=rfl
 conv at e=>rhs;whnf
 exact⟨_,e⟩
noncomputable def js:{b:Scope // af eH=b}:=by
 have e:af eH=af eH:=rfl
 conv at e=>rhs;whnf
 exact⟨_,e⟩
theorem fk:aZ gZ [(Str.ofString "reel"),(Str.ofString "kinds"),(Str.ofString "names"),(Str.ofString "most")] js.1:=⟨rfl,rfl,rfl,by decide+kernel,rfl,by decide+kernel,by decide+kernel⟩
noncomputable def kq:FZ:=(bG (cC 6 (x2 jG (xT (e2 jG (aG cP (aq (ae 1) aD)) (eC (.int 1)))) (b_ aA (ax (bO 0) (ax (xT (aG cP (aq (ae 1) aD))) cw))))) (bG (cC 7 (kR (mj (xT (aG cP (aq (ae 1) aD)))) (ju 0) (bT (b2 iV (e2 cg (ae 1) (ae 0)) (e2 cg (ae 1) (ae 2)))) (xP (ae 0)) [(Str.ofString "one")] [1,6])) (bG (cC 8 (Bt (xP (eNew (dX (aq (eC (.int 1)) (aq (eC (.int 1)) (aq (eC (.int 2)) (aq (eC (.int 2)) (aq (eC (.int 3)) (aq (eC (.int 3)) aD))))))))) (b_ aA (ax (bO 0) (ax (xP (eC (.int 6))) cw))))) (bG (cC 9 (DA (xP (eNew (dX (aq (ae 6) aD)))) (kR (iP (d5 (e2 jG (ae 8) (eC (.int 1))))) (ju 0) A8 (Bt (xP (ae 2)) (b_ aA (ax (bO 1) (ax (xP (aG cP (aq (ae 2) aD))) cw)))) [(Str.ofString "j")] [0,7]))) (bG (cC 10 (b_ aA (ax (bO 0) (ax (xP (eC (.int 3))) cw)))) (bG (yM (bP (kj (b2 iV (ae 8) (eC (.int 3))) (b2 wz (ae 10) (eC (.int 0))))) (xJ (bO 9) (xP (eC (.int 2))) (b_ aA (ax (bO 0) (ax (xT (aG cP (aq (ae 1) aD))) cw)))) pX) (bG (yM (bP (kj (b2 iV (ae 8) (eC (.int 3))) (b2 wz (ae 10) (eC (.int 1))))) (xJ (bO 9) (xP (eC (.int 1))) (b_ aA (ax (bO 0) (ax (xT (aG cP (aq (ae 1) aD))) cw)))) pX) (j4 4 (xT (dM (aq (e2 cg (ae 2) (ae 5)) (aq (aG fY (aq (ae 9) aD)) aD))))))))))))
noncomputable def m7:FZ:=(bG (cC 4 (nY (dX aD))) (bG (ja (mj (x2 eG (xP (eC (.int 1))) (b_ aA (ax (bO 0) (ax (xP (ae 3)) cw))))) (ju 5) kq) (ij (bO 4))))
noncomputable def pH:List V3→aU→R3 V3:=md gZ m7
noncomputable def ib:List V3→aU→R3 V3:=nF gZ m7
theorem xt{P:Program}{w:World}{K:PySem.W.Frag}{mg:Str→Option Value}{base:Heap}{cl:Nat→Addr}(T:Tp K mg cl)(h:Def K mg (Str.ofString "_law_outs") eH)(XP_law_take:aI P w K mg base cl 1 (Str.ofString "_law_take") 2 aA):aI P w K mg base cl 2 (Str.ofString "_law_outs") 4 pH:=by
 obtain⟨f,fd,F,hm⟩:=h
 exact⟨f,fd,_,cm (k:=1) wL.2 js.2 F fk (fun cdv A outer s H E hr=>(av (bo fk.nd rfl (Or.inl rfl) (ix (bW ah))) (av (dS PassesOwn.never rfl (gY (qO gp (au ag) (bC XP_law_take hr (by decide) rfl (aj (aT 0) (aj (au (aa 3)) aS)) (ai (ai aN)))) rfl T.z_range) (bq fk.nd rfl (Or.inl rfl)) (av (bo fk.nd rfl (Or.inr rfl) (qO ot (cF (aL ot (aO df rfl T.z_len PySem.boot_len (ab (aa 1) ah)) ag)) (bC XP_law_take hr (by decide) rfl (aj (aT 0) (aj (cF (aO df rfl T.z_len PySem.boot_len (ab (aa 1) ah))) aS)) (ai (ai aN))))) (av (bo fk.nd rfl (Or.inr rfl) (qe rfl (cD.of (own:=[(Str.ofString "one")]) (kp:=[1,6]) (kn:=[(Str.ofString "kinds"),(Str.ofString "wire")]) (sc:=js.1) (N:=gZ) rfl rfl (by decide+kernel)) (gY (cF (aO df rfl T.z_len PySem.boot_len (ab (aa 1) ah))) rfl T.z_range) (fun _ _ _=>(bq (show List.Nodup [(Str.ofString "one"),(Str.ofString "kinds"),(Str.ofString "wire")] from by decide+kernel) rfl (Or.inl rfl))) (fun _ _ _=>(rC (lG (bt (g8 hr.units) (az (aa 1) (aa 0) (fun _ _=>rfl)) (az (aa 1) (aa 2) (fun _ _=>rfl)) (bF _))))) (fun _ _ _=>(au (aa 0))))) (av (bo fk.nd rfl (Or.inl rfl) (pO (au (cn (bW (ab ag (ab ag (ab ag (ab ag (ab ag (ab ag ah))))))))) (bC XP_law_take hr (by decide) rfl (aj (aT 0) (aj (au ag) aS)) (ai (ai aN))) (fun _ _=>rfl))) (av (bo fk.nd rfl (Or.inl rfl) (Bl (au (cn (bW (ab (aa 6) ah)))) (qe rfl (cD.of (own:=[(Str.ofString "j")]) (kp:=[0,7]) (kn:=[(Str.ofString "reel"),(Str.ofString "same")]) (sc:=js.1) (N:=gZ) rfl rfl (by decide+kernel)) (cH (bY (aL ot (aa 8) ag) rfl T.z_range)) (fun _ _ _=>(bq (show List.Nodup [(Str.ofString "j"),(Str.ofString "reel"),(Str.ofString "same")] from by decide+kernel) rfl (Or.inl rfl))) (fun _ _ _=>o3) (fun _ _ _=>(pO (au (aa 2)) (bC XP_law_take hr (by decide) rfl (aj (aT 1) (aj (au (aO df rfl T.z_len PySem.boot_len (ab (aa 2) ah))) aS)) (ai (ai aN))) (fun _ _=>rfl)))))) (av (bo fk.nd rfl (Or.inl rfl) (bC XP_law_take hr (by decide) rfl (aj (aT 0) (aj (au ag) aS)) (ai (ai aN)))) (av (mf (ip (kD (nL (bt (g8 hr.units) (aa 8) ag (bF _)) (lU (bt Cb (aa 10) ag (bF _)))))) (aP (t7 (bC XP_law_take hr (by decide) rfl (aj (aT 0) (aj (cF (aO df rfl T.z_len PySem.boot_len (ab (aa 1) ah))) aS)) (ai (ai aN))) (ur (PX.go (aT 9)) (PX.go (au ag)) set_list))) jq) (av (mf (ip (kD (nL (bt (g8 hr.units) (aa 8) ag (bF _)) (lU (bt Cb (aa 10) ag (bF _)))))) (aP (t7 (bC XP_law_take hr (by decide) rfl (aj (aT 0) (aj (cF (aO df rfl T.z_len PySem.boot_len (ab (aa 1) ah))) aS)) (ai (ai aN))) (ur (PX.go (aT 9)) (PX.go (au ag)) set_list))) jq) (aP (gT rfl (Or.inl rfl) (cF (bV (ab (az (aa 2) (aa 5) (fun _ _=>rfl)) (ab (dj qi rfl T.z_tuple PyProof.Rows.boot_tuple (ab (aa 9) ah)) ah)))))))))))))) (aP (c_ (aT 4)))))),hm,F.kp,F.binds fun _ _ _ _ _ _ us hl=>match us,hl with | [_,_,_,_],_=>rfl⟩
noncomputable abbrev fG:Stmt:=top 26
noncomputable abbrev lS:List Str:=[(Str.ofString "reel"),(Str.ofString "cells"),(Str.ofString "most_ins"),(Str.ofString "most_sure"),(Str.ofString "names"),(Str.ofString "ins"),(Str.ofString "kinds"),(Str.ofString "k"),(Str.ofString "width"),(Str.ofString "ahead"),(Str.ofString "gates"),(Str.ofString "cell"),(Str.ofString "own"),(Str.ofString "place")]
noncomputable def ya:{b:List Stmt // ak fG=b}:=by
 have e:ak fG=ak fG:=rfl
 conv at e=>rhs;whnf
 exact⟨_,e⟩
noncomputable def rT:{b:Scope // af fG=b}:=by
 have e:af fG=af fG:=rfl
 conv at e=>rhs;whnf
 exact⟨_,e⟩
theorem du:aZ lS [(Str.ofString "reel"),(Str.ofString "cells"),(Str.ofString "most_ins"),(Str.ofString "most_sure")] rT.1:=⟨rfl,rfl,rfl,by decide+kernel,rfl,by decide+kernel,by decide+kernel⟩
noncomputable def lr:FZ:=(bG (cC 8 (x2 eG (xP (eC (.int 1))) (b_ aA (ax (bO 0) (ax (xP (eC (.int 3))) cw))))) (bG (j4 5 (xP (dM (aq (e2 cg (ae 4) (e2 jG (eC (.int 7)) (ae 7))) (aq (ae 8) aD))))) (cC 6 (DA (bO 6) (xP (eNew (D7 (dX (aq (ae 7) aD)) (ae 8))))))))
noncomputable def lx:FZ:=(bG (cC 12 (b_ eg (ax (xP (ae 11)) cw))) (yM (HM (bT (b2 sV (ae 10) (eNew (dX aD)))) (JR iV (b_ aA (ax (bO 12) (ax (xP (eC (.int 3))) cw))) (xP (eC (.int 0))))) (bG (cC 13 (b_ aA (ax (bO 12) (ax (xT (aG cP (aq (ae 10) aD))) cw)))) (bG (j4 10 (b_ gx (ax (bO 12) (ax (xT (e2 cg (ae 10) (ae 13))) (ax (bO 6) cw))))) (j4 6 (xT (e2 cg (ae 6) (e2 eG (ae 9) (ae 13))))))) (bG (j4 10 (b_ gg (ax (bO 12) (ax (bO 6) (ax (xP (ae 3)) cw))))) (j4 6 (xT (e2 eG (aG cP (aq (ae 6) aD)) (eC (.int 10))))))))
noncomputable def oM:FZ:=(bG (cC 4 (b_ gC (ax (bO 0) (ax (xP (eC (.int 8))) cw)))) (bG (cC 5 (nY (dX aD))) (bG (cC 6 (nY (dX aD))) (bG (ja (mj (x2 eG (xP (eC (.int 1))) (b_ aA (ax (bO 0) (ax (xP (ae 2)) cw))))) (ju 7) lr) (bG (cC 9 (xT (aG cP (aq (ae 6) aD)))) (bG (cC 10 (nY (dX aD))) (bG (ja (iP (eZ (ae 1))) (ju 11) lx) (ij (zR (ax (bO 5) (ax (bO 10) (ax (b_ ib (ax (bO 0) (ax (bO 6) (ax (xP (ae 4)) (ax (xP (eC (.int 6))) cw))))) cw))))))))))))
noncomputable def rP:List V3→aU→R3 V3:=md lS oM
noncomputable def kI:List V3→aU→R3 V3:=nF lS oM
theorem AB{P:Program}{w:World}{K:PySem.W.Frag}{mg:Str→Option Value}{base:Heap}{cl:Nat→Addr}(T:Tp K mg cl)(h:Def K mg (Str.ofString "_law_net") fG)(XP_law_names:aI P w K mg base cl 2 (Str.ofString "_law_names") 2 gC)(XP_law_take:aI P w K mg base cl 1 (Str.ofString "_law_take") 2 aA)(XK_law_reel:aI P w K mg base cl 1 (Str.ofString "_law_reel") 1 eg)(XP_law_again:aI P w K mg base cl 2 (Str.ofString "_law_again") 3 gx)(XP_law_gate:aI P w K mg base cl 2 (Str.ofString "_law_gate") 3 gg)(XP_law_outs:aI P w K mg base cl 2 (Str.ofString "_law_outs") 4 ib):aI P w K mg base cl 3 (Str.ofString "_law_net") 4 rP:=by
 obtain⟨f,fd,F,hm⟩:=h
 exact⟨f,fd,_,cm (k:=2) ya.2 rT.2 F du (fun cdv A outer s H E hr=>(av (bo du.nd rfl (Or.inl rfl) (bC XP_law_names hr (by decide) rfl (aj (aT 0) (aj (au ag) aS)) (ai (ai aN)))) (av (bo du.nd rfl (Or.inl rfl) (ix (bW ah))) (av (bo du.nd rfl (Or.inl rfl) (ix (bW ah))) (av (dS PassesOwn.never rfl (gY (qO gp (au ag) (bC XP_law_take hr (by decide) rfl (aj (aT 0) (aj (au (aa 2)) aS)) (ai (ai aN)))) rfl T.z_range) (bq du.nd rfl (Or.inl rfl)) (av (bo du.nd rfl (Or.inl rfl) (qO gp (au ag) (bC XP_law_take hr (by decide) rfl (aj (aT 0) (aj (au ag) aS)) (ai (ai aN))))) (av (gT rfl (Or.inl rfl) (au (bV (ab (az (aa 4) (aL ot ag (aa 7)) (fun _ _=>rfl)) (ab (aa 8) ah))))) (aP (bo du.nd rfl (Or.inl rfl) (Bl (aT 6) (au (cn (Ff (bW (ab (aa 7) ah)) (aa 8)))))))))) (av (bo du.nd rfl (Or.inl rfl) (cF (aO df rfl T.z_len PySem.boot_len (ab (aa 6) ah)))) (av (bo du.nd rfl (Or.inl rfl) (ix (bW ah))) (av (dS PassesOwn.never rfl (cH (cO (aa 1))) (bq du.nd rfl (Or.inl rfl)) (av (bo du.nd rfl (Or.inl rfl) (bC XK_law_reel hr (by decide) rfl (aj (au (aa 11)) aS) (ai aN))) (aP (mf (Ie.pb (Ez (lG (bt (Cg hr.units) (aa 10) (cn (bW ah)) (bF _))) (C4 (Fc (g8 hr.units) (bC XP_law_take hr (by decide) rfl (aj (aT 12) (aj (au ag) aS)) (ai (ai aN))) (au ag) (bF _))))) (av (bo du.nd rfl (Or.inl rfl) (bC XP_law_take hr (by decide) rfl (aj (aT 12) (aj (cF (aO df rfl T.z_len PySem.boot_len (ab (aa 10) ah))) aS)) (ai (ai aN)))) (av (gT rfl (Or.inl rfl) (bC XP_law_again hr (by decide) rfl (aj (aT 12) (aj (cF (az (aa 10) (aa 13) (fun _ _=>rfl))) (aj (aT 6) aS))) (ai (ai (ai aN))))) (aP (gT rfl (Or.inl rfl) (cF (az (aa 6) (aL gp (aa 9) (aa 13)) (fun _ _=>rfl))))))) (av (gT rfl (Or.inl rfl) (bC XP_law_gate hr (by decide) rfl (aj (aT 12) (aj (aT 6) (aj (au (aa 3)) aS))) (ai (ai (ai aN))))) (aP (gT rfl (Or.inl rfl) (cF (aL gp (aO df rfl T.z_len PySem.boot_len (ab (aa 6) ah)) ag))))))))) (aP (c_ (uh (aj (aT 5) (aj (aT 10) (aj (bC XP_law_outs hr (by decide) rfl (aj (aT 0) (aj (aT 6) (aj (au (aa 4)) (aj (au ag) aS)))) (ai (ai (ai (ai aN))))) aS)))))))))))))),hm,F.kp,F.binds fun _ _ _ _ _ _ us hl=>match us,hl with | [_,_,_,_],_=>rfl⟩
noncomputable abbrev cz:Stmt:=top 27
noncomputable abbrev k8:List Str:=[(Str.ofString "kind"),(Str.ofString "some")]
noncomputable def pU:{b:List Stmt // ak cz=b}:=by
 have e:ak cz=ak cz:=rfl
 conv at e=>rhs;whnf
 exact⟨_,e⟩
noncomputable def kU:{b:Scope // af cz=b}:=by
 have e:af cz=af cz:=rfl
 conv at e=>rhs;whnf
 exact⟨_,e⟩
theorem rn:aZ k8 [(Str.ofString "kind"),(Str.ofString "some")] kU.1:=⟨rfl,rfl,rfl,by decide+kernel,rfl,by decide+kernel,by decide+kernel⟩
noncomputable def qz:FS:=(cK (k4 (b2 iV (ae 0) (eC (.str (Str.ofString "not")))) (cQ (e2 jG (eC (.int 1)) (e2 cg (ae 1) (eC (.int 0))))) fO) (cK (k4 (b2 iV (ae 0) (eC (.str (Str.ofString "and")))) (cQ (aG tu (aq (ae 1) aD))) fO) (cK (k4 (b2 iV (ae 0) (eC (.str (Str.ofString "or")))) (cQ (aG Bj (aq (ae 1) aD))) fO) (cK (k4 (b2 iV (ae 0) (eC (.str (Str.ofString "xor")))) (cQ (e2 ie (aG Dl (aq (ae 1) aD)) (eC (.int 2)))) fO) (cQ (aG q9 (aq (e2 wz (aG Dl (aq (ae 1) aD)) (eC (.int 1))) aD)))))))
noncomputable def eX:List D→R D:=lL k8 qz
theorem rY{P:Program}{w:World}{K:PySem.W.Frag}{mg:Str→Option Value}{base:Heap}{cl:Nat→Addr}(T:Tp K mg cl)(h:Def K mg (Str.ofString "_law_gate_bit") cz):Callee P w K mg base 1 (Str.ofString "_law_gate_bit") 2 eX:=by
 obtain⟨f,fd,F,hm⟩:=h
 exact⟨f,fd,_,cj (k:=0) pU.2 kU.2 F rn (fun cdv A outer s H E hr=>(aQ (cE (bt (g8 hr.units) (aa 0) bu (bF _)) (aF (ba (aL ot ag (az (aa 1) ag (fun _ _=>rfl))))) ck) (aQ (cE (bt (g8 hr.units) (aa 0) bu (bF _)) (aF (ba (aO (BJ rfl) rfl T.z_min PyProof.Rows.boot_min (ab (aa 1) ah)))) ck) (aQ (cE (bt (g8 hr.units) (aa 0) bu (bF _)) (aF (ba (aO (GV rfl) rfl T.z_max PyProof.Rows.boot_max (ab (aa 1) ah)))) ck) (aQ (cE (bt (g8 hr.units) (aa 0) bu (bF _)) (aF (ba (aL kQ (aO (BN rfl) rfl T.z_sum PyProof.Rows.boot_sum (ab (aa 1) ah)) ag))) ck) (aF (ba (dj um rfl T.z_int PyProof.Rows.boot_int (ab (jv Cb (aO (BN rfl) rfl T.z_sum PyProof.Rows.boot_sum (ab (aa 1) ah)) ag (bF _)) ah))))))))),hm,F.kp,F.binds fun _ _ _ _ _ _ us hl=>match us,hl with | [_,_],_=>rfl⟩
noncomputable abbrev dE:Stmt:=top 28
noncomputable abbrev lF:List Str:=[(Str.ofString "net"),(Str.ofString "bits"),(Str.ofString "turned"),(Str.ofString "bad"),(Str.ofString "wires"),(Str.ofString "k"),(Str.ofString "j"),(Str.ofString "place"),(Str.ofString "kind"),(Str.ofString "own"),(Str.ofString "sure"),(Str.ofString "bit")]
noncomputable def uz:{b:List Stmt // ak dE=b}:=by
 have e:ak dE=ak dE:=rfl
 conv at e=>rhs;whnf
 exact⟨_,e⟩
noncomputable def kF:{b:Scope // af dE=b}:=by
 have e:af dE=af dE:=rfl
 conv at e=>rhs;whnf
 exact⟨_,e⟩
theorem dC:aZ lF [(Str.ofString "net"),(Str.ofString "bits"),(Str.ofString "turned"),(Str.ofString "bad")] kF.1:=⟨rfl,rfl,rfl,by decide+kernel,rfl,by decide+kernel,by decide+kernel⟩
noncomputable def hV:FS:=(mN 4 (e2 ie (e2 eG (e2 cg (ae 1) (ae 5)) (aG q9 (aq (jw (e2 pZ (aG cP (aq (ae 4) aD)) (ae 3))) aD))) (eC (.int 2))))
noncomputable def g9:FS:=(nq (d5 (e2 cg (e2 cg (e2 cg (ae 0) (eC (.int 0))) (ae 5)) (eC (.int 1)))) (aV 6) hV)
noncomputable def hJ:FS:=(cK (pY (e2 cg (e2 cg (ae 0) (eC (.int 1))) (ae 7)) (gL 3 (cJ (aV 8) (cJ (aV 9) (cJ (aV 10) gQ))))) (cK (ig 11 (jw (aG eX (aq (ae 8) (aq (eNew (gO (eZ (ae 9)) (aV 0) rV (e2 cg (ae 1) (ae 0)) [(Str.ofString "one")] [4])) aD))))) (mN 4 (e2 ie (e2 eG (ae 11) (aG q9 (aq (e2 pZ (ae 7) (ae 2)) aD))) (eC (.int 2))))))
noncomputable def pQ:FS:=(cK (nj 4 (dX aD)) (cK (nq (d5 (aG cP (aq (e2 cg (ae 0) (eC (.int 0))) aD))) (aV 5) g9) (cK (nq (d5 (aG cP (aq (e2 cg (ae 0) (eC (.int 1))) aD))) (aV 7) hJ) (oU 4 (cQ (ae 4))))))
noncomputable def gc:List D→R D:=lL lF pQ
theorem vz{P:Program}{w:World}{K:PySem.W.Frag}{mg:Str→Option Value}{base:Heap}{cl:Nat→Addr}(T:Tp K mg cl)(h:Def K mg (Str.ofString "_law_wires") dE)(C_law_gate_bit:Callee P w K mg base 1 (Str.ofString "_law_gate_bit") 2 eX):Callee P w K mg base 2 (Str.ofString "_law_wires") 4 gc:=by
 obtain⟨f,fd,F,hm⟩:=h
 exact⟨f,fd,_,cj (k:=1) uz.2 kF.2 F dC (fun cdv A outer s H E hr=>(aQ (wO dC.nd rfl (Or.inr rfl) (bW ah)) (aQ (eR PassesOwn.never rfl (bY (aO df rfl T.z_len PySem.boot_len (ab (az (aa 0) ag (fun _ _=>rfl)) ah)) rfl T.z_range) (bj dC.nd rfl (Or.inl rfl)) (aF (eR PassesOwn.never rfl (bY (az (az (az (aa 0) ag (fun _ _=>rfl)) (aa 5) (fun _ _=>rfl)) ag (fun _ _=>rfl)) rfl T.z_range) (bj dC.nd rfl (Or.inl rfl)) (aF (rp rfl (Or.inr (Or.inl rfl)) (aL kQ (aL gp (az (aa 1) (aa 5) (fun _ _=>rfl)) (dj um rfl T.z_int PyProof.Rows.boot_int (ab (we (jv zX (aO df rfl T.z_len PySem.boot_len (ab (aa 4) ah)) (aa 3) (by with_unfolding_all rfl))) ah))) ag)))))) (aQ (eR PassesOwn.never rfl (bY (aO df rfl T.z_len PySem.boot_len (ab (az (aa 0) ag (fun _ _=>rfl)) ah)) rfl T.z_range) (bj dC.nd rfl (Or.inl rfl)) (aQ (BP (az (az (aa 0) ag (fun _ _=>rfl)) (aa 7) (fun _ _=>rfl)) (lN rfl (dm (bj dC.nd rfl (Or.inl rfl)) (dm (bj dC.nd rfl (Or.inl rfl)) (dm (bj dC.nd rfl (Or.inl rfl)) jV))))) (aQ (d9 dC.nd rfl (Or.inl rfl) (we (bJ C_law_gate_bit hr (by decide) rfl (ab (aa 8) (ab (cn (eT rfl (cD.of (own:=[(Str.ofString "one")]) (kp:=[4]) (kn:=[(Str.ofString "wires")]) (sc:=kF.1) (N:=lF) rfl rfl (by decide+kernel)) (cO (aa 9)) (fun _ _ _=>(bj (show List.Nodup [(Str.ofString "one"),(Str.ofString "wires")] from by decide+kernel) rfl (Or.inl rfl))) (fun _ _ _=>gf) (fun _ _ _=>(az (aa 1) (aa 0) (fun _ _=>rfl))))) ah)) (aC (aC bX))))) (aF (rp rfl (Or.inr (Or.inl rfl)) (aL kQ (aL gp (aa 11) (dj um rfl T.z_int PyProof.Rows.boot_int (ab (jv zX (aa 7) (aa 2) (by with_unfolding_all rfl)) ah))) ag)))))) (vG 4 (aF (ba (aa 4)))))))),hm,F.kp,F.binds fun _ _ _ _ _ _ us hl=>match us,hl with | [_,_,_,_],_=>rfl⟩
noncomputable abbrev et:Stmt:=top 29
noncomputable abbrev rL:List Str:=[(Str.ofString "some")]
noncomputable def vm:{b:List Stmt // ak et=b}:=by
 have e:ak et=ak et:=rfl
 conv at e=>rhs;whnf
 exact⟨_,e⟩
noncomputable def pF:{b:Scope // af et=b}:=by
 have e:af et=af et:=rfl
 conv at e=>rhs;whnf
 exact⟨_,e⟩
theorem xn:aZ rL [(Str.ofString "some")] pF.1:=⟨rfl,rfl,rfl,by decide+kernel,rfl,by decide+kernel,by decide+kernel⟩
noncomputable def xD:FS:=(cK (k4 (kj (b2 iV (aG cP (aq (ae 0) aD)) (eC (.int 2))) (b2 sV (e2 cg (ae 0) (eC (.int 0))) (e2 cg (ae 0) (eC (.int 1))))) (cQ (eC .cI)) fO) (cK (k4 (b2 iV (aG cP (aq (ae 0) aD)) (eC (.int 3))) (cQ (aG q9 (aq (e2 wz (aG Dl (aq (ae 0) aD)) (eC (.int 1))) aD))) fO) (cQ (e2 cg (ae 0) (eC (.int 0))))))
noncomputable def ji:List D→R D:=lL rL xD
theorem w9{P:Program}{w:World}{K:PySem.W.Frag}{mg:Str→Option Value}{base:Heap}{cl:Nat→Addr}(T:Tp K mg cl)(h:Def K mg (Str.ofString "_law_read") et):Callee P w K mg base 1 (Str.ofString "_law_read") 1 ji:=by
 obtain⟨f,fd,F,hm⟩:=h
 exact⟨f,fd,_,cj (k:=0) vm.2 pF.2 F xn (fun cdv A outer s H E hr=>(aQ (cE (kD (nL (bt (g8 hr.units) (aO df rfl T.z_len PySem.boot_len (ab (aa 0) ah)) ag (bF _)) (lU (bt (Cg hr.units) (az (aa 0) ag (fun _ _=>rfl)) (az (aa 0) ag (fun _ _=>rfl)) (bF _))))) (aF (ba l3)) ck) (aQ (cE (bt (g8 hr.units) (aO df rfl T.z_len PySem.boot_len (ab (aa 0) ah)) ag (bF _)) (aF (ba (dj um rfl T.z_int PyProof.Rows.boot_int (ab (jv Cb (aO (BN rfl) rfl T.z_sum PyProof.Rows.boot_sum (ab (aa 0) ah)) ag (bF _)) ah)))) ck) (aF (ba (az (aa 0) ag (fun _ _=>rfl))))))),hm,F.kp,F.binds fun _ _ _ _ _ _ us hl=>match us,hl with | [_],_=>rfl⟩
noncomputable abbrev dN:Stmt:=top 30
noncomputable abbrev jl:List Str:=[(Str.ofString "net"),(Str.ofString "bits"),(Str.ofString "turned"),(Str.ofString "bad"),(Str.ofString "wires")]
noncomputable def ub:{b:List Stmt // ak dN=b}:=by
 have e:ak dN=ak dN:=rfl
 conv at e=>rhs;whnf
 exact⟨_,e⟩
noncomputable def kB:{b:Scope // af dN=b}:=by
 have e:af dN=af dN:=rfl
 conv at e=>rhs;whnf
 exact⟨_,e⟩
theorem pq:aZ jl [(Str.ofString "net"),(Str.ofString "bits"),(Str.ofString "turned"),(Str.ofString "bad")] kB.1:=⟨rfl,rfl,rfl,by decide+kernel,rfl,by decide+kernel,by decide+kernel⟩
noncomputable def px:FS:=(cK (ig 4 (aG gc (aq (ae 0) (aq (ae 1) (aq (ae 2) (aq (ae 3) aD)))))) (cQ (eNew (gO (eZ (e2 cg (ae 0) (eC (.int 2)))) (gL 2 (cJ (aV 0) (cJ (aV 1) gQ))) rV (aG ji (aq (eNew (gO (eZ (ae 1)) (aV 0) rV (e2 cg (ae 1) (ae 0)) [(Str.ofString "one")] [2])) aD)) [(Str.ofString "name"),(Str.ofString "own")] [4]))))
noncomputable def dP:List D→R D:=lL jl px
theorem wu{P:Program}{w:World}{K:PySem.W.Frag}{mg:Str→Option Value}{base:Heap}{cl:Nat→Addr}(T:Tp K mg cl)(h:Def K mg (Str.ofString "_law_reads") dN)(C_law_wires:Callee P w K mg base 2 (Str.ofString "_law_wires") 4 gc)(C_law_read:Callee P w K mg base 1 (Str.ofString "_law_read") 1 ji):Callee P w K mg base 3 (Str.ofString "_law_reads") 4 dP:=by
 obtain⟨f,fd,F,hm⟩:=h
 exact⟨f,fd,_,cj (k:=2) ub.2 kB.2 F pq (fun cdv A outer s H E hr=>(aQ (d9 pq.nd rfl (Or.inr rfl) (bJ C_law_wires hr (by decide) rfl (ab (aa 0) (ab (aa 1) (ab (aa 2) (ab (aa 3) ah)))) (aC (aC (aC (aC bX)))))) (aF (ba (cn (eT rfl (cD.of (own:=[(Str.ofString "name"),(Str.ofString "own")]) (kp:=[4]) (kn:=[(Str.ofString "wires")]) (sc:=kB.1) (N:=jl) rfl rfl (by decide+kernel)) (cO (az (aa 0) ag (fun _ _=>rfl))) (fun _ _ _=>(lN rfl (dm (bj (show List.Nodup [(Str.ofString "name"),(Str.ofString "own"),(Str.ofString "wires")] from by decide+kernel) rfl (Or.inl rfl)) (dm (bj (show List.Nodup [(Str.ofString "name"),(Str.ofString "own"),(Str.ofString "wires")] from by decide+kernel) rfl (Or.inl rfl)) jV)))) (fun _ _ _=>gf) (fun _ _ _=>(bJ C_law_read hr (by decide) rfl (ab (cn (eT rfl (cD.of (own:=[(Str.ofString "one")]) (kp:=[2]) (kn:=[(Str.ofString "wires")]) rfl rfl rfl) (cO (aa 1)) (fun _ _ _=>(bj (show List.Nodup [(Str.ofString "one"),(Str.ofString "wires")] from by decide+kernel) rfl (Or.inl rfl))) (fun _ _ _=>gf) (fun _ _ _=>(az (aa 1) (aa 0) (fun _ _=>rfl))))) ah) (aC bX))))))))),hm,F.kp,F.binds fun _ _ _ _ _ _ us hl=>match us,hl with | [_,_,_,_],_=>rfl⟩
noncomputable abbrev c6:Stmt:=top 31
noncomputable abbrev kE:List Str:=[(Str.ofString "many"),(Str.ofString "found"),(Str.ofString "k"),(Str.ofString "wider"),(Str.ofString "bits")]
noncomputable def sJ:{b:List Stmt // ak c6=b}:=by
 have e:ak c6=ak c6:=rfl
 conv at e=>rhs;whnf
 exact⟨_,e⟩
noncomputable def mF:{b:Scope // af c6=b}:=by
 have e:af c6=af c6:=rfl
 conv at e=>rhs;whnf
 exact⟨_,e⟩
theorem er:aZ kE [(Str.ofString "many")] mF.1:=⟨rfl,rfl,rfl,by decide+kernel,rfl,by decide+kernel,by decide+kernel⟩
noncomputable def iZ:FS:=(ig 3 (e2 iB (ae 3) (eNew (dX (aq (e2 iB (ae 4) (dM (aq (eC (.int 0)) aD))) (aq (e2 iB (ae 4) (dM (aq (eC (.int 1)) aD))) aD))))))
noncomputable def i5:FS:=(cK (ig 3 (eNew (dX aD))) (cK (nq (eZ (ae 1)) (aV 4) iZ) (ig 1 (ae 3))))
noncomputable def nJ:FS:=(cK (ig 1 (eNew (dX (aq (dM aD) aD)))) (cK (nq (d5 (ae 0)) (aV 2) i5) (cQ (ae 1))))
noncomputable def fB:List D→R D:=lL kE nJ
theorem uU{P:Program}{w:World}{K:PySem.W.Frag}{mg:Str→Option Value}{base:Heap}{cl:Nat→Addr}(T:Tp K mg cl)(h:Def K mg (Str.ofString "_law_inputs") c6):Callee P w K mg base 1 (Str.ofString "_law_inputs") 1 fB:=by
 obtain⟨f,fd,F,hm⟩:=h
 exact⟨f,fd,_,cj (k:=0) sJ.2 mF.2 F er (fun cdv A outer s H E hr=>(aQ (d9 er.nd rfl (Or.inl rfl) (cn (bW (ab (bV ah) ah)))) (aQ (eR PassesOwn.never rfl (bY (aa 0) rfl T.z_range) (bj er.nd rfl (Or.inl rfl)) (aQ (d9 er.nd rfl (Or.inl rfl) (cn (bW ah))) (aQ (eR PassesOwn.never rfl (cO (aa 1)) (bj er.nd rfl (Or.inl rfl)) (aF (d9 er.nd rfl (Or.inl rfl) (aL j_ (aa 3) (cn (bW (ab (aL j_ (aa 4) (bV (ab ag ah))) (ab (aL j_ (aa 4) (bV (ab ag ah))) ah)))))))) (aF (d9 er.nd rfl (Or.inl rfl) (aa 3)))))) (aF (ba (aa 1)))))),hm,F.kp,F.binds fun _ _ _ _ _ _ us hl=>match us,hl with | [_],_=>rfl⟩
noncomputable abbrev cY:Stmt:=top 32
noncomputable abbrev iO:List Str:=[(Str.ofString "net"),(Str.ofString "turned"),(Str.ofString "inputs"),(Str.ofString "plain"),(Str.ofString "level"),(Str.ofString "number"),(Str.ofString "bits"),(Str.ofString "now"),(Str.ofString "due")]
noncomputable def sI:{b:List Stmt // ak cY=b}:=by
 have e:ak cY=ak cY:=rfl
 conv at e=>rhs;whnf
 exact⟨_,e⟩
noncomputable def mB:{b:Scope // af cY=b}:=by
 have e:af cY=af cY:=rfl
 conv at e=>rhs;whnf
 exact⟨_,e⟩
theorem gq:aZ iO [(Str.ofString "net"),(Str.ofString "turned"),(Str.ofString "inputs"),(Str.ofString "plain"),(Str.ofString "level")] mB.1:=⟨rfl,rfl,rfl,by decide+kernel,rfl,by decide+kernel,by decide+kernel⟩
noncomputable def lj:FZ:=(yM (bP (kj (b2 sV (ae 7) (ae 8)) (sL (b2 iV (ae 4) (eC (.str (Str.ofString "right")))) (b2 BR (ae 7) (eC .cI))))) (ij (xP (ae 5))) pX)
noncomputable def lB:FZ:=(ja (iP (A7 (aG dP (aq (ae 0) (aq (ae 6) (aq (ae 1) (aq (dM aD) aD))))) (e2 cg (ae 3) (ae 5)))) (uW 2 (sv (ju 7) (sv (ju 8) xH))) lj)
noncomputable def ke:FZ:=(bG (ja (iP (jb (ae 2))) (uW 2 (sv (ju 5) (sv (ju 6) xH))) lB) (ij (xP (eC .cI))))
noncomputable def mJ:List V3→aU→R3 V3:=md iO ke
noncomputable def fM:List V3→aU→R3 V3:=nF iO ke
theorem uI{P:Program}{w:World}{K:PySem.W.Frag}{mg:Str→Option Value}{base:Heap}{cl:Nat→Addr}(T:Tp K mg cl)(h:Def K mg (Str.ofString "_law_breaks") cY)(C_law_reads:Callee P w K mg base 3 (Str.ofString "_law_reads") 4 dP):aI P w K mg base cl 4 (Str.ofString "_law_breaks") 5 mJ:=by
 obtain⟨f,fd,F,hm⟩:=h
 exact⟨f,fd,_,cm (k:=3) sI.2 mB.2 F gq (fun cdv A outer s H E hr=>(av (dS PassesOwn.never rfl (cH (l9 (aa 2) rfl T.z_enumerate)) (lY rfl (dv (bq gq.nd rfl (Or.inl rfl)) (dv (bq gq.nd rfl (Or.inl rfl)) jX))) (aP (dS PassesOwn.never rfl (cH (CG (bJ C_law_reads hr (by decide) rfl (ab (aa 0) (ab (aa 6) (ab (aa 1) (ab (bV ah) ah)))) (aC (aC (aC (aC bX))))) (az (aa 3) (aa 5) (fun _ _=>rfl)) rfl T.z_zip)) (lY rfl (dv (bq gq.nd rfl (Or.inl rfl)) (dv (bq gq.nd rfl (Or.inl rfl)) jX))) (aP (mf (ip (kD (nL (bt (Cg hr.units) (aa 7) (aa 8) (bF _)) (lU (kD (uP (bt (g8 hr.units) (aa 4) bu (bF _)) (rZ (bt F3 (aa 7) l3 (bF _))))))))) (aP (c_ (au (aa 5)))) jq))))) (aP (c_ (au l3))))),hm,F.kp,F.binds fun _ _ _ _ _ _ us hl=>match us,hl with | [_,_,_,_,_],_=>rfl⟩
noncomputable abbrev eu:Stmt:=top 33
noncomputable abbrev j8:List Str:=[(Str.ofString "places"),(Str.ofString "few"),(Str.ofString "found"),(Str.ofString "k"),(Str.ofString "wider"),(Str.ofString "some")]
noncomputable def v7:{b:List Stmt // ak eu=b}:=by
 have e:ak eu=ak eu:=rfl
 conv at e=>rhs;whnf
 exact⟨_,e⟩
noncomputable def lH:{b:Scope // af eu=b}:=by
 have e:af eu=af eu:=rfl
 conv at e=>rhs;whnf
 exact⟨_,e⟩
theorem f6:aZ j8 [(Str.ofString "places"),(Str.ofString "few")] lH.1:=⟨rfl,rfl,rfl,by decide+kernel,rfl,by decide+kernel,by decide+kernel⟩
noncomputable def kC:FS:=(ig 4 (e2 iB (ae 4) (eNew (gO (eZ (ae 0)) (aV 0) (sL (b2 iV (ae 1) (dM aD)) (b2 wz (ae 0) (e2 cg (ae 1) (DS (eC (.int 1)))))) (e2 iB (ae 1) (dM (aq (ae 0) aD))) [(Str.ofString "place")] [5]))))
noncomputable def kG:FS:=(cK (ig 4 (eNew (dX aD))) (cK (nq (eZ (ae 2)) (aV 5) kC) (ig 2 (ae 4))))
noncomputable def qZ:FS:=(cK (ig 2 (eNew (dX (aq (dM aD) aD)))) (cK (nq (d5 (ae 1)) (aV 3) kG) (cQ (ae 2))))
noncomputable def gW:List D→R D:=lL j8 qZ
theorem xk{P:Program}{w:World}{K:PySem.W.Frag}{mg:Str→Option Value}{base:Heap}{cl:Nat→Addr}(T:Tp K mg cl)(h:Def K mg (Str.ofString "_law_sets") eu):Callee P w K mg base 1 (Str.ofString "_law_sets") 2 gW:=by
 obtain⟨f,fd,F,hm⟩:=h
 exact⟨f,fd,_,cj (k:=0) v7.2 lH.2 F f6 (fun cdv A outer s H E hr=>(aQ (d9 f6.nd rfl (Or.inl rfl) (cn (bW (ab (bV ah) ah)))) (aQ (eR PassesOwn.never rfl (bY (aa 1) rfl T.z_range) (bj f6.nd rfl (Or.inl rfl)) (aQ (d9 f6.nd rfl (Or.inl rfl) (cn (bW ah))) (aQ (eR PassesOwn.never rfl (cO (aa 2)) (bj f6.nd rfl (Or.inr rfl)) (aF (d9 f6.nd rfl (Or.inl rfl) (aL j_ (aa 4) (cn (eT rfl (cD.of (own:=[(Str.ofString "place")]) (kp:=[5]) (kn:=[(Str.ofString "some")]) (sc:=lH.1) (N:=j8) rfl rfl (by decide+kernel)) (cO (aa 0)) (fun _ _ _=>(bj (show List.Nodup [(Str.ofString "place"),(Str.ofString "some")] from by decide+kernel) rfl (Or.inl rfl))) (fun _ _ _=>(rD (kD (uP (bt (g8 hr.units) (aa 1) (bV ah) (bF _)) (rZ (bt Cb (aa 0) (az (aa 1) (ua ag) (fun _ _=>rfl)) (bF _))))))) (fun _ _ _=>(aL j_ (aa 1) (bV (ab (aa 0) ah)))))))))) (aF (d9 f6.nd rfl (Or.inl rfl) (aa 4)))))) (aF (ba (aa 2)))))),hm,F.kp,F.binds fun _ _ _ _ _ _ us hl=>match us,hl with | [_,_],_=>rfl⟩
noncomputable abbrev eD:Stmt:=top 34
noncomputable abbrev m_:List Str:=[(Str.ofString "net")]
noncomputable def wQ:{b:List Stmt // ak eD=b}:=by
 have e:ak eD=ak eD:=rfl
 conv at e=>rhs;whnf
 exact⟨_,e⟩
noncomputable def lq:{b:Scope // af eD=b}:=by
 have e:af eD=af eD:=rfl
 conv at e=>rhs;whnf
 exact⟨_,e⟩
theorem wZ:aZ m_ [(Str.ofString "net")] lq.1:=⟨rfl,rfl,rfl,by decide+kernel,rfl,by decide+kernel,by decide+kernel⟩
noncomputable def qF:FS:=(cQ (eNew (gO (d5 (aG cP (aq (e2 cg (ae 0) (eC (.int 1))) aD))) (aV 0) (kL (iW (e2 cg (e2 cg (e2 cg (ae 1) (eC (.int 1))) (ae 0)) (eC (.int 2))))) (ae 0) [(Str.ofString "place")] [0])))
noncomputable def gS:List D→R D:=lL m_ qF
theorem yi{P:Program}{w:World}{K:PySem.W.Frag}{mg:Str→Option Value}{base:Heap}{cl:Nat→Addr}(T:Tp K mg cl)(h:Def K mg (Str.ofString "_law_free") eD):Callee P w K mg base 1 (Str.ofString "_law_free") 1 gS:=by
 obtain⟨f,fd,F,hm⟩:=h
 exact⟨f,fd,_,cj (k:=0) wQ.2 lq.2 F wZ (fun cdv A outer s H E hr=>(aF (ba (cn (eT rfl (cD.of (own:=[(Str.ofString "place")]) (kp:=[0]) (kn:=[(Str.ofString "net")]) (sc:=lq.1) (N:=m_) rfl rfl (by decide+kernel)) (bY (aO df rfl T.z_len PySem.boot_len (ab (az (aa 0) ag (fun _ _=>rfl)) ah)) rfl T.z_range) (fun _ _ _=>(bj (show List.Nodup [(Str.ofString "place"),(Str.ofString "net")] from by decide+kernel) rfl (Or.inl rfl))) (fun _ _ _=>(rD (oj (iK (az (az (az (aa 1) ag (fun _ _=>rfl)) (aa 0) (fun _ _=>rfl)) ag (fun _ _=>rfl)))))) (fun _ _ _=>(aa 0))))))),hm,F.kp,F.binds fun _ _ _ _ _ _ us hl=>match us,hl with | [_],_=>rfl⟩
noncomputable abbrev fD:Stmt:=top 35
noncomputable abbrev jQ:List Str:=[(Str.ofString "net"),(Str.ofString "many"),(Str.ofString "level"),(Str.ofString "inputs"),(Str.ofString "plain"),(Str.ofString "few"),(Str.ofString "turned"),(Str.ofString "number")]
noncomputable def x5:{b:List Stmt // ak fD=b}:=by
 have e:ak fD=ak fD:=rfl
 conv at e=>rhs;whnf
 exact⟨_,e⟩
noncomputable def mU:{b:Scope // af fD=b}:=by
 have e:af fD=af fD:=rfl
 conv at e=>rhs;whnf
 exact⟨_,e⟩
theorem iU:aZ jQ [(Str.ofString "net"),(Str.ofString "many"),(Str.ofString "level")] mU.1:=⟨rfl,rfl,rfl,by decide+kernel,rfl,by decide+kernel,by decide+kernel⟩
noncomputable def pJ:FZ:=(bG (cC 7 (b_ fM (ax (xP (ae 0)) (ax (xP (ae 6)) (ax (xP (ae 3)) (ax (xP (ae 4)) (ax (xP (ae 2)) cw))))))) (yM (bP (b2 BR (ae 7) (eC .cI))) (ij (xP (dM (aq (eC (.str (Str.ofString "breaks"))) (aq (ae 6) (aq (ae 7) aD)))))) pX))
noncomputable def pG:FZ:=(ja (iP (eZ (aG gW (aq (aG gS (aq (ae 0) aD)) (aq (ae 5) aD))))) (ju 6) pJ)
noncomputable def oP:FZ:=(bG (cC 3 (xP (aG fB (aq (aG cP (aq (e2 cg (ae 0) (eC (.int 0))) aD)) aD)))) (bG (cC 4 (kR (iP (eZ (ae 3))) (ju 0) A8 (xP (aG dP (aq (ae 1) (aq (ae 0) (aq (dM aD) (aq (dM aD) aD)))))) [(Str.ofString "bits")] [0])) (bG (ja (iP (tZ (eC (.int 1)) (e2 eG (ae 1) (eC (.int 1))))) (ju 5) pG) (ij (xP (dM (aq (eC (.str (Str.ofString "bears"))) aD)))))))
noncomputable def qW:List V3→aU→R3 V3:=md jQ oP
noncomputable def kz:List V3→aU→R3 V3:=nF jQ oP
theorem Am{P:Program}{w:World}{K:PySem.W.Frag}{mg:Str→Option Value}{base:Heap}{cl:Nat→Addr}(T:Tp K mg cl)(h:Def K mg (Str.ofString "_law_due") fD)(C_law_inputs:Callee P w K mg base 1 (Str.ofString "_law_inputs") 1 fB)(C_law_reads:Callee P w K mg base 3 (Str.ofString "_law_reads") 4 dP)(C_law_free:Callee P w K mg base 1 (Str.ofString "_law_free") 1 gS)(C_law_sets:Callee P w K mg base 1 (Str.ofString "_law_sets") 2 gW)(XP_law_breaks:aI P w K mg base cl 4 (Str.ofString "_law_breaks") 5 fM):aI P w K mg base cl 5 (Str.ofString "_law_due") 3 qW:=by
 obtain⟨f,fd,F,hm⟩:=h
 exact⟨f,fd,_,cm (k:=4) x5.2 mU.2 F iU (fun cdv A outer s H E hr=>(av (bo iU.nd rfl (Or.inl rfl) (au (bJ C_law_inputs hr (by decide) rfl (ab (aO df rfl T.z_len PySem.boot_len (ab (az (aa 0) ag (fun _ _=>rfl)) ah)) ah) (aC bX)))) (av (rG rfl iU.nd rfl rfl (cD.of (own:=[(Str.ofString "bits")]) (kp:=[0]) (kn:=[(Str.ofString "net")]) (sc:=mU.1) (N:=jQ) rfl rfl (by decide+kernel)) (cH (cO (aa 3))) (fun _ _ _=>(bq (show List.Nodup [(Str.ofString "bits"),(Str.ofString "net")] from by decide+kernel) rfl (Or.inl rfl))) (fun _ _ _=>o3) (fun _ _ _=>(au (bJ C_law_reads hr (by decide) rfl (ab (aa 1) (ab (aa 0) (ab (bV ah) (ab (bV ah) ah)))) (aC (aC (aC (aC bX)))))))) (av (dS PassesOwn.never rfl (cH (wW ag (aL gp (aa 1) ag) rfl T.z_range)) (bq iU.nd rfl (Or.inl rfl)) (aP (dS PassesOwn.never rfl (cH (cO (bJ C_law_sets hr (by decide) rfl (ab (bJ C_law_free hr (by decide) rfl (ab (aa 0) ah) (aC bX)) (ab (aa 5) ah)) (aC (aC bX))))) (bq iU.nd rfl (Or.inl rfl)) (av (bo iU.nd rfl (Or.inl rfl) (bC XP_law_breaks hr (by decide) rfl (aj (au (aa 0)) (aj (au (aa 6)) (aj (au (aa 3)) (aj (au (aa 4)) (aj (au (aa 2)) aS))))) (ai (ai (ai (ai (ai aN))))))) (aP (mf (ip (bt F3 (aa 7) l3 (bF _))) (aP (c_ (au (bV (ab bu (ab (aa 6) (ab (aa 7) ah))))))) jq)))))) (aP (c_ (au (bV (ab bu ah))))))))),hm,F.kp,F.binds fun _ _ _ _ _ _ us hl=>match us,hl with | [_,_,_],_=>rfl⟩
noncomputable abbrev dA:Stmt:=top 36
noncomputable abbrev jA:List Str:=[(Str.ofString "found"),(Str.ofString "due"),(Str.ofString "k")]
noncomputable def t6:{b:List Stmt // ak dA=b}:=by
 have e:ak dA=ak dA:=rfl
 conv at e=>rhs;whnf
 exact⟨_,e⟩
noncomputable def nO:{b:Scope // af dA=b}:=by
 have e:af dA=af dA:=rfl
 conv at e=>rhs;whnf
 exact⟨_,e⟩
theorem pz:aZ jA [(Str.ofString "found"),(Str.ofString "due")] nO.1:=⟨rfl,rfl,rfl,by decide+kernel,rfl,by decide+kernel,by decide+kernel⟩
noncomputable def fQ(self:List D→R D):FS:=(k4 (kL (iW (aG self (aq (e2 cg (ae 0) (ae 2)) (aq (e2 cg (ae 1) (ae 2)) aD))))) (cQ (eC (.bl false))) fO)
noncomputable def ik(self:List D→R D):FS:=(cK (k4 (b2 JT (ae 1) (eC .cI)) (cQ (e2 JT (ae 0) (eC .cI))) fO) (cK (k4 (iW (kh "bool" (ae 1))) (cQ (oq (kh "bool" (ae 0)) (e2 iV (ae 0) (ae 1)))) fO) (cK (k4 (iW (kh "int" (ae 1))) (cQ (oq (kh "int" (ae 0)) (oq (qB (kh "bool" (ae 0))) (e2 iV (ae 0) (ae 1))))) fO) (cK (k4 (iW (kh "str" (ae 1))) (cQ (oq (kh "str" (ae 0)) (e2 iV (ae 0) (ae 1)))) fO) (cK (k4 (iW (kh "tuple" (ae 1))) (k4 (kL (iW (kh "tuple" (ae 0)))) (cQ (eC (.bl false))) fO) (k4 (kL (iW (kh "list" (ae 0)))) (cQ (eC (.bl false))) fO)) (cK (k4 (b2 sV (aG cP (aq (ae 0) aD)) (aG cP (aq (ae 1) aD))) (cQ (eC (.bl false))) fO) (cK (nq (d5 (aG cP (aq (ae 1) aD))) (aV 2) (fQ self)) (cQ (eC (.bl true))))))))))
noncomputable def bZ:Nat→List D→R D
 | 0=>fun _=> .no
 | n+1=>lL jA (ik (bZ n))
theorem pN{P:Program}{w:World}{K:PySem.W.Frag}{mg:Str→Option Value}{base:Heap}{cl:Nat→Addr}(T:Tp K mg cl)(h:Def K mg (Str.ofString "_law_alike") dA):∀n,Callee P w K mg base (1+n) (Str.ofString "_law_alike") 2 (bZ n)
 | 0=>by
   obtain⟨f,fd,F,hm⟩:=h
   exact⟨f,fd,[(Str.ofString "found"),(Str.ofString "due")],FH,hm,F.kp,F.binds fun _ _ _ _ _ _ us hl=>match us,hl with | [_,_],_=>rfl⟩
 | n+1=>by
   have C_self:=pN (P:=P) (w:=w) (K:=K) (mg:=mg) (base:=base) T h n
   obtain⟨f,fd,F,hm⟩:=h
   exact⟨f,fd,_,cj (k:=1+n) t6.2 nO.2 F pz (fun cdv A outer s H E hr=>(aQ (cE (bt Jl (aa 1) l3 (bF _)) (aF (ba (jv Jl (aa 0) l3 (bF _)))) ck) (aQ (cE (iK (hW (aa 1) (by decide) rfl T.z_isinstance rfl T.z_bool PyProof.Rows.boot_bool)) (aF (ba (qg (hW (aa 0) (by decide) rfl T.z_isinstance rfl T.z_bool PyProof.Rows.boot_bool) (t8 (jv (g8 hr.units) (aa 0) (aa 1) (bF _)))))) ck) (aQ (cE (iK (hW (aa 1) (by decide) rfl T.z_isinstance rfl T.z_int PyProof.Rows.boot_int)) (aF (ba (qg (hW (aa 0) (by decide) rfl T.z_isinstance rfl T.z_int PyProof.Rows.boot_int) (qg (EH (hW (aa 0) (by decide) rfl T.z_isinstance rfl T.z_bool PyProof.Rows.boot_bool)) (t8 (jv (g8 hr.units) (aa 0) (aa 1) (bF _))))))) ck) (aQ (cE (iK (hW (aa 1) (by decide) rfl T.z_isinstance rfl T.z_str PyProof.Rows.boot_str)) (aF (ba (qg (hW (aa 0) (by decide) rfl T.z_isinstance rfl T.z_str PyProof.Rows.boot_str) (t8 (jv (g8 hr.units) (aa 0) (aa 1) (bF _)))))) ck) (aQ (cE (iK (hW (aa 1) (by decide) rfl T.z_isinstance rfl T.z_tuple PyProof.Rows.boot_tuple)) (aF (cE (oj (iK (hW (aa 0) (by decide) rfl T.z_isinstance rfl T.z_tuple PyProof.Rows.boot_tuple))) (aF (ba oR)) ck)) (aF (cE (oj (iK (hW (aa 0) (by decide) rfl T.z_isinstance rfl T.z_list PyProof.Rows.boot_list))) (aF (ba oR)) ck))) (aQ (cE (bt (Cg hr.units) (aO df rfl T.z_len PySem.boot_len (ab (aa 0) ah)) (aO df rfl T.z_len PySem.boot_len (ab (aa 1) ah)) (bF _)) (aF (ba oR)) ck) (aQ (eR PassesOwn.never rfl (bY (aO df rfl T.z_len PySem.boot_len (ab (aa 1) ah)) rfl T.z_range) (bj pz.nd rfl (Or.inl rfl)) (aF (cE (oj (iK (bJ C_self hr (by omega) rfl (ab (az (aa 0) (aa 2) (fun _ _=>rfl)) (ab (az (aa 1) (aa 2) (fun _ _=>rfl)) ah)) (aC (aC bX))))) (aF (ba oR)) ck))) (aF (ba oR)))))))))),hm,F.kp,F.binds fun _ _ _ _ _ _ us hl=>match us,hl with | [_,_],_=>rfl⟩
noncomputable abbrev cZ:Stmt:=top 37
noncomputable abbrev n9:List Str:=[(Str.ofString "net")]
noncomputable def sF:{b:List Stmt // ak cZ=b}:=by
 have e:ak cZ=ak cZ:=rfl
 conv at e=>rhs;whnf
 exact⟨_,e⟩
noncomputable def mE:{b:Scope // af cZ=b}:=by
 have e:af cZ=af cZ:=rfl
 conv at e=>rhs;whnf
 exact⟨_,e⟩
theorem uN:aZ n9 [(Str.ofString "net")] mE.1:=⟨rfl,rfl,rfl,by decide+kernel,rfl,by decide+kernel,by decide+kernel⟩
noncomputable def tY:FS:=(cQ (dM (aq (aG j1 (aq (e2 cg (ae 0) (eC (.int 0))) aD)) (aq (aG j1 (aq (e2 cg (ae 0) (eC (.int 1))) aD)) (aq (aG j1 (aq (e2 cg (ae 0) (eC (.int 2))) aD)) aD)))))
noncomputable def iH:List D→R D:=lL n9 tY
theorem uw{P:Program}{w:World}{K:PySem.W.Frag}{mg:Str→Option Value}{base:Heap}{cl:Nat→Addr}(T:Tp K mg cl)(h:Def K mg (Str.ofString "_law_copied") cZ):Callee P w K mg base 1 (Str.ofString "_law_copied") 1 iH:=by
 obtain⟨f,fd,F,hm⟩:=h
 exact⟨f,fd,_,cj (k:=0) sF.2 mE.2 F uN (fun cdv A outer s H E hr=>(aF (ba (bV (ab (dj xw rfl T.z_list PyProof.Rows.boot_list (ab (az (aa 0) ag (fun _ _=>rfl)) ah)) (ab (dj xw rfl T.z_list PyProof.Rows.boot_list (ab (az (aa 0) ag (fun _ _=>rfl)) ah)) (ab (dj xw rfl T.z_list PyProof.Rows.boot_list (ab (az (aa 0) ag (fun _ _=>rfl)) ah)) ah))))))),hm,F.kp,F.binds fun _ _ _ _ _ _ us hl=>match us,hl with | [_],_=>rfl⟩
noncomputable abbrev pR:Stmt:=top 38
noncomputable abbrev qH:List Str:=[(Str.ofString "script"),(Str.ofString "reel"),(Str.ofString "cells"),(Str.ofString "k"),(Str.ofString "net"),(Str.ofString "handed"),(Str.ofString "more"),(Str.ofString "many"),(Str.ofString "level")]
noncomputable def Gy:{b:List Stmt // ak pR=b}:=by
 have e:ak pR=ak pR:=rfl
 conv at e=>rhs;whnf
 exact⟨_,e⟩
noncomputable def A6:{b:Scope // af pR=b}:=by
 have e:af pR=af pR:=rfl
 conv at e=>rhs;whnf
 exact⟨_,e⟩
theorem lO:aZ qH [(Str.ofString "script")] A6.1:=⟨rfl,rfl,rfl,by decide+kernel,rfl,by decide+kernel,by decide+kernel⟩
noncomputable def yT:FZ:=(cC 2 (x2 eG (xP (ae 2)) (G7 (ax (b_ aA (ax (bO 1) (ax (xP (e2 qv (eC (.int 10)) (eC (.int 40)))) cw))) cw))))
noncomputable def yA:FZ:=(yM (Gv (EV (rN (bZ 5) (ax (b_ oz (ax (xP (ae 5)) (ax (xP (ae 7)) (ax (xP (ae 8)) cw)))) (ax (b_ kz (ax (xP (ae 4)) (ax (xP (ae 7)) (ax (xP (ae 8)) cw)))) cw))))) (ij (xP (eC (.bl false)))) pX)
noncomputable def tQ:FZ:=(bG (cC 1 (b_ eg (ax (xP (aG dR (aq (ae 0) (aq (eC (.int 0)) aD)))) cw))) (bG (cC 2 (xP (xV (ae 0) (iF (eC (.int 2))) (iF (eC (.int 10)))))) (bG (ja (iP (d5 (e2 jG (eC (.int 2)) (aG cP (aq (ae 2) aD))))) (ju 3) yT) (bG (cC 4 (b_ kI (ax (bO 1) (ax (xP (ae 2)) (ax (xP (eC (.int 4))) (ax (Bt (xP (eNew (dX (aq (eC (.int 1)) (aq (eC (.int 1)) (aq (eC (.int 0)) (aq (eC (.int 4)) aD))))))) (b_ aA (ax (bO 1) (ax (xP (eC (.int 4))) cw)))) cw)))))) (bG (cC 5 (xP (aG iH (aq (ae 4) aD)))) (bG (cC 1 (b_ eg (ax (xP (aG dR (aq (ae 0) (aq (eC (.int 1)) aD)))) cw))) (bG (cC 6 (b_ aA (ax (bO 1) (ax (xP (eC (.int 4))) cw)))) (bG (ja (iP (eZ (eNew (dX (aq (dM (aq (ae 6) (aq (eC (.str (Str.ofString "right"))) aD))) (aq (dM (aq (ae 6) (aq (eC (.str (Str.ofString "safe"))) aD))) (aq (dM (aq (eC (.int 1)) (aq (eC (.str (Str.ofString "right"))) aD))) (aq (dM (aq (eC (.int 0)) (aq (eC (.str (Str.ofString "right"))) aD))) aD)))))))) (uW 2 (sv (ju 7) (sv (ju 8) xH))) yA) (ij (xP (aG (bZ 5) (aq (ae 5) (aq (ae 4) aD)))))))))))))
noncomputable def KH:List V3→aU→R3 V3:=md qH tQ
noncomputable def La:List V3→aU→R3 V3:=nF qH tQ
noncomputable def zg:List D→R D:=J1 qH tQ
structure Cf (K:PySem.W.Frag) (mg:Str→Option Value) (cl:Nat→Addr):Prop where
 C_Bench:u0 K (cl 0)
 N_Bench_net:dk K (cl 0) (Str.ofString "net")
 N_Bench_many_inputs:dk K (cl 0) (Str.ofString "many_inputs")
 N_Bench_full:dk K (cl 0) (Str.ofString "full")
 N_Bench_in_masks:dk K (cl 0) (Str.ofString "in_masks")
 M_Bench:mg (Str.ofString "Bench")=some (.ref (cl 0))
 C_Trial:u0 K (cl 1)
 N_Trial_bench:dk K (cl 1) (Str.ofString "bench")
 N_Trial_plain:dk K (cl 1) (Str.ofString "plain")
 N_Trial_unsure:dk K (cl 1) (Str.ofString "unsure")
 M_Trial:mg (Str.ofString "Trial")=some (.ref (cl 1))
 D_Bench___init__:z9 K (cl 0) (Str.ofString "__init__") (Str.ofString "Bench.__init__") bA
 D_Bench_tells:p_ K (cl 0) (Str.ofString "tells") (Str.ofString "Bench.tells") bN
 D_Bench_readings:p_ K (cl 0) (Str.ofString "readings") (Str.ofString "Bench.readings") bz
 D_Trial___init__:z9 K (cl 1) (Str.ofString "__init__") (Str.ofString "Trial.__init__") bB
 D_Trial_breaks_at:p_ K (cl 1) (Str.ofString "breaks_at") (Str.ofString "Trial.breaks_at") bh
 D_Bench_inputs_in:p_ K (cl 0) (Str.ofString "inputs_in") (Str.ofString "Bench.inputs_in") bg
theorem Ih{K:PySem.W.Frag}{h:Heap}{mg:Str→Option Value}(X:K.In h)(G:h.Ns mainGlobals mg){C0:Addr}{C1:Addr}{f0:Addr}{od0 an0:Option Addr}{sl0:Array (Option Value)}{oc0 kV0 dc0 pm0 cd0 ct0:Value}{f1:Addr}{od1 an1:Option Addr}{sl1:Array (Option Value)}{oc1 kV1 dc1 pm1 cd1 ct1:Value}{f2:Addr}{od2 an2:Option Addr}{sl2:Array (Option Value)}{oc2 kV2 dc2 pm2 cd2 ct2:Value}{f3:Addr}{od3 an3:Option Addr}{sl3:Array (Option Value)}{oc3 kV3 dc3 pm3 cd3 ct3:Value}{f4:Addr}{od4 an4:Option Addr}{sl4:Array (Option Value)}{oc4 kV4 dc4 pm4 cd4 ct4:Value}{f5:Addr}{od5 an5:Option Addr}{sl5:Array (Option Value)}{oc5 kV5 dc5 pm5 cd5 ct5:Value}(aC0:PySem.W.nsIn K mainGlobals (Str.ofString "Bench")=some (some (.ref C0)))(pg0:PySem.W.plainGet K C0 Str.empty=true)(hd0:PySem.W.hasDictIn K C0=true)(po0:PySem.W.plainOver K C0=true)(sa0:PySem.W.findIn K (.ref C0) "__setattr__"=some (some (.builtin "object.__setattr__")))(mk0:PySem.W.makesIn K C0=true)(kc0:PySem.W.keepIn K (.ref C0)=true)(n0_net:PySem.W.findIn K (.ref C0) (Str.ofString "net")=some none)(n0_many_inputs:PySem.W.findIn K (.ref C0) (Str.ofString "many_inputs")=some none)(n0_full:PySem.W.findIn K (.ref C0) (Str.ofString "full")=some none)(n0_in_masks:PySem.W.findIn K (.ref C0) (Str.ofString "in_masks")=some none)(aC1:PySem.W.nsIn K mainGlobals (Str.ofString "Trial")=some (some (.ref C1)))(pg1:PySem.W.plainGet K C1 Str.empty=true)(hd1:PySem.W.hasDictIn K C1=true)(po1:PySem.W.plainOver K C1=true)(sa1:PySem.W.findIn K (.ref C1) "__setattr__"=some (some (.builtin "object.__setattr__")))(mk1:PySem.W.makesIn K C1=true)(kc1:PySem.W.keepIn K (.ref C1)=true)(n1_bench:PySem.W.findIn K (.ref C1) (Str.ofString "bench")=some none)(n1_plain:PySem.W.findIn K (.ref C1) (Str.ofString "plain")=some none)(n1_unsure:PySem.W.findIn K (.ref C1) (Str.ofString "unsure")=some none)(a_Bench___init__:PySem.W.findIn K (.ref C0) (Str.ofString "__init__")=some (some (.ref f0)))(i_Bench___init__:PySem.W.isFn K (.ref f0)=true)(l_Bench___init__:K.lookup f0=some ⟨oc0,od0, .func (PySem.W.fnOf (Str.ofString "__init__") (Str.ofString "Bench.__init__") (gJ bA) (ak bA) (af bA) .none kV0 dc0 pm0 an0 cd0 ct0),sl0⟩)(d_:PySem.W.codeIn K cd0 (Str.ofString "Bench.__init__")=true)(k_Bench___init__:PySem.W.keepIn K (.ref f0)=true)(a_Bench_tells:PySem.W.findIn K (.ref C0) (Str.ofString "tells")=some (some (.ref f1)))(i_Bench_tells:PySem.W.isFn K (.ref f1)=true)(l_Bench_tells:K.lookup f1=some ⟨oc1,od1, .func (PySem.W.fnOf (Str.ofString "tells") (Str.ofString "Bench.tells") (gJ bN) (ak bN) (af bN) .none kV1 dc1 pm1 an1 cd1 ct1),sl1⟩)(fP:PySem.W.codeIn K cd1 (Str.ofString "Bench.tells")=true)(k_Bench_tells:PySem.W.keepIn K (.ref f1)=true)(a_Bench_readings:PySem.W.findIn K (.ref C0) (Str.ofString "readings")=some (some (.ref f2)))(i_Bench_readings:PySem.W.isFn K (.ref f2)=true)(l_Bench_readings:K.lookup f2=some ⟨oc2,od2, .func (PySem.W.fnOf (Str.ofString "readings") (Str.ofString "Bench.readings") (gJ bz) (ak bz) (af bz) .none kV2 dc2 pm2 an2 cd2 ct2),sl2⟩)(d4:PySem.W.codeIn K cd2 (Str.ofString "Bench.readings")=true)(k_Bench_readings:PySem.W.keepIn K (.ref f2)=true)(a_Trial___init__:PySem.W.findIn K (.ref C1) (Str.ofString "__init__")=some (some (.ref f3)))(i_Trial___init__:PySem.W.isFn K (.ref f3)=true)(l_Trial___init__:K.lookup f3=some ⟨oc3,od3, .func (PySem.W.fnOf (Str.ofString "__init__") (Str.ofString "Trial.__init__") (gJ bB) (ak bB) (af bB) .none kV3 dc3 pm3 an3 cd3 ct3),sl3⟩)(d7:PySem.W.codeIn K cd3 (Str.ofString "Trial.__init__")=true)(k_Trial___init__:PySem.W.keepIn K (.ref f3)=true)(a_Trial_breaks_at:PySem.W.findIn K (.ref C1) (Str.ofString "breaks_at")=some (some (.ref f4)))(i_Trial_breaks_at:PySem.W.isFn K (.ref f4)=true)(l_Trial_breaks_at:K.lookup f4=some ⟨oc4,od4, .func (PySem.W.fnOf (Str.ofString "breaks_at") (Str.ofString "Trial.breaks_at") (gJ bh) (ak bh) (af bh) .none kV4 dc4 pm4 an4 cd4 ct4),sl4⟩)(dG:PySem.W.codeIn K cd4 (Str.ofString "Trial.breaks_at")=true)(k_Trial_breaks_at:PySem.W.keepIn K (.ref f4)=true)(a_Bench_inputs_in:PySem.W.findIn K (.ref C0) (Str.ofString "inputs_in")=some (some (.ref f5)))(i_Bench_inputs_in:PySem.W.isFn K (.ref f5)=true)(l_Bench_inputs_in:K.lookup f5=some ⟨oc5,od5, .func (PySem.W.fnOf (Str.ofString "inputs_in") (Str.ofString "Bench.inputs_in") (gJ bg) (ak bg) (af bg) .none kV5 dc5 pm5 an5 cd5 ct5),sl5⟩)(dw:PySem.W.codeIn K cd5 (Str.ofString "Bench.inputs_in")=true)(k_Bench_inputs_in:PySem.W.keepIn K (.ref f5)=true):∃cl,Cf K mg cl:=by
 exact⟨fun n=>if n=0 then C0 else C1,⟨pg0,hd0,po0,sa0⟩,n0_net,n0_many_inputs,n0_full,n0_in_masks,PySem.W.mg_of X G aC0,⟨pg1,hd1,po1,sa1⟩,n1_bench,n1_plain,n1_unsure,PySem.W.mg_of X G aC1,⟨_,_,m4 (st:=bA) l_Bench___init__ d_ k_Bench___init__,⟨mk0,a_Bench___init__,i_Bench___init__,kc0⟩⟩,⟨_,_,m4 (st:=bN) l_Bench_tells fP k_Bench_tells,⟨a_Bench_tells,i_Bench_tells,k_Bench_tells⟩⟩,⟨_,_,m4 (st:=bz) l_Bench_readings d4 k_Bench_readings,⟨a_Bench_readings,i_Bench_readings,k_Bench_readings⟩⟩,⟨_,_,m4 (st:=bB) l_Trial___init__ d7 k_Trial___init__,⟨mk1,a_Trial___init__,i_Trial___init__,kc1⟩⟩,⟨_,_,m4 (st:=bh) l_Trial_breaks_at dG k_Trial_breaks_at,⟨a_Trial_breaks_at,i_Trial_breaks_at,k_Trial_breaks_at⟩⟩,⟨_,_,m4 (st:=bg) l_Bench_inputs_in dw k_Bench_inputs_in,⟨a_Bench_inputs_in,i_Bench_inputs_in,k_Bench_inputs_in⟩⟩⟩
theorem Gh{P:Program}{w:World}{K:PySem.W.Frag}{mg:Str→Option Value}{base:Heap}{f:Addr}{fd:FuncData}{cl:Nat→Addr}(T:Tp K mg cl)(D_vote_of:Def K mg (Str.ofString "vote_of") fF)(D_gate_mask:Def K mg (Str.ofString "gate_mask") dI)(D_in_wire_masks:Def K mg (Str.ofString "in_wire_masks") cq)(D_masks_at:Def K mg (Str.ofString "masks_at") el)(D_wire_masks:Def K mg (Str.ofString "wire_masks") dc)(D_out_masks:Def K mg (Str.ofString "out_masks") dF)(D_reading:Def K mg (Str.ofString "reading") fH)(D_bit_at:Def K mg (Str.ofString "bit_at") gy)(D_all_inputs:Def K mg (Str.ofString "all_inputs") de)(D_mask_of:Def K mg (Str.ofString "mask_of") fA)(D_in_mask:Def K mg (Str.ofString "in_mask") fw)(D_choices:Def K mg (Str.ofString "choices") fI)(D_Bench___init__:z9 K (cl 0) (Str.ofString "__init__") (Str.ofString "Bench.__init__") bA)(D_Bench_tells:p_ K (cl 0) (Str.ofString "tells") (Str.ofString "Bench.tells") bN)(D_Bench_readings:p_ K (cl 0) (Str.ofString "readings") (Str.ofString "Bench.readings") bz)(D_Trial___init__:z9 K (cl 1) (Str.ofString "__init__") (Str.ofString "Trial.__init__") bB)(D_Trial_breaks_at:p_ K (cl 1) (Str.ofString "breaks_at") (Str.ofString "Trial.breaks_at") bh)(D_Bench_inputs_in:p_ K (cl 0) (Str.ofString "inputs_in") (Str.ofString "Bench.inputs_in") bg)(D_bears:Def K mg (Str.ofString "bears") iL)(D_law_cell_at:Def K mg (Str.ofString "_law_cell_at") cL)(D_law_reel:Def K mg (Str.ofString "_law_reel") ei)(D_law_take:Def K mg (Str.ofString "_law_take") eE)(D_law_names:Def K mg (Str.ofString "_law_names") dy)(D_law_gate:Def K mg (Str.ofString "_law_gate") eB)(D_law_again:Def K mg (Str.ofString "_law_again") dD)(D_law_outs:Def K mg (Str.ofString "_law_outs") eH)(D_law_net:Def K mg (Str.ofString "_law_net") fG)(D_law_gate_bit:Def K mg (Str.ofString "_law_gate_bit") cz)(D_law_wires:Def K mg (Str.ofString "_law_wires") dE)(D_law_read:Def K mg (Str.ofString "_law_read") et)(D_law_reads:Def K mg (Str.ofString "_law_reads") dN)(D_law_inputs:Def K mg (Str.ofString "_law_inputs") c6)(D_law_breaks:Def K mg (Str.ofString "_law_breaks") cY)(D_law_sets:Def K mg (Str.ofString "_law_sets") eu)(D_law_free:Def K mg (Str.ofString "_law_free") eD)(D_law_due:Def K mg (Str.ofString "_law_due") fD)(D_law_alike:Def K mg (Str.ofString "_law_alike") dA)(D_law_copied:Def K mg (Str.ofString "_law_copied") cZ)(F:yW K (Str.ofString "law") (Str.ofString "law") pR f fd):iQ P w K mg base si 9 f fd [Str.ofString "script"] (Bf K 1 zg):=by
 have C_vote_of:Callee P w K mg base 1 (Str.ofString "vote_of") 1 gd:=Ap T D_vote_of
 have C_gate_mask:Callee P w K mg base 2 (Str.ofString "gate_mask") 3 f9:=vJ T D_gate_mask C_vote_of
 have XK_in_wire_masks:aI P w K mg base cl 1 (Str.ofString "in_wire_masks") 4 di:=qb T D_in_wire_masks
 have XP_in_wire_masks:aI P w K mg base cl 1 (Str.ofString "in_wire_masks") 4 oG:=XK_in_wire_masks.p
 have C_masks_at:Callee P w K mg base 1 (Str.ofString "masks_at") 2 fq:=xE T D_masks_at
 have XK_wire_masks:aI P w K mg base cl 3 (Str.ofString "wire_masks") 5 mD:=uO T D_wire_masks C_masks_at C_gate_mask XK_in_wire_masks
 have XP_wire_masks:aI P w K mg base cl 3 (Str.ofString "wire_masks") 5 fS:=XK_wire_masks.p
 have XK_out_masks:aI P w K mg base cl 2 (Str.ofString "out_masks") 2 nU:=vt T D_out_masks C_masks_at
 have XP_out_masks:aI P w K mg base cl 2 (Str.ofString "out_masks") 2 gz:=XK_out_masks.p
 have C_reading:Callee P w K mg base 2 (Str.ofString "reading") 2 iR:=Aq T D_reading C_vote_of
 have C_bit_at:Callee P w K mg base 1 (Str.ofString "bit_at") 2 jU:=Bd T D_bit_at
 have XK_all_inputs:aI P w K mg base cl 1 (Str.ofString "all_inputs") 1 mm:=ui T D_all_inputs
 have XP_all_inputs:aI P w K mg base cl 1 (Str.ofString "all_inputs") 1 fN:=XK_all_inputs.p
 have C_mask_of:Callee P w K mg base 1 (Str.ofString "mask_of") 1 f7:=Ac T D_mask_of
 have C_in_mask:Callee P w K mg base 2 (Str.ofString "in_mask") 2 iS:=Ao T D_in_mask C_mask_of
 have C_choices:Callee P w K mg base 5 (Str.ofString "choices") 2 (d3 4):=tM T D_choices 4
 have XK_Bench___init__:qx P w K mg base cl 3 0 (Str.ofString "Bench") 1 cR:=d_ T D_Bench___init__ C_mask_of C_in_mask XP_all_inputs
 have XK_Bench_tells:fT P w K mg base cl 4 0 (Str.ofString "tells") 2 lA:=fP T D_Bench_tells XP_out_masks XP_wire_masks
 have XP_Bench_tells:fT P w K mg base cl 4 0 (Str.ofString "tells") 2 eY:=XK_Bench_tells.p
 have XK_Bench_readings:fT P w K mg base cl 5 0 (Str.ofString "readings") 1 jr:=d4 T D_Bench_readings C_reading XP_Bench_tells
 have XP_Bench_readings:fT P w K mg base cl 5 0 (Str.ofString "readings") 1 cB:=XK_Bench_readings.p
 have XK_Trial___init__:qx P w K mg base cl 6 1 (Str.ofString "Trial") 1 cU:=d7 T D_Trial___init__ XK_Bench___init__ XP_Bench_readings
 have XK_Trial_breaks_at:fT P w K mg base cl 6 1 (Str.ofString "breaks_at") 2 jf:=dG T D_Trial_breaks_at XP_Bench_readings
 have XP_Trial_breaks_at:fT P w K mg base cl 6 1 (Str.ofString "breaks_at") 2 dq:=XK_Trial_breaks_at.p
 have XK_Bench_inputs_in:fT P w K mg base cl 2 0 (Str.ofString "inputs_in") 1 iX:=dw T D_Bench_inputs_in C_bit_at
 have XP_Bench_inputs_in:fT P w K mg base cl 2 0 (Str.ofString "inputs_in") 1 dn:=XK_Bench_inputs_in.p
 have XK_bears:aI P w K mg base cl 8 (Str.ofString "bears") 3 vn:=DJ T D_bears C_choices XK_Trial___init__ XP_Trial_breaks_at XP_Bench_inputs_in
 have XP_bears:aI P w K mg base cl 8 (Str.ofString "bears") 3 oz:=XK_bears.p
 have C_law_cell_at:Callee P w K mg base 1 (Str.ofString "_law_cell_at") 2 dR:=sG T D_law_cell_at
 have XK_law_reel:aI P w K mg base cl 1 (Str.ofString "_law_reel") 1 eg:=yp T D_law_reel
 have XP_law_reel:aI P w K mg base cl 1 (Str.ofString "_law_reel") 1 vb:=XK_law_reel.p
 have XK_law_take:aI P w K mg base cl 1 (Str.ofString "_law_take") 2 pC:=x4 T D_law_take
 have XP_law_take:aI P w K mg base cl 1 (Str.ofString "_law_take") 2 aA:=XK_law_take.p
 have XK_law_names:aI P w K mg base cl 2 (Str.ofString "_law_names") 2 n8:=vR T D_law_names XP_law_take
 have XP_law_names:aI P w K mg base cl 2 (Str.ofString "_law_names") 2 gC:=XK_law_names.p
 have XK_law_gate:aI P w K mg base cl 2 (Str.ofString "_law_gate") 3 pT:=yb T D_law_gate XP_law_take
 have XP_law_gate:aI P w K mg base cl 2 (Str.ofString "_law_gate") 3 gg:=XK_law_gate.p
 have XK_law_again:aI P w K mg base cl 2 (Str.ofString "_law_again") 3 nM:=va T D_law_again XP_law_take
 have XP_law_again:aI P w K mg base cl 2 (Str.ofString "_law_again") 3 gx:=XK_law_again.p
 have XK_law_outs:aI P w K mg base cl 2 (Str.ofString "_law_outs") 4 pH:=xt T D_law_outs XP_law_take
 have XP_law_outs:aI P w K mg base cl 2 (Str.ofString "_law_outs") 4 ib:=XK_law_outs.p
 have XK_law_net:aI P w K mg base cl 3 (Str.ofString "_law_net") 4 rP:=AB T D_law_net XP_law_names XP_law_take XK_law_reel XP_law_again XP_law_gate XP_law_outs
 have XP_law_net:aI P w K mg base cl 3 (Str.ofString "_law_net") 4 kI:=XK_law_net.p
 have C_law_gate_bit:Callee P w K mg base 1 (Str.ofString "_law_gate_bit") 2 eX:=rY T D_law_gate_bit
 have C_law_wires:Callee P w K mg base 2 (Str.ofString "_law_wires") 4 gc:=vz T D_law_wires C_law_gate_bit
 have C_law_read:Callee P w K mg base 1 (Str.ofString "_law_read") 1 ji:=w9 T D_law_read
 have C_law_reads:Callee P w K mg base 3 (Str.ofString "_law_reads") 4 dP:=wu T D_law_reads C_law_wires C_law_read
 have C_law_inputs:Callee P w K mg base 1 (Str.ofString "_law_inputs") 1 fB:=uU T D_law_inputs
 have XK_law_breaks:aI P w K mg base cl 4 (Str.ofString "_law_breaks") 5 mJ:=uI T D_law_breaks C_law_reads
 have XP_law_breaks:aI P w K mg base cl 4 (Str.ofString "_law_breaks") 5 fM:=XK_law_breaks.p
 have C_law_sets:Callee P w K mg base 1 (Str.ofString "_law_sets") 2 gW:=xk T D_law_sets
 have C_law_free:Callee P w K mg base 1 (Str.ofString "_law_free") 1 gS:=yi T D_law_free
 have XK_law_due:aI P w K mg base cl 5 (Str.ofString "_law_due") 3 qW:=Am T D_law_due C_law_inputs C_law_reads C_law_free C_law_sets XP_law_breaks
 have XP_law_due:aI P w K mg base cl 5 (Str.ofString "_law_due") 3 kz:=XK_law_due.p
 have C_law_alike:Callee P w K mg base 6 (Str.ofString "_law_alike") 2 (bZ 5):=pN T D_law_alike 5
 have C_law_copied:Callee P w K mg base 1 (Str.ofString "_law_copied") 1 iH:=uw T D_law_copied
 exact(cm (cl:=cl) (N:=qH) (F:=tQ) (k:=8) Gy.2 A6.2 F lO (fun cdv A outer s H E hr=>(av (bo lO.nd rfl (Or.inl rfl) (bC XK_law_reel hr (by decide) rfl (aj (au (bJ C_law_cell_at hr (by decide) rfl (ab (aa 0) (ab ag ah)) (aC (aC bX)))) aS) (ai aN))) (av (bo lO.nd rfl (Or.inl rfl) (au (xR (aa 0) (nA ag) (nA ag)))) (av (dS PassesOwn.never rfl (cH (bY (aL ot ag (aO df rfl T.z_len PySem.boot_len (ab (aa 2) ah))) rfl T.z_range)) (bq lO.nd rfl (Or.inl rfl)) (aP (bo lO.nd rfl (Or.inl rfl) (qO gp (au (aa 2)) (Hz (aj (bC XP_law_take hr (by decide) rfl (aj (aT 1) (aj (au (aL FQ ag ag)) aS)) (ai (ai aN))) aS)))))) (av (bo lO.nd rfl (Or.inl rfl) (bC XP_law_net hr (by decide) rfl (aj (aT 1) (aj (au (aa 2)) (aj (au ag) (aj (pO (au (cn (bW (ab ag (ab ag (ab ag (ab ag ah))))))) (bC XP_law_take hr (by decide) rfl (aj (aT 1) (aj (au ag) aS)) (ai (ai aN))) (fun _ _=>rfl)) aS)))) (ai (ai (ai (ai aN)))))) (av (bo lO.nd rfl (Or.inl rfl) (au (bJ C_law_copied hr (by decide) rfl (ab (aa 4) ah) (aC bX)))) (av (bo lO.nd rfl (Or.inl rfl) (bC XK_law_reel hr (by decide) rfl (aj (au (bJ C_law_cell_at hr (by decide) rfl (ab (aa 0) (ab ag ah)) (aC (aC bX)))) aS) (ai aN))) (av (bo lO.nd rfl (Or.inl rfl) (bC XP_law_take hr (by decide) rfl (aj (aT 1) (aj (au ag) aS)) (ai (ai aN)))) (av (dS PassesOwn.never rfl (cH (cO (cn (bW (ab (bV (ab (aa 6) (ab bu ah))) (ab (bV (ab (aa 6) (ab bu ah))) (ab (bV (ab ag (ab bu ah))) (ab (bV (ab ag (ab bu ah))) ah)))))))) (lY rfl (dv (bq lO.nd rfl (Or.inl rfl)) (dv (bq lO.nd rfl (Or.inl rfl)) jX))) (aP (mf (D1 (Bc (qM C_law_alike hr (by decide) rfl (aj (bC XP_bears hr (by decide) rfl (aj (au (aa 5)) (aj (au (aa 7)) (aj (au (aa 8)) aS))) (ai (ai (ai aN)))) (aj (bC XP_law_due hr (by decide) rfl (aj (au (aa 4)) (aj (au (aa 7)) (aj (au (aa 8)) aS))) (ai (ai (ai aN)))) aS)) (ai (ai aN))))) (aP (c_ (au oR))) jq))) (aP (c_ (au (bJ C_law_alike hr (by decide) rfl (ab (aa 5) (ab (aa 4) ah)) (aC (aC bX)))))))))))))))).imp fun _ _ _ _ h=>G3 h
end K14
end
section
set_option maxRecDepth 100000
set_option maxHeartbeats 4000000
namespace K14
open PySem PySem.Spec PyProof.Rows L2 L3
theorem jB{S:aU}{k:Nat}{o x:SO}(h:S[k]? =some x):(S.set k o)[k]? =some o:=by
 obtain⟨h1,_⟩:=List.getElem?_eq_some_iff.mp h
 rw[List.getElem?_set_self h1]
noncomputable def ph(k:Nat)(S:aU):Prop:=Flat S∧∃a c,S[k]? =some (.lst [.int a, .int c])
structure Ev (k:Nat) (S S1:aU):Prop where
 p:ph k S1
 len:S1.length=S.length
 oth:∀j,j≠k→S1[j]? =S[j]?
theorem Ev.refl{k:Nat}{S:aU}(p:ph k S):Ev k S S:=⟨p,rfl,fun _ _=>rfl⟩
theorem Ev.trans{k:Nat}{S S1 S2:aU}(a:Ev k S S1)(b:Ev k S1 S2):Ev k S S2:=⟨b.p,b.len.trans a.len,fun j h=>(b.oth j h).trans (a.oth j h)⟩
theorem ph.lt{k:Nat}{S:aU}(p:ph k S):k < S.length:=by
 obtain⟨_,a,c,e⟩:=p
 exact(List.getElem?_eq_some_iff.mp e).1
theorem mr(ds:List D):∀n,nG n (.lst ds)=true:=fun _=>rfl
theorem Lv:∀n,nG n .iz=true:=fun _=>rfl
theorem zk{a b:Int}(h:0 < b)(h2:b.natAbs.log2 < 9000):wq (.int a) (.int b)= .ok (.int (a / b)):=by unfold wq wI;exact bR _ ⟨h,h2⟩
theorem tH{m:Int}(h0:0 < m)(h:m < 1000000):m.natAbs.log2 < 9000:=by
 have h1:m.natAbs≠0:=by omega
 have:m.natAbs.log2 < 20:=(Nat.log2_lt h1).mpr (by omega)
 omega
theorem uv{S:aU}{k:Nat}{m:Int}(p:ph k S)(hm:0 < m)(hm2:m.natAbs.log2 < 9000){Q:V3→aU→Prop}
 (h:∀(r:Int) S1,0≤r→r < m→Ev k S S1→Q (.d (.int r)) S1):W3 (aA [.loc k, .d (.int m)] S) Q:=by
 obtain⟨hL,a,c,e⟩:=p
 have fin:∀(r:Int) S2,0≤r→r < m→Ev k S S2→Flat S2∧eI S.length (.d (.int r))=true∧∃d,res S2 (.d (.int r))=some d∧Q (.d d) (S2.take S.length):=fun r S2 h1 h2 v=>by
  refine⟨v.p.1,by unfold eI;rfl, .int r,by unfold res;rfl,?_⟩
  rw[List.take_of_length_le (by have:=v.len;omega)]
  exact h r S2 h1 h2 v
 have h0:cg (.lst [.int a, .int c]) (.int 0)= .ok (.int a):=rfl
 have h1:cg (.lst [.int a, .int c]) (.int 1)= .ok (.int c):=rfl
 unfold aA
 refine qY (uB rfl ?_)
 simp only[bS,kK,List.map_cons,List.map_nil,List.length_cons,List.length_nil,List.replicate,List.cons_append,List.nil_append,Nat.reduceAdd,Nat.reduceSub]
 unfold mX
 by_cases hc:(1000000000000000000:Int)≤a
 ·refine HW (rA (HS (b:=true) ?_ ?_))
  ·simp (implicitDefEqProofs:=false) (disch:=first | omega | decide) only[lL,cV,cK,ig,nj,mN,pd,vM,oU,cQ,k4,fO,pY,ae,eC,e2,eNew,jw,aG,dM,xc,xV,z_,jy,vO,oq,FC,qB,vw,kh,mS,AE,b2,pe,kj,sL,kL,iW,dX,nList,aD,aq,vK,pS,kP,iF,eG,jG,pA,ie,qv,oO,AH,Fz,wz,Dr,nX,wI,zx,mT,iV,sV,pZ,lg,cInt,cStr,rW,fY,j1,cP,t_,p8,aV,gL,cJ,gQ,jz,iz,kA,D.atom,tyName,R.aH,R.gb,List.map_cons,List.map_nil,List.map_append,List.set_cons_zero,List.set_cons_succ,List.getElem?_cons_zero,List.getElem?_cons_succ,List.length_cons,List.length_nil,List.nil_append,List.cons_append,List.append_nil,List.length_map,List.length_append,List.replicate,Nat.reduceAdd,Nat.reduceSub,Nat.zero_add,decide_true,decide_false,Nat.lt_add_one,Nat.reduceLT,Nat.reduceLeDiff,Nat.reduceEqDiff,if_true,if_false,Bool.false_eq_true,ite_true,ite_false,Bool.true_or,Bool.or_true,Bool.true_and,Bool.and_true,beq_self_eq_true,down,b3,res,nu,bS,gP,kX,ju,uW,sv,xH,Option.map_some,Option.bind_some,gM,dr,qp,kZ,je,j9,bR,decide_eq_true_eq,Int.reduceToNat,e,h0]
   simp [hc]
  rw[if_pos rfl]
  refine bc (bL (by simp only[List.length_cons,List.length_nil,List.length_set];omega) (uY (d:= .int (a % m)) ?_ rfl ⟨_,rfl,?_⟩))
  ·simp (implicitDefEqProofs:=false) (disch:=first | omega | decide) only[lL,cV,cK,ig,nj,mN,pd,vM,oU,cQ,k4,fO,pY,ae,eC,e2,eNew,jw,aG,dM,xc,xV,z_,jy,vO,oq,FC,qB,vw,kh,mS,AE,b2,pe,kj,sL,kL,iW,dX,nList,aD,aq,vK,pS,kP,iF,eG,jG,pA,ie,qv,oO,AH,Fz,wz,Dr,nX,wI,zx,mT,iV,sV,pZ,lg,cInt,cStr,rW,fY,j1,cP,t_,p8,aV,gL,cJ,gQ,jz,iz,kA,D.atom,tyName,R.aH,R.gb,List.map_cons,List.map_nil,List.map_append,List.set_cons_zero,List.set_cons_succ,List.getElem?_cons_zero,List.getElem?_cons_succ,List.length_cons,List.length_nil,List.nil_append,List.cons_append,List.append_nil,List.length_map,List.length_append,List.replicate,Nat.reduceAdd,Nat.reduceSub,Nat.zero_add,decide_true,decide_false,Nat.lt_add_one,Nat.reduceLT,Nat.reduceLeDiff,Nat.reduceEqDiff,if_true,if_false,Bool.false_eq_true,ite_true,ite_false,Bool.true_or,Bool.or_true,Bool.true_and,Bool.and_true,beq_self_eq_true,down,b3,res,nu,bS,gP,kX,ju,uW,sv,xH,Option.map_some,Option.bind_some,gM,dr,qp,kZ,je,j9,bR,decide_eq_true_eq,Int.reduceToNat,e,h0]
  simp only[List.set_cons_succ,List.set_cons_zero]
  refine bc (BX (uY (d:= .int (a / m)) ?_ rfl (w_var (v:= .loc k) rfl (dg (d:= .int 0) rfl ⟨_,k,0,_,0,rfl,rfl,rfl,e,rfl,_,rfl,?_⟩))))
  ·refine ay (a:= .int a) (b:= .int m) ?_ rfl (zk hm hm2)
   simp (implicitDefEqProofs:=false) (disch:=first | omega | decide) only[lL,cV,cK,ig,nj,mN,pd,vM,oU,cQ,k4,fO,pY,ae,eC,e2,eNew,jw,aG,dM,xc,xV,z_,jy,vO,oq,FC,qB,vw,kh,mS,AE,b2,pe,kj,sL,kL,iW,dX,nList,aD,aq,vK,pS,kP,iF,eG,jG,pA,ie,qv,oO,AH,Fz,wz,Dr,nX,wI,zx,mT,iV,sV,pZ,lg,cInt,cStr,rW,fY,j1,cP,t_,p8,aV,gL,cJ,gQ,jz,iz,kA,D.atom,tyName,R.aH,R.gb,List.map_cons,List.map_nil,List.map_append,List.set_cons_zero,List.set_cons_succ,List.getElem?_cons_zero,List.getElem?_cons_succ,List.length_cons,List.length_nil,List.nil_append,List.cons_append,List.append_nil,List.length_map,List.length_append,List.replicate,Nat.reduceAdd,Nat.reduceSub,Nat.zero_add,decide_true,decide_false,Nat.lt_add_one,Nat.reduceLT,Nat.reduceLeDiff,Nat.reduceEqDiff,if_true,if_false,Bool.false_eq_true,ite_true,ite_false,Bool.true_or,Bool.or_true,Bool.true_and,Bool.and_true,beq_self_eq_true,down,b3,res,nu,bS,gP,kX,ju,uW,sv,xH,Option.map_some,Option.bind_some,gM,dr,qp,kZ,je,j9,bR,decide_eq_true_eq,Int.reduceToNat,e,h0]
  refine eW (dg (d:= .int (a % m)) rfl ⟨_,rfl,_,rfl,?_⟩)
  exact fin _ _ (Int.emod_nonneg _ (by omega)) (Int.emod_lt_of_pos _ hm) ⟨⟨hL.set _ (mr _),_,_,jB e⟩,List.length_set,fun j hj=>List.getElem?_set_ne (Ne.symm hj)⟩
 ·refine bc (rA (HS (b:=false) ?_ ?_))
  ·simp (implicitDefEqProofs:=false) (disch:=first | omega | decide) only[lL,cV,cK,ig,nj,mN,pd,vM,oU,cQ,k4,fO,pY,ae,eC,e2,eNew,jw,aG,dM,xc,xV,z_,jy,vO,oq,FC,qB,vw,kh,mS,AE,b2,pe,kj,sL,kL,iW,dX,nList,aD,aq,vK,pS,kP,iF,eG,jG,pA,ie,qv,oO,AH,Fz,wz,Dr,nX,wI,zx,mT,iV,sV,pZ,lg,cInt,cStr,rW,fY,j1,cP,t_,p8,aV,gL,cJ,gQ,jz,iz,kA,D.atom,tyName,R.aH,R.gb,List.map_cons,List.map_nil,List.map_append,List.set_cons_zero,List.set_cons_succ,List.getElem?_cons_zero,List.getElem?_cons_succ,List.length_cons,List.length_nil,List.nil_append,List.cons_append,List.append_nil,List.length_map,List.length_append,List.replicate,Nat.reduceAdd,Nat.reduceSub,Nat.zero_add,decide_true,decide_false,Nat.lt_add_one,Nat.reduceLT,Nat.reduceLeDiff,Nat.reduceEqDiff,if_true,if_false,Bool.false_eq_true,ite_true,ite_false,Bool.true_or,Bool.or_true,Bool.true_and,Bool.and_true,beq_self_eq_true,down,b3,res,nu,bS,gP,kX,ju,uW,sv,xH,Option.map_some,Option.bind_some,gM,dr,qp,kZ,je,j9,bR,decide_eq_true_eq,Int.reduceToNat,e,h0]
   simp [hc]
  rw[if_neg (by decide)]
  refine nc ⟨_,rfl,?_⟩
  refine bc (BX (uY (d:= .int ((c*48271+11) % 2147483647)) ?_ rfl (w_var (v:= .loc k) rfl (dg (d:= .int 1) rfl ⟨_,k,1,_,1,rfl,rfl,rfl,e,rfl,_,rfl,?_⟩))))
  ·simp (implicitDefEqProofs:=false) (disch:=first | omega | decide) only[lL,cV,cK,ig,nj,mN,pd,vM,oU,cQ,k4,fO,pY,ae,eC,e2,eNew,jw,aG,dM,xc,xV,z_,jy,vO,oq,FC,qB,vw,kh,mS,AE,b2,pe,kj,sL,kL,iW,dX,nList,aD,aq,vK,pS,kP,iF,eG,jG,pA,ie,qv,oO,AH,Fz,wz,Dr,nX,wI,zx,mT,iV,sV,pZ,lg,cInt,cStr,rW,fY,j1,cP,t_,p8,aV,gL,cJ,gQ,jz,iz,kA,D.atom,tyName,R.aH,R.gb,List.map_cons,List.map_nil,List.map_append,List.set_cons_zero,List.set_cons_succ,List.getElem?_cons_zero,List.getElem?_cons_succ,List.length_cons,List.length_nil,List.nil_append,List.cons_append,List.append_nil,List.length_map,List.length_append,List.replicate,Nat.reduceAdd,Nat.reduceSub,Nat.zero_add,decide_true,decide_false,Nat.lt_add_one,Nat.reduceLT,Nat.reduceLeDiff,Nat.reduceEqDiff,if_true,if_false,Bool.false_eq_true,ite_true,ite_false,Bool.true_or,Bool.or_true,Bool.true_and,Bool.and_true,beq_self_eq_true,down,b3,res,nu,bS,gP,kX,ju,uW,sv,xH,Option.map_some,Option.bind_some,gM,dr,qp,kZ,je,j9,bR,decide_eq_true_eq,Int.reduceToNat,e,h1]
  have hx1:0≤(c*48271+11) % 2147483647:=Int.emod_nonneg _ (by omega)
  have hx2:(c*48271+11) % 2147483647 < 2147483647:=Int.emod_lt_of_pos _ (by omega)
  generalize (c*48271+11) % 2147483647=x at hx1 hx2
  simp only[List.set_cons_succ,List.set_cons_zero]
  have e1:(S.set k (.lst [.int a, .int x]))[k]? =some (.lst [.int a, .int x]):=jB e
  have v1:Ev k S (S.set k (.lst [.int a, .int x])):=⟨⟨hL.set _ (mr _),_,_,e1⟩,List.length_set,fun j hj=>List.getElem?_set_ne (Ne.symm hj)⟩
  generalize S.set k (.lst [.int a, .int x])=S1 at e1 v1
  refine bc (bL (by simp only[List.length_cons,List.length_nil,List.length_set];omega) (uY (d:= .int (x*x % 2147483629)) ?_ rfl ⟨_,rfl,?_⟩))
  ·have h2:cg (.lst [.int a, .int x]) (.int 1)= .ok (.int x):=rfl
   simp (implicitDefEqProofs:=false) (disch:=first | omega | decide) only[lL,cV,cK,ig,nj,mN,pd,vM,oU,cQ,k4,fO,pY,ae,eC,e2,eNew,jw,aG,dM,xc,xV,z_,jy,vO,oq,FC,qB,vw,kh,mS,AE,b2,pe,kj,sL,kL,iW,dX,nList,aD,aq,vK,pS,kP,iF,eG,jG,pA,ie,qv,oO,AH,Fz,wz,Dr,nX,wI,zx,mT,iV,sV,pZ,lg,cInt,cStr,rW,fY,j1,cP,t_,p8,aV,gL,cJ,gQ,jz,iz,kA,D.atom,tyName,R.aH,R.gb,List.map_cons,List.map_nil,List.map_append,List.set_cons_zero,List.set_cons_succ,List.getElem?_cons_zero,List.getElem?_cons_succ,List.length_cons,List.length_nil,List.nil_append,List.cons_append,List.append_nil,List.length_map,List.length_append,List.replicate,Nat.reduceAdd,Nat.reduceSub,Nat.zero_add,decide_true,decide_false,Nat.lt_add_one,Nat.reduceLT,Nat.reduceLeDiff,Nat.reduceEqDiff,if_true,if_false,Bool.false_eq_true,ite_true,ite_false,Bool.true_or,Bool.or_true,Bool.true_and,Bool.and_true,beq_self_eq_true,down,b3,res,nu,bS,gP,kX,ju,uW,sv,xH,Option.map_some,Option.bind_some,gM,dr,qp,kZ,je,j9,bR,decide_eq_true_eq,Int.reduceToNat,e1,h2]
  simp only[List.set_cons_succ,List.set_cons_zero]
  generalize x*x % 2147483629=y
  refine eW (dg (d:= .int (y*69621 % 2147483587 / 8 % m)) ?_ ⟨_,rfl,?_⟩)
  ·refine ay (a:= .int (y*69621 % 2147483587 / 8)) (b:= .int m) (ay (a:= .int (y*69621 % 2147483587)) (b:= .int 8) ?_ rfl (zk (by omega) (by decide))) rfl (xv hm)
   simp (implicitDefEqProofs:=false) (disch:=first | omega | decide) only[lL,cV,cK,ig,nj,mN,pd,vM,oU,cQ,k4,fO,pY,ae,eC,e2,eNew,jw,aG,dM,xc,xV,z_,jy,vO,oq,FC,qB,vw,kh,mS,AE,b2,pe,kj,sL,kL,iW,dX,nList,aD,aq,vK,pS,kP,iF,eG,jG,pA,ie,qv,oO,AH,Fz,wz,Dr,nX,wI,zx,mT,iV,sV,pZ,lg,cInt,cStr,rW,fY,j1,cP,t_,p8,aV,gL,cJ,gQ,jz,iz,kA,D.atom,tyName,R.aH,R.gb,List.map_cons,List.map_nil,List.map_append,List.set_cons_zero,List.set_cons_succ,List.getElem?_cons_zero,List.getElem?_cons_succ,List.length_cons,List.length_nil,List.nil_append,List.cons_append,List.append_nil,List.length_map,List.length_append,List.replicate,Nat.reduceAdd,Nat.reduceSub,Nat.zero_add,decide_true,decide_false,Nat.lt_add_one,Nat.reduceLT,Nat.reduceLeDiff,Nat.reduceEqDiff,if_true,if_false,Bool.false_eq_true,ite_true,ite_false,Bool.true_or,Bool.or_true,Bool.true_and,Bool.and_true,beq_self_eq_true,down,b3,res,nu,bS,gP,kX,ju,uW,sv,xH,Option.map_some,Option.bind_some,gM,dr,qp,kZ,je,j9,bR,decide_eq_true_eq,Int.reduceToNat]
  exact fin _ _ (Int.emod_nonneg _ (by omega)) (Int.emod_lt_of_pos _ hm) v1
section
variable {S:aU} {δ:DE} {k i:Nat}
theorem draw{Q:V3→aU→Prop}{f:FD}{m:Int}(hv:δ[i]? =some (some (.loc k)))(p:ph k S)(hf:f (down δ)= .ok (.int m))(hm:0 < m)(hm2:m < 1000000)
 (h:∀(r:Int) S1,0≤r→r < m→Ev k S S1→Q (.d (.int r)) S1):W3 (b_ aA (ax (bO i) (ax (xP f) cw)) δ S) Q:=
 eK (aJ (w_var hv (aJ (dg hf (cX (uv p hm (tH hm hm2) h))))))
theorem FF{Q:V3→aU→Prop}{m:Int}(hv:δ[i]? =some (some (.loc k)))(p:ph k S)(hm:0 < m)(hm2:m < 1000000)
 (h:∀(r:Nat) S1,1≤r→(r:Int)≤m→Ev k S S1→Q (.d (.int r)) S1):W3 (x2 eG (xP (eC (.int 1))) (b_ aA (ax (bO i) (ax (xP (eC (.int m))) cw))) δ S) Q:=
 EM (dg rfl (draw hv p rfl hm hm2 fun r S1 h1 h2 v=>⟨_,_, .int ((1+r).toNat:Nat),rfl,rfl,by rw[Int.toNat_of_nonneg (by omega)];rfl,h _ S1 (by omega) (by omega) v⟩))
end
theorem uS(c:Int){S:aU}{Q:V3→aU→Prop}(hS:Flat S)(h:∀S1,ph S.length S1→S1.length=S.length+1→(∀j,j < S.length→S1[j]? =S[j]?)→Q (.loc S.length) S1):W3 (eg [.d (.int c)] S) Q:=by
 have hz:sizeLine=16777216:=sizeLine_eq
 unfold eg
 refine uB rfl ?_
 simp only[bS,kx,List.map_cons,List.map_nil,List.length_cons,List.length_nil,List.replicate,List.cons_append,List.nil_append,Nat.reduceAdd,Nat.reduceSub]
 unfold nv
 refine eW (kO (ds:=[.int (if c < 0 then -c else c), .int ((c % 2147483647+1)*742938285 % 2147483647)]) ?_ ⟨_,rfl,?_⟩)
 ·simp (implicitDefEqProofs:=false) (disch:=first | omega | decide) only[lL,cV,cK,ig,nj,mN,pd,vM,oU,cQ,k4,fO,pY,ae,eC,e2,eNew,jw,aG,dM,xc,xV,z_,jy,vO,oq,FC,qB,vw,kh,mS,AE,b2,pe,kj,sL,kL,iW,dX,nList,aD,aq,vK,pS,kP,iF,eG,jG,pA,ie,qv,oO,AH,Fz,wz,Dr,nX,wI,zx,mT,iV,sV,pZ,lg,cInt,cStr,rW,fY,j1,cP,t_,p8,aV,gL,cJ,gQ,jz,iz,kA,D.atom,tyName,R.aH,R.gb,List.map_cons,List.map_nil,List.map_append,List.set_cons_zero,List.set_cons_succ,List.getElem?_cons_zero,List.getElem?_cons_succ,List.length_cons,List.length_nil,List.nil_append,List.cons_append,List.append_nil,List.length_map,List.length_append,List.replicate,Nat.reduceAdd,Nat.reduceSub,Nat.zero_add,decide_true,decide_false,Nat.lt_add_one,Nat.reduceLT,Nat.reduceLeDiff,Nat.reduceEqDiff,if_true,if_false,Bool.false_eq_true,ite_true,ite_false,Bool.true_or,Bool.or_true,Bool.true_and,Bool.and_true,beq_self_eq_true,down,b3,res,nu,bS,gP,kX,ju,uW,sv,xH,Option.map_some,Option.bind_some,gM,dr,qp,kZ,je,j9,bR,decide_eq_true_eq,Int.reduceToNat,cAbs]
 refine h _ ⟨hS.push (mr _),_,_,by rw[List.getElem?_append_right (Nat.le_refl _),Nat.sub_self];rfl⟩ (by simp) fun j hj=>List.getElem?_append_left hj
end K14
end
section
set_option maxRecDepth 100000
set_option maxHeartbeats 4000000
namespace K14
open PySem PySem.Spec PyProof.Rows L2 L3 MT
theorem zP{a:D}{r:List D}:cg (.tup (a ::r)) (.int 0)= .ok a:=ng (by rw[jc (by omega) (by simp)];rfl)
theorem Be{a b:D}{r:List D}:cg (.tup (a ::b ::r)) (.int 1)= .ok b:=ng (by rw[jc (by omega) (by simp)];rfl)
theorem Lw{a b c:D}{r:List D}:cg (.tup (a ::b ::c ::r)) (.int 2)= .ok c:=ng (by rw[jc (by omega) (by simp)];rfl)
theorem za{N:Nat}{a b c:M}:gd [.tup [mI N a,mI N b,mI N c]]= .ok (mI N fun p=>(a p && b p) || (a p && c p) || (b p && c p)):=by
 unfold gd sM
 refine c7 (cG ?_)
 exact ay (ay (ay (ay rfl rfl zP) (ay rfl rfl Be) (qL N a b)) (ay (ay rfl rfl zP) (ay rfl rfl Lw) (qL N a c)) (wa N _ _)) (ay (ay rfl rfl Be) (ay rfl rfl Lw) (qL N b c)) (wa N _ _)
theorem JH(k j:Nat)(hk:k≤4)(hj:j≤4):iV (.str (kS k)) (.str (kS j))= .ok (.bl (decide (k=j))):=by
 show R.ok (D.bl (kS k==kS j))=_
 congr 2
 revert hk hj
 have:∀a∈List.range 5,∀b∈List.range 5,(kS a==kS b)=decide (a=b):=by decide+kernel
 intro hk hj
 exact this k (by rw[List.mem_range];omega) j (by rw[List.mem_range];omega)
theorem EX{N kd:Nat}{xs:List M}(hk:kd≤4)(hx:xs.length=ar kd):f9 [.str (kS kd), .tup (xs.map (mI N)),mI N one]= .ok (mI N fun p=>gv kd (xs.map (· p))):=by
 unfold f9 pL
 have q:∀j,j≤4→b2 iV (ae 0) (eC (.str (kS j))) (cV k7 [.str (kS kd), .tup (xs.map (mI N)),mI N one])= .ok (decide (kd=j)):=fun j hj=>fJ (a:= .str (kS kd)) (b:= .str (kS j)) rfl rfl (JH kd j hk hj)
 have q0:=q 0 (by omega)
 have q1:=q 1 (by omega)
 have q2:=q 2 (by omega)
 have q3:=q 3 (by omega)
 match kd,hk,xs,hx with
 | 0,_,[a],_=>
   refine c7 (NT.l8 (pk q0 (cG (ay (a:=mI N one) (b:=mI N a) rfl (ay rfl rfl zP) (wG N a)))))
 | 1,_,[a,b],_=>
   refine c7 (aY (dW q0 rfl) (NT.l8 (pk q1 (cG (ay (ay rfl rfl zP) (ay rfl rfl Be) (qL N a b))))))
 | 2,_,[a,b],_=>
   refine c7 (aY (dW q0 rfl) (aY (dW q1 rfl) (NT.l8 (pk q2 (cG (ay (ay rfl rfl zP) (ay rfl rfl Be) (wa N a b)))))))
 | 3,_,[a,b],_=>
   refine c7 (aY (dW q0 rfl) (aY (dW q1 rfl) (aY (dW q2 rfl) (NT.l8 (pk q3 (cG (ay (ay rfl rfl zP) (ay rfl rfl Be) (zt N a b))))))))
 | 4,_,[a,b,c],_=>
   refine c7 (aY (dW q0 rfl) (aY (dW q1 rfl) (aY (dW q2 rfl) (aY (dW q3 rfl) (cG (aR (ds:=[.tup [mI N a,mI N b,mI N c]]) rfl za))))))
theorem FK{N:Nat}{ws:List M}{ns:List Nat}(hn:∀n∈ns,n < ws.length)(hl:ns.length < 1000):fq [.lst (ws.map (mI N)), .tup (ns.map nI)]= .ok (.tup ((ns.map (iC ws)).map (mI N))):=by
 have hz:sizeLine=16777216:=sizeLine_eq
 unfold fq rH
 refine c7 (cG (aR (ds:=[.lst ((ns.map (iC ws)).map (mI N))]) (aW (eO (fU (ds:=ns.map nI) (x8 rfl) (by rw[List.length_map];omega) ?_)) rfl) rfl))
 rw[List.map_map]
 exact NT.fg nI _ fun n hn'=>⟨[.val (nI n), .val (.lst (ws.map (mI N)))],rfl,rfl,ay (a:= .lst (ws.map (mI N))) (b:=nI n) rfl rfl (Cy (hn n hn'))⟩
noncomputable def x9(N:Nat)(S:aU)(insD bitsD badD:D)(a5 a6 a7:Option V3):DE:=[some (.d insD),some (.d bitsD),some (.d (mI N one)),some (.d badD),some (.loc S.length),a5,a6,a7]
theorem A2{N:Nat}{S:aU}{insD bitsD:D}{bad:List Int}{a5 a7:Option V3}{b:M}{ws:List M}(hl:ws.length < 10000) :
 W3 (gG (x9 N S insD bitsD (.tup (bad.map .int)) a5 (some (.d (mI N b))) a7) (S++[.lst (ws.map (mI N))])) fun o S1=>o= .nx (x9 N S insD bitsD (.tup (bad.map .int)) a5 (some (.d (mI N b))) a7)∧S1=S++[SO.lst ((ws++[fun p=>b p !=bad.contains (ws.length:Int)]).map (mI N))]:=by
 have hz:sizeLine=16777216:=sizeLine_eq
 unfold gG
 refine j2 (k:=S.length) rfl ⟨_,bM _ _⟩ (uY (d:=mI N fun p=>b p !=bad.contains (ws.length:Int)) ?_ rfl ⟨_,_,rfl,bM _ _,by rw[List.length_map];omega,rfl,?_⟩)
 ·have h4:(b3 (S++[.lst (ws.map (mI N))]) (x9 N S insD bitsD (.tup (bad.map .int)) a5 (some (.d (mI N b))) a7))[4]? =some (.val (.lst (ws.map (mI N)))):=by
   unfold b3 x9
   show some (match res (S++[.lst (ws.map (mI N))]) (.loc S.length) with | some d=>Sl.val d | none=> .un)=_
   unfold res
   rw[bM]
  refine uC (b:=bad.contains (ws.length:Int)) (fJ (a:= .int ws.length) (b:= .tup (bad.map .int)) (aR (ds:=[.lst (ws.map (mI N))]) (aW (by unfold ae;rw [h4]) rfl) (by rw[ma,List.length_map])) rfl (qo _ _)) ?_
  rw[←CY]
  rfl
 ·rw[gI,List.map_append];rfl
theorem vH{N:Nat}{S:aU}{bD:D}{ins:List (Str × Nat)}{bits:List M}{bad:List Int}(hB:bD= .lst (bits.map (mI N))∨bD= .tup (bits.map (mI N)))(hb:bits.length=ins.length)(hi:ins.length < 100)(hw:∀x∈ins,x.2 < 100){Q:V3→aU→Prop}
 (h:Q (.loc S.length) (S++[.lst ((cu ins bits bad ins.length).map (mI N))])) :
 W3 (di [.d (.lst (ins.map inD)), .d bD, .d (mI N one), .d (.tup (bad.map .int))] S) Q:=by
 have hz:sizeLine=16777216:=sizeLine_eq
 unfold di
 refine uB rfl ?_
 simp only[bS,fV,List.map_cons,List.map_nil,List.length_cons,List.length_nil,List.replicate,List.cons_append,List.nil_append,Nat.reduceAdd,Nat.reduceSub]
 unfold iy
 refine bc (bL (by simp only[List.length_cons,List.length_nil,List.length_set];omega) (kO (ds:=[]) rfl ⟨_,rfl,?_⟩))
 simp only[List.set_cons_succ,List.set_cons_zero]
 refine bc (fR (k3 (ds:=dH (bits.map (mI N))) (by rcases hB with rfl | rfl <;> rfl) ?_))
 have big:∀i,i≤ins.length→(cu ins bits bad i).length≤100*i:=by
  intro i hi'
  induction i with
  | zero=>simp [cu]
  | succ i ih=>
    have ih:=ih (by omega)
    have h1:ins[i]? =some ins[i]:=List.getElem?_eq_getElem (by omega)
    have h2:bits[i]? =some bits[i]:=List.getElem?_eq_getElem (by omega)
    unfold cu
    rw[h1,h2]
    show(fK bad bits[i] ins[i].2 (cu ins bits bad i)).length≤_
    rw[f_]
    have:=hw ins[i] (List.getElem_mem _)
    omega
 refine(cT (fun i δ S2=>(∃a b c,δ=x9 N S (.lst (ins.map inD)) bD (.tup (bad.map .int)) a b c)∧S2=S++[SO.lst ((cu ins bits bad i).map (mI N))])
  ⟨⟨_,_,_,rfl⟩,rfl⟩ ?_).mono fun o S2 ⟨δ2,e2',⟨a,b,c,hδ⟩,hS⟩=>⟨δ2,e2',?_⟩
 ·rintro i v δ S2 hv ⟨⟨a,b,c,rfl⟩,rfl⟩
  obtain⟨d,hd,rfl⟩:=uF hv
  rw[List.getElem?_map] at hd
  have hib:i < bits.length:=by
   have:=(List.getElem?_eq_some_iff.mp hv).1
   simpa [dH] using this
  have h1:ins[i]? =some ins[i]:=List.getElem?_eq_getElem (by omega)
  have h2:bits[i]? =some bits[i]:=List.getElem?_eq_getElem hib
  rw[h2] at hd
  cases hd
  refine⟨x9 N S (.lst (ins.map inD)) bD (.tup (bad.map .int)) (some (.d (.int i))) (some (.d (mI N bits[i]))) c,rfl,?_⟩
  unfold jm
  have hwi:=hw ins[i] (List.getElem_mem _)
  refine fR (k3 (eF (n:=ins[i].2) ?_ (by omega)) ?_)
  ·refine ay (a:=inD ins[i]) (b:= .int 1) (ay (a:= .lst (ins.map inD)) (b:= .int i) rfl rfl (jg ?_)) rfl rfl
   rw[jc (by omega) (by rw[List.length_map,Int.toNat_natCast];omega)]
   simp
  refine(cT (fun j δ S3=>(∃c,δ=x9 N S (.lst (ins.map inD)) bD (.tup (bad.map .int)) (some (.d (.int i))) (some (.d (mI N bits[i]))) c)∧S3=S++[SO.lst ((fK bad bits[i] j (cu ins bits bad i)).map (mI N))])
   ⟨⟨_,rfl⟩,rfl⟩ ?_).mono fun o S3 ⟨δ3,e3,⟨c3,hδ3⟩,hS3⟩=>⟨δ3,e3,⟨_,_,c3,hδ3⟩,?_⟩
  ·rintro j v δ S3 hv ⟨⟨c3,rfl⟩,rfl⟩
   refine⟨_,rfl,?_⟩
   have hj:j < ins[i].2:=by
    have:=(List.getElem?_eq_some_iff.mp hv).1
    rwa [List.length_map,bQ,List.length_map,List.length_range] at this
   refine(A2 ?_).mono fun o S4 ⟨e4,e5⟩=>⟨_,e4,⟨_,rfl⟩,e5⟩
   rw[f_]
   have:=big i (by omega)
   omega
  ·rw[hS3,List.length_map,bQ,List.length_map,List.length_range]
   show _=S++[SO.lst ((match ins[i]?,bits[i]? with | some x,some b=>fK bad b x.2 (cu ins bits bad i) | _,_=>cu ins bits bad i).map (mI N))]
   rw[h1,h2]
 have hlen:((dH (bits.map (mI N))).map V3.d).length=ins.length:=by simp [dH,hb]
 rw[hlen] at hS
 subst hδ hS
 exact eW (w_var rfl ⟨_,rfl,h⟩)
section
variable {N:Nat} {ins:List (Str × Nat)} {gs:List Gt} {os:List (Str × List Nat)} {bits:List M} {turned bad:List Int}
noncomputable def wx(N:Nat)(S:aU)(nt bitsD tD bD:D)(a6 a7 a8:Option V3):DE:=[some (.d nt),some (.d bitsD),some (.d (mI N one)),some (.d tD),some (.d bD),some (.loc S.length),a6,a7,a8]
theorem zH{S:aU}{nt bitsD bD:D}{a8:Option V3}{g:Gt}{i:Nat}{ws:List M}(hg:l_ ws.length g)(hl:ws.length < 20000) :
 W3 (iY (wx N S nt bitsD (.tup (turned.map .int)) bD (some (.d (.int i))) (some (.d (gR g))) a8) (S++[.lst (ws.map (mI N))])) fun o S1=>(∃c,o= .nx (wx N S nt bitsD (.tup (turned.map .int)) bD (some (.d (.int i))) (some (.d (gR g))) c))∧S1=S++[SO.lst ((ws++[fun p=>gF g ws p !=turned.contains (i:Int)]).map (mI N))]:=by
 have hz:sizeLine=16777216:=sizeLine_eq
 have ha:=vI g.1
 unfold iY
 refine bc (bL (by unfold wx;simp only[List.length_cons,List.length_nil];omega) (uY (d:=mI N (gF g ws)) ?_ rfl ⟨_,rfl,?_⟩))
 ·have h5:(b3 (S++[.lst (ws.map (mI N))]) (wx N S nt bitsD (.tup (turned.map .int)) bD (some (.d (.int i))) (some (.d (gR g))) a8))[5]? =some (.val (.lst (ws.map (mI N)))):=by
   unfold b3 wx
   show some (match res (S++[.lst (ws.map (mI N))]) (.loc S.length) with | some d=>Sl.val d | none=> .un)=_
   unfold res
   rw[bM]
  refine(aR (ds:=[.str (kS g.1), .tup ((g.2.1.map (iC ws)).map (mI N)),mI N one]) (aW (ay (a:=gR g) (b:= .int 0) rfl rfl rfl) (aW ?_ (aW rfl rfl))) (EX hg.1 (by rw[List.length_map];exact hg.2.1))).trans ?_
  ·exact aR (ds:=[.lst (ws.map (mI N)), .tup (g.2.1.map nI)]) (aW (by unfold ae;rw [h5]) (aW (ay (a:=gR g) (b:= .int 1) rfl rfl rfl) rfl)) (FK hg.2.2 (by rw[hg.2.1];omega))
  ·have:(fun p=>gv g.1 ((g.2.1.map (iC ws)).map (· p)))=gF g ws:=by funext p;unfold gF;rw [List.map_map];rfl
   rw[this]
 ·show W3 (j4 5 _ (wx N S nt bitsD (.tup (turned.map .int)) bD (some (.d (.int i))) (some (.d (gR g))) (some (.d (mI N (gF g ws))))) _) _
  refine j2 (k:=S.length) rfl ⟨_,bM _ _⟩ (dg (d:=mI N fun p=>gF g ws p !=turned.contains (i:Int)) ?_ ⟨_,_,rfl,bM _ _,by rw[List.length_map];omega,⟨_,rfl⟩,?_⟩)
  ·refine uC (b:=turned.contains (i:Int)) (fJ (a:= .int i) (b:= .tup (turned.map .int)) rfl rfl (qo _ _)) ?_
   rw[←CY]
   rfl
  ·rw[gI,List.map_append];rfl
theorem CD{S:aU}{bD:D}(hB:bD= .lst (bits.map (mI N))∨bD= .tup (bits.map (mI N)))(NO:i9 ins gs os)(hb:bits.length=ins.length)(hS:yn S){Q:V3→aU→Prop}(h:Q (.d (.lst ((rj ins gs bits turned bad).map (mI N)))) S) :
 W3 (fS [.d (bK ins gs os), .d bD, .d (mI N one), .d (.tup (turned.map .int)), .d (.tup (bad.map .int))] S) Q:=by
 have hz:sizeLine=16777216:=sizeLine_eq
 unfold fS
 refine mw hS (uB rfl ?_)
 simp only[bS,iI,List.map_cons,List.map_nil,List.length_cons,List.length_nil,List.replicate,List.cons_append,List.nil_append,Nat.reduceAdd,Nat.reduceSub]
 unfold kf
 refine bc <| bL (by simp only[List.length_cons,List.length_nil,List.length_set];omega) <| eK <| aJ <| dg (d:= .lst (ins.map inD)) rfl <| aJ <| dg (d:=bD) rfl <| aJ <| dg (d:=mI N one) rfl <| aJ <| dg (d:= .tup (bad.map .int)) rfl <| cX <| vH hB hb NO.hi NO.hw ⟨_,rfl,?_⟩
 simp only[List.set_cons_succ,List.set_cons_zero]
 have hwd:=ue NO.hw
 have hN:=NO.hi
 have hG:=NO.hg
 refine bc (fR (k3 (ds:=dH (gs.map gR)) rfl ?_))
 refine(cT (fun i δ S2=>(∃a b c,δ=wx N S (bK ins gs os) bD (.tup (turned.map .int)) (.tup (bad.map .int)) a b c)∧S2=S++[SO.lst ((j7 gs turned (cu ins bits bad ins.length) i).map (mI N))])
  ⟨⟨_,_,_,rfl⟩,rfl⟩ ?_).mono fun o S2 ⟨δ2,e2',⟨a,b,c,hδ⟩,hS2⟩=>⟨δ2,e2',?_⟩
 ·rintro i v δ S2 hv ⟨⟨a,b,c,rfl⟩,rfl⟩
  obtain⟨d,hd,rfl⟩:=uF hv
  rw[List.getElem?_map] at hd
  cases q:gs[i]? with
  | none=>rw [q] at hd;cases hd
  | some g=>
    rw[q] at hd
    cases hd
    have hi:i < gs.length:=(List.getElem?_eq_some_iff.mp q).1
    have hl:(j7 gs turned (cu ins bits bad ins.length) i).length=jh ins+i:=by rw[l6 _ (by omega),jY hb _ (Nat.le_refl _),List.take_length]
    refine⟨wx N S (bK ins gs os) bD (.tup (turned.map .int)) (.tup (bad.map .int)) (some (.d (.int i))) (some (.d (gR g))) c,rfl,?_⟩
    refine(zH (by rw[hl];exact NO.g i g q) (by rw[hl];omega)).mono fun o S4 ⟨⟨c4,e4⟩,e5⟩=>⟨_,e4,⟨_,_,_,rfl⟩,?_⟩
    rw[e5]
    show _=S++[SO.lst ((match gs[i]? with | some g=>j7 gs turned (cu ins bits bad ins.length) i++[fun p=>gF g (j7 gs turned (cu ins bits bad ins.length) i) p !=turned.contains (i:Int)] | none=>j7 gs turned (cu ins bits bad ins.length) i).map (mI N))]
    rw[q]
 have hlen:((dH (gs.map gR)).map V3.d).length=gs.length:=by simp [dH]
 rw[hlen] at hS2
 subst hδ hS2
 exact eW (w_var rfl ⟨_,rfl,by unfold eI;exact decide_eq_true (Nat.le_refl _),⟨_,rfl⟩,_,by unfold res;rw [bM];rfl,h⟩)
noncomputable def m8(N:Nat)(os:List (Str × List Nat))(ws:List M):List D:=os.map fun x=> .tup ((tell ws x).map (mI N))
theorem EF{S:aU}{ws:List M}(hO:os.length < 1000)(ho:∀x∈os,x.2.length < 1000∧∀w∈x.2,w < ws.length)(hS:yn S){Q:V3→aU→Prop}(h:Q (.d (.lst (m8 N os ws))) S) :
 W3 (gz [.d (bK ins gs os), .d (.lst (ws.map (mI N)))] S) Q:=by
 have hz:sizeLine=16777216:=sizeLine_eq
 unfold gz
 refine mw hS (uB rfl ?_)
 simp only[bS,ic,List.map_cons,List.map_nil,List.length_cons,List.length_nil,List.replicate,List.cons_append,List.nil_append,Nat.reduceAdd,Nat.reduceSub]
 unfold lp
 refine eW (kO (ds:=m8 N os ws) ?_ ⟨_,rfl,by unfold eI;exact decide_eq_true (Nat.le_refl _),⟨_,rfl⟩,_,by unfold res;rw [bM],h⟩)
 refine fU (ds:=os.map xj) (ni (ay (a:=bK ins gs os) (b:= .int 2) rfl rfl rfl)) (by rw[List.length_map];omega) ?_
 unfold m8
 refine NT.fg xj _ fun(x:Str × List Nat) hx=>⟨[.val (.str x.1), .val (.tup (x.2.map nI)), .val (.lst (ws.map (mI N)))],rfl,rfl,?_⟩
 exact aR (ds:=[.lst (ws.map (mI N)), .tup (x.2.map nI)]) rfl (FK (ho x hx).2 (ho x hx).1)
end
end K14
end
section
set_option maxRecDepth 100000
set_option maxHeartbeats 4000000
namespace K14
open PySem PySem.Spec PyProof.Rows L2 L3 MT
noncomputable def r0(xs:List M):M:=fun p=>(H_ (xs.map (· p))).1
noncomputable def r1(xs:List M):M:=fun p=>(H_ (xs.map (· p))).2
theorem rm{n:Nat}{ds:List D}{δ:aw}{j:Int}(h:ae 0 δ= .ok (.tup ds))(hl:ds.length=n):b2 iV (aG cP (aq (ae 0) aD)) (eC (.int j)) δ= .ok (decide ((n:Int)=j)):=by
 refine fJ (a:= .int n) (b:= .int j) (aR (ds:=[.tup ds]) (aW h rfl) ?_) rfl ?_
 ·show R.ok (D.int ds.length)=_
  rw[hl]
 ·show R.ok (D.bl ((n:Int)==j))=_
  congr 2
theorem xC{N:Nat}{xs:List M}(h:1≤xs.length∧xs.length≤3):iR [.tup (xs.map (mI N)),mI N one]= .ok (.tup [mI N (r0 xs),mI N (r1 xs)]):=by
 have hz:sizeLine=16777216:=sizeLine_eq
 unfold iR sO
 match xs,h with
 | [a],_=>
   refine c7 (aY (dW (rm (n:=1) rfl rfl) rfl) (aY (eP (d:=mI N a) (uC (rm (n:=1) rfl rfl) (ay (a:= .tup [mI N a]) (b:= .int 0) rfl rfl zP)) (by simp [cV,l7])) (cG ?_)))
   exact gH (aW (ay (a:=mI N one) (b:=mI N a) rfl rfl (wG N a)) (aW rfl rfl)) (by simp;omega)
 | [a,b],_=>
   refine c7 (NT.l8 (pk (rm (n:=2) rfl rfl) (cG ?_)))
   exact gH (aW (ay (a:=mI N one) (b:=mI N fun p=>a p || b p) rfl (ay (ay rfl rfl zP) (ay rfl rfl Be) (wa N a b)) (wG N _)) (aW (ay (ay rfl rfl zP) (ay rfl rfl Be) (qL N a b)) rfl)) (by simp;omega)
 | [a,b,c],_=>
   refine c7 (aY (dW (rm (n:=3) rfl rfl) rfl) (aY (eP (d:=mI N fun p=>(a p && b p) || (a p && c p) || (b p && c p)) (uC (rm (n:=3) rfl rfl) (aR (ds:=[.tup [mI N a,mI N b,mI N c]]) rfl za)) (by simp [cV,l7])) (cG ?_)))
   exact gH (aW (ay (a:=mI N one) (b:=mI N fun p=>(a p && b p) || (a p && c p) || (b p && c p)) rfl rfl (wG N _)) (aW rfl rfl)) (by simp;omega)
theorem HF{N n:Nat}{f:M}:jU [mI N f, .int n]= .ok (.int (if decide (n < N) && f n then 1 else 0)):=by
 unfold jU vS
 refine c7 (cG ?_)
 have h:=JL N f n
 show(R.bind (R.bind (R.ok (mI N f)) fun d=>R.bind (R.ok (D.int n)) fun e=>oO d e) fun d=>R.bind (R.ok (D.int 1)) fun e=>AG d e)=_
 exact h
theorem qU{bs:List Bool}(hl:bs.length < 100000):f7 [.lst (bs.map bI)]= .ok (.int (Dp bs)):=by
 unfold f7 tU
 refine c7 (aY (eP (d:= .int 0) rfl (by simp [cV,o5])) ?_)
 obtain⟨δ1,e1,a2,hδ1⟩:=d6 (t:=aV 2) (body:=lM) (ds:=(bs.map bI).reverse)
  (fun i δ=>∃a2,δ=[.val (.lst (bs.map bI)), .val (.int (Dp (bs.drop (bs.length - i)))),a2]) (δ:=[.val (.lst (bs.map bI)), .val (.int 0), .un]) ⟨.un,by simp [Dp]⟩ (by
    rintro i d δ hd ⟨a2,rfl⟩
    have hi:i < bs.length:=by
     have:=(List.getElem?_eq_some_iff.mp hd).1
     rwa [List.length_reverse,List.length_map] at this
    rw[List.getElem?_reverse (by rw[List.length_map];exact hi),List.length_map,List.getElem?_map,List.getElem?_eq_getElem (by omega:bs.length - 1 - i < bs.length)] at hd
    cases hd
    have hdr:bs.drop (bs.length - (i+1))=bs[bs.length - 1 - i] ::bs.drop (bs.length - i):=by
     rw[show bs.length - (i+1)=bs.length - 1 - i by omega,List.drop_eq_getElem_cons (by omega:bs.length - 1 - i < bs.length),show bs.length - 1 - i+1=bs.length - i by omega]
    refine⟨_,?_,⟨.val (bI bs[bs.length - 1 - i]),rfl⟩⟩
    have hm:(Dp (bs.drop (bs.length - (i+1))):Int)=(Dp (bs.drop (bs.length - i)):Int)*2+(if bs[bs.length - 1 - i] then 1 else 0):=by
     rw[hdr]
     show(((if bs[bs.length - 1 - i] then 1 else 0)+2*Dp (bs.drop (bs.length - i)):Nat):Int)=_
     cases bs[bs.length - 1 - i] <;> simp <;> omega
    rw[hm]
    generalize (Dp (bs.drop (bs.length - i)):Int)=m
    generalize bs[bs.length - 1 - i]=x
    generalize D.lst (bs.map bI)=y
    rw[show aV 2 (bI x) [.val y, .val (.int m),a2]= .ok [.val y, .val (.int m), .val (bI x)] from rfl,R.aH]
    unfold lM
    exact eP (ay (a:= .int (m*2)) (b:=bI x) (ay (a:= .int m) (b:= .int 2) rfl rfl (bR _ (.inr ⟨by omega,by omega⟩))) rfl rfl) (by simp))
 refine aY (fW (ds:=(bs.map bI).reverse) rfl e1) ?_
 rw[List.length_reverse,List.length_map,Nat.sub_self,List.drop_zero] at hδ1
 subst hδ1
 exact cG rfl
noncomputable def bb:Nat→List (List Bool)
 | 0=>[[]]
 | c+1=>(bb c).flatMap fun b=>[b++[false],b++[true]]
theorem cx:∀c,(bb c).length=2 ^ c
 | 0=>rfl
 | c+1=>by
   unfold bb
   rw[List.length_flatMap]
   have:(bb c).map (fun b=>[b++[false],b++[true]].length)=(bb c).map fun _=>2:=rfl
   rw[this,List.map_const',List.sum_replicate_nat,cx c]
   omega
theorem iT:∀c,∀b∈bb c,b.length=c
 | 0,b,h=>by unfold bb at h;rw [List.mem_singleton.mp h];rfl
 | c+1,b,h=>by
   unfold bb at h
   obtain⟨a,ha,hb⟩:=List.mem_flatMap.mp h
   have:=iT c a ha
   simp only[List.mem_cons,List.not_mem_nil,or_false] at hb
   rcases hb with rfl | rfl <;> simp [this]
noncomputable def bH(b:List Bool):D:= .tup (b.map bI)
noncomputable def aE(c:Nat)(inp:Option V3)(a2 a3 a4:Option V3):DE:=[some (.d (nI c)),inp,a2,a3,a4]
theorem LN(n:Nat):nG n .iz=true:=rfl
theorem sg{c:Nat}{S:aU}(hc:c≤10)(hS:yn S){Q:V3→aU→Prop}(h:Q (.d (.lst ((bb c).map bH))) S):W3 (fN [.d (nI c)] S) Q:=by
 have hz:sizeLine=16777216:=sizeLine_eq
 unfold fN
 refine mw hS (uB rfl ?_)
 simp only[bS,iM,List.map_cons,List.map_nil,List.length_cons,List.length_nil,List.replicate,List.cons_append,List.nil_append,Nat.reduceAdd,Nat.reduceSub]
 unfold km
 refine bc <| bL (by simp only[List.length_cons,List.length_nil,List.length_set];omega) <| kO (ds:=(bb 0).map bH) rfl ⟨_,rfl,?_⟩
 simp only[List.set_cons_succ,List.set_cons_zero]
 refine bc <| fR <| k3 (eF (n:=c) rfl (by omega)) ?_
 refine(cT (fun i δ S2=>∃(T:aU) (a2 a3 a4:Option V3),S2=S++T++[.lst ((bb i).map bH)]∧δ=aE c (some (.loc (S++T).length)) a2 a3 a4)
  ⟨[],none,none,none,by simp,by simp [aE]⟩ ?_).mono fun o S2 ⟨δ2,e2',T,a2,a3,a4,hS2,hδ⟩=>⟨δ2,e2',?_⟩
 ·rintro i v δ S2 hv ⟨T,a2,a3,a4,rfl,rfl⟩
  have hi:i < c:=by
   have:=(List.getElem?_eq_some_iff.mp hv).1
   rwa [List.length_map,bQ,List.length_map,List.length_range] at this
  have hpow:(bb i).length≤1024:=by
   rw[cx]
   exact Nat.pow_le_pow_right (by omega) (by omega:i≤10)
  refine⟨aE c (some (.loc (S++T).length)) (some v) a3 a4,rfl,?_⟩
  unfold k9 aE
  refine Jt (i:=1) rfl (bM _ _) ?_
  rw[gI]
  simp only[List.set_cons_succ,List.set_cons_zero]
  refine bc <| bL (by simp only[List.length_cons,List.length_nil,List.length_set];omega) <| kO (ds:=[]) rfl ⟨_,rfl,?_⟩
  simp only[List.set_cons_succ,List.set_cons_zero]
  generalize hU:S++T++[SO.iz]=U
  refine bc <| fR <| k3 (ds:=(bb i).map bH) rfl ?_
  refine(cT (fun j δ S3=>(∃b4,δ=[some (.d (nI c)),some (.d (.lst ((bb i).map bH))),some v,some (.loc U.length),b4])∧S3=U++[.lst ((((bb i).take j).flatMap fun b=>[b++[false],b++[true]]).map bH)])
   ⟨⟨_,rfl⟩,by simp⟩ ?_).mono fun o S3 ⟨δ3,e3,⟨b4,hδ3⟩,hS3⟩=>⟨δ3,e3,?_⟩
  ·rintro j v3 δ S3 hv3 ⟨⟨b4,rfl⟩,rfl⟩
   obtain⟨b,hb,rfl⟩:=NT.qw hv3
   have hj:=(List.getElem?_eq_some_iff.mp hb).1
   have hbl:=iT i b (List.mem_of_getElem? hb)
   refine⟨[some (.d (nI c)),some (.d (.lst ((bb i).map bH))),some v,some (.loc U.length),some (.d (bH b))],rfl,?_⟩
   unfold lK
   generalize hL:((((bb i).take j).flatMap fun b=>[b++[false],b++[true]]).map bH)=L
   have hLl:L.length≤2048:=by
    rw[←hL,List.length_map,List.length_flatMap]
    have:((bb i).take j).map (fun b=>[b++[false],b++[true]].length)=((bb i).take j).map fun _=>2:=rfl
    rw[this,List.map_const',List.sum_replicate_nat,List.length_take]
    omega
   have add:∀(x:Bool) (δ:aw),ae 4 δ= .ok (bH b)→e2 iB (ae 4) (dM (aq (eC (bI x)) aD)) δ= .ok (bH (b++[x])):=fun x δ h4=>by
    refine ay (a:=bH b) (b:= .tup [bI x]) h4 (gH rfl (by simp;omega)) ?_
    show R.cb (decide ((b.map bI).length+[bI x].length≤sizeLine)) _=_
    rw[bR _ (by rw[List.length_map];simp;omega)]
    unfold bH
    rw[List.map_append];rfl
   refine bc <| j2 (k:=U.length) rfl ⟨_,bM _ _⟩ <| dg (d:=bH (b++[false])) (add false _ rfl) ⟨_,_,rfl,bM _ _,by omega,_,rfl,?_⟩
   rw[gI]
   refine j2 (k:=U.length) rfl ⟨_,bM _ _⟩ <| dg (d:=bH (b++[true])) (add true _ rfl) ⟨_,_,rfl,bM _ _,by rw[List.length_append];simp;omega,_,rfl,⟨_,rfl⟩,?_⟩
   rw[gI,List.take_add_one,hb,List.flatMap_append,List.map_append,hL]
   simp
  rw[List.length_map,List.length_map,List.take_length] at hS3
  subst hδ3 hS3
  refine bL (by simp only[List.length_cons,List.length_nil,List.length_set];omega) <| w_var (v:= .loc U.length) rfl ⟨_,rfl,T++[SO.iz],some v,some (.loc U.length),b4,?_,?_⟩
  ·rw[←hU,List.append_assoc S];rfl
  ·rw[←hU,List.append_assoc S];rfl
 have hlen:((bQ 0 c).map V3.d).length=c:=by simp [bQ]
 rw[hlen] at hS2
 subst hδ hS2
 unfold aE
 refine eW (w_var rfl ⟨_,rfl,by unfold eI;exact decide_eq_true (by rw[List.length_append];omega),⟨T++[.lst ((bb c).map bH)],by rw[List.append_assoc]⟩,_,by unfold res;rw [bM],h⟩)
end K14
end
section
set_option maxRecDepth 100000
set_option maxHeartbeats 4000000
namespace K14
open PySem PySem.Spec PyProof.Rows L2 L3 MT
noncomputable def Ir(c j:Nat):M:=fun p=>((bb c).getD p []).getD j false
noncomputable def sr(c:Nat):List M:=(List.range c).map (Ir c)
theorem Gq{b:List Bool}{j:Nat}(h:j < b.length):cg (bH b) (.int j)= .ok (bI (b.getD j false)):=by
 refine ng ?_
 rw[jc (by omega) (by rw[List.length_map,Int.toNat_natCast];exact h)]
 rw[List.getD_eq_getElem?_getD,List.getElem?_eq_getElem h]
 simp
theorem xO{c j:Nat}(hc:c≤10)(hj:j < c):iS [.lst ((bb c).map bH), .int j]= .ok (mI (2 ^ c) (Ir c j)):=by
 have hz:sizeLine=16777216:=sizeLine_eq
 have hp:2 ^ c≤1024:=Nat.pow_le_pow_right (by omega) hc
 unfold iS tJ
 refine c7 (cG (aR (ds:=[.lst (((bb c).map fun b=>b.getD j false).map bI)]) (aW (eO (fU (ds:=(bb c).map bH) rfl (by rw[List.length_map,cx];omega) ?_)) rfl) ?_))
 ·rw[List.map_map]
  exact NT.fg bH _ fun b hb=>⟨[.val (bH b), .val (.int j)],rfl,rfl,ay (a:=bH b) (b:= .int j) rfl rfl (Gq (by rw[iT c b hb];exact hj))⟩
 ·rw[qU (by rw[List.length_map,cx];omega),Dh,List.length_map,cx]
  unfold mI
  congr 3
  refine lX fun p hp'=>?_
  unfold Ir
  rw[List.getD_eq_getElem?_getD,List.getElem?_map,List.getD_eq_getElem?_getD (l:=bb c),List.getElem?_eq_getElem (by rw[cx];exact hp')]
  rfl
section
variable {c:Nat} {ins:List (Str × Nat)} {gs:List Gt} {os:List (Str × List Nat)}
noncomputable abbrev zQ:=Str.ofString "net"
noncomputable abbrev sW:=Str.ofString "many_inputs"
noncomputable abbrev sU:=Str.ofString "full"
noncomputable abbrev oS:=Str.ofString "in_masks"
noncomputable def eL(c:Nat)(nt:D):List (Str × V3):=[(zQ, .d nt),(sW, .d (nI (2 ^ c))),(sU, .d (mI (2 ^ c) one)),(oS, .d (.lst ((sr c).map (mI (2 ^ c)))))]
theorem DD{S:aU}(hc:ins.length=c)(hc1:c≤10)(hS:yn (S++[.ins 0 []])){Q:V3→aU→Prop}(h:Q (.d .cI) (S++[.ins 0 (eL c (bK ins gs os))])) :
 W3 (cR [.loc S.length, .d (bK ins gs os)] (S++[.ins 0 []])) Q:=by
 have hz:sizeLine=16777216:=sizeLine_eq
 have hp:2 ^ c≤1024:=Nat.pow_le_pow_right (by omega) hc1
 unfold cR
 refine JK rfl ?_
 simp only[bS,dh,List.map_cons,List.map_nil,List.length_cons,List.length_nil,List.replicate,List.cons_append,List.nil_append,Nat.reduceAdd,Nat.reduceSub]
 unfold g7
 refine bc <| bL (by simp only[List.length_cons,List.length_nil,List.length_set];omega) <| eK <| aJ <| dg (d:=nI c) (aR (ds:=[.lst (ins.map inD)]) rfl (by rw[ma,List.length_map,hc];rfl)) <| cX <| sg hc1 hS ⟨_,rfl,?_⟩
 simp only[List.set_cons_succ,List.set_cons_zero]
 refine bc <| i3 (k:=S.length) <| dg (d:=bK ins gs os) rfl <| w_var (v:= .loc S.length) rfl ⟨_,rfl,bM _ _,by simp,_,rfl,?_⟩
 rw[gI]
 refine bc <| i3 (k:=S.length) <| dg (d:=nI (2 ^ c)) (aR (ds:=[.lst ((bb c).map bH)]) rfl (by rw[ma,List.length_map,cx];rfl)) <| w_var (v:= .loc S.length) rfl ⟨_,rfl,bM _ _,by unfold wg;simp,_,rfl,?_⟩
 rw[gI]
 refine bc <| i3 (k:=S.length) <| dg (d:=mI (2 ^ c) one) (aR (ds:=[.lst (((bb c).map fun _=>true).map bI)]) (aW (eO (fU (ds:=(bb c).map bH) rfl (by rw[List.length_map,cx];omega) ?_)) rfl) ?_) <| w_var (v:= .loc S.length) rfl ⟨_,rfl,bM _ _,?_,_,rfl,?_⟩
 ·rw[List.map_map]
  exact NT.fg bH _ fun b hb=>⟨[.val (bH b)],rfl,rfl,rfl⟩
 ·rw[qU (by rw[List.length_map,cx];omega),Dh,List.length_map,cx]
  unfold mI
  congr 3
  refine lX fun p hp'=>?_
  rw[List.getD_eq_getElem?_getD,List.getElem?_map,List.getElem?_eq_getElem (by rw[cx];exact hp')]
  rfl
 ·exact(by decide:2 < 1000)
 rw[gI]
 refine i3 (k:=S.length) <| dg (d:= .lst ((sr c).map (mI (2 ^ c)))) (eO (fU (ds:=bQ 0 c) (eF (n:=c) (aR (ds:=[.lst (ins.map inD)]) rfl (by rw[ma,List.length_map,hc])) (by omega)) (by simp [bQ];omega) ?_)) <| w_var (v:= .loc S.length) rfl ⟨_,rfl,bM _ _,?_,_,rfl,?_⟩
 ·unfold sr
  rw[List.map_map]
  unfold bQ
  refine NT.fg (fun i:Nat=>D.int (0+(i:Int))) _ fun j hj=>⟨[.val (.int (0+(j:Int))), .val (.lst ((bb c).map bH))],rfl,rfl,aR (ds:=[.lst ((bb c).map bH), .int j]) ?_ (xO hc1 (List.mem_range.mp hj))⟩
  rw[Int.zero_add]
  rfl
 ·exact(by decide:3 < 1000)
 rw[gI]
 exact h
end
end K14
end
section
set_option maxRecDepth 100000
set_option maxHeartbeats 4000000
namespace K14
open PySem PySem.Spec PyProof.Rows L2 L3 MT
section
variable {c:Nat} {ins:List (Str × Nat)} {gs:List Gt} {os:List (Str × List Nat)} {S:aU} {k:Nat} {turned bad:List Int}
theorem MK:(sW==zQ)=false:=by decide+kernel
theorem MD:(sU==zQ)=false:=by decide+kernel
theorem Mn:(sU==sW)=false:=by decide+kernel
theorem MM:(oS==zQ)=false:=by decide+kernel
theorem Mi:(oS==sW)=false:=by decide+kernel
theorem Mb:(oS==sU)=false:=by decide+kernel
theorem CW{nt:D}:(eL c nt).lookup zQ=some (.d nt):=by unfold eL;rw [List.lookup_cons,beq_self_eq_true]
theorem DN{nt:D}:(eL c nt).lookup sW=some (.d (nI (2 ^ c))):=by unfold eL;rw [List.lookup_cons,MK,List.lookup_cons,beq_self_eq_true]
theorem yD{nt:D}:(eL c nt).lookup sU=some (.d (mI (2 ^ c) one)):=by unfold eL;rw [List.lookup_cons,MD,List.lookup_cons,Mn,List.lookup_cons,beq_self_eq_true]
theorem CV{nt:D}:(eL c nt).lookup oS=some (.d (.lst ((sr c).map (mI (2 ^ c))))):=by unfold eL;rw [List.lookup_cons,MM,List.lookup_cons,Mi,List.lookup_cons,Mb,List.lookup_cons,beq_self_eq_true]
theorem qV:(sr c).length=c:=by unfold sr;simp
noncomputable abbrev Wd(c:Nat)(ins:List (Str × Nat))(gs:List Gt)(turned bad:List Int):List M:=rj ins gs (sr c) turned bad
theorem Fb(m:Str)(nt:D)(h1:(m==zQ)=false)(h2:(m==sW)=false)(h3:(m==sU)=false)(h4:(m==oS)=false):(eL c nt).lookup m=none:=by unfold eL;rw [List.lookup_cons,h1,List.lookup_cons,h2,List.lookup_cons,h3,List.lookup_cons,h4];rfl
theorem AM(NO:i9 ins gs os)(hc:ins.length=c)(hS:yn S)(hb:S[k]? =some (.ins 0 (eL c (bK ins gs os)))){Q:V3→aU→Prop}(h:Q (.d (.lst (m8 (2 ^ c) os (Wd c ins gs turned bad)))) S) :
 W3 (eY [.loc k, .d (.tup (turned.map .int)), .d (.tup (bad.map .int))] S) Q:=by
 have hz:sizeLine=16777216:=sizeLine_eq
 unfold eY
 refine mw hS (uB rfl ?_)
 simp only[bS,hX,List.map_cons,List.map_nil,List.length_cons,List.length_nil,List.replicate,List.cons_append,List.nil_append,Nat.reduceAdd,Nat.reduceSub]
 unfold jJ
 have hl:(sr c).length=ins.length:=by rw[qV,hc]
 refine eW <| eK <| aJ <| w_fld (k:=k) <| w_var (v:= .loc k) rfl ⟨_,_,rfl,hb,CW,?_⟩
 refine aJ <| eK <| aJ <| w_fld (k:=k) <| w_var (v:= .loc k) rfl ⟨_,_,rfl,hb,CW,?_⟩
 refine aJ <| w_fld (k:=k) <| w_var (v:= .loc k) rfl ⟨_,_,rfl,hb,CV,?_⟩
 refine aJ <| w_fld (k:=k) <| w_var (v:= .loc k) rfl ⟨_,_,rfl,hb,yD,?_⟩
 refine aJ <| dg (d:= .tup (turned.map .int)) rfl <| aJ <| dg (d:= .tup (bad.map .int)) rfl <| cX ?_
 refine CD (.inl rfl) NO hl hS (cX ?_)
 refine EF NO.ho (fun x hx=>⟨(NO.o x hx).1,fun w hw=>by rw[vQ hl];exact(NO.o x hx).2 w hw⟩) hS ?_
 exact⟨_,rfl,by unfold eI;rfl,⟨[],by simp⟩,_,by unfold res;rfl,h⟩
noncomputable def D0(N:Nat)(os:List (Str × List Nat))(ws:List M):List D:=os.map fun x=> .tup [mI N (r0 (tell ws x)),mI N (r1 (tell ws x))]
theorem pj(NO:i9 ins gs os)(hc:ins.length=c)(ho:∀x∈os,1≤x.2.length∧x.2.length≤3)(hS:yn S)(hb:S[k]? =some (.ins 0 (eL c (bK ins gs os)))){Q:V3→aU→Prop}(h:Q (.d (.lst (D0 (2 ^ c) os (Wd c ins gs turned [])))) S) :
 W3 (cB [.loc k, .d (.tup (turned.map .int))] S) Q:=by
 have hz:sizeLine=16777216:=sizeLine_eq
 have hO:=NO.ho
 unfold cB
 refine mw hS (uB rfl ?_)
 simp only[bS,ee,List.map_cons,List.map_nil,List.length_cons,List.length_nil,List.replicate,List.cons_append,List.nil_append,Nat.reduceAdd,Nat.reduceSub]
 unfold gU
 refine eW <| nD (fun j ds S2=>S2=S∧ds=(D0 (2 ^ c) os (Wd c ins gs turned [])).take j) ?_
 refine yQ <| rf (k:=k) <| w_var (v:= .loc k) rfl ⟨_,rfl,hb,Fb _ _ (by decide+kernel) (by decide+kernel) (by decide+kernel) (by decide+kernel),?_⟩
 refine aJ <| dg (d:= .tup (turned.map .int)) rfl <| aJ <| dg (d:= .tup (([]:List Int).map .int)) rfl <| cX ?_
 refine AM NO hc hS hb ⟨_,rfl,?_,⟨rfl,by simp⟩,?_,?_⟩
 ·rw[List.length_map,m8,List.length_map];omega
 ·rintro j v ds S2 hv ⟨rfl,rfl⟩
  rw[m8] at hv
  obtain⟨x,hx,rfl⟩:=NT.qw hv
  refine⟨[some (.d (.tup ((tell (Wd c ins gs turned []) x).map (mI (2 ^ c))))),some (.loc k)],rfl,B_ ?_⟩
  rw[if_pos rfl]
  refine uj <| aJ <| dg (d:= .tup ((tell (Wd c ins gs turned []) x).map (mI (2 ^ c)))) rfl <| aJ <| w_fld (k:=k) <| w_var (v:= .loc k) rfl ⟨_,_,rfl,hb,yD,cX ⟨[.tup ((tell (Wd c ins gs turned []) x).map (mI (2 ^ c))),mI (2 ^ c) one],_,rfl,xC ?_,_,rfl,rfl,?_⟩⟩
  ·unfold tell;rw [List.length_map];exact ho x (List.mem_of_getElem? hx)
  ·unfold D0
   rw[List.take_add_one,List.getElem?_map,hx]
   rfl
 ·rintro ds S2 ⟨rfl,rfl⟩
  rw[List.length_map,m8,List.length_map,List.take_of_length_le (by rw[D0,List.length_map];exact Nat.le_refl _)]
  exact⟨_,rfl,by unfold eI;rfl,⟨[],by simp⟩,_,by unfold res;rfl,h⟩
theorem uD{nt:D}{f:M}(hc:c≤10)(hS:yn S)(hb:S[k]? =some (.ins 0 (eL c nt))){Q:V3→aU→Prop}(h:Q (.d (.lst (((List.range (2 ^ c)).filter f).map nI))) S) :
 W3 (dn [.loc k, .d (mI (2 ^ c) f)] S) Q:=by
 have hz:sizeLine=16777216:=sizeLine_eq
 have hp:2 ^ c≤1024:=Nat.pow_le_pow_right (by omega) hc
 unfold dn
 refine mw hS (uB rfl ?_)
 simp only[bS,dz,List.map_cons,List.map_nil,List.length_cons,List.length_nil,List.replicate,List.cons_append,List.nil_append,Nat.reduceAdd,Nat.reduceSub]
 unfold gA
 refine eW <| nD (fun j ds S2=>S2=S∧ds=((List.range j).filter f).map nI) ?_
 refine oH <| w_fld (k:=k) <| w_var (v:= .loc k) rfl ⟨_,_,rfl,hb,DN,2 ^ c,rfl,by omega,?_⟩
 have hlen:((bQ 0 (2 ^ c)).map V3.d).length=2 ^ c:=by simp [bQ]
 rw[hlen]
 refine⟨by omega,⟨rfl,rfl⟩,?_,?_⟩
 ·rintro j v ds S2 hv ⟨rfl,rfl⟩
  obtain⟨hj,rfl⟩:=NT.jF hv
  refine⟨[some (.d (.int j)),some (.d (mI (2 ^ c) f))],rfl,ve (b:=f j) ?_ ?_⟩
  ·refine fJ (a:= .int (if decide (j < 2 ^ c) && f j then 1 else 0)) (b:= .int 1) (aR (ds:=[mI (2 ^ c) f, .int j]) rfl HF) rfl ?_
   rw[decide_eq_true hj,Bool.true_and]
   cases f j <;> rfl
  ·rw[List.range_succ,List.filter_append,List.map_append]
   cases hf:f j with
   | true=>rw [if_pos rfl];exact dg (d:=nI j) rfl ⟨_,rfl,rfl,by simp [hf]⟩
   | false=>rw [if_neg (by decide)];exact⟨rfl,by simp [hf]⟩
 ·rintro ds S2 ⟨rfl,rfl⟩
  exact⟨_,rfl,by unfold eI;rfl,⟨[],by simp⟩,_,by unfold res;rfl,h⟩
end
end K14
end
section
set_option maxRecDepth 100000
set_option maxHeartbeats 4000000
namespace K14
open PySem PySem.Spec PyProof.Rows L2 L3 MT
theorem CH(n:Nat):bQ 0 n=(List.range n).map nI:=by
 unfold bQ
 refine List.map_congr_left fun i _=>?_
 show D.int (0+(i:Int))=D.int (i:Int)
 rw[Int.zero_add]
noncomputable def cy(T:List Nat):D:= .tup (T.map nI)
theorem EI{ps:List Nat}{a:Nat}(ha:a < ps.length):HB (.lst (ps.map nI)) (some ((a+1:Nat):Int)) none= .ok (.lst ((ps.drop (a+1)).map nI)):=by
 show R.ok (D.lst (L2.cutD (ps.map nI) (some ((a+1:Nat):Int)) none))=_
 congr 2
 unfold L2.cutD
 rw[List.length_map,HT.uM,HT.Bz,Nat.min_eq_left (by omega),←List.map_drop,←List.map_take,List.take_of_length_le (by rw[List.length_drop];omega)]
theorem C9{ds es:List D}(h:ds.length+es.length≤sizeLine):iB (.tup ds) (.tup es)= .ok (.tup (ds++es)):=bR _ h
theorem qE:∀(n s:Nat) (ps:List Nat),s≤n→n≤3→ps.length≤100→d3 (n+1) [.lst (ps.map nI), .int s]= .ok (.lst ((iq ps s).map cy))
 | n,0,ps,_,_,_=>by
   show lL j0 (j6 (d3 n)) _=_
   unfold j6
   exact c7 (NT.l8 (pk (fJ (a:= .int 0) (b:= .int 0) rfl rfl rfl) (cG rfl)))
 | 0,s+1,ps,h,_,_=>by omega
 | n+1,s+1,ps,h,hn,hp=>by
   have hz:sizeLine=16777216:=sizeLine_eq
   show lL j0 (j6 (d3 (n+1))) _=_
   unfold j6
   have hcl:(iq ps (s+1)).length≤100 ^ (s+1):=l0 hp
   have hpow:∀m,m≤3→(100:Nat) ^ m≤1000000:=fun m hm=>Nat.pow_le_pow_right (by omega) hm
   refine c7 (aY (dW (fJ (a:= .int (s+1:Nat)) (b:= .int 0) (k:=false) rfl rfl ?_) rfl) ?_)
   ·show R.ok (D.bl (((s+1:Nat):Int)==0))=_
    congr 2
   refine aY (En (ds:=[]) rfl (by simp [cV,j0])) ?_
   let F:Nat→List (List Nat):=fun i=>(List.range i).flatMap fun a=>(iq (ps.drop (a+1)) s).map (ps.getD a 0 ::·)
   have hF:∀i,i≤ps.length→(F i).length≤i*100 ^ s:=fun i hi=>by
    show((List.range i).flatMap fun a=>(iq (ps.drop (a+1)) s).map (ps.getD a 0 ::·)).length≤_
    rw[List.length_flatMap]
    refine Nat.le_trans (w6 (m:=100 ^ s) fun x hx=>?_) (by rw[List.length_map,List.length_range];exact Nat.le_refl _)
    obtain⟨a,_,rfl⟩:=List.mem_map.mp hx
    rw[List.length_map]
    exact l0 (by rw[List.length_drop];omega)
   have hFs:∀i,F (i+1)=F i++(iq (ps.drop (i+1)) s).map (ps.getD i 0 ::·):=fun i=>by
    show(List.range (i+1)).flatMap _=_
    rw[List.range_succ,List.flatMap_append]
    simp [F]
   obtain⟨δ1,e1,a3,a4,a5,hδ1⟩:=d6 (t:=gL 2 (cJ (aV 3) (cJ (aV 4) gQ))) (body:=lC (d3 (n+1))) (ds:=dH (ps.map nI))
    (fun i δ=>∃a3 a4 a5,δ=[.val (.lst (ps.map nI)), .val (.int (s+1:Nat)), .bld ((F i).map cy),a3,a4,a5]) (δ:=[.val (.lst (ps.map nI)), .val (.int (s+1:Nat)), .bld [], .un, .un, .un]) ⟨.un, .un, .un,by simp [F]⟩ (by
      rintro i d δ hd ⟨a3,a4,a5,rfl⟩
      have hv:((dH (ps.map nI)).map V3.d)[i]? =some (.d d):=by rw[List.getElem?_map,hd];rfl
      obtain⟨d0,hd0,ed⟩:=uF hv
      cases ed
      obtain⟨x,hx,rfl⟩:=NT.ql hd0
      have hil:=(List.getElem?_eq_some_iff.mp hx).1
      have hxd:ps.getD i 0=x:=by rw[List.getD_eq_getElem?_getD,hx];rfl
      have hFi:=hF i (by omega)
      have hFb:i*100 ^ s≤100*100 ^ s:=Nat.mul_le_mul_right _ (by omega)
      have hp2:=hpow (s+1) (by omega)
      rw[Nat.pow_succ,Nat.mul_comm] at hp2
      rw[show gL 2 (cJ (aV 3) (cJ (aV 4) gQ)) (.tup [.int i,nI x]) [.val (.lst (ps.map nI)), .val (.int (s+1:Nat)), .bld ((F i).map cy),a3,a4,a5]= .ok [.val (.lst (ps.map nI)), .val (.int (s+1:Nat)), .bld ((F i).map cy), .val (.int i), .val (nI x),a5] from rfl,R.aH]
      unfold lC
      have ihc:=qE n s (ps.drop (i+1)) (by omega) (by omega) (by rw[List.length_drop];omega)
      have hdl:(iq (ps.drop (i+1)) s).length≤100 ^ s:=l0 (by rw[List.length_drop];omega)
      obtain⟨δ2,e2',c5,hδ2⟩:=d6 (t:=aV 5) (body:=lR (d3 (n+1))) (ds:=(iq (ps.drop (i+1)) s).map cy)
       (fun j δ=>∃c5,δ=[.val (.lst (ps.map nI)), .val (.int (s+1:Nat)), .bld ((F i++((iq (ps.drop (i+1)) s).take j).map (x ::·)).map cy), .val (.int i), .val (nI x),c5]) (δ:=[.val (.lst (ps.map nI)), .val (.int (s+1:Nat)), .bld ((F i).map cy), .val (.int i), .val (nI x),a5]) ⟨a5,by simp⟩ (by
         rintro j d δ hd ⟨c5,rfl⟩
         obtain⟨T,hT,rfl⟩:=NT.ql hd
         have hjl:=(List.getElem?_eq_some_iff.mp hT).1
         have hTl:=(qA (List.mem_of_getElem? hT)).1
         refine⟨[.val (.lst (ps.map nI)), .val (.int (s+1:Nat)), .bld ((F i++((iq (ps.drop (i+1)) s).take (j+1)).map (x ::·)).map cy), .val (.int i), .val (nI x), .val (cy T)],?_,⟨_,rfl⟩⟩
         generalize hL:(F i++((iq (ps.drop (i+1)) s).take j).map (x ::·)).map cy=L
         have hLl:L.length < sizeLine:=by
          rw[←hL,List.length_map,List.length_append,List.length_map,List.length_take]
          omega
         rw[show aV 5 (cy T) [.val (.lst (ps.map nI)), .val (.int (s+1:Nat)), .bld L, .val (.int i), .val (nI x),c5]= .ok [.val (.lst (ps.map nI)), .val (.int (s+1:Nat)), .bld L, .val (.int i), .val (nI x), .val (cy T)] from rfl,R.aH]
         unfold lR
         rw[uT (d:=cy (x ::T)) (ds:=L) (ay (a:= .tup [nI x]) (b:=cy T) (gH rfl (by simp;omega)) rfl (C9 (by rw[List.length_map];simp;omega))) rfl hLl,←hL,List.take_add_one,hT]
         simp [cy])
      refine⟨_,fW (ds:=(iq (ps.drop (i+1)) s).map cy) (ni (aR (ds:=[.lst ((ps.drop (i+1)).map nI), .int s]) (aW (xN (d:= .lst (ps.map nI)) (lo:=some ((i+1:Nat):Int)) (hi:=none) rfl (AR (ay (a:= .int i) (b:= .int 1) rfl rfl rfl)) rfl (EI hil)) (aW (ay (a:= .int (s+1:Nat)) (b:= .int 1) rfl rfl ?_) rfl)) ihc)) e2',?_⟩
      ·show R.ok (D.int (((s+1:Nat):Int) - 1))=_
       congr 2
       omega
      ·rw[List.length_map,List.take_length] at hδ2
       refine⟨.val (.int i), .val (nI x),c5,?_⟩
       rw[hδ2,hFs,hxd])
   refine aY (fW (ds:=dH (ps.map nI)) rfl e1) ?_
   have hlen:(dH (ps.map nI)).length=ps.length:=by simp [dH]
   rw[hlen] at hδ1
   subst hδ1
   exact cG rfl
end K14
end
section
set_option maxRecDepth 100000
set_option maxHeartbeats 4000000
namespace K14
open PySem PySem.Spec PyProof.Rows L2 L3 MT
section
variable {c:Nat} {ins:List (Str × Nat)} {gs:List Gt} {os:List (Str × List Nat)} {S:aU} {k:Nat} {turned:List Int} {safe:Bool}
noncomputable abbrev mW:=Str.ofString "bench"
noncomputable abbrev qD:=Str.ofString "plain"
noncomputable abbrev oA:=Str.ofString "unsure"
noncomputable def me(gs:List Gt):List Nat:=(List.range gs.length).filter fun i=>match gs[i]? with | some g=>!g.2.2 | none=>false
noncomputable def iu(c:Nat)(ins:List (Str × Nat))(gs:List Gt)(os:List (Str × List Nat))(b:Nat):List (Str × V3):=[(mW, .loc b),(qD, .d (.lst (D0 (2 ^ c) os (Wd c ins gs [] [])))),(oA, .d (.lst ((me gs).map nI)))]
theorem LR:(qD==mW)=false:=by decide+kernel
theorem L9:(oA==mW)=false:=by decide+kernel
theorem Mz:(oA==qD)=false:=by decide+kernel
theorem wk{b:Nat}:(iu c ins gs os b).lookup mW=some (.loc b):=by unfold iu;rw [List.lookup_cons,beq_self_eq_true]
theorem Bm{b:Nat}:(iu c ins gs os b).lookup qD=some (.d (.lst (D0 (2 ^ c) os (Wd c ins gs [] [])))):=by unfold iu;rw [List.lookup_cons,LR,List.lookup_cons,beq_self_eq_true]
theorem F5{b:Nat}:(iu c ins gs os b).lookup oA=some (.d (.lst ((me gs).map nI))):=by unfold iu;rw [List.lookup_cons,L9,List.lookup_cons,Mz,List.lookup_cons,beq_self_eq_true]
theorem Jh{b:Nat}(m:Str)(h1:(m==mW)=false)(h2:(m==qD)=false)(h3:(m==oA)=false):(iu c ins gs os b).lookup m=none:=by unfold iu;rw [List.lookup_cons,h1,List.lookup_cons,h2,List.lookup_cons,h3];rfl
noncomputable def TS(S:aU)(c:Nat)(ins:List (Str × Nat))(gs:List Gt)(os:List (Str × List Nat)):aU:=S++[.ins 1 (iu c ins gs os (S.length+1)), .ins 0 (eL c (bK ins gs os))]
theorem Ha{S:aU}(hS:Flat S){x y:SO}(hx:nG (S.length+2) x=true)(hy:nG (S.length+2) y=true):yn (S++[x,y]):=fun o ho=>by
 rw[show(S++[x,y]).length=S.length+2 by simp]
 rcases List.mem_append.mp ho with q | q
 ·exact hS o q _
 ·simp only[List.mem_cons,List.not_mem_nil,or_false] at q
  rcases q with rfl | rfl
  ·exact hx
  ·exact hy
theorem BG{δ:aw}(hg:gs.length < 1000)(h1:ae 1 δ= .ok (bK ins gs os)):gO (jb (e2 cg (ae 1) (eC (.int 1)))) (gL 2 (cJ (aV 0) (cJ (aV 1) gQ))) (kL (iW (e2 cg (ae 1) (eC (.int 2))))) (ae 0) [(Str.ofString "place"),(Str.ofString "gate")] [] δ= .ok ((me gs).map nI):=by
 have hz:sizeLine=16777216:=sizeLine_eq
 refine fU (ds:=dH (gs.map gR)) (HL (ay (a:=bK ins gs os) (b:= .int 1) h1 rfl rfl)) (by simp [dH];omega) ?_
 have e:dH (gs.map gR)=(List.range gs.length).map fun i=> .tup [.int i,gR (gs.getD i (0,[],false))]:=by
  refine List.ext_getElem? fun i=>?_
  rw[List.getElem?_map,dH,List.getElem?_map,List.getElem?_zipIdx,List.getElem?_map]
  by_cases q:i < gs.length
  ·rw[List.getElem?_eq_getElem q,List.getElem?_range q]
   show some (D.tup [.int ((0+i:Nat):Int),gR gs[i]])=some (D.tup [.int i,gR (gs.getD i (0,[],false))])
   rw[Nat.zero_add,List.getD_eq_getElem?_getD,List.getElem?_eq_getElem q];rfl
  ·rw[List.getElem?_eq_none (by omega),List.getElem?_eq_none (by simp;omega)];rfl
 rw[e]
 unfold me
 refine NT.kr (fun i:Nat=>match gs[i]? with | some g=>!g.2.2 | none=>false) (fun i:Nat=>D.tup [.int i,gR (gs.getD i (0,[],false))]) nI fun i hi=>?_
 rw[List.mem_range] at hi
 refine⟨[.val (.int i), .val (gR (gs.getD i (0,[],false)))],rfl,?_,fun _=>rfl⟩
 rw[List.getElem?_eq_getElem hi,List.getD_eq_getElem?_getD,List.getElem?_eq_getElem hi]
 rfl
theorem Dn(NO:i9 ins gs os)(hc:ins.length=c)(hc1:c≤10)(ho:∀x∈os,1≤x.2.length∧x.2.length≤3)(hS:Flat S){Q:V3→aU→Prop}(h:Q (.d .cI) (TS S c ins gs os)) :
 W3 (cU [.loc S.length, .d (bK ins gs os)] (S++[.ins 1 []])) Q:=by
 have hz:sizeLine=16777216:=sizeLine_eq
 unfold cU
 refine JK rfl ?_
 simp only[bS,d8,List.map_cons,List.map_nil,List.length_cons,List.length_nil,List.replicate,List.cons_append,List.nil_append,Nat.reduceAdd,Nat.reduceSub]
 unfold g6
 have l1:(S++[SO.ins 1 []]).length=S.length+1:=by simp
 have g0:∀(x y:SO),(S++[x,y])[S.length]? =some x:=fun x y=>by rw[List.getElem?_append_right (Nat.le_refl _),Nat.sub_self];rfl
 have g1:∀(x y:SO),(S++[x,y])[S.length+1]? =some y:=fun x y=>by rw[List.getElem?_append_right (by omega),show S.length+1 - S.length=1 by omega];rfl
 have st:∀(x y z:SO),(S++[x,y]).set S.length z=S++[z,y]:=fun x y z=>by rw[List.set_append_right _ _ (Nat.le_refl _),Nat.sub_self];rfl
 have ap:∀(x y:SO),S++[x]++[y]=S++[x,y]:=fun x y=>by simp
 refine bc <| i3 (k:=S.length) <| C5 <| aJ <| dg (d:=bK ins gs os) rfl <| cX <| DD hc hc1 ?_ ⟨rfl,?_⟩
 ·rw[ap];exact Ha hS rfl rfl
 rw[ap]
 refine w_var (v:= .loc S.length) rfl ⟨_,rfl,g0 _ _,by simp,_,rfl,?_⟩
 rw[st,l1]
 have hcl:∀fs:List (Str × V3),mL (S.length+2) (fs.map (·.2))=true→yn (S++[.ins 1 fs, .ins 0 (eL c (bK ins gs os))]):=fun fs hf=>Ha hS hf rfl
 refine bc <| i3 (k:=S.length) <| rf (k:=S.length+1) <| w_fld (k:=S.length) <| w_var (v:= .loc S.length) rfl ⟨_,_,rfl,g0 _ _,(by show List.lookup mW [(mW,V3.loc (S.length+1))]=_;rw [List.lookup_cons,beq_self_eq_true]),_,rfl,g1 _ _,Fb _ _ (by decide+kernel) (by decide+kernel) (by decide+kernel) (by decide+kernel),?_⟩
 refine aJ <| dg (d:= .tup (([]:List Int).map .int)) rfl <| cX <| pj NO hc ho (hcl _ ?_) (g1 _ _) ?_
 ·show(decide (S.length+1 < S.length+2) && true)=true
  rw[decide_eq_true (by omega)];rfl
 refine w_var (v:= .loc S.length) rfl ⟨_,rfl,g0 _ _,(by decide:1 < 1000),_,rfl,?_⟩
 rw[st]
 refine i3 (k:=S.length) <| dg (d:= .lst ((me gs).map nI)) (eO (BG NO.hg rfl)) <| w_var (v:= .loc S.length) rfl ⟨_,rfl,g0 _ _,?_,_,rfl,?_⟩
 ·exact(by decide:2 < 1000)
 rw[st]
 exact h
noncomputable def lZ(safe:Bool):Str:=if safe then Str.ofString "safe" else Str.ofString "right"
noncomputable def pt(ws:List M)(x:Str × List Nat)(p:Nat):Bool × Bool:=H_ ((tell ws x).map (· p))
noncomputable def CI(safe:Bool)(c:Nat)(ins:List (Str × Nat))(gs:List Gt)(os:List (Str × List Nat))(turned:List Int):M:=fun p=>os.any fun x=>brk safe (pt (Wd c ins gs [] []) x p) (pt (Wd c ins gs turned []) x p)
theorem As{b:Nat}(NO:i9 ins gs os)(hc:ins.length=c)(ho:∀x∈os,1≤x.2.length∧x.2.length≤3)(hS:yn S)(hk:S[k]? =some (.ins 1 (iu c ins gs os b)))(hb:S[b]? =some (.ins 0 (eL c (bK ins gs os)))){Q:V3→aU→Prop}
 (h:Q (.d (mI (2 ^ c) (CI safe c ins gs os turned))) S):W3 (dq [.loc k, .d (.tup (turned.map .int)), .d (.str (lZ safe))] S) Q:=by
 have hz:sizeLine=16777216:=sizeLine_eq
 unfold dq
 refine mw hS (uB rfl ?_)
 simp only[bS,eM,List.map_cons,List.map_nil,List.length_cons,List.length_nil,List.replicate,List.cons_append,List.nil_append,Nat.reduceAdd,Nat.reduceSub]
 unfold gr
 have h0:D.int 0=mI (2 ^ c) fun _=>false:=by
  unfold mI
  rw[wm.mpr fun _ _=>rfl];rfl
 refine bc <| bL (by simp only[List.length_cons,List.length_nil,List.length_set];omega) <| dg (d:=mI (2 ^ c) fun _=>false) (by rw[←h0];rfl) ⟨_,rfl,?_⟩
 simp only[List.set_cons_succ,List.set_cons_zero]
 refine bc <| fR <| Ja <| w_fld (k:=k) <| w_var (v:= .loc k) rfl ⟨_,_,rfl,hk,Bm,?_⟩
 refine rf (k:=b) <| w_fld (k:=k) <| w_var (v:= .loc k) rfl ⟨_,_,rfl,hk,wk,_,rfl,hb,Fb _ _ (by decide+kernel) (by decide+kernel) (by decide+kernel) (by decide+kernel),?_⟩
 refine aJ <| dg (d:= .tup (turned.map .int)) rfl <| cX <| pj NO hc ho hS hb ⟨_,_,_,_,rfl,rfl,rfl,rfl,?_⟩
 have hzip:oY (D0 (2 ^ c) os (Wd c ins gs [] [])) (D0 (2 ^ c) os (Wd c ins gs turned []))=os.map fun x=> .tup [.tup [mI (2 ^ c) (r0 (tell (Wd c ins gs [] []) x)),mI (2 ^ c) (r1 (tell (Wd c ins gs [] []) x))], .tup [mI (2 ^ c) (r0 (tell (Wd c ins gs turned []) x)),mI (2 ^ c) (r1 (tell (Wd c ins gs turned []) x))]]:=by
  unfold oY D0
  rw[List.zip_map',List.map_map];rfl
 rw[hzip]
 refine(cT (fun i δ S2=>S2=S∧∃a4 a5,δ=[some (.loc k),some (.d (.tup (turned.map .int))),some (.d (.str (lZ safe))),some (.d (mI (2 ^ c) fun p=>(os.take i).any fun x=>brk safe (pt (Wd c ins gs [] []) x p) (pt (Wd c ins gs turned []) x p))),a4,a5])
  ⟨rfl,none,none,rfl⟩ ?_).mono fun o S2 ⟨δ2,e2',hS2,a4,a5,hδ⟩=>⟨δ2,e2',?_⟩
 ·rintro i v δ S2 hv ⟨rfl,a4,a5,rfl⟩
  obtain⟨x,hx,rfl⟩:=NT.qw hv
  generalize hm:(fun p=>(os.take i).any fun x=>brk safe (pt (Wd c ins gs [] []) x p) (pt (Wd c ins gs turned []) x p))=m
  have hnext:(fun p=>(os.take (i+1)).any fun x=>brk safe (pt (Wd c ins gs [] []) x p) (pt (Wd c ins gs turned []) x p))=fun p=>m p || brk safe (pt (Wd c ins gs [] []) x p) (pt (Wd c ins gs turned []) x p):=by
   funext p
   rw[List.take_add_one,hx,List.any_append,←hm]
   simp
  rw[hnext]
  refine⟨[some (.loc k),some (.d (.tup (turned.map .int))),some (.d (.str (lZ safe))),some (.d (mI (2 ^ c) m)),some (.d (.tup [mI (2 ^ c) (r0 (tell (Wd c ins gs [] []) x)),mI (2 ^ c) (r1 (tell (Wd c ins gs [] []) x))])),some (.d (.tup [mI (2 ^ c) (r0 (tell (Wd c ins gs turned []) x)),mI (2 ^ c) (r1 (tell (Wd c ins gs turned []) x))]))],rfl,?_⟩
  unfold iG
  refine rA <| ve (b:=safe) (fJ (a:= .str (lZ safe)) (b:= .str (Str.ofString "safe")) rfl rfl ?_) ?_
  ·show R.ok (D.bl (lZ safe==Str.ofString "safe"))=_
   congr 2
   cases safe <;> decide+kernel
  cases safe with
  | true=>
    rw[if_pos rfl]
    refine bL (by simp only[List.length_cons,List.length_nil,List.length_set];omega) <| dg (ay (ay (a:=mI (2 ^ c) m) rfl (ay (ay rfl rfl zP) (ay rfl rfl Be) (qL _ _ _)) (wa _ _ _)) (ay (ay rfl rfl Be) (ay rfl rfl zP) (qL _ _ _)) (wa _ _ _)) ⟨_,rfl,rfl,some (.d (.tup [mI (2 ^ c) (r0 (tell (Wd c ins gs [] []) x)),mI (2 ^ c) (r1 (tell (Wd c ins gs [] []) x))])),some (.d (.tup [mI (2 ^ c) (r0 (tell (Wd c ins gs turned []) x)),mI (2 ^ c) (r1 (tell (Wd c ins gs turned []) x))])),?_⟩
    simp only[List.set_cons_succ,List.set_cons_zero]
    congr 6
    refine vh fun p _=>?_
    rw[Bool.or_assoc];rfl
  | false=>
    rw[if_neg (by decide)]
    refine bL (by simp only[List.length_cons,List.length_nil,List.length_set];omega) <| dg (ay (ay (a:=mI (2 ^ c) m) rfl (ay (ay rfl rfl zP) (ay rfl rfl zP) (zt _ _ _)) (wa _ _ _)) (ay (ay rfl rfl Be) (ay rfl rfl Be) (zt _ _ _)) (wa _ _ _)) ⟨_,rfl,rfl,some (.d (.tup [mI (2 ^ c) (r0 (tell (Wd c ins gs [] []) x)),mI (2 ^ c) (r1 (tell (Wd c ins gs [] []) x))])),some (.d (.tup [mI (2 ^ c) (r0 (tell (Wd c ins gs turned []) x)),mI (2 ^ c) (r1 (tell (Wd c ins gs turned []) x))])),?_⟩
    simp only[List.set_cons_succ,List.set_cons_zero]
    congr 6
    refine vh fun p _=>?_
    rw[Bool.or_assoc];rfl
 rw[List.length_map,List.length_map,List.take_length] at hδ
 subst hδ hS2
 exact eW <| dg (d:=mI (2 ^ c) (CI safe c ins gs os turned)) rfl ⟨_,rfl,by unfold eI;rfl,⟨[],by simp⟩,_,by unfold res;rfl,h⟩
end
end K14
end
section
set_option maxRecDepth 100000
set_option maxHeartbeats 4000000
namespace K14
open PySem PySem.Spec PyProof.Rows L2 L3 MT
noncomputable def nZ(ps:List Nat):List Int:=ps.map fun(n:Nat)=>(n:Int)
theorem IA(ps:List Nat):(nZ ps).map D.int=ps.map nI:=by unfold nZ;rw [List.map_map];rfl
theorem Kc(ps:List Nat)(i:Nat):(nZ ps).contains (i:Int)=ps.contains i:=by
 rw[Bool.eq_iff_iff]
 unfold nZ
 simp only[List.contains_iff_mem,List.mem_map]
 exact⟨fun⟨a,ha,e⟩=>(by rw[←Int.ofNat_inj.mp e];exact ha),fun h=>⟨i,h,rfl⟩⟩
section
variable {c:Nat} {ins:List (Str × Nat)} {gs:List Gt} {os:List (Str × List Nat)} {S:aU} {k:Nat} {safe:Bool}
noncomputable def BM(T:List Nat)(p:Nat):D:= .tup [.str (Str.ofString "breaks"),cy T,nI p]
noncomputable def tq:D:= .tup [.str (Str.ofString "bears")]
noncomputable def iJ(safe:Bool)(c:Nat)(ins:List (Str × Nat))(gs:List Gt)(os:List (Str × List Nat))(T:List Nat):Option D:=
 ((List.range (2 ^ c)).filter (CI safe c ins gs os (nZ T))).head?.map (BM T)
noncomputable def bears(safe:Bool)(c:Nat)(ins:List (Str × Nat))(gs:List Gt)(os:List (Str × List Nat))(m:Nat):D:=
 ((List.range (m+1)).findSome? fun s=>(iq (me gs) s).findSome? (iJ safe c ins gs os)).getD tq
theorem yz:(me gs).length≤gs.length:=by
 unfold me
 exact Nat.le_trans (List.length_filter_le _ _) (by rw[List.length_range];exact Nat.le_refl _)
theorem tF{f:M}{N:Nat}:i4 N f=0↔((List.range N).filter f).head? =none:=by
 rw[wm,List.head?_eq_none_iff,List.filter_eq_nil_iff]
 exact⟨fun h i hi=>by rw[h i (List.mem_range.mp hi)];decide,fun h i hi=>by have:=h i (List.mem_range.mpr hi);cases hf:f i with | false=>rfl | true=>exact absurd hf this⟩
theorem C2{net sz a6:Option V3}{m:V3}{T:List Nat}(NO:i9 ins gs os)(hc:ins.length=c)(hc1:c≤10)(ho:∀x∈os,1≤x.2.length∧x.2.length≤3)(hS:Flat S) :
 W3 (o9 [net,some m,some (.d (.str (lZ safe))),some (.loc S.length),sz,some (.d (cy T)),a6] (TS S c ins gs os)) fun o S1=>S1=TS S c ins gs os∧(match (iJ safe c ins gs os T).map V3.d with | some v=>o= .rt v | none=>∃δ2,o= .nx δ2∧∃b6,δ2=[net,some m,some (.d (.str (lZ safe))),some (.loc S.length),sz,some (.d (cy T)),b6]):=by
 have hz:sizeLine=16777216:=sizeLine_eq
 have hk:(TS S c ins gs os)[S.length]? =some (.ins 1 (iu c ins gs os (S.length+1))):=by unfold TS;rw [List.getElem?_append_right (Nat.le_refl _),Nat.sub_self];rfl
 have hb:(TS S c ins gs os)[S.length+1]? =some (.ins 0 (eL c (bK ins gs os))):=by unfold TS;rw [List.getElem?_append_right (by omega),show S.length+1 - S.length=1 by omega];rfl
 have hcl:yn (TS S c ins gs os):=Ha hS (by
  show(decide (S.length+1 < S.length+2) && true)=true
  rw[decide_eq_true (by omega)];rfl) rfl
 unfold o9
 refine bc <| bL (by simp only[List.length_cons,List.length_nil,List.length_set];omega) <| rf (k:=S.length) <| w_var (v:= .loc S.length) rfl ⟨_,rfl,hk,Jh _ (by decide+kernel) (by decide+kernel) (by decide+kernel),?_⟩
 refine aJ <| dg (d:= .tup ((nZ T).map .int)) (by rw[IA];rfl) <| aJ <| dg (d:= .str (lZ safe)) rfl <| cX <| As NO hc ho hcl hk hb ⟨_,rfl,?_⟩
 simp only[List.set_cons_succ,List.set_cons_zero]
 generalize hf:CI safe c ins gs os (nZ T)=f
 have htry:iJ safe c ins gs os T=((List.range (2 ^ c)).filter f).head?.map (BM T):=by unfold iJ;rw [hf]
 refine rA <| ve (b:=!(decide (i4 (2 ^ c) f=0))) (fJ (a:=mI (2 ^ c) f) (b:= .int 0) rfl rfl ?_) ?_
 ·show R.ok (D.bl (!((i4 (2 ^ c) f:Int)==0)))=_
  congr 3
  by_cases q:i4 (2 ^ c) f=0
  ·rw[q];rfl
  ·rw[decide_eq_false q];exact beq_eq_false_iff_ne.mpr (by omega)
 cases hh:((List.range (2 ^ c)).filter f).head? with
 | none=>
   rw[htry,hh,decide_eq_true (tF.mpr hh),if_neg (by decide)]
   exact nc ⟨rfl,_,rfl,_,rfl⟩
 | some p=>
   have hne:¬i4 (2 ^ c) f=0:=fun q=>by rw[tF.mp q] at hh;cases hh
   rw[htry,hh,decide_eq_false hne,if_pos (by decide)]
   refine eW <| yI <| aJ <| dg (d:= .str (Str.ofString "breaks")) rfl <| aJ <| dg (d:=cy T) rfl <| aJ <| xi <| rf (k:=S.length+1) <| w_fld (k:=S.length) <| w_var (v:= .loc S.length) rfl ⟨_,_,rfl,hk,wk,_,rfl,hb,Fb _ _ (by decide+kernel) (by decide+kernel) (by decide+kernel) (by decide+kernel),?_⟩
   refine aJ <| dg (d:=mI (2 ^ c) f) rfl <| cX <| uD hc1 hcl hb <| dg (d:= .int 0) rfl ⟨_,_,nI p,rfl,rfl,?_,cX ⟨by simp;omega,rfl,rfl⟩⟩
   refine jg ?_
   obtain⟨r,hr⟩:∃r,(List.range (2 ^ c)).filter f=p ::r:=by
    cases q:(List.range (2 ^ c)).filter f with
    | nil=>rw [q] at hh;cases hh
    | cons a r=>rw [q] at hh;cases hh;exact⟨r,rfl⟩
   rw[hr,jc (by omega) (by simp)]
   rfl
theorem Dk{m:Nat}(NO:i9 ins gs os)(hc:ins.length=c)(hc1:c≤10)(ho:∀x∈os,1≤x.2.length∧x.2.length≤3)(hg:gs.length≤100)(hm:m≤3)(hS:Flat S){Q:V3→aU→Prop}(h:Q (.d (bears safe c ins gs os m)) S) :
 W3 (oz [.d (bK ins gs os), .d (nI m), .d (.str (lZ safe))] S) Q:=by
 have hz:sizeLine=16777216:=sizeLine_eq
 have hk:(TS S c ins gs os)[S.length]? =some (.ins 1 (iu c ins gs os (S.length+1))):=by unfold TS;rw [List.getElem?_append_right (Nat.le_refl _),Nat.sub_self];rfl
 unfold oz
 refine mw hS.Lf (uB rfl ?_)
 simp only[bS,qt,List.map_cons,List.map_nil,List.length_cons,List.length_nil,List.replicate,List.cons_append,List.nil_append,Nat.reduceAdd,Nat.reduceSub]
 unfold t9
 refine bc <| bL (by simp only[List.length_cons,List.length_nil,List.length_set];omega) <| C5 <| aJ <| dg (d:=bK ins gs os) rfl <| cX <| Dn NO hc hc1 ho hS ⟨rfl,_,rfl,?_⟩
 simp only[List.set_cons_succ,List.set_cons_zero]
 refine uk <| fR <| k3 (ds:=(List.range (m+1)).map nI) ?_ ?_
 ·rw[←CH]
  exact eF (n:=m+1) (ay (a:=nI m) (b:= .int 1) rfl rfl rfl) (by omega)
 rw[List.map_map]
 refine(fj (S:=TS S c ins gs os) (V3.d ∘ nI) (fun s=>((iq (me gs) s).findSome? (iJ safe c ins gs os)).map V3.d) (fun δ=>∃a4 a5 a6,δ=[some (.d (bK ins gs os)),some (.d (nI m)),some (.d (.str (lZ safe))),some (.loc S.length),a4,a5,a6])
  ⟨_,_,_,rfl⟩ ?_).mono fun o S1 ⟨e1,h1⟩=>?_
 ·rintro s hs δ ⟨a4,a5,a6,rfl⟩
  rw[List.mem_range] at hs
  have hul:(me gs).length≤100:=Nat.le_trans yz hg
  have hcs:d3 4 [.lst ((me gs).map nI), .int s]= .ok (.lst ((iq (me gs) s).map cy)):=qE 3 s (me gs) (by omega) (by omega) hul
  refine⟨[some (.d (bK ins gs os)),some (.d (nI m)),some (.d (.str (lZ safe))),some (.loc S.length),some (.d (nI s)),a5,a6],rfl,?_⟩
  unfold s_
  refine fR <| yQ <| uj <| aJ <| w_fld (k:=S.length) <| w_var (v:= .loc S.length) rfl ⟨_,_,rfl,hk,F5,aJ <| dg (d:= .int s) rfl <| cX ⟨[.lst ((me gs).map nI), .int s],_,rfl,hcs,_,rfl,?_⟩⟩
  rw[List.map_map]
  refine(fj (S:=TS S c ins gs os) (V3.d ∘ cy) (fun T=>(iJ safe c ins gs os T).map V3.d) (fun δ=>∃a5 a6,δ=[some (.d (bK ins gs os)),some (.d (nI m)),some (.d (.str (lZ safe))),some (.loc S.length),some (.d (nI s)),a5,a6])
   ⟨_,_,rfl⟩ ?_).mono fun o S1 ⟨e1,h1⟩=>⟨e1,?_⟩
  ·rintro T hT δ ⟨a5,a6,rfl⟩
   refine⟨[some (.d (bK ins gs os)),some (.d (nI m)),some (.d (.str (lZ safe))),some (.loc S.length),some (.d (nI s)),some (.d (cy T)),a6],rfl,?_⟩
   refine(C2 NO hc hc1 ho hS).mono fun o S1 ⟨e1,h1⟩=>⟨e1,?_⟩
   cases htt:iJ safe c ins gs os T with
   | none=>rw [htt] at h1;obtain⟨δ2,e2',b6,e3⟩:=h1;exact⟨δ2,e2',_,b6,e3⟩
   | some d=>rw [htt] at h1;exact h1
  ·have hfs:(iq (me gs) s).findSome? (fun T=>(iJ safe c ins gs os T).map V3.d)=((iq (me gs) s).findSome? (iJ safe c ins gs os)).map V3.d:=by
    rw[List.map_findSome?];rfl
   rw[hfs] at h1
   cases htt:(iq (me gs) s).findSome? (iJ safe c ins gs os) with
   | none=>rw [htt] at h1;obtain⟨δ2,e2',b5,b6,e3⟩:=h1;exact⟨δ2,e2',_,b5,b6,e3⟩
   | some d=>rw [htt] at h1;exact h1
 ·subst e1
  have hfs:(List.range (m+1)).findSome? (fun s=>((iq (me gs) s).findSome? (iJ safe c ins gs os)).map V3.d)=((List.range (m+1)).findSome? fun s=>(iq (me gs) s).findSome? (iJ safe c ins gs os)).map V3.d:=by
   rw[List.map_findSome?];rfl
  rw[hfs] at h1
  unfold bears at h
  cases htt:(List.range (m+1)).findSome? fun s=>(iq (me gs) s).findSome? (iJ safe c ins gs os) with
  | none=>
    rw[htt] at h1 h
    obtain⟨δ2,rfl,b4,b5,b6,rfl⟩:=h1
    exact eW <| dg (d:=tq) rfl ⟨_,rfl,by unfold eI;rfl,⟨_,rfl⟩,_,by unfold res;rfl,h⟩
  | some d=>
    rw[htt] at h1 h
    subst h1
    exact⟨_,rfl,by unfold eI;rfl,⟨_,rfl⟩,_,by unfold res;rfl,h⟩
end
end K14
end
section
set_option maxRecDepth 100000
set_option maxHeartbeats 4000000
namespace K14
open PySem PySem.Spec PyProof.Rows L2 L3 MT
noncomputable abbrev Dv:Str:=Str.ofString "abcdefghijklmnopqrstuvwxyz"
noncomputable abbrev mO:List Str:=[Str.ofString "in",Str.ofString "gate",Str.ofString "sure",Str.ofString "out",Str.ofString "not",Str.ofString "and",Str.ofString "or",Str.ofString "xor",Str.ofString "vote"]
noncomputable def cN(i:Nat):Str:=⟨#[97+i]⟩
theorem Af:Dv.cps.toList=(List.range 26).map (97+·):=by decide+kernel
theorem DO:Dv.length=26:=by decide+kernel
theorem AZ{i:Int}(h0:0≤i)(h:i < 26):cg (.str Dv) (.int i)= .ok (.str (cN i.toNat)):=by
 have hz:sizeLine=16777216:=sizeLine_eq
 refine Bv (by rw[DO];omega) ?_
 rw[Af]
 rw[jc h0 (by simp;omega)]
 simp
theorem BK:∀i:Nat,i < 26→Txt.find Dv (cN i)=(i:Int):=by decide+kernel
theorem gh(i:Nat):(cN i).length=1:=rfl
theorem lT(a b:Str):(a++b).length=a.length+b.length:=Str.length_append a b
theorem E9(p:Str)(i:Nat)(hp:p.length < 1000):cg (.str (p++cN i)) (.int (-1))= .ok (.str (cN i)):=by
 have hz:sizeLine=16777216:=sizeLine_eq
 refine Bv (by rw[lT,gh];omega) ?_
 rw[qk]
 unfold o_ qp
 have hl:(p.cps.toList++(cN i).cps.toList).length=p.cps.toList.length+1:=by rw[List.length_append];rfl
 rw[if_neg (by omega),hl,if_pos (by omega)]
 show(p.cps.toList++(cN i).cps.toList)[((-1:Int)+((p.cps.toList.length+1:Nat):Int)).toNat]? =_
 rw[show((-1:Int)+((p.cps.toList.length+1:Nat):Int)).toNat=p.cps.toList.length by omega,List.getElem?_append_right (Nat.le_refl _),Nat.sub_self]
 rfl
theorem CU(p:Str)(i:Nat):Txt.slice (p++cN i) none (some (-1))=p:=by
 have h:=slice_closes_to_neg (x:=p++cN i) (j:= -1) (k:=p.length) (by omega) (by rw[lT,gh];omega) (by rw[lT,gh];omega)
 have e:=beq_iff_eq.mp h
 rw[e]
 refine Ek ?_
 show((p++cN i).cps.toList.drop 0).take ((p.length:Int) - 0).toNat=_
 rw[qk,List.drop_zero,show((p.length:Int) - 0).toNat=p.cps.toList.length by simp [Str.length],List.take_left]
theorem D2{p:Str}{i j:Nat}(h:p++cN i=p++cN j):i=j:=by
 have h1:(p++cN i).cps.toList=(p++cN j).cps.toList:=by rw[h]
 rw[qk,qk] at h1
 have h2:[97+i]=[97+j]:=List.append_cancel_left h1
 have h3:97+i=97+j:=by simpa using h2
 omega
theorem z8(ss:List Str)(hs:ss.length≤16)(p:Str)(c:Nat):∃t,t < 26∧¬(p++cN ((c+t) % 26))∈ss++mO:=by
 refine Classical.byContradiction fun hn=>?_
 have all:∀x∈(List.range 26).map (fun t=>p++cN ((c+t) % 26)),x∈ss++mO:=fun x hx=>by
  obtain⟨t,ht,rfl⟩:=List.mem_map.mp hx
  rw[List.mem_range] at ht
  refine Classical.byContradiction fun h=>hn ⟨t,ht,h⟩
 have nd:((List.range 26).map (fun t=>p++cN ((c+t) % 26))).Nodup:=by
  refine List.pairwise_map.mpr (List.Pairwise.imp_of_mem ?_ List.nodup_range)
  intro a b ha hb hab h
  rw[List.mem_range] at ha hb
  have:=D2 h
  exact hab (by omega)
 have:=L2.BY _ _ nd all
 rw[List.length_map,List.length_range,List.length_append] at this
 have hb:mO.length=9:=rfl
 omega
noncomputable def jD(k n:Nat)(many:V3)(kk nm j:Option V3):DE:=[some (.loc k),some many,some (.d (.str Dv)),some (.d (.lst (mO.map .str))),some (.loc n),kk,nm,j]
theorem y7(x:Str)(ss:List Str):pZ (.str x) (.lst (ss.map .str))= .ok (.bl (ss.contains x)):=by
 show((match strs? (ss.map D.str) with | some tt=>R.ok (tt.contains x) | none=> .no)).bind (fun b=>R.ok (D.bl b))=_
 rw[L2.strs_map];rfl
theorem Fd{k n:Nat}{many:V3}{kk j:Option V3}{S:aU}{ss:List Str}{x:Str}(e:S[n]? =some (.lst (ss.map .str))) :
 bT (sL (b2 pZ (ae 6) (ae 4)) (b2 pZ (ae 6) (ae 3))) (jD k n many kk (some (.d (.str x))) j) S= .ok (decide (x∈ss++mO)) S:=by
 have h4:(b3 S (jD k n many kk (some (.d (.str x))) j))[4]? =some (.val (.lst (ss.map .str))):=by
  unfold b3 jD
  show some (match res S (.loc n) with | some d=>Sl.val d | none=> .un)=_
  unfold res
  simp only[e]
 have h3:(b3 S (jD k n many kk (some (.d (.str x))) j))[3]? =some (.val (.lst (mO.map .str))):=rfl
 have h6:(b3 S (jD k n many kk (some (.d (.str x))) j))[6]? =some (.val (.str x)):=rfl
 unfold bT
 generalize b3 S (jD k n many kk (some (.d (.str x))) j)=δ at h3 h4 h6
 have e1:b2 pZ (ae 6) (ae 4) δ= .ok (ss.contains x):=fJ (a:= .str x) (b:= .lst (ss.map .str)) (by unfold ae;rw [h6]) (by unfold ae;rw [h4]) (y7 _ _)
 have e3:b2 pZ (ae 6) (ae 3) δ= .ok (mO.contains x):=fJ (a:= .str x) (b:= .lst (mO.map .str)) (by unfold ae;rw [h6]) (by unfold ae;rw [h3]) (y7 _ _)
 have:sL (b2 pZ (ae 6) (ae 4)) (b2 pZ (ae 6) (ae 3)) δ= .ok (decide (x∈ss++mO)):=by
  unfold sL
  rw[e1,R.aH,e3]
  by_cases h:x∈ss
  ·rw[if_pos (by simpa using h),decide_eq_true (List.mem_append_left _ h)]
  ·rw[if_neg (by simpa using h)]
   congr 1
   by_cases h2:x∈mO
   ·rw[decide_eq_true (List.mem_append_right _ h2)];simpa using h2
   ·rw[decide_eq_false (fun z=>(List.mem_append.mp z).elim h h2)];simpa using h2
 rw[this]
 rfl
theorem EW{k n:Nat}{many:V3}{kk j:Option V3}{S:aU}{p:Str}{c:Nat}(hp:p.length < 500)(hc:c < 26) :
 W3 (h_ (jD k n many kk (some (.d (.str (p++cN c)))) j) S) fun o S1=>o= .nx (jD k n many kk (some (.d (.str (p++cN ((c+1) % 26))))) j)∧S1=S:=by
 have hz:sizeLine=16777216:=sizeLine_eq
 unfold h_
 refine bL (by unfold jD;simp only[List.length_cons,List.length_nil];omega) (dg (d:= .str (p++cN ((c+1) % 26))) ?_ ⟨rfl,rfl⟩)
 refine ay (a:= .str p) (b:= .str (cN ((c+1) % 26))) ?_ ?_ (yx (by rw[gh];omega))
 ·refine xN (d:= .str (p++cN c)) (lo:=none) (hi:=some (-1)) rfl rfl rfl ?_
  rw[G5 (by rw[lT,gh];omega),CU]
 ·refine ay (a:= .str Dv) (b:= .int (((c:Int)+1) % 26)) rfl ?_ ?_
  ·refine ay (a:= .int ((c:Int)+1)) (b:= .int 26) (ay (a:= .int c) (b:= .int 1) ?_ rfl rfl) rfl (xv (by omega))
   refine Ej (x:=Dv) (ds:=[.str (cN c)]) rfl (aW (ay (a:= .str (p++cN c)) (b:= .int (-1)) rfl rfl (E9 p c (by omega))) rfl) ?_
   show R.ok (D.int (Txt.find Dv (cN c)))=_
   rw[BK c hc]
  ·rw[AZ (by omega) (by omega)]
   congr 3
theorem vx{k n:Nat}{many:V3}{kk j:Option V3}{S:aU}{ss:List Str}{p:Str}(hp:p.length < 500)(e:S[n]? =some (.lst (ss.map .str))) :
 ∀(m ex c:Nat),c < 26→(∃t,t < m∧¬(p++cN ((c+t) % 26))∈ss++mO)→
 W3 (lV (bT (sL (b2 pZ (ae 6) (ae 4)) (b2 pZ (ae 6) (ae 3)))) h_ (m+ex) (jD k n many kk (some (.d (.str (p++cN c)))) j) S) fun o S1=>∃c',c' < 26∧o= .nx (jD k n many kk (some (.d (.str (p++cN c')))) j)∧S1=S
 | 0,_,_,_,⟨t,ht,_⟩=>by omega
 | m+1,ex,c,hc,⟨t,ht,hf⟩=>by
   rw[show m+1+ex=(m+ex)+1 by omega]
   unfold lV
   refine W3.bind (W3.eq (Fd e) ?_)
   by_cases hx:(p++cN c)∈ss++mO
   ·rw[decide_eq_true hx,if_pos rfl]
    refine W3.bind ((EW hp hc).mono fun o S1 ⟨e1,e2'⟩=>?_)
    subst e1 e2'
    have ht0:t≠0:=fun z=>by subst z;rw [Nat.add_zero,Nat.mod_eq_of_lt hc] at hf;exact hf hx
    refine vx hp e m ex ((c+1) % 26) (by omega) ⟨t - 1,by omega,?_⟩
    rw[show((c+1) % 26+(t - 1)) % 26=(c+t) % 26 by omega]
    exact hf
   ·rw[decide_eq_false hx,if_neg (by decide)]
    exact W3.ok ⟨c,hc,rfl,rfl⟩
end K14
end
section
set_option maxRecDepth 100000
set_option maxHeartbeats 4000000
namespace K14
open PySem PySem.Spec PyProof.Rows L2 L3 MT
structure uX (k g:Nat) (L:List D) (S S1:aU):Prop where
 p:ph k S1
 len:S1.length=S.length
 oth:∀j,j≠k→j≠g→S1[j]? =S[j]?
 gl:S1[g]? =some (.lst L)
theorem uX.then{k g:Nat}{L:List D}{S S1 S2:aU}(a:uX k g L S S1)(h:g≠k)(b:Ev k S1 S2):uX k g L S S2:=⟨b.p,b.len.trans a.len,fun j h1 h2=>(b.oth j h1).trans (a.oth j h1 h2),(b.oth g h).trans a.gl⟩
theorem uX.put{k g:Nat}{L L':List D}{S S1:aU}(a:uX k g L S S1)(h:g≠k):uX k g L' S (S1.set g (.lst L')):=by
 obtain⟨hL,x,c,e⟩:=a.p
 exact⟨⟨hL.set _ (mr _),x,c,by rw[List.getElem?_set_ne h];exact e⟩,by rw[List.length_set];exact a.len,fun j h1 h2=>by rw[List.getElem?_set_ne (Ne.symm h2)];exact a.oth j h1 h2,jB a.gl⟩
theorem ph.push{k:Nat}{S:aU}(p:ph k S)(L:List D):ph k (S++[.lst L]):=by
 have h:=p.lt
 obtain⟨hL,a,c,e⟩:=p
 exact⟨hL.push (mr _),a,c,by rw[List.getElem?_append_left h];exact e⟩
theorem uX.uo{k:Nat}{S:aU}(p:ph k S)(L:List D):uX k S.length L (S++[.lst L]) (S++[.lst L]):=⟨p.push L,rfl,fun _ _ _=>rfl,bM _ _⟩
noncomputable def q_:List Str:=[Str.ofString "",Str.ofString "",Str.ofString "zz",Str.ofString "qrst"]++mO
theorem A4(r:Int)(h0:0≤r)(h:r < 13):∃s:Str,s.length≤4∧cg (.lst (q_.map .str)) (.int r)= .ok (.str s):=by
 have hl:q_.length=13:=rfl
 have hlen:∀s∈q_,s.length≤4:=by decide+kernel
 refine⟨q_[r.toNat]'(by omega),hlen _ (List.getElem_mem _),jg ?_⟩
 rw[jc h0 (by rw[List.length_map];omega)]
 simp
theorem Ad{k n:Nat}{many:V3}{kk nm j:Option V3}{S S1:aU}{ss:List Str}(hn:n≠k)(hl:ss.length≤15)(E:uX k n (ss.map .str) S S1) :
 W3 (jM (jD k n many kk nm j) S1) fun o S2=>∃δ2,o= .nx δ2∧(∃a b,δ2=jD k n many kk a b)∧∃x:Str,uX k n ((ss++[x]).map .str) S S2:=by
 have hz:sizeLine=16777216:=sizeLine_eq
 unfold jM
 refine bc (bL (by unfold jD;simp only[List.length_cons,List.length_nil];omega) (xi (dg (d:= .lst (q_.map .str)) ?_ (draw (k:=k) rfl E.p rfl (by omega) (by omega) fun r S2 h1 h2 v2=>?_))))
 ·exact ay (a:= .lst ([Str.ofString "",Str.ofString "",Str.ofString "zz",Str.ofString "qrst"].map .str)) (b:= .lst (mO.map .str)) (eO (qf rfl (by simp;omega))) rfl (uq (by simp;omega))
 obtain⟨s,hs,es⟩:=A4 r h1 h2
 refine⟨_,_,_,rfl,rfl,es,_,rfl,?_⟩
 have E2:=E.then hn v2
 show W3 (bG _ _ (jD k n many kk (some (.d (.str s))) j) S2) _
 refine bc (fR (oH (FF (k:=k) rfl E2.p (by omega) (by omega) fun r2 S3 h3 h4 v3=>⟨r2,rfl,by omega,?_⟩)))
 have E3:=E2.then hn v3
 refine(cT (fun i δ S4=>∃(x:Str) (a:Option V3),δ=jD k n many kk (some (.d (.str x))) a∧x.length≤4+i∧(i=0∨∃p c,c < 26∧x=p++cN c)∧uX k n (ss.map .str) S S4)
  ⟨s,j,rfl,by omega, .inl rfl,E3⟩ ?_).mono fun o S4 ⟨δ4,e4,x,a,hδ,hx,hx2,E4⟩=>⟨δ4,e4,?_⟩
 ·rintro i v δ S4 hv ⟨x,a,rfl,hx,hx2,E4⟩
  refine⟨jD k n many kk (some (.d (.str x))) (some v),rfl,?_⟩
  have hi:i < 10:=by
   have:=(List.getElem?_eq_some_iff.mp hv).1
   rw[List.length_map,bQ,List.length_map,List.length_range] at this
   omega
  unfold mq
  refine bL (by unfold jD;simp only[List.length_cons,List.length_nil];omega) (EM (dg (d:= .str x) rfl (xi (dg (d:= .str Dv) rfl (draw (k:=k) rfl E4.p rfl (by omega) (by omega) fun r5 S5 h5 h6 v5=>?_)))))
  refine⟨_,_,_,rfl,rfl,AZ h5 h6,_,_, .str (x++cN r5.toNat),rfl,rfl,yx (by rw[gh];omega),_,rfl,x++cN r5.toNat,some v,rfl,by rw[lT,gh];omega, .inr ⟨x,r5.toNat,by omega,rfl⟩,E4.then hn v5⟩
 rw[List.length_map,bQ,List.length_map,List.length_range] at hx hx2
 subst hδ
 obtain⟨p,c,hc,rfl⟩:∃p c,c < 26∧x=p++cN c:=hx2.resolve_left (by omega)
 have hp:p.length < 500:=by rw[lT,gh] at hx;omega
 refine bc ?_
 unfold xy
 refine(vx (n:=n) (ss:=ss) hp E4.gl 26 974 c hc (z8 ss (by omega) p c)).mono fun o S5 ⟨c',hc',e5,e6⟩=>⟨_,e5,?_⟩
 subst e6
 refine j2 (k:=n) rfl ⟨_,E4.gl⟩ (dg (d:= .str (p++cN c')) rfl ⟨_,_,rfl,E4.gl,by rw[List.length_map];omega,_,rfl,⟨_,_,rfl⟩,p++cN c',?_⟩)
 rw[List.map_append]
 exact E4.put hn
theorem Bx{S:aU}{k:Nat}{m:Nat}(p:ph k S)(hm:m≤15){Q:V3→aU→Prop}(h:∀(ss:List Str) S1,ss.length=m→Ev k S S1→Q (.d (.lst (ss.map .str))) S1):W3 (gC [.loc k, .d (.int m)] S) Q:=by
 have hz:sizeLine=16777216:=sizeLine_eq
 have hk:=p.lt
 unfold gC
 refine qY (uB rfl ?_)
 simp only[bS,jn,List.map_cons,List.map_nil,List.length_cons,List.length_nil,List.replicate,List.cons_append,List.nil_append,Nat.reduceAdd,Nat.reduceSub]
 unfold lh
 refine bc (bL (by simp only[List.length_cons,List.length_nil,List.length_set];omega) (dg (d:= .str Dv) rfl ⟨_,rfl,?_⟩))
 simp only[List.set_cons_succ,List.set_cons_zero]
 refine bc (bL (by simp only[List.length_cons,List.length_nil,List.length_set];omega) (dg (d:= .lst (mO.map .str)) (eO (qf rfl (by simp;omega))) ⟨_,rfl,?_⟩))
 simp only[List.set_cons_succ,List.set_cons_zero]
 refine bc (bL (by simp only[List.length_cons,List.length_nil,List.length_set];omega) (kO (ds:=[]) rfl ⟨_,rfl,?_⟩))
 simp only[List.set_cons_succ,List.set_cons_zero]
 have g0:=uX.uo p []
 have hgk:S.length≠k:=by omega
 refine bc (fR (k3 (eF (n:=m) rfl (by omega)) ?_))
 refine(cT (fun i δ S4=>(∃a b c,δ=jD k S.length (.d (.int m)) a b c)∧∃ss:List Str,ss.length=i∧uX k S.length (ss.map .str) (S++[SO.lst []]) S4) ⟨⟨_,_,_,rfl⟩,[],rfl,g0⟩ ?_).mono fun o S4 ⟨δ4,e4,⟨a,b,c,hδ⟩,ss,hl,g4⟩=>⟨δ4,e4,?_⟩
 ·rintro i v δ S4 hv ⟨⟨a,b,c,rfl⟩,ss,hl,g4⟩
  have hi:i < 15:=by
   have:=(List.getElem?_eq_some_iff.mp hv).1
   rw[List.length_map,bQ,List.length_map,List.length_range] at this
   omega
  refine⟨jD k S.length (.d (.int m)) (some v) b c,rfl,?_⟩
  exact(Ad hgk (by omega) g4).mono fun o S5 ⟨δ5,e5,⟨a5,b5,h5⟩,x,g5⟩=>⟨δ5,e5,⟨some v,a5,b5,h5⟩,ss++[x],by simp [hl],g5⟩
 rw[List.length_map,bQ,List.length_map,List.length_range] at hl
 subst hδ
 unfold jD
 refine eW (w_var rfl ⟨_,rfl,g4.p.1,?_, .lst (ss.map .str),?_,?_⟩)
 ·unfold eI;exact decide_eq_true (Nat.le_refl _)
 ·unfold res;simp only[g4.gl]
 ·refine h ss _ hl ⟨⟨g4.p.1.take _,?_⟩,?_,?_⟩
  ·obtain⟨_,a,c,e⟩:=g4.p
   exact⟨a,c,by rw[List.getElem?_take_of_lt hk];exact e⟩
  ·have:=g4.len
   rw[List.length_append,List.length_singleton] at this
   rw[List.length_take];omega
  ·intro j hj
   by_cases hjl:j < S.length
   ·rw[List.getElem?_take_of_lt hjl,g4.oth _ hj (by omega),List.getElem?_append_left hjl]
   ·have:=g4.len
    rw[List.length_append,List.length_singleton] at this
    rw[List.getElem?_eq_none (by rw[List.length_take];omega),List.getElem?_eq_none (by omega)]
end K14
end
section
set_option maxRecDepth 100000
set_option maxHeartbeats 4000000
namespace K14
open PySem PySem.Spec PyProof.Rows L2 L3 MT
theorem jF{n i:Nat}{d:D}(h:(bQ 0 n)[i]? =some d):i < n∧d= .int i:=by
 rw[bQ,List.getElem?_map] at h
 cases q:(List.range n)[i]? with
 | none=>rw [q] at h;cases h
 | some j=>
   rw[q] at h;cases h
   obtain⟨q1,q2⟩:=List.getElem?_eq_some_iff.mp q
   rw[List.getElem_range] at q2
   rw[List.length_range] at q1
   subst q2
   exact⟨q1,by simp⟩
theorem ne_int(n:Int):sV (.int n) (.int n)= .ok (.bl false):=by
 have:sV (.int n) (.int n)= .ok (.bl (!decide (n=n))):=rfl
 rw[this,decide_eq_true rfl];rfl
theorem oV{ds:List D}{i:Nat}{x:D}(h:ds[i]? =some x):o_ ds (i:Int)=some x:=by
 obtain⟨h1,h2⟩:=List.getElem?_eq_some_iff.mp h
 rw[jc (by omega) (by rw[Int.toNat_natCast];exact h1)]
 simp [h2]
section
variable {gs:List Gt}
theorem JE{i:Nat}{g:Gt}(h:gs[i]? =some g):cg (.lst (gs.map gR)) (.int i)= .ok (gR g):=by
 obtain⟨h1,h2⟩:=List.getElem?_eq_some_iff.mp h
 refine jg ?_
 rw[jc (by omega) (by rw[List.length_map,Int.toNat_natCast];exact h1)]
 simp [h2]
end
section
variable {S:aU} {δ:DE} {k q i:Nat} {ks:List Int}
theorem zA{Q:V3→aU→Prop}{f:FD}{m:Int}(hv:δ[i]? =some (some (.loc k)))(p:ph k S)(hf:f (b3 S δ)= .ok (.int m))(hm:0 < m)(hm2:m < 1000000)
 (h:∀(r:Int) S1,0≤r→r < m→Ev k S S1→Q (.d (.int r)) S1):W3 (b_ aA (ax (bO i) (ax (xT f) cw)) δ S) Q:=
 eK (aJ (w_var hv (aJ (uY hf rfl (cX (uv p hm (tH hm hm2) h))))))
theorem jo{ds:List D}(e:S[q]? =some (.lst ds)):res S (.loc q)=some (.lst ds):=by unfold res;rw [e]
theorem jE(e:S[q]? =some (.lst (ks.map .int)))(hi:δ[i]? =some (some (.loc q))):aG cP (aq (ae i) aD) (b3 S δ)= .ok (.int ks.length):=by
 refine aR (ds:=[.lst (ks.map .int)]) (aW ?_ rfl) (by rw[ma,List.length_map])
 unfold ae b3
 rw[List.getElem?_map,hi]
 show(match some (match res S (.loc q) with | some d=>Sl.val d | none=> .un) with | some (.val d)=>R.ok d | _=> .no)=_
 rw[jo e]
theorem B8{w:Nat}(h:w < ks.length):cg (.lst (ks.map .int)) (nI w)= .ok (.int ks[w]):=jg (oV (by rw[List.getElem?_map,List.getElem?_eq_getElem h];rfl))
theorem yw{own:List Str}{kp:List Nat}{it:FA}{w:Nat}{Q:V3→aU→Prop}(e:S[q]? =some (.lst (ks.map .int)))(hw:w < ks.length)(hn:ks.length < 10000)(hkp:gP own kp δ=[none,some (.loc q),some (.d (nI w))])
 (hit:W3 (it δ S) fun vs S1=>vs=(bQ 0 ks.length).map .d∧S1=S) (h:∀l:List Nat,0 < l.length→l.length < 10000→(∀x∈l,x < ks.length∧ks.getD x 0=ks.getD w 0)→Q (.d (.lst (l.map nI))) S) :
 W3 (kR it (ju 0) (bT (b2 iV (e2 cg (ae 1) (ae 0)) (e2 cg (ae 1) (ae 2)))) (xP (ae 0)) own kp δ S) Q:=by
 have hz:sizeLine=16777216:=sizeLine_eq
 refine nD (fun i ds S2=>S2=S∧∃l:List Nat,ds=l.map nI∧(∀x∈l,x < ks.length∧ks.getD x 0=ks.getD w 0)∧l.length≤i∧(w < i→0 < l.length)) (hit.mono fun vs S1 ⟨e1,e2'⟩=>?_)
 subst e1 e2'
 have hlen:((bQ 0 ks.length).map V3.d).length=ks.length:=by simp [bQ]
 rw[hlen]
 refine⟨by omega,⟨rfl,[],rfl,by simp,by simp,by omega⟩,?_,?_⟩
 ·rintro i v ds S2 hv ⟨rfl,l,rfl,hl,hli,hw'⟩
  rw[hkp]
  rw[List.getElem?_map] at hv
  cases qq:(bQ 0 ks.length)[i]? with
  | none=>rw [qq] at hv;cases hv
  | some d0=>
    rw[qq] at hv
    obtain⟨hi,rfl⟩:=jF qq
    cases hv
    refine⟨[some (.d (.int i)),some (.loc q),some (.d (nI w))],rfl,HS (b:=decide (ks[i]=ks[w])) ?_ ?_⟩
    ·have hT:b3 S2 [some (.d (.int i)),some (.loc q),some (.d (nI w))]=[.val (nI i), .val (.lst (ks.map .int)), .val (nI w)]:=by
      simp only[b3,List.map_cons,List.map_nil,jo e]
      rfl
     rw[hT]
     exact fJ (a:= .int ks[i]) (b:= .int ks[w]) (ay (a:= .lst (ks.map .int)) (b:=nI i) rfl rfl (B8 hi)) (ay (a:= .lst (ks.map .int)) (b:=nI w) rfl rfl (B8 hw)) rfl
    ·by_cases hc:ks[i]=ks[w]
     ·rw[decide_eq_true hc,if_pos rfl]
      refine dg rfl ⟨nI i,rfl,rfl,l++[i],by simp,?_,by simp;omega,by simp⟩
      intro x hx
      rcases List.mem_append.mp hx with z | z
      ·exact hl x z
      ·rw[List.mem_singleton] at z;subst z;exact⟨hi,by rw[List.getD_eq_getElem?_getD,List.getD_eq_getElem?_getD,List.getElem?_eq_getElem hi,List.getElem?_eq_getElem hw,hc]⟩
     ·rw[decide_eq_false hc,if_neg (by decide)]
      refine⟨rfl,l,rfl,hl,by omega,fun hwi=>hw' ?_⟩
      have:w≠i:=fun z=>hc (by subst z;rfl)
      omega
 ·rintro ds S2 ⟨rfl,l,rfl,hl,hli,hw'⟩
  exact h l (hw' hw) (by omega) hl
theorem yF{f:FX}{fm:FD}{l:List Nat}{Q:V3→aU→Prop}(hf:W3 (f δ S) fun v S1=>v= .d (.lst (l.map nI))∧S1=S)(hv:δ[i]? =some (some (.loc k)))(p:ph k S)(hm:fm (down δ)= .ok (.int l.length))(hl:0 < l.length)(hl2:l.length < 10000)
 (h:∀x S1,x∈l→Ev k S S1→Q (.d (nI x)) S1):W3 (Bt f (b_ aA (ax (bO i) (ax (xP fm) cw))) δ S) Q:=by
 refine xi (hf.mono fun v S1 ⟨e1,e2'⟩=>?_)
 subst e1 e2'
 refine draw hv p hm (by omega) (by omega) fun r S2 h1 h2 v2=>⟨_,_,nI (l[r.toNat]'(by omega)),rfl,rfl,jg ?_,h _ S2 (List.getElem_mem _) v2⟩
 rw[jc h1 (by rw[List.length_map];omega)]
 simp
end
noncomputable def F0:List D:=[.str (Str.ofString "not"), .str (Str.ofString "and"), .str (Str.ofString "or"), .str (Str.ofString "xor"), .str (Str.ofString "vote"), .str (Str.ofString "xor"), .str (Str.ofString "and")]
noncomputable def Kw:List (Key × V):=[((Sum.inr (Str.ofString "not"):Key),V.int 1),((Sum.inr (Str.ofString "vote"):Key),V.int 3)]
theorem EG(r:Nat)(h:r < 7):∃kd,kd≤4∧cg (.lst F0) (.int r)= .ok (.str (kS kd))∧(match lI (jI [] Kw) (Sum.inr (kS kd)) with | some (.int i)=>R.ok (D.int i) | none=> .ok (.int 2) | _=> .no)= .ok (.int (ar kd)):=by
 match r,h with
 | 0,_=>exact⟨0,by omega,rfl,rfl⟩
 | 1,_=>exact⟨1,by omega,rfl,rfl⟩
 | 2,_=>exact⟨2,by omega,rfl,rfl⟩
 | 3,_=>exact⟨3,by omega,rfl,rfl⟩
 | 4,_=>exact⟨4,by omega,rfl,rfl⟩
 | 5,_=>exact⟨3,by omega,rfl,rfl⟩
 | 6,_=>exact⟨1,by omega,rfl,rfl⟩
theorem yq{S:aU}{δ:DE}{i o:Nat}{ws:List Nat}(hi:δ[i]? =some (some (.loc o)))(e:S[o]? =some (.lst (ws.map nI))):aG fY (aq (ae i) aD) (b3 S δ)= .ok (.tup (ws.map nI)):=by
 refine aR (ds:=[.lst (ws.map nI)]) (aW ?_ rfl) rfl
 unfold ae b3
 rw[List.getElem?_map,hi]
 show(match some (match res S (.loc o) with | some d=>Sl.val d | none=> .un) with | some (.val d)=>R.ok d | _=> .no)=_
 rw[jo e]
theorem oa(ws:List Nat):k5 (.tup (ws.map nI))=true:=by
 unfold k5
 induction ws with
 | nil=>unfold jC;rfl
 | cons w ws ih=>rw [List.map_cons];unfold jC;rw [ih];rfl
noncomputable def Jx{S:aU}{k:Nat}{d:D}{Q:V3→aU→Prop}(h:∀S1,Ev k S S1→Q (.d d) S1){S2:aU}{L:List D}{g:Nat}(E:uX k g L (S++[SO.lst []]) S2)(hg:g=S.length)(hk:k < S.length):Flat S2∧eI S.length (.d d)=true∧∃d',res S2 (.d d)=some d'∧Q (.d d') (S2.take S.length):=by
 subst hg
 refine⟨E.p.1,by unfold eI;rfl,d,by unfold res;rfl,h _ ⟨⟨E.p.1.take _,?_⟩,?_,?_⟩⟩
 ·obtain⟨_,a,c,e⟩:=E.p
  exact⟨a,c,by rw[List.getElem?_take_of_lt hk];exact e⟩
 ·have:=E.len
  rw[List.length_append,List.length_singleton] at this
  rw[List.length_take];omega
 ·intro j hj
  by_cases hjl:j < S.length
  ·rw[List.getElem?_take_of_lt hjl,E.oth _ hj (by omega),List.getElem?_append_left hjl]
  ·have:=E.len
   rw[List.length_append,List.length_singleton] at this
   rw[List.getElem?_eq_none (by rw[List.length_take];omega),List.getElem?_eq_none (by omega)]
noncomputable def J4(k q o:Nat)(ms kd mn:D)(a6 a7 a8:Option V3):DE:=[some (.loc k),some (.loc q),some (.d ms),some (.d kd),some (.d mn),some (.loc o),a6,a7,a8]
theorem zN{S:aU}{k q:Nat}{ks:List Int}{ms:Int}(p:ph k S)(hq:q≠k)(e:S[q]? =some (.lst (ks.map .int)))(h0:0 < ks.length)(hn:ks.length < 10000){Q:V3→aU→Prop}(h:∀g S1,l_ ks.length g→Ev k S S1→Q (.d (gR g)) S1) :
 W3 (gg [.loc k, .loc q, .d (.int ms)] S) Q:=by
 have hz:sizeLine=16777216:=sizeLine_eq
 have hk:=p.lt
 have hql:q < S.length:=(List.getElem?_eq_some_iff.mp e).1
 unfold gg
 refine qY (uB rfl ?_)
 simp only[bS,kg,List.map_cons,List.map_nil,List.length_cons,List.length_nil,List.replicate,List.cons_append,List.nil_append,Nat.reduceAdd,Nat.reduceSub]
 unfold mQ
 refine bc <| bL (by simp only[List.length_cons,List.length_nil,List.length_set];omega) <| xi <| dg (d:= .lst F0) rfl <| draw (k:=k) rfl p rfl (by omega) (by omega) fun r S1 h1 h2 v1=>?_
 obtain⟨kd,hkd,e1,e2'⟩:=EG r.toNat (by omega)
 rw[Int.toNat_of_nonneg h1] at e1
 refine⟨_,_,_,rfl,rfl,e1,_,rfl,?_⟩
 simp only[List.set_cons_succ,List.set_cons_zero]
 refine bc <| bL (by simp only[List.length_cons,List.length_nil,List.length_set];omega) <| dg (d:= .int (ar kd)) e2' ⟨_,rfl,?_⟩
 simp only[List.set_cons_succ,List.set_cons_zero]
 refine bc <| bL (by simp only[List.length_cons,List.length_nil,List.length_set];omega) <| kO (ds:=[]) rfl ⟨_,rfl,?_⟩
 simp only[List.set_cons_succ,List.set_cons_zero]
 have har:=vI kd
 have hl1:=v1.len
 have E1:=uX.uo v1.p []
 have hok:S1.length≠k:=by omega
 have eq1:S1[q]? =some (.lst (ks.map .int)):=by rw[v1.oth q hq];exact e
 refine bc <| fR <| k3 (eF (n:=ar kd) rfl (by omega)) ?_
 refine(cT (fun i δ S2=>(∃a b c,δ=J4 k q S1.length (.int ms) (.str (kS kd)) (.int (ar kd)) a b c)∧∃ws:List Nat,ws.length=i∧(∀w∈ws,w < ks.length)∧uX k S1.length (ws.map nI) (S1++[SO.lst []]) S2)
  ⟨⟨_,_,_,rfl⟩,[],rfl,by simp,E1⟩ ?_).mono fun o S2 ⟨δ2,e3,⟨a,b,c,hδ⟩,ws,hwl,hws,E2⟩=>⟨δ2,e3,?_⟩
 ·rintro i v δ S2 hv ⟨⟨a,b,c,rfl⟩,ws,hwl,hws,E2⟩
  have hi:i < 3:=by
   have:=(List.getElem?_eq_some_iff.mp hv).1
   rw[List.length_map,bQ,List.length_map,List.length_range] at this
   omega
  refine⟨J4 k q S1.length (.int ms) (.str (kS kd)) (.int (ar kd)) (some v) b c,rfl,?_⟩
  unfold nV J4
  refine bc <| bL (by simp only[List.length_cons,List.length_nil,List.length_set];omega) <| draw (k:=k) rfl E2.p rfl (by omega) (by omega) fun r3 S3 h3 h4 v3=>⟨_,rfl,?_⟩
  simp only[List.set_cons_succ,List.set_cons_zero]
  have E3:=E2.then hok v3
  have eq3:S3[q]? =some (.lst (ks.map .int)):=by rw[E3.oth q hq (by omega),List.getElem?_append_left (by omega)];exact eq1
  refine bc <| bL (by simp only[List.length_cons,List.length_nil,List.length_set];omega) <| zA (k:=k) rfl E3.p (jE eq3 rfl) (by omega) (by omega) fun r4 S4 h5 h6 v4=>⟨_,rfl,?_⟩
  simp only[List.set_cons_succ,List.set_cons_zero]
  have E4:=E3.then hok v4
  have eq4:S4[q]? =some (.lst (ks.map .int)):=by rw[E4.oth q hq (by omega),List.getElem?_append_left (by omega)];exact eq1
  refine bc ?_
  have kc:W3 (yM (bP (b2 iV (ae 7) (eC (.int 1)))) (cC 8 (xT (e2 jG (e2 jG (aG cP (aq (ae 1) aD)) (eC (.int 1))) (e2 ie (ae 8) (aG tu (aq (aG cP (aq (ae 1) aD)) (aq (eC (.int 4)) aD))))))) pX
   [some (.loc k),some (.loc q),some (.d (.int ms)),some (.d (.str (kS kd))),some (.d (.int (ar kd))),some (.loc S1.length),some v,some (.d (.int r3)),some (.d (.int r4))] S4)
   fun o S5=>S5=S4∧∃w:Nat,w < ks.length∧o= .nx [some (.loc k),some (.loc q),some (.d (.int ms)),some (.d (.str (kS kd))),some (.d (.int (ar kd))),some (.loc S1.length),some v,some (.d (.int r3)),some (.d (nI w))]:=by
   refine rA (ve (b:=decide (r3=1)) rfl ?_)
   by_cases hr:r3=1
   ·rw[decide_eq_true hr,if_pos rfl]
    have hmn:∃mn:Int,0 < mn∧mn≤ks.length∧tu [.int ks.length, .int 4]= .ok (.int mn):=⟨if(4:Int) < ks.length then 4 else ks.length,by split <;> omega,by split <;> omega,rfl⟩
    obtain⟨mn,m1,m2,m3⟩:=hmn
    have b1:0≤r4 % mn:=Int.emod_nonneg _ (by omega)
    have b2':r4 % mn < mn:=Int.emod_lt_of_pos _ m1
    refine bL (by simp only[List.length_cons,List.length_nil,List.length_set];omega) (uY (d:=nI ((ks.length:Int) - 1 - r4 % mn).toNat) ?_ rfl ⟨rfl,((ks.length:Int) - 1 - r4 % mn).toNat,by omega,rfl⟩)
    refine ay (a:= .int ((ks.length:Int) - 1)) (b:= .int (r4 % mn)) (ay (a:= .int ks.length) (b:= .int 1) (jE eq4 rfl) rfl rfl) (ay (a:= .int r4) (b:= .int mn) rfl (aR (ds:=[.int ks.length, .int 4]) (aW (jE eq4 rfl) rfl) m3) (xv m1)) ?_
    show R.ok (D.int ((ks.length:Int) - 1 - r4 % mn))=R.ok (D.int ((((ks.length:Int) - 1 - r4 % mn).toNat:Nat):Int))
    rw[Int.toNat_of_nonneg (by omega)]
   ·rw[decide_eq_false hr,if_neg (by decide)]
    refine nc ⟨rfl,r4.toNat,by omega,?_⟩
    unfold nI
    rw[Int.toNat_of_nonneg h5]
  refine kc.mono fun o S5 ⟨e5,w,hw,eo⟩=>⟨_,eo,?_⟩
  subst e5
  refine j2 (k:=S1.length) rfl ⟨_,E4.gl⟩ (dg (d:=nI w) rfl ⟨_,_,rfl,E4.gl,by rw[List.length_map];omega,_,rfl,⟨_,_,_,rfl⟩,ws++[w],by simp [hwl],?_,?_⟩)
  ·intro x hx
   rcases List.mem_append.mp hx with z | z
   ·exact hws x z
   ·rw[List.mem_singleton] at z;subst z;exact hw
  ·rw[List.map_append]
   exact E4.put hok
 rw[List.length_map,bQ,List.length_map,List.length_range] at hwl
 subst hδ
 unfold J4
 refine eW <| yI <| aJ <| dg (d:= .str (kS kd)) rfl <| aJ <| uY (d:= .tup (ws.map nI)) (yq rfl E2.gl) (oa ws) <| aJ <| EM <| draw (k:=k) rfl E2.p rfl (by omega) (by omega) fun r6 S6 h7 h8 v6=>dg (d:= .int ms) rfl ⟨_,_, .bl (decide (r6 < ms)),rfl,rfl,rfl,cX ⟨by simp;omega,_,rfl,?_⟩⟩
 have E6:=E2.then hok v6
 show Flat S6∧eI S.length (.d (gR (kd,ws,decide (r6 < ms))))=true∧∃d',res S6 (.d (gR (kd,ws,decide (r6 < ms))))=some d'∧_
 have hl6:S6.length=S.length+1:=by rw[E6.len];simp [hl1]
 refine⟨E6.p.1,by unfold eI;rfl,_,by unfold res;rfl,h _ _ ⟨hkd,hwl,hws⟩ ⟨⟨E6.p.1.take _,?_⟩,by rw[List.length_take];omega,fun j hj=>?_⟩⟩
 ·obtain⟨_,a,c,e⟩:=E6.p
  exact⟨a,c,by rw[List.getElem?_take_of_lt hk];exact e⟩
 ·by_cases hjl:j < S.length
  ·rw[List.getElem?_take_of_lt hjl,E6.oth _ hj (by omega),List.getElem?_append_left (by omega)]
   exact v1.oth j hj
  ·rw[List.getElem?_eq_none (by rw[List.length_take];omega),List.getElem?_eq_none (by omega)]
end K14
end
section
set_option maxRecDepth 100000
set_option maxHeartbeats 4000000
namespace K14
open PySem PySem.Spec PyProof.Rows L2 L3 MT
noncomputable def bE(k q o:Nat)(g:D)(a4 a5:Option V3):DE:=[some (.loc k),some (.d g),some (.loc q),some (.loc o),a4,a5]
theorem yf{S:aU}{k q:Nat}{ks:List Int}{g:Gt}(p:ph k S)(hq:q≠k)(e:S[q]? =some (.lst (ks.map .int)))(hg:l_ ks.length g)(hn:ks.length < 10000){Q:V3→aU→Prop}(h:∀g' S1,l_ ks.length g'→g'.1=g.1→g'.2.1.map (ks.getD · 0)=g.2.1.map (ks.getD · 0)→Ev k S S1→Q (.d (gR g')) S1) :
 W3 (gx [.loc k, .d (gR g), .loc q] S) Q:=by
 have hz:sizeLine=16777216:=sizeLine_eq
 have hk:=p.lt
 have har:=vI g.1
 have hql:q < S.length:=(List.getElem?_eq_some_iff.mp e).1
 unfold gx
 refine qY (uB rfl ?_)
 simp only[bS,il,List.map_cons,List.map_nil,List.length_cons,List.length_nil,List.replicate,List.cons_append,List.nil_append,Nat.reduceAdd,Nat.reduceSub]
 unfold k_
 refine bc <| bL (by simp only[List.length_cons,List.length_nil,List.length_set];omega) <| kO (ds:=[]) rfl ⟨_,rfl,?_⟩
 simp only[List.set_cons_succ,List.set_cons_zero]
 have E1:=uX.uo p []
 have hok:S.length≠k:=by omega
 refine bc <| fR <| k3 (ds:=g.2.1.map nI) rfl ?_
 refine(cT (fun i δ S2=>(∃a b,δ=bE k q S.length (gR g) a b)∧∃ws:List Nat,ws.length=i∧(∀w∈ws,w < ks.length)∧ws.map (ks.getD · 0)=(g.2.1.take i).map (ks.getD · 0)∧uX k S.length (ws.map nI) (S++[SO.lst []]) S2)
  ⟨⟨_,_,rfl⟩,[],rfl,by simp,by simp,E1⟩ ?_).mono fun o S2 ⟨δ2,e3,⟨a,b,hδ⟩,ws,hwl,hws,hwk,E2⟩=>⟨δ2,e3,?_⟩
 ·rintro i v δ S2 hv ⟨⟨a,b,rfl⟩,ws,hwl,hws,hwk,E2⟩
  have hi:i < 3:=by
   have:=(List.getElem?_eq_some_iff.mp hv).1
   rw[List.length_map,List.length_map,hg.2.1] at this
   omega
  obtain⟨w,hwi,rfl⟩:=NT.qw hv
  have hwn:=hg.2.2 w (List.mem_of_getElem? hwi)
  have eq2:S2[q]? =some (.lst (ks.map .int)):=by rw[E2.oth q hq (by omega),List.getElem?_append_left hql];exact e
  refine⟨bE k q S.length (gR g) (some (.d (nI w))) b,rfl,?_⟩
  unfold mH bE
  refine bc <| bL (by simp only[List.length_cons,List.length_nil,List.length_set];omega) <| yw (q:=q) eq2 hwn hn rfl (oH (uY (d:= .int ks.length) (jE eq2 rfl) rfl ⟨ks.length,rfl,by omega,rfl,rfl⟩)) fun l hl0 hl1 hl2=>⟨_,rfl,?_⟩
  simp only[List.set_cons_succ,List.set_cons_zero]
  refine j2 (k:=S.length) rfl ⟨_,E2.gl⟩ (yF (k:=k) (l:=l) (dg rfl ⟨rfl,rfl⟩) rfl E2.p (aR (ds:=[.lst (l.map nI)]) rfl (by rw[ma,List.length_map])) hl0 hl1 fun x S3 hx v3=>?_)
  have E3:=E2.then hok v3
  refine⟨nI x,_,rfl,E3.gl,by rw[List.length_map];omega,_,rfl,⟨_,_,rfl⟩,ws++[x],by simp [hwl],?_,?_,?_⟩
  ·intro y hy
   rcases List.mem_append.mp hy with z | z
   ·exact hws y z
   ·rw[List.mem_singleton] at z;subst z;exact(hl2 _ hx).1
  ·rw[List.take_add_one,hwi,List.map_append,List.map_append,hwk]
   show _++[ks.getD x 0]=_++[ks.getD w 0]
   rw[(hl2 _ hx).2]
  ·rw[List.map_append]
   exact E3.put hok
 rw[List.length_map,List.length_map] at hwl hwk
 rw[List.take_length] at hwk
 subst hδ
 unfold bE
 refine eW <| yI <| aJ <| dg (d:= .str (kS g.1)) rfl <| aJ <| uY (d:= .tup (ws.map nI)) (yq rfl E2.gl) (oa ws) <| aJ <| EM <| draw (k:=k) rfl E2.p rfl (by omega) (by omega) fun r6 S6 h7 h8 v6=>dg (d:= .int 0) rfl ⟨_,_, .bl (decide (r6=0)),rfl,rfl,rfl,cX ⟨by simp;omega,_,rfl,?_⟩⟩
 have E6:=E2.then hok v6
 exact Jx (d:=gR (g.1,ws,decide (r6=0))) (fun S1 v=>h _ _ ⟨hg.1,by show ws.length=_;rw [hwl];exact hg.2.1,hws⟩ rfl hwk v) E6 rfl hk
structure OS (k o:Nat) (L:List D) (S S1:aU):Prop where
 p:ph k S1
 len:S.length+1≤S1.length
 oth:∀j,j < S.length→j≠k→S1[j]? =S[j]?
 gl:S1[o]? =some (.lst L)
theorem OS.then{k o:Nat}{L:List D}{S S1 S2:aU}(a:OS k o L S S1)(h:o≠k)(b:Ev k S1 S2):OS k o L S S2:=⟨b.p,by rw[b.len];exact a.len,fun j h1 h2=>(b.oth j h2).trans (a.oth j h1 h2),(b.oth o h).trans a.gl⟩
theorem OS.set{k o m:Nat}{L M:List D}{S S1:aU}(a:OS k o L S S1)(h1:m≠k)(h2:m≠o)(h3:S.length≤m):OS k o L S (S1.set m (.lst M)):=by
 obtain⟨f,x,c,e⟩:=a.p
 exact⟨⟨f.set _ (mr _),x,c,by rw[List.getElem?_set_ne h1];exact e⟩,by rw[List.length_set];exact a.len,fun j hj hk=>by rw[List.getElem?_set_ne (by omega)];exact a.oth j hj hk,by rw[List.getElem?_set_ne h2];exact a.gl⟩
theorem OS.push{k o:Nat}{L M:List D}{S S1:aU}(a:OS k o L S S1)(ho:o < S1.length):OS k o L S (S1++[.lst M]):=
 ⟨a.p.push M,by rw[List.length_append];have:=a.len;omega,fun j hj hk=>by rw[List.getElem?_append_left (by have:=a.len;omega)];exact a.oth j hj hk,by rw[List.getElem?_append_left ho];exact a.gl⟩
theorem OS.put{k o:Nat}{L L':List D}{S S1:aU}(a:OS k o L S S1)(h1:o≠k)(h3:S.length≤o):OS k o L' S (S1.set o (.lst L')):=by
 obtain⟨f,x,c,e⟩:=a.p
 exact⟨⟨f.set _ (mr _),x,c,by rw[List.getElem?_set_ne h1];exact e⟩,by rw[List.length_set];exact a.len,fun j hj hk=>by rw[List.getElem?_set_ne (by omega)];exact a.oth j hj hk,jB a.gl⟩
noncomputable def oE(k q o:Nat)(ss:List Str)(a5 a6 a7 a8 a9 a10:Option V3):DE:=[some (.loc k),some (.loc q),some (.d (.lst (ss.map .str))),some (.d (.int 6)),some (.loc o),a5,a6,a7,a8,a9,a10]
noncomputable def IZ:List D:=[.int 1, .int 1, .int 2, .int 2, .int 3, .int 3]
theorem GS(r:Nat)(h:r < 6):∃w:Nat,1≤w∧w≤3∧cg (.lst IZ) (.int r)= .ok (nI w):=by
 match r,h with
 | 0,_=>exact⟨1,by omega,by omega,rfl⟩
 | 1,_=>exact⟨1,by omega,by omega,rfl⟩
 | 2,_=>exact⟨2,by omega,by omega,rfl⟩
 | 3,_=>exact⟨2,by omega,by omega,rfl⟩
 | 4,_=>exact⟨3,by omega,by omega,rfl⟩
 | 5,_=>exact⟨3,by omega,by omega,rfl⟩
theorem anew{S S1:aU}{k q o m:Nat}{ks:List Int}{L:List D}{ss:List Str}{i wd:Nat}{way lim:Int}{at':Nat}{a6 a7:Option V3}{ws:List Nat}(hq:q≠k)(hqS:q < S.length)(ho:o≠k)(hmk:m≠k)(hmo:m≠o)(hm:S.length≤m)(h0:0 < ks.length)(hn:ks.length < 10000)
 (eS:S[q]? =some (.lst (ks.map .int))) (hwl:ws.length=wd) (hat:at' < 3) (hws:∀w∈ws,w < ks.length) (E:OS k o L S S1) (em:S1[m]? =some (.lst (ws.map nI))) :
 W3 (yM (bP (kj (b2 iV (ae 8) (eC (.int 3))) (b2 wz (ae 10) (eC (.int lim))))) (xJ (bO 9) (xP (eC (nI at'))) (b_ aA (ax (bO 0) (ax (xT (aG cP (aq (ae 1) aD))) cw)))) pX
  (oE k q o ss (some (.d (nI i))) a6 a7 (some (.d (nI wd))) (some (.loc m)) (some (.d (.int way)))) S1)
  fun ou S2=>ou= .nx (oE k q o ss (some (.d (nI i))) a6 a7 (some (.d (nI wd))) (some (.loc m)) (some (.d (.int way))))∧OS k o L S S2∧∃ws':List Nat,ws'.length=wd∧(∀w∈ws',w < ks.length)∧(wd≠3→ws'=ws)∧S2[m]? =some (.lst (ws'.map nI)):=by
 have eq1:S1[q]? =some (.lst (ks.map .int)):=by rw[E.oth q hqS hq];exact eS
 obtain⟨c,hc,hc3⟩:∃c:Bool,kj (b2 iV (ae 8) (eC (.int 3))) (b2 wz (ae 10) (eC (.int lim))) (down (oE k q o ss (some (.d (nI i))) a6 a7 (some (.d (nI wd))) (some (.loc m)) (some (.d (.int way)))))= .ok c∧(c=true→wd=3):=by
  have e1:b2 iV (ae 8) (eC (.int 3)) (down (oE k q o ss (some (.d (nI i))) a6 a7 (some (.d (nI wd))) (some (.loc m)) (some (.d (.int way)))))= .ok (decide ((wd:Int)=3)):=rfl
  have e3:b2 wz (ae 10) (eC (.int lim)) (down (oE k q o ss (some (.d (nI i))) a6 a7 (some (.d (nI wd))) (some (.loc m)) (some (.d (.int way)))))= .ok (decide (lim < way)):=rfl
  unfold kj
  rw[e1,R.aH,e3]
  by_cases h3:(wd:Int)=3
  ·exact⟨_,by rw[decide_eq_true h3,if_pos rfl],fun _=>by omega⟩
  ·exact⟨false,by rw[decide_eq_false h3,if_neg (by decide)],fun z=>by cases z⟩
 refine rA (ve hc ?_)
 cases c with
 | true=>
   rw[if_pos rfl]
   have hwd:=hc3 rfl
   refine BX (zA (k:=k) rfl E.p (jE eq1 rfl) (by omega) (by omega) fun r S2 h1 h2 v2=>w_var (v:= .loc m) rfl (dg (d:=nI at') rfl ⟨_,m,(at':Int),ws.map nI,at',rfl,rfl,rfl,by rw[v2.oth m hmk];exact em,?_,rfl,(E.then ho v2).set hmk hmo hm,ws.set at' r.toNat,by rw[List.length_set];exact hwl,?_,fun z=>absurd hwd z,?_⟩))
   ·unfold qp
    rw[if_pos (by omega),if_pos (by rw[List.length_map];omega)]
    simp
   ·intro w hw
    rcases List.mem_or_eq_of_mem_set hw with z | z
    ·exact hws w z
    ·subst z;omega
   ·rw[jB (x:= .lst (ws.map nI)) (by rw[v2.oth m hmk];exact em),List.map_set]
    unfold nI
    rw[Int.toNat_of_nonneg h1]
 | false=>
   rw[if_neg (by decide)]
   exact nc ⟨rfl,E,ws,hwl,hws,fun _=>rfl,em⟩
theorem Cv{S S1:aU}{k q o:Nat}{ks:List Int}{ss:List Str}{i:Nat}{a6 a7 a8 a9 a10:Option V3}{os:List (Str × List Nat)}(hq:q≠k)(hk:k < S.length)(ho:o=S.length)(h0:0 < ks.length)(hn:ks.length < 10000)(hss:ss.length=8)(hi:i < 6)(hl:os.length < 100)(eS:S[q]? =some (.lst (ks.map .int)))(E:OS k o (os.map xj) S S1) :
 W3 (kq (oE k q o ss (some (.d (nI i))) a6 a7 a8 a9 a10) S1) fun ou S2=>∃δ2,ou= .nx δ2∧(∃b5 b6 b7 b8 b9 b10,δ2=oE k q o ss b5 b6 b7 b8 b9 b10)∧∃x:Str × List Nat,((1≤x.2.length∧x.2.length≤3)∧(∀w∈x.2,w < ks.length)∧∀a b,x.2=[a,b]→ks.getD a 0=ks.getD b 0)∧OS k o ((os++[x]).map xj) S S2:=by
 have hz:sizeLine=16777216:=sizeLine_eq
 have hqS:q < S.length:=(List.getElem?_eq_some_iff.mp eS).1
 have hok:o≠k:=by omega
 have keq:∀{S2:aU} {L:List D},OS k o L S S2→S2[q]? =some (.lst (ks.map .int)):=fun E2=>by rw[E2.oth q hqS hq];exact eS
 unfold kq oE
 refine bc <| bL (by simp only[List.length_cons,List.length_nil,List.length_set];omega) <| EM <| uY (d:= .int ((ks.length:Int) - 1)) (ay (a:= .int ks.length) (b:= .int 1) (jE (keq E) rfl) rfl rfl) rfl <| zA (k:=k) rfl E.p (jE (keq E) rfl) (by omega) (by omega) fun r S2 h1 h2 v2=>⟨_,_,nI ((ks.length:Int) - 1 - r).toNat,rfl,rfl,?_,_,rfl,?_⟩
 ·show R.ok (D.int ((ks.length:Int) - 1 - r))=R.ok (D.int ((((ks.length:Int) - 1 - r).toNat:Nat):Int))
  rw[Int.toNat_of_nonneg (by omega)]
 simp only[List.set_cons_succ,List.set_cons_zero]
 have hw:((ks.length:Int) - 1 - r).toNat < ks.length:=by omega
 generalize ((ks.length:Int) - 1 - r).toNat=w at hw
 have E2:=E.then hok v2
 refine bc <| bL (by simp only[List.length_cons,List.length_nil,List.length_set];omega) <| yw (q:=q) (keq E2) hw hn rfl (oH (uY (d:= .int ks.length) (jE (keq E2) rfl) rfl ⟨ks.length,rfl,by omega,rfl,rfl⟩)) fun l hl0 hl1 hl2=>⟨_,rfl,?_⟩
 simp only[List.set_cons_succ,List.set_cons_zero]
 refine bc <| bL (by simp only[List.length_cons,List.length_nil,List.length_set];omega) <| xi <| dg (d:= .lst IZ) rfl <| draw (k:=k) rfl E2.p rfl (by omega) (by omega) fun r3 S3 h3 h4 v3=>?_
 obtain⟨wd,hw1,hw3,ewd⟩:=GS r3.toNat (by omega)
 rw[Int.toNat_of_nonneg h3] at ewd
 refine⟨_,_,_,rfl,rfl,ewd,_,rfl,?_⟩
 simp only[List.set_cons_succ,List.set_cons_zero]
 have E3:=E2.then hok v3
 refine bc <| bL (by simp only[List.length_cons,List.length_nil,List.length_set];omega) <| FP <| dg (d:= .lst [nI w]) rfl ?_
 refine nD (fun j ds S4=>OS k o (os.map xj) S S4∧∃ws:List Nat,ds=ws.map nI∧(∀x∈ws,x < ks.length∧ks.getD x 0=ks.getD w 0)∧ws.length=j) (k3 (eF (n:=wd - 1) ?_ (by omega)) ⟨by simp [bQ];omega,⟨E3,[],rfl,by simp,rfl⟩,?_,?_⟩)
 ·refine ay (a:=nI wd) (b:= .int 1) rfl rfl ?_
  show R.ok (D.int ((wd:Int) - 1))=R.ok (D.int (((wd - 1:Nat)):Int))
  rw[Int.ofNat_sub hw1];rfl
 ·rintro j v ds S4 hv ⟨E4,ws,rfl,hws,hwl⟩
  refine⟨[some v,some (.loc k),some (.d (.lst (l.map nI)))],rfl,B_ ?_⟩
  rw[if_pos rfl]
  refine yF (k:=k) (l:=l) (dg rfl ⟨rfl,rfl⟩) rfl E4.p (aR (ds:=[.lst (l.map nI)]) rfl (by rw[ma,List.length_map])) hl0 hl1 fun x S5 hx v5=>⟨nI x,rfl,E4.then hok v5,ws++[x],by simp,?_,by simp [hwl]⟩
  intro y hy
  rcases List.mem_append.mp hy with z | z
  ·exact hws y z
  ·rw[List.mem_singleton] at z;subst z;exact hl2 _ hx
 ·rintro ds S4 ⟨E4,ws,rfl,hws,hwl⟩
  have hrl:((bQ 0 (wd - 1)).map V3.d).length=wd - 1:=by simp [bQ]
  rw[hrl] at hwl
  refine⟨[nI w],ws.map nI,rfl,rfl,by rw[List.length_map];simp;omega,_,rfl,?_⟩
  simp only[List.set_cons_succ,List.set_cons_zero]
  have hle:=E4.len
  have ho4:o < S4.length:=(List.getElem?_eq_some_iff.mp E4.gl).1
  have E5:=E4.push (M:=[nI w]++ws.map nI) ho4
  have em5:(S4++[SO.lst ([nI w]++ws.map nI)])[S4.length]? =some (.lst ((w ::ws).map nI)):=bM _ _
  have hmk:S4.length≠k:=by omega
  have hmo:S4.length≠o:=by omega
  have hmS:S.length≤S4.length:=by omega
  have hws1:∀x∈w ::ws,x < ks.length:=fun x hx=>by
   rcases List.mem_cons.mp hx with z | z
   ·subst z;exact hw
   ·exact(hws x z).1
  generalize S4++[SO.lst ([nI w]++ws.map nI)]=S5 at E5 em5
  generalize S4.length=m at em5 hmk hmo hmS
  refine bc <| bL (by simp only[List.length_cons,List.length_nil,List.length_set];omega) <| draw (k:=k) rfl E5.p rfl (by omega) (by omega) fun way S6 h5 h6 v6=>⟨_,rfl,?_⟩
  simp only[List.set_cons_succ,List.set_cons_zero]
  have E6:=E5.then hok v6
  have em6:S6[m]? =some (.lst ((w ::ws).map nI)):=by rw[v6.oth m hmk];exact em5
  refine bc ((anew (ss:=ss) (i:=i) (wd:=wd) (way:=way) (lim:=0) (at':=2) hq hqS hok hmk hmo hmS h0 hn eS (by simp;omega) (by omega) hws1 E6 em6).mono fun ou S7 ⟨e7,E7,ws7,hl7,hw7,hs7,em7⟩=>⟨_,e7,?_⟩)
  refine bc ((anew (ss:=ss) (i:=i) (wd:=wd) (way:=way) (lim:=1) (at':=1) hq hqS hok hmk hmo hmS h0 hn eS hl7 (by omega) hw7 E7 em7).mono fun ou S8 ⟨e8,E8,ws8,hl8,hw8,hs8,em8⟩=>⟨_,e8,?_⟩)
  unfold oE
  refine j2 (k:=o) rfl ⟨_,E8.gl⟩ (uY (d:=xj (ss[i]'(by omega),ws8)) ?_ ?_ ⟨_,_,rfl,E8.gl,by rw[List.length_map];omega,_,rfl,⟨_,_,_,_,_,_,rfl⟩,(ss[i]'(by omega),ws8),⟨⟨by show 1≤ws8.length;omega,by show ws8.length≤3;omega⟩,hw8,?_⟩,?_⟩)
  ·refine gH (aW (ay (a:= .lst (ss.map .str)) (b:=nI i) rfl rfl (jg (oV (by rw[List.getElem?_map,List.getElem?_eq_getElem (by omega)];rfl)))) (aW (yq rfl em8) rfl)) (by simp;omega)
  ·unfold xj k5 jC
   rw[show k5 (.str _)=true from by unfold k5;rfl]
   unfold jC
   rw[oa]
   unfold jC
   rfl
  ·intro a b hab
   have hab:ws8=[a,b]:=hab
   have h2:wd=2:=by rw[←hl8,hab];rfl
   rw[hs8 (by omega),hs7 (by omega)] at hab
   cases hab
   exact((hws b (by simp)).2).symm
  ·rw[List.map_append]
   exact E8.put hok (by omega)
theorem An{S:aU}{k q:Nat}{ks:List Int}{ss:List Str}(p:ph k S)(hq:q≠k)(e:S[q]? =some (.lst (ks.map .int)))(h0:0 < ks.length)(hn:ks.length < 10000)(hss:ss.length=8){Q:V3→aU→Prop}
 (h:∀(os:List (Str × List Nat)) S1,1≤os.length→os.length < 100→(∀x∈os,(1≤x.2.length∧x.2.length≤3)∧(∀w∈x.2,w < ks.length)∧∀a b,x.2=[a,b]→ks.getD a 0=ks.getD b 0)→Ev k S S1→Q (.d (.lst (os.map xj))) S1):W3 (ib [.loc k, .loc q, .d (.lst (ss.map .str)), .d (.int 6)] S) Q:=by
 have hz:sizeLine=16777216:=sizeLine_eq
 have hk:=p.lt
 unfold ib
 refine qY (uB rfl ?_)
 simp only[bS,gZ,List.map_cons,List.map_nil,List.length_cons,List.length_nil,List.replicate,List.cons_append,List.nil_append,Nat.reduceAdd,Nat.reduceSub]
 unfold m7
 refine bc <| bL (by simp only[List.length_cons,List.length_nil,List.length_set];omega) <| kO (ds:=[]) rfl ⟨_,rfl,?_⟩
 simp only[List.set_cons_succ,List.set_cons_zero]
 have E1:OS k S.length (([]:List (Str × List Nat)).map xj) S (S++[.lst []]):=⟨p.push [],by simp,fun j hj _=>List.getElem?_append_left hj,bM _ _⟩
 refine bc <| fR <| oH <| EM <| dg (d:= .int 1) rfl <| draw (k:=k) rfl E1.p rfl (by omega) (by omega) fun r S2 h1 h2 v2=>⟨_,_, .int ((1+r).toNat:Nat),rfl,rfl,by rw[Int.toNat_of_nonneg (by omega)];rfl,(1+r).toNat,rfl,by omega,?_⟩
 have E2:=E1.then (by omega) v2
 refine(cT (fun i δ S3=>(∃b5 b6 b7 b8 b9 b10,δ=oE k q S.length ss b5 b6 b7 b8 b9 b10)∧∃os:List (Str × List Nat),os.length=i∧(∀x∈os,(1≤x.2.length∧x.2.length≤3)∧(∀w∈x.2,w < ks.length)∧∀a b,x.2=[a,b]→ks.getD a 0=ks.getD b 0)∧OS k S.length (os.map xj) S S3)
  ⟨⟨_,_,_,_,_,_,rfl⟩,[],rfl,by simp,E2⟩ ?_).mono fun o S3 ⟨δ3,e3,⟨b5,b6,b7,b8,b9,b10,hδ⟩,os,hol,hos,E3⟩=>⟨δ3,e3,?_⟩
 ·rintro i v δ S3 hv ⟨⟨b5,b6,b7,b8,b9,b10,rfl⟩,os,hol,hos,E3⟩
  rw[List.getElem?_map] at hv
  cases qq:(bQ 0 (1+r).toNat)[i]? with
  | none=>rw [qq] at hv;cases hv
  | some d0=>
    rw[qq] at hv
    obtain⟨hi,rfl⟩:=jF qq
    cases hv
    refine⟨oE k q S.length ss (some (.d (nI i))) b6 b7 b8 b9 b10,rfl,?_⟩
    refine(Cv hq hk rfl h0 hn hss (by omega) (by omega) e E3).mono fun ou S4 ⟨δ4,e4,h4,x,hx,E4⟩=>⟨δ4,e4,h4,os++[x],by simp [hol],?_,E4⟩
    intro y hy
    rcases List.mem_append.mp hy with z | z
    ·exact hos y z
    ·rw[List.mem_singleton] at z;subst z;exact hx
 have hrl:((bQ 0 (1+r).toNat).map V3.d).length=(1+r).toNat:=by simp [bQ]
 rw[hrl] at hol
 subst hδ
 unfold oE
 refine eW (w_var rfl ⟨_,rfl,E3.p.1,by unfold eI;exact decide_eq_true (Nat.le_refl _),_,jo E3.gl,?_⟩)
 have hle:=E3.len
 refine h os _ (by omega) (by omega) hos ⟨⟨E3.p.1.take _,?_⟩,by rw[List.length_take];omega,fun j hj=>?_⟩
 ·obtain⟨_,a,c,e⟩:=E3.p
  exact⟨a,c,by rw[List.getElem?_take_of_lt hk];exact e⟩
 ·by_cases hjl:j < S.length
  ·rw[List.getElem?_take_of_lt hjl,E3.oth _ hjl hj]
  ·rw[List.getElem?_eq_none (by rw[List.length_take];omega),List.getElem?_eq_none (by omega)]
end K14
end
section
set_option maxRecDepth 100000
set_option maxHeartbeats 4000000
namespace K14
open PySem PySem.Spec PyProof.Rows L2 L3 MT
structure IS (k a b:Nat) (l:List (Str × Nat)) (ks:List Int) (S S1:aU):Prop where
 p:ph k S1
 len:S.length+2≤S1.length
 oth:∀j,j < S.length→j≠k→S1[j]? =S[j]?
 ea:S1[a]? =some (.lst (l.map MT.inD))
 eb:S1[b]? =some (.lst (ks.map .int))
 hb:S.length < b
noncomputable def iE(mi ms:Int)(k a b:Nat)(cells:D)(ss:List Str)(a7 a8:Option V3):DE:=[some (.loc k),some (.d cells),some (.d (.int mi)),some (.d (.int ms)),some (.d (.lst (ss.map .str))),some (.loc a),some (.loc b),a7,a8,none,none,none,none,none]
theorem Cn(c:Int)(n:Nat):(List.replicate n [D.int c]).flatten=(List.replicate n c).map D.int:=by
 induction n with
 | zero=>rfl
 | succ n ih=>rw [List.replicate_succ,List.flatten_cons,ih,List.replicate_succ];rfl
theorem GX{f:aw→R (List D)}{g:FD}{δ:aw}{ds:List D}{n:Nat}(h1:f δ= .ok ds)(h2:g δ= .ok (.int n))(hn:n < 1000000)(hl:ds.length*n≤sizeLine):D7 f g δ= .ok (List.replicate n ds).flatten:=by
 unfold D7
 rw[h1,R.aH,h2,R.aH]
 show R.cb (decide (0≤(n:Int)∧(n:Int) < 1000000∧ds.length*(n:Int).toNat≤sizeLine)) _=_
 rw[bR _ ⟨by omega,by omega,by rw[Int.toNat_natCast];exact hl⟩,Int.toNat_natCast]
theorem Ef{mi ms:Int}{S S1:aU}{k a b i:Nat}{cells:D}{ss:List Str}{a8:Option V3}{l:List (Str × Nat)}{ks:List Int}(hk:k < S.length)(ha:a=S.length)(hss:ss.length=8)(hi:i < 6)(hl:l.length < 100)(hks:ks.length < 1000)(E:IS k a b l ks S S1) :
 W3 (lr (iE mi ms k a b cells ss (some (.d (nI i))) a8) S1) fun o S2=>∃δ2,o= .nx δ2∧∃b' a8',δ2=iE mi ms k a b' cells ss (some (.d (nI i))) a8'∧∃(s:Str) (w:Nat),1≤w∧w≤3∧IS k a b' (l++[(s,w)]) (ks++List.replicate w (i:Int)) S S2:=by
 have hz:sizeLine=16777216:=sizeLine_eq
 have hbS:=E.hb
 have hbl:b < S1.length:=(List.getElem?_eq_some_iff.mp E.eb).1
 unfold lr iE
 refine bc <| bL (by simp only[List.length_cons,List.length_nil,List.length_set];omega) <| FF (k:=k) rfl E.p (by omega) (by omega) fun w S2 h1 h2 v2=>⟨_,rfl,?_⟩
 simp only[List.set_cons_succ,List.set_cons_zero]
 have ea2:S2[a]? =some (.lst (l.map MT.inD)):=by rw[v2.oth a (by omega)];exact E.ea
 have eb2:S2[b]? =some (.lst (ks.map .int)):=by rw[v2.oth b (by omega)];exact E.eb
 refine bc <| j2 (k:=a) rfl ⟨_,ea2⟩ <| dg (d:=MT.inD (ss[7 - i]'(by omega),w)) ?_ ⟨_,_,rfl,ea2,by rw[List.length_map];omega,_,rfl,?_⟩
 ·refine gH (aW (ay (a:= .lst (ss.map .str)) (b:=nI (7 - i)) rfl ?_ (jg (oV (by rw[List.getElem?_map,List.getElem?_eq_getElem (by omega)];rfl)))) (aW rfl rfl)) (by simp;omega)
  refine ay (a:= .int 7) (b:=nI i) rfl rfl ?_
  show R.ok (D.int (7 - (i:Int)))=R.ok (D.int ((7 - i:Nat):Int))
  rw[Int.ofNat_sub (by omega)];rfl
 have eb3:(S2.set a (.lst (l.map MT.inD++[MT.inD (ss[7 - i]'(by omega),w)])))[b]? =some (.lst (ks.map .int)):=by rw[List.getElem?_set_ne (by omega)];exact eb2
 have ea3:(S2.set a (.lst (l.map MT.inD++[MT.inD (ss[7 - i]'(by omega),w)])))[a]? =some (.lst (l.map MT.inD++[MT.inD (ss[7 - i]'(by omega),w)])):=jB ea2
 have p3:ph k (S2.set a (.lst (l.map MT.inD++[MT.inD (ss[7 - i]'(by omega),w)]))):=by
  obtain⟨f,x,c,e⟩:=v2.p
  exact⟨f.set _ (mr _),x,c,by rw[List.getElem?_set_ne (by omega)];exact e⟩
 have hl3:(S2.set a (.lst (l.map MT.inD++[MT.inD (ss[7 - i]'(by omega),w)]))).length=S1.length:=by rw[List.length_set,v2.len]
 have ho3:∀j,j < S.length→j≠k→(S2.set a (.lst (l.map MT.inD++[MT.inD (ss[7 - i]'(by omega),w)])))[j]? =S[j]?:=fun j hj hk=>by rw[List.getElem?_set_ne (by omega),v2.oth j hk];exact E.oth j hj hk
 generalize S2.set a (.lst (l.map MT.inD++[MT.inD (ss[7 - i]'(by omega),w)]))=S3 at eb3 ea3 p3 hl3 ho3
 refine bL (by simp only[List.length_cons,List.length_nil,List.length_set];omega) <| FP <| w_var (v:= .loc b) rfl <| dg (d:= .lst ((List.replicate w (i:Int)).map .int)) ?_ ⟨ks.map .int,(List.replicate w (i:Int)).map .int,by unfold yj dr;simp only[eb3],rfl,by rw[List.length_map,List.length_map,List.length_replicate];omega,_,rfl,S3.length,_,rfl,ss[7 - i]'(by omega),w,h1,by omega,?_⟩
 ·refine eO ?_
  rw[GX (n:=w) (ds:=[nI i]) (qf rfl (by simp;omega)) rfl (by omega) (by simp;omega)]
  unfold nI
  rw[Cn]
 ·have hE:=E.len
  refine⟨p3.push _,by rw[List.length_append];omega,fun j hj hk=>by rw[List.getElem?_append_left (by omega)];exact ho3 j hj hk,?_,?_,by omega⟩
  ·rw[List.getElem?_append_left (by omega),List.map_append];exact ea3
  ·rw[List.map_append];exact bM _ _
structure NS (k a b c:Nat) (l:List (Str × Nat)) (ks:List Int) (gs:List Gt) (S S1:aU):Prop where
 p:ph k S1
 len:S.length+3≤S1.length
 oth:∀j,j < S.length→j≠k→S1[j]? =S[j]?
 ea:S1[a]? =some (.lst (l.map MT.inD))
 eb:S1[b]? =some (.lst (ks.map .int))
 ec:S1[c]? =some (.lst (gs.map gR))
noncomputable def nE(mi ms:Int)(k a b c n:Nat)(cells:D)(ss:List Str)(a7 a8 a11 a12 a13:Option V3):DE:=[some (.loc k),some (.d cells),some (.d (.int mi)),some (.d (.int ms)),some (.d (.lst (ss.map .str))),some (.loc a),some (.loc b),a7,a8,some (.d (nI n)),some (.loc c),a11,a12,a13]
theorem Gn(g:Gt):k5 (gR g)=true:=by
 unfold gR k5 jC
 rw[show k5 (.str _)=true from by unfold k5;rfl]
 unfold jC
 rw[oa]
 unfold jC
 rw[show k5 (.bl _)=true from by unfold k5;rfl]
 unfold jC
 rfl
theorem ne_nil(gs:List Gt)(hg:∀g∈gs,l_ 100000 g):FJ (.lst (gs.map gR)) (.lst [])= .ok gs.isEmpty:=by
 have f:ky 4 (.lst (gs.map gR)):=ky.lst fun d hd=>by
  obtain⟨g,h,rfl⟩:=List.mem_map.mp hd
  have hk:=(hg g h).1
  refine ky.tup fun x hx=>?_
  simp only[List.mem_cons,List.not_mem_nil,or_false] at hx
  rcases hx with rfl | rfl | rfl
  ·refine(ky.str ?_).mono (by omega)
   match g.1,hk with
   | 0,_=>decide+kernel
   | 1,_=>decide+kernel
   | 2,_=>decide+kernel
   | 3,_=>decide+kernel
   | 4,_=>decide+kernel
  ·refine(ky.tup (n:=0) fun y hy=>?_).mono (by omega)
   obtain⟨z,_,rfl⟩:=List.mem_map.mp hy
   exact ky.int _
  ·exact(ky.bl _).mono (by omega)
 rw[GQ,f.pl,f.sh (by omega),(ky.lst (n:=0) (ds:=[]) (by simp)).pl,(ky.lst (n:=0) (ds:=[]) (by simp)).sh (by omega)]
 cases gs with
 | nil=>rfl
 | cons g gs=>rfl
theorem NS.push{k a b c:Nat}{l:List (Str × Nat)}{ks:List Int}{gs:List Gt}{S S1:aU}(E:NS k a b c l ks gs S S1)(M:List D):NS k a b c l ks gs S (S1++[.lst M]):=
 ⟨E.p.push M,by rw[List.length_append];have:=E.len;omega,fun j hj hk=>by rw[List.getElem?_append_left (by have:=E.len;omega)];exact E.oth j hj hk,
   by rw[List.getElem?_append_left (List.getElem?_eq_some_iff.mp E.ea).1];exact E.ea,by rw[List.getElem?_append_left (List.getElem?_eq_some_iff.mp E.eb).1];exact E.eb,by rw[List.getElem?_append_left (List.getElem?_eq_some_iff.mp E.ec).1];exact E.ec⟩
theorem NS.own{k a b c m:Nat}{l:List (Str × Nat)}{ks:List Int}{gs:List Gt}{S S1 S2:aU}(E:NS k a b c l ks gs S S1)(hm:S.length≤m)(hk:k < S.length)(ha:a≠m)(hb:b≠m)(hc:c≠m)(v:Ev m S1 S2):NS k a b c l ks gs S S2:=by
 obtain⟨f,x,y,e⟩:=E.p
 exact⟨⟨v.p.1,x,y,by rw[v.oth k (by omega)];exact e⟩,by rw[v.len];exact E.len,fun j hj hjk=>by rw[v.oth j (by omega)];exact E.oth j hj hjk,by rw[v.oth a ha];exact E.ea,by rw[v.oth b hb];exact E.eb,by rw[v.oth c hc];exact E.ec⟩
theorem NS.add{k a b c:Nat}{l:List (Str × Nat)}{ks:List Int}{gs:List Gt}{g:Gt}{x:Int}{S S1:aU}(E:NS k a b c l ks gs S S1)(hk:k < S.length)(hbS:S.length≤b)(hcS:S.length≤c)(hab:a≠b)(hac:a≠c)(hbc:b≠c) :
 NS k a b c l (ks++[x]) (gs++[g]) S ((S1.set c (.lst (gs.map gR++[gR g]))).set b (.lst (ks.map .int++[.int x]))):=by
 obtain⟨f,u,y,e⟩:=E.p
 refine⟨⟨(f.set _ (mr _)).set _ (mr _),u,y,by rw[List.getElem?_set_ne (by omega),List.getElem?_set_ne (by omega)];exact e⟩,by rw[List.length_set,List.length_set];exact E.len,fun j hj hjk=>by rw[List.getElem?_set_ne (by omega),List.getElem?_set_ne (by omega)];exact E.oth j hj hjk,
  by rw[List.getElem?_set_ne (Ne.symm hab),List.getElem?_set_ne (Ne.symm hac)];exact E.ea,?_,?_⟩
 ·rw[List.map_append];exact jB (x:= .lst (ks.map .int)) (by rw[List.getElem?_set_ne (Ne.symm hbc)];exact E.eb)
 ·rw[List.getElem?_set_ne hbc,List.map_append];exact jB E.ec
theorem Hq{S:aU}{δ:DE}{i j c p:Nat}{gs:List Gt}{g:Gt}(hi:δ[i]? =some (some (.loc c)))(hj:δ[j]? =some (some (.d (nI p))))(e:S[c]? =some (.lst (gs.map gR)))(hg:gs[p]? =some g):e2 cg (ae i) (ae j) (b3 S δ)= .ok (gR g):=by
 refine ay (a:= .lst (gs.map gR)) (b:=nI p) ?_ ?_ (JE hg)
 ·unfold ae b3
  rw[List.getElem?_map,hi]
  show(match some (match res S (.loc c) with | some d=>Sl.val d | none=> .un) with | some (.val d)=>R.ok d | _=> .no)=_
  rw[jo e]
 ·unfold ae b3
  rw[List.getElem?_map,hj]
  rfl
theorem BV{mi ms:Int}{S S1:aU}{k a b c n:Nat}{cells:D}{ss:List Str}{cell:Int}{a7 a8 a12 a13:Option V3}{l:List (Str × Nat)}{ks:List Int}{gs:List Gt}(hk:k < S.length)(haS:S.length≤a)(hbS:S.length≤b)(hcS:S.length≤c)(hab:a≠b)(hac:a≠c)(hbc:b≠c)
 (hn:0 < n) (hkn:ks.length=n+gs.length) (hks:ks.length < 10000) (hgs:∀(i:Nat) (g:Gt),gs[i]? =some g→l_ (n+i) g) (E:NS k a b c l ks gs S S1) :
 W3 (lx (nE mi ms k a b c n cells ss a7 a8 (some (.d (.int cell))) a12 a13) S1) fun o S2=>∃δ2,o= .nx δ2∧(∃b11 b12 b13,δ2=nE mi ms k a b c n cells ss a7 a8 b11 b12 b13)∧∃(g:Gt) (x:Int),l_ ks.length g∧(x=(ks.length:Int)+10∨∃pl g0,gs[pl]? =some g0∧x=ks.getD (n+pl) 0∧g.1=g0.1∧g.2.1.map (ks.getD · 0)=g0.2.1.map (ks.getD · 0))∧NS k a b c l (ks++[x]) (gs++[g]) S S2:=by
 have hz:sizeLine=16777216:=sizeLine_eq
 have hgl:gs.length < 10000:=by omega
 have la:a < S1.length:=(List.getElem?_eq_some_iff.mp E.ea).1
 have lb:b < S1.length:=(List.getElem?_eq_some_iff.mp E.eb).1
 have lc:c < S1.length:=(List.getElem?_eq_some_iff.mp E.ec).1
 have hE:=E.len
 unfold lx nE
 refine bc <| bL (by simp only[List.length_cons,List.length_nil,List.length_set];omega) <| eK <| aJ <| dg (d:= .int cell) rfl <| cX <| uS cell E.p.1 fun S2 p2 l2 o2=>⟨_,rfl,?_⟩
 simp only[List.set_cons_succ,List.set_cons_zero]
 have E2:NS k a b c l ks gs S S2:=by
  obtain⟨f,u,y,e⟩:=E.p
  exact⟨⟨p2.1,u,y,by rw[o2 k (by omega)];exact e⟩,by omega,fun j hj hjk=>by rw[o2 j (by omega)];exact E.oth j hj hjk,by rw[o2 a la];exact E.ea,by rw[o2 b lb];exact E.eb,by rw[o2 c lc];exact E.ec⟩
 have hmS:S.length≤S1.length:=by omega
 have ha:a≠S1.length:=by omega
 have hb:b≠S1.length:=by omega
 have hc:c≠S1.length:=by omega
 generalize S1.length=m at p2 l2 o2 hmS ha hb hc
 have gate:∀(S3:aU),NS k a b c l ks gs S S3→ph m S3→∀(a13':Option V3),W3 (bG (j4 10 (b_ gg (ax (bO 12) (ax (bO 6) (ax (xP (ae 3)) cw))))) (j4 6 (xT (e2 eG (aG cP (aq (ae 6) aD)) (eC (.int 10)))))
  [some (.loc k),some (.d cells),some (.d (.int mi)),some (.d (.int ms)),some (.d (.lst (ss.map .str))),some (.loc a),some (.loc b),a7,a8,some (.d (nI n)),some (.loc c),some (.d (.int cell)),some (.loc m),a13'] S3)
  fun o S4=>∃δ2,o= .nx δ2∧(∃b11 b12 b13,δ2=nE mi ms k a b c n cells ss a7 a8 b11 b12 b13)∧∃(g:Gt) (x:Int),l_ ks.length g∧(x=(ks.length:Int)+10∨∃pl g0,gs[pl]? =some g0∧x=ks.getD (n+pl) 0∧g.1=g0.1∧g.2.1.map (ks.getD · 0)=g0.2.1.map (ks.getD · 0))∧NS k a b c l (ks++[x]) (gs++[g]) S S4:=fun S3 E3 p3 a13'=>by
  refine bc <| j2 (k:=c) rfl ⟨_,E3.ec⟩ <| eK <| aJ <| w_var (v:= .loc m) rfl <| aJ <| w_var (v:= .loc b) rfl <| aJ <| dg (d:= .int ms) rfl <| cX <| zN (k:=m) p3 hb E3.eb (by omega) hks fun g S4 hg v4=>?_
  have E4:=E3.own hmS hk ha hb hc v4
  refine⟨gR g,_,rfl,E4.ec,by rw[List.length_map];omega,_,rfl,?_⟩
  have eb5:(S4.set c (.lst (gs.map gR++[gR g])))[b]? =some (.lst (ks.map .int)):=by rw[List.getElem?_set_ne (Ne.symm hbc)];exact E4.eb
  refine j2 (k:=b) rfl ⟨_,eb5⟩ (uY (d:= .int ((ks.length:Int)+10)) (ay (a:= .int ks.length) (b:= .int 10) (jE eb5 rfl) rfl rfl) rfl ⟨_,_,rfl,eb5,by rw[List.length_map];omega,_,rfl,⟨_,_,_,rfl⟩,g,(ks.length:Int)+10,hg, .inl rfl,E4.add hk hbS hcS hab hac hbc⟩)
 have hT:∀{S3:aU},NS k a b c l ks gs S S3→bT (b2 sV (ae 10) (eNew (dX aD))) [some (.loc k),some (.d cells),some (.d (.int mi)),some (.d (.int ms)),some (.d (.lst (ss.map .str))),some (.loc a),some (.loc b),a7,a8,some (.d (nI n)),some (.loc c),some (.d (.int cell)),some (.loc m),a13] S3= .ok (!gs.isEmpty) S3:=fun {S3} E3=>by
  unfold bT
  have:b2 sV (ae 10) (eNew (dX aD)) (b3 S3 [some (.loc k),some (.d cells),some (.d (.int mi)),some (.d (.int ms)),some (.d (.lst (ss.map .str))),some (.loc a),some (.loc b),a7,a8,some (.d (nI n)),some (.loc c),some (.d (.int cell)),some (.loc m),a13])= .ok (!gs.isEmpty):=by
   refine fJ (a:= .lst (gs.map gR)) (b:= .lst []) ?_ rfl ?_
   ·unfold ae b3
    show(match some (match res S3 (.loc c) with | some d=>Sl.val d | none=> .un) with | some (.val d)=>R.ok d | _=> .no)=_
    rw[jo E3.ec]
   ·unfold sV
    rw[ne_nil gs fun g hg=>?_]
    ·rfl
    ·obtain⟨i,hi⟩:=List.getElem?_of_mem hg
     obtain⟨g1,g2,g3⟩:=hgs i g hi
     have hil:=(List.getElem?_eq_some_iff.mp hi).1
     exact⟨g1,g2,fun w hw=>by have:=g3 w hw;omega⟩
  rw[this];rfl
 refine rA ?_
 unfold HM
 refine W3.bind (W3.eq (hT E2) ?_)
 cases hgs0:gs with
 | nil=>
   subst hgs0
   exact W3.ok (gate S2 E2 p2 a13)
 | cons g0 gs0=>
   rw[←hgs0]
   have hne:gs.isEmpty=false:=by rw[hgs0];rfl
   have hpos:0 < gs.length:=by rw[hgs0];simp
   rw[hne]
   show W3 (JR _ _ _ _ S2) _
   refine K2 <| draw (k:=m) rfl p2 rfl (by omega) (by omega) fun r S3 h1 h2 v3=>dg (d:= .int 0) rfl ⟨_,_,decide (r=0),rfl,rfl,rfl,?_⟩
   have E3:=E2.own hmS hk ha hb hc v3
   by_cases hr:r=0
   ·rw[decide_eq_true hr,if_pos rfl]
    have lenG:aG cP (aq (ae 10) aD) (b3 S3 [some (.loc k),some (.d cells),some (.d (.int mi)),some (.d (.int ms)),some (.d (.lst (ss.map .str))),some (.loc a),some (.loc b),a7,a8,some (.d (nI n)),some (.loc c),some (.d (.int cell)),some (.loc m),a13])= .ok (.int gs.length):=by
     refine aR (ds:=[.lst (gs.map gR)]) (aW ?_ rfl) (by rw[ma,List.length_map])
     unfold ae b3
     show(match some (match res S3 (.loc c) with | some d=>Sl.val d | none=> .un) with | some (.val d)=>R.ok d | _=> .no)=_
     rw[jo E3.ec]
    refine bc <| bL (by simp only[List.length_cons,List.length_nil,List.length_set];omega) <| zA (k:=m) rfl v3.p lenG (by omega) (by omega) fun r4 S4 h3 h4 v4=>⟨_,rfl,?_⟩
    simp only[List.set_cons_succ,List.set_cons_zero]
    have E4:=E3.own hmS hk ha hb hc v4
    obtain⟨pl,hpl,epl⟩:∃pl:Nat,pl < gs.length∧D.int r4=nI pl:=⟨r4.toNat,by omega,by unfold nI;rw [Int.toNat_of_nonneg h3]⟩
    rw[epl]
    have hg4:gs[pl]? =some gs[pl]:=List.getElem?_eq_getElem hpl
    obtain⟨q1,q2,q3⟩:=hgs pl _ hg4
    have hgo:l_ ks.length gs[pl]:=⟨q1,q2,fun w hw=>by have:=q3 w hw;omega⟩
    refine bc <| j2 (k:=c) rfl ⟨_,E4.ec⟩ <| eK <| aJ <| w_var (v:= .loc m) rfl <| aJ <| uY (d:=gR gs[pl]) (Hq rfl rfl E4.ec hg4) (Gn _) <| aJ <| w_var (v:= .loc b) rfl <| cX <| yf (k:=m) v4.p hb E4.eb hgo hks fun g S5 hg hg1 hgk v5=>?_
    have E5:=E4.own hmS hk ha hb hc v5
    refine⟨gR g,_,rfl,E5.ec,by rw[List.length_map];omega,_,rfl,?_⟩
    have eb6:(S5.set c (.lst (gs.map gR++[gR g])))[b]? =some (.lst (ks.map .int)):=by rw[List.getElem?_set_ne (Ne.symm hbc)];exact E5.eb
    have hix:n+pl < ks.length:=by omega
    refine j2 (k:=b) rfl ⟨_,eb6⟩ (uY (d:= .int ks[n+pl]) ?_ rfl ⟨_,_,rfl,eb6,by rw[List.length_map];omega,_,rfl,⟨_,_,_,rfl⟩,g,ks[n+pl],hg, .inr ⟨pl,_,hg4,by rw[List.getD_eq_getElem?_getD,List.getElem?_eq_getElem hix];rfl,hg1,hgk⟩,E5.add hk hbS hcS hab hac hbc⟩)
    refine ay (a:= .lst (ks.map .int)) (b:=nI (n+pl)) ?_ (ay (a:=nI n) (b:=nI pl) rfl rfl ?_) (B8 hix)
    ·unfold ae b3
     show(match some (match res (S5.set c (.lst (gs.map gR++[gR g]))) (.loc b) with | some d=>Sl.val d | none=> .un) with | some (.val d)=>R.ok d | _=> .no)=_
     rw[jo eb6]
    ·show R.ok (D.int ((n:Int)+(pl:Int)))=R.ok (D.int ((n+pl:Nat):Int))
     rw[Int.natCast_add]
   ·rw[decide_eq_false hr,if_neg (by decide)]
    exact gate S3 E3 v3.p a13
end K14
end
section
set_option maxRecDepth 100000
set_option maxHeartbeats 4000000
namespace K14
open PySem PySem.Spec PyProof.Rows L2 L3 MT
noncomputable def pv(l:List (Str × Nat))(gs:List Gt)(ms:List M)(p n:Nat):Bool:=iC (j7 gs [] (cu l ms [] l.length) gs.length) n p
theorem qr{gs:List Gt}{t:List Int}{w0:List M}{n:Nat}:∀{j i:Nat},i≤j→j≤gs.length→n < w0.length+i→iC (j7 gs t w0 j) n=iC (j7 gs t w0 i) n
 | 0,i,h,_,_=>by rw[show i=0 by omega]
 | j+1,i,h,hj,hn=>by
   by_cases q:i=j+1
   ·rw[q]
   ·rw[←qr (j:=j) (i:=i) (by omega) (by omega) hn]
    conv=>lhs;unfold j7
    rw[List.getElem?_eq_getElem (by omega:j < gs.length)]
    show iC (j7 gs t w0 j++[_]) n=_
    rw[qd (by rw[l6 j (by omega)];omega)]
theorem zc{gs hs:List Gt}{t:List Int}{w0:List M}:∀i,i≤gs.length→j7 (gs++hs) t w0 i=j7 gs t w0 i
 | 0,_=>rfl
 | i+1,hi=>by
   unfold j7
   rw[List.getElem?_append_left (by omega),List.getElem?_eq_getElem (by omega:i < gs.length),zc i (by omega)]
theorem vg{l:List (Str × Nat)}{x:Str × Nat}{ms:List M}{bad:List Int}:∀i,i≤l.length→cu (l++[x]) ms bad i=cu l ms bad i
 | 0,_=>rfl
 | i+1,hi=>by
   unfold cu
   rw[List.getElem?_append_left (by omega),vg i (by omega)]
theorem sP{l:List (Str × Nat)}{ms:List M}{bad:List Int}(hb:l.length≤ms.length):∀i,i≤l.length→(cu l ms bad i).length=jh (l.take i)
 | 0,_=>rfl
 | i+1,hi=>by
   have h1:l[i]? =some l[i]:=List.getElem?_eq_getElem (by omega)
   have h2:ms[i]? =some ms[i]:=List.getElem?_eq_getElem (by omega)
   unfold cu
   rw[h1,h2]
   show(fK bad ms[i] l[i].2 (cu l ms bad i)).length=_
   rw[f_,sP hb i (by omega),List.take_add_one,h1]
   unfold jh
   simp only[Option.toList_some,List.map_append,List.sum_append,List.map_cons,List.map_nil,List.sum_cons,List.sum_nil]
   omega
theorem tj(b:M):∀m ws n,n < ws.length→iC (fK [] b m ws) n=iC ws n
 | 0,ws,n,h=>rfl
 | m+1,ws,n,h=>by unfold fK;rw [qd (by rw[f_];omega)];exact tj b m ws n h
theorem tP(b:M):∀m ws n,ws.length≤n→n < ws.length+m→iC (fK [] b m ws) n=b
 | 0,ws,n,h,h2=>by omega
 | m+1,ws,n,h,h2=>by
   have hl:=f_ [] b m ws
   unfold fK
   by_cases q:n < ws.length+m
   ·rw[qd (by omega)];exact tP b m ws n h q
   ·rw[show n=(fK [] b m ws).length by omega,qS]
    funext p
    simp
structure D4 (l:List (Str × Nat)) (ks:List Int):Prop where
 len:ks.length=jh l
 v:∀n,n < ks.length→∃j:Nat,j < l.length∧ks.getD n 0=(j:Int)∧∀ms:List M,l.length≤ms.length→iC (cu l ms [] l.length) n=ms.getD j fun _=>false
theorem D4.nil:D4 [] []:=⟨rfl,fun n h=>by simp at h⟩
theorem jP{ks:List Int}{xs:List Int}{n:Nat}(h:n < ks.length):(ks++xs).getD n 0=ks.getD n 0:=by rw[List.getD_eq_getElem?_getD,List.getElem?_append_left h,List.getD_eq_getElem?_getD]
theorem D4.add{l:List (Str × Nat)}{ks:List Int}(h:D4 l ks)(s:Str)(w:Nat):D4 (l++[(s,w)]) (ks++List.replicate w (l.length:Int)):=by
 have hw:jh (l++[(s,w)])=jh l+w:=by simp [jh]
 refine⟨by rw[List.length_append,List.length_replicate,h.len,hw],fun n hn=>?_⟩
 rw[List.length_append,List.length_replicate] at hn
 have step:∀ms:List M,(l++[(s,w)]).length≤ms.length→cu (l++[(s,w)]) ms [] (l++[(s,w)]).length=fK [] (ms.getD l.length fun _=>false) w (cu l ms [] l.length)∧(cu l ms [] l.length).length=ks.length:=fun ms hms=>by
  rw[List.length_append] at hms ⊢
  have hms:l.length < ms.length:=hms
  refine⟨?_,by rw[sP (by omega) _ (Nat.le_refl _),List.take_length,h.len]⟩
  show cu (l++[(s,w)]) ms [] (l.length+1)=_
  conv=>lhs;unfold cu
  rw[List.getElem?_append_right (Nat.le_refl _),Nat.sub_self,List.getElem?_eq_getElem hms,vg _ (Nat.le_refl _),List.getD_eq_getElem?_getD,List.getElem?_eq_getElem hms]
  rfl
 by_cases q:n < ks.length
 ·obtain⟨j,hj,hk,hv⟩:=h.v n q
  refine⟨j,by rw[List.length_append];omega,by rw[jP q];exact hk,fun ms hms=>?_⟩
  obtain⟨e1,e2⟩:=step ms hms
  rw[e1,tj _ _ _ _ (by omega)]
  exact hv ms (by rw[List.length_append] at hms;omega)
 ·refine⟨l.length,by rw[List.length_append];simp,?_,fun ms hms=>?_⟩
  ·rw[List.getD_eq_getElem?_getD,List.getElem?_append_right (by omega),List.getElem?_replicate,if_pos (by omega)];rfl
  ·obtain⟨e1,e2⟩:=step ms hms
   rw[e1,tP _ _ _ _ (by omega) (by omega)]
structure KI (l:List (Str × Nat)) (gs:List Gt) (ks:List Int):Prop where
 len:ks.length=jh l+gs.length
 b:∀n,n < ks.length→ks.getD n 0 < (ks.length:Int)+10
 v:∀ms:List M,ms.length=l.length→∀p n n',n < ks.length→n' < ks.length→ks.getD n 0=ks.getD n' 0→pv l gs ms p n=pv l gs ms p n'
theorem D4.ki{l:List (Str × Nat)}{ks:List Int}(h:D4 l ks)(hl:l.length≤9):KI l [] ks:=by
 refine⟨by rw[h.len];rfl,fun n hn=>?_,fun ms hms p n n' hn hn' e=>?_⟩
 ·obtain⟨j,hj,hk,_⟩:=h.v n hn
  rw[hk];omega
 ·obtain⟨j,hj,hk,hv⟩:=h.v n hn
  obtain⟨j',hj',hk',hv'⟩:=h.v n' hn'
  have:j=j':=by rw[hk,hk'] at e;omega
  subst this
  show iC (cu l ms [] l.length) n p=iC (cu l ms [] l.length) n' p
  rw[hv ms (by omega),hv' ms (by omega)]
section
variable {l:List (Str × Nat)} {gs:List Gt} {g:Gt} {ms:List M} {p n:Nat} {ks:List Int}
theorem BO(hms:ms.length=l.length):(cu l ms [] l.length).length=jh l:=by rw[jY hms _ (Nat.le_refl _),List.take_length]
theorem BE(hms:ms.length=l.length)(hn:n < jh l+gs.length):pv l (gs++[g]) ms p n=pv l gs ms p n:=by
 have h0:=BO hms
 unfold pv
 rw[qr (gs:=gs++[g]) (i:=gs.length) (by rw[List.length_append];omega) (Nat.le_refl _) (by omega),zc _ (Nat.le_refl _)]
theorem F4{i:Nat}(hms:ms.length=l.length)(h:gs[i]? =some g)(hg:l_ (jh l+i) g):pv l gs ms p (jh l+i)=gv g.1 (g.2.1.map (pv l gs ms p)):=by
 have h0:=BO hms
 have hi:=(List.getElem?_eq_some_iff.mp h).1
 unfold pv
 rw[qr (i:=i+1) (by omega) (Nat.le_refl _) (by omega)]
 conv=>lhs;unfold j7
 rw[h]
 show iC (j7 gs [] (cu l ms [] l.length) i++[fun p=>gF g (j7 gs [] (cu l ms [] l.length) i) p !=false]) (jh l+i) p=_
 have hl:=l6 (gs:=gs) (turned:=[]) (w0:=cu l ms [] l.length) i (by omega)
 rw[show jh l+i=(j7 gs [] (cu l ms [] l.length) i).length by omega,qS]
 show(gv g.1 (g.2.1.map fun n=>iC (j7 gs [] (cu l ms [] l.length) i) n p) !=false)=_
 have:g.2.1.map (fun n=>iC (j7 gs [] (cu l ms [] l.length) i) n p)=g.2.1.map fun n=>iC (j7 gs [] (cu l ms [] l.length) gs.length) n p:=List.map_congr_left fun z hz=>by
  rw[qr (j:=gs.length) (i:=i) (by omega) (Nat.le_refl _) (by have:=hg.2.2 z hz;omega)]
 rw[this]
 simp
theorem Ce{f:Nat→Bool}{ks:List Int}{N:Nat}(hf:∀a b,a < N→b < N→ks.getD a 0=ks.getD b 0→f a=f b):∀{u v:List Nat},(∀x∈u,x < N)→(∀x∈v,x < N)→u.map (ks.getD · 0)=v.map (ks.getD · 0)→u.map f=v.map f
 | [],[],_,_,_=>rfl
 | [],_ ::_,_,_,h=>by simp at h
 | _ ::_,[],_,_,h=>by simp at h
 | a ::u,b ::v,h1,h2,h=>by
   rw[List.map_cons,List.map_cons] at h
   obtain⟨e1,e2⟩:=List.cons.inj h
   rw[List.map_cons,List.map_cons,hf a b (h1 a List.mem_cons_self) (h2 b List.mem_cons_self) e1,Ce hf (fun x hx=>h1 x (List.mem_cons_of_mem _ hx)) (fun x hx=>h2 x (List.mem_cons_of_mem _ hx)) e2]
theorem KI.add{x:Int}(h:KI l gs ks)(hgs:∀(i:Nat) (g:Gt),gs[i]? =some g→l_ (jh l+i) g)(hg:l_ ks.length g)
 (hx:x=(ks.length:Int)+10∨∃pl g0,gs[pl]? =some g0∧x=ks.getD (jh l+pl) 0∧g.1=g0.1∧g.2.1.map (ks.getD · 0)=g0.2.1.map (ks.getD · 0)):KI l (gs++[g]) (ks++[x]):=by
 have hl:=h.len
 have hlast:(ks++[x]).getD ks.length 0=x:=by rw[List.getD_eq_getElem?_getD,List.getElem?_append_right (Nat.le_refl _),Nat.sub_self];rfl
 have hll:(ks++[x]).length=ks.length+1:=by simp
 refine⟨by rw[hll,hl,List.length_append];rfl,fun n hn=>?_,?_⟩
 ·rw[hll] at hn ⊢
  by_cases q:n < ks.length
  ·rw[jP q];have:=h.b n q;omega
  ·rw[show n=ks.length by omega,hlast]
   rcases hx with rfl | ⟨pl,g0,h0,rfl,_⟩
   ·omega
   ·have:=h.b (jh l+pl) (by have:=(List.getElem?_eq_some_iff.mp h0).1;omega);omega
 ·intro ms hms p
  have new:∀pl g0,gs[pl]? =some g0→x=ks.getD (jh l+pl) 0→g.1=g0.1→g.2.1.map (ks.getD · 0)=g0.2.1.map (ks.getD · 0)→pv l (gs++[g]) ms p ks.length=pv l gs ms p (jh l+pl):=fun pl g0 h0 _ e1 e2=>by
   have hpl:=(List.getElem?_eq_some_iff.mp h0).1
   have hgat:(gs++[g])[gs.length]? =some g:=by rw[List.getElem?_append_right (Nat.le_refl _),Nat.sub_self];rfl
   rw[hl,F4 hms hgat (by rw[←hl];exact hg),F4 hms h0 (hgs pl g0 h0),e1]
   have e3:g.2.1.map (pv l (gs++[g]) ms p)=g.2.1.map (pv l gs ms p):=List.map_congr_left fun z hz=>BE hms (by have:=hg.2.2 z hz;omega)
   rw[e3]
   congr 1
   exact Ce (N:=ks.length) (fun a b ha hb e=>h.v ms hms p a b ha hb e) hg.2.2 (fun z hz=>by have:=(hgs pl g0 h0).2.2 z hz;omega) e2
  have old:∀n,n < ks.length→pv l (gs++[g]) ms p n=pv l gs ms p n:=fun n hn=>BE hms (by omega)
  have mix:∀n,n < ks.length→ks.getD n 0=x→pv l (gs++[g]) ms p n=pv l (gs++[g]) ms p ks.length:=fun n hn e=>by
   rcases hx with rfl | ⟨pl,g0,h0,hx,e1,e2⟩
   ·have:=h.b n hn;omega
   ·rw[new pl g0 h0 hx e1 e2,old n hn]
    exact h.v ms hms p n _ hn (by have:=(List.getElem?_eq_some_iff.mp h0).1;omega) (e.trans hx)
  intro n n' hn hn' e
  rw[hll] at hn hn'
  by_cases q:n < ks.length
  ·rw[jP q] at e
   by_cases q':n' < ks.length
   ·rw[jP q'] at e
    rw[old n q,old n' q']
    exact h.v ms hms p n n' q q' e
   ·have en':n'=ks.length:=by omega
    subst en'
    rw[hlast] at e
    exact mix n q e
  ·have en:n=ks.length:=by omega
   subst en
   by_cases q':n' < ks.length
   ·rw[jP q',hlast] at e
    exact(mix n' q' e.symm).symm
   ·rw[show n'=ks.length by omega]
end
end K14
end
section
set_option maxRecDepth 100000
set_option maxHeartbeats 4000000
namespace K14
open PySem PySem.Spec PyProof.Rows L2 L3 MT
theorem BH{mi ms:Int}{S:aU}{k:Nat}{cs:List Int}(p:ph k S)(hcs:cs.length < 1000)(hmi:1≤mi∧mi≤6){Q:V3→aU→Prop}
 (h:∀(l:List (Str × Nat)) (gs:List Gt) (os:List (Str × List Nat)) S1,(∀x∈l,1≤x.2∧x.2≤3)→1≤l.length→l.length≤6→gs.length=cs.length→(∀(i:Nat) (g:Gt),gs[i]? =some g→l_ (jh l+i) g)→1≤os.length→os.length < 100→(∀x∈os,(1≤x.2.length∧x.2.length≤3)∧(∀w∈x.2,w < jh l+gs.length)∧∀a b,x.2=[a,b]→∀ms,ms.length=l.length→∀p,pv l gs ms p a=pv l gs ms p b)→Ev k S S1→Q (.d (bK l gs os)) S1) :
 W3 (kI [.loc k, .d (.lst (cs.map .int)), .d (.int mi), .d (.int ms)] S) Q:=by
 have hz:sizeLine=16777216:=sizeLine_eq
 have hk:=p.lt
 unfold kI
 refine qY (uB rfl ?_)
 simp only[bS,lS,List.map_cons,List.map_nil,List.length_cons,List.length_nil,List.replicate,List.cons_append,List.nil_append,Nat.reduceAdd,Nat.reduceSub]
 unfold oM
 refine bc <| bL (by simp only[List.length_cons,List.length_nil,List.length_set];omega) <| eK <| aJ <| w_var (v:= .loc k) rfl <| aJ <| dg (d:= .int 8) rfl <| cX <| Bx (m:=8) p (by omega) fun ss S1 hss v1=>⟨_,rfl,?_⟩
 simp only[List.set_cons_succ,List.set_cons_zero]
 have l1:=v1.len
 refine bc <| bL (by simp only[List.length_cons,List.length_nil,List.length_set];omega) <| kO (ds:=[]) rfl ⟨_,rfl,?_⟩
 simp only[List.set_cons_succ,List.set_cons_zero]
 refine bc <| bL (by simp only[List.length_cons,List.length_nil,List.length_set];omega) <| kO (ds:=[]) rfl ⟨_,rfl,?_⟩
 simp only[List.set_cons_succ,List.set_cons_zero]
 rw[l1,show(S1++[SO.lst []]).length=S.length+1 by simp [l1]]
 have E0:IS k S.length (S.length+1) [] [] S (S1++[.lst []]++[.lst []]):=by
  refine⟨(v1.p.push []).push [],by simp [l1],fun j hj hk=>by rw[List.getElem?_append_left (by simp;omega),List.getElem?_append_left (by omega)];exact v1.oth j hk,?_,?_,by omega⟩
  ·rw[List.getElem?_append_left (by simp;omega),←l1];exact bM _ _
  ·have:=bM (S1++[SO.lst []]) (SO.lst [])
   rw[show(S1++[SO.lst []]).length=S.length+1 by simp [l1]] at this
   exact this
 refine bc <| fR <| oH <| EM <| dg (d:= .int 1) rfl <| draw (k:=k) rfl E0.p rfl (by omega) (by omega) fun r S2 h1 h2 v2=>⟨_,_, .int ((1+r).toNat:Nat),rfl,rfl,by rw[Int.toNat_of_nonneg (by omega)];rfl,(1+r).toNat,rfl,by omega,?_⟩
 have E2:IS k S.length (S.length+1) [] [] S S2:=⟨v2.p,by rw[v2.len];exact E0.len,fun j hj hk=>(v2.oth j hk).trans (E0.oth j hj hk),by rw[v2.oth _ (by omega)];exact E0.ea,by rw[v2.oth _ (by omega)];exact E0.eb,by omega⟩
 refine(cT (fun i δ S3=>∃b a7 a8,δ=iE mi ms k S.length b (.lst (cs.map .int)) ss a7 a8∧∃(l:List (Str × Nat)) (ks:List Int),l.length=i∧(∀x∈l,1≤x.2∧x.2≤3)∧ks.length=jh l∧jh l≤3*i∧i≤jh l∧D4 l ks∧IS k S.length b l ks S S3)
  ⟨S.length+1,_,_,rfl,[],[],rfl,by simp,rfl,by simp [jh],by omega,D4.nil,E2⟩ ?_).mono fun o S3 ⟨δ3,e3,b,a7,a8,hδ,l,ks,hl,hlw,hks,hw3,hw1,hKn,E3⟩=>⟨δ3,e3,?_⟩
 ·rintro i v δ S3 hv ⟨b,a7,a8,rfl,l,ks,hl,hlw,hks,hw3,hw1,hKn,E3⟩
  rw[List.getElem?_map] at hv
  cases qq:(bQ 0 (1+r).toNat)[i]? with
  | none=>rw [qq] at hv;cases hv
  | some d0=>
    rw[qq] at hv
    obtain⟨hi,rfl⟩:=jF qq
    cases hv
    refine⟨iE mi ms k S.length b (.lst (cs.map .int)) ss (some (.d (nI i))) a8,rfl,?_⟩
    refine(Ef hk rfl hss (by omega) (by omega) (by omega) E3).mono fun o S4 ⟨δ4,e4,b',a8',h4,s,w,hw1',hw3',E4⟩=>⟨δ4,e4,b',_,a8',h4,l++[(s,w)],ks++List.replicate w (i:Int),by simp [hl],?_,?_,?_,?_,by rw[←hl];exact hKn.add s w,E4⟩
    ·intro x hx
     rcases List.mem_append.mp hx with z | z
     ·exact hlw x z
     ·rw[List.mem_singleton] at z;subst z;exact⟨hw1',hw3'⟩
    ·rw[List.length_append,List.length_replicate,hks];simp [jh]
    ·have:jh (l++[(s,w)])=jh l+w:=by simp [jh]
     omega
    ·have:jh (l++[(s,w)])=jh l+w:=by simp [jh]
     omega
 have hrl:((bQ 0 (1+r).toNat).map V3.d).length=(1+r).toNat:=by simp [bQ]
 rw[hrl] at hl hw3 hw1
 subst hδ
 unfold iE
 refine bc <| bL (by simp only[List.length_cons,List.length_nil,List.length_set];omega) <| uY (d:=nI (jh l)) ?_ rfl ⟨_,rfl,?_⟩
 ·refine(jE E3.eb rfl).trans ?_
  rw[hks];rfl
 simp only[List.set_cons_succ,List.set_cons_zero]
 refine bc <| bL (by simp only[List.length_cons,List.length_nil,List.length_set];omega) <| kO (ds:=[]) rfl ⟨_,rfl,?_⟩
 simp only[List.set_cons_succ,List.set_cons_zero]
 have hE3:=E3.len
 have la:S.length < S3.length:=(List.getElem?_eq_some_iff.mp E3.ea).1
 have lb:b < S3.length:=(List.getElem?_eq_some_iff.mp E3.eb).1
 have hbS:=E3.hb
 have N0:NS k S.length b S3.length l ks ([]:List Gt) S (S3++[.lst []]):=⟨E3.p.push [],by simp;omega,fun j hj hk=>by rw[List.getElem?_append_left (by omega)];exact E3.oth j hj hk,by rw[List.getElem?_append_left la];exact E3.ea,by rw[List.getElem?_append_left lb];exact E3.eb,bM _ _⟩
 refine bc <| fR <| k3 (ds:=cs.map .int) rfl ?_
 refine(cT (fun i δ S4=>(∃b11 b12 b13,δ=nE mi ms k S.length b S3.length (jh l) (.lst (cs.map .int)) ss a7 a8 b11 b12 b13)∧∃(ks:List Int) (gs:List Gt),gs.length=i∧ks.length=jh l+gs.length∧(∀(i:Nat) (g:Gt),gs[i]? =some g→l_ (jh l+i) g)∧KI l gs ks∧NS k S.length b S3.length l ks gs S S4)
  ⟨⟨_,_,_,rfl⟩,ks,[],rfl,by simp [hks],by simp,hKn.ki (by omega),N0⟩ ?_).mono fun o S4 ⟨δ4,e4,⟨b11,b12,b13,hδ⟩,ks,gs,hgl,hkn,hgs,hKI,N4⟩=>⟨δ4,e4,?_⟩
 ·rintro i v δ S4 hv ⟨⟨b11,b12,b13,rfl⟩,ks,gs,hgl,hkn,hgs,hKI,N4⟩
  have hi:i < 1000:=by
   have:=(List.getElem?_eq_some_iff.mp hv).1
   rw[List.length_map,List.length_map] at this
   omega
  obtain⟨d0,hd0,rfl⟩:=List.mem_map.mp (List.mem_of_getElem? hv)
  obtain⟨c,_,rfl⟩:=List.mem_map.mp hd0
  refine⟨nE mi ms k S.length b S3.length (jh l) (.lst (cs.map .int)) ss a7 a8 (some (.d (.int c))) b12 b13,rfl,?_⟩
  refine(BV hk (by omega) (by omega) (by omega) (by omega) (by omega) (by omega) (by omega) hkn (by omega) hgs N4).mono fun o S5 ⟨δ5,e5,h5,g,x,hg,hgx,N5⟩=>⟨δ5,e5,h5,ks++[x],gs++[g],by simp [hgl],by simp [hkn];omega,?_,hKI.add hgs hg hgx,N5⟩
  intro j g' hj
  by_cases hjl:j < gs.length
  ·rw[List.getElem?_append_left hjl] at hj;exact hgs j g' hj
  ·rw[List.getElem?_append_right (by omega)] at hj
   have h0:j - gs.length=0:=by
    have:=(List.getElem?_eq_some_iff.mp hj).1
    simp at this;omega
   rw[h0] at hj
   cases hj
   rw[show jh l+j=ks.length by omega]
   exact hg
 rw[List.length_map,List.length_map] at hgl
 subst hδ
 unfold nE
 refine eW <| yI <| aJ <| w_var (v:= .loc S.length) rfl <| aJ <| w_var (v:= .loc S3.length) rfl <| aJ <| eK <| aJ <| w_var (v:= .loc k) rfl <| aJ <| w_var (v:= .loc b) rfl <| aJ <| dg (d:= .lst (ss.map .str)) rfl <| aJ <| dg (d:= .int 6) rfl <| cX <| An N4.p (by omega) N4.eb (by omega) (by omega) hss fun os S5 hol1 hol hos v5=>cX ⟨by simp;omega,_,rfl,?_⟩
 have ea5:S5[S.length]? =some (.lst (l.map MT.inD)):=by rw[v5.oth _ (by omega)];exact N4.ea
 have ec5:S5[S3.length]? =some (.lst (gs.map gR)):=by rw[v5.oth _ (by omega)];exact N4.ec
 have hl5:=v5.len
 have hN4:=N4.len
 refine⟨v5.p.1,?_,bK l gs os,?_,?_⟩
 ·show eI S.length (.tup [.loc S.length, .loc S3.length, .d (.lst (os.map xj))])=true
  simp [eI,om];omega
 ·show res S5 (.tup [.loc S.length, .loc S3.length, .d (.lst (os.map xj))])=_
  simp [res,nu,ea5,ec5,bK]
 ·refine h l gs os _ hlw (by omega) (by omega) (by omega) hgs hol1 hol (fun x hx=>⟨(hos x hx).1,by have:=(hos x hx).2.1;rw [hkn] at this;exact this,fun a b hab ms hms p=>hKI.v ms hms p a b ((hos x hx).2.1 a (by rw[hab];simp)) ((hos x hx).2.1 b (by rw[hab];simp)) ((hos x hx).2.2 a b hab)⟩) ⟨⟨v5.p.1.take _,?_⟩,by rw[List.length_take];omega,fun j hj=>?_⟩
  ·obtain⟨_,x,c,e⟩:=v5.p
   exact⟨x,c,by rw[List.getElem?_take_of_lt hk];exact e⟩
  ·by_cases hjl:j < S.length
   ·rw[List.getElem?_take_of_lt hjl,v5.oth j hj,N4.oth j hjl hj]
   ·rw[List.getElem?_eq_none (by rw[List.length_take];omega),List.getElem?_eq_none (by omega)]
end K14
end
section
set_option maxRecDepth 100000
set_option maxHeartbeats 4000000
namespace K14
open PySem PySem.Spec PyProof.Rows L2 L3 MT
noncomputable abbrev f0:M:=fun _=>false
theorem B7{ws:List M}{b:M}{n:Nat}:iC (ws++[b]) n=if n < ws.length then iC ws n else if n=ws.length then b else f0:=by
 by_cases q:n < ws.length
 ·rw[if_pos q,qd q]
 ·rw[if_neg q]
  by_cases r:n=ws.length
  ·rw[if_pos r,r,qS]
  ·rw[if_neg r]
   unfold iC
   rw[List.getD_eq_getElem?_getD,List.getElem?_eq_none (by simp;omega)];rfl
section
variable {ins:List (Str × Nat)} {gs:List Gt} {ms ms':List M} {t bad:List Int} {p q:Nat}
noncomputable def wy(p q:Nat)(ws ws':List M):Prop:=ws.length=ws'.length∧∀n,iC ws n p=iC ws' n q
theorem wy.app{ws ws':List M}{b b':M}(h:wy p q ws ws')(hb:b p=b' q):wy p q (ws++[b]) (ws'++[b']):=by
 refine⟨by rw[List.length_append,List.length_append,h.1];rfl,fun n=>?_⟩
 rw[B7,B7,h.1]
 by_cases r:n < ws'.length
 ·rw[if_pos r,if_pos r];exact h.2 n
 ·rw[if_neg r,if_neg r]
  by_cases r2:n=ws'.length
  ·rw[if_pos r2,if_pos r2];exact hb
  ·rw[if_neg r2,if_neg r2]
theorem wy.row{b b':M}(hb:b p=b' q):∀m {ws ws':List M},wy p q ws ws'→wy p q (fK bad b m ws) (fK bad b' m ws')
 | 0,ws,ws',h=>h
 | m+1,ws,ws',h=>by
   have ih:=wy.row hb m h
   unfold fK
   refine ih.app ?_
   rw[hb,ih.1]
theorem wy.LC(h1:ms.length=ins.length)(h2:ms'.length=ins.length)(h:∀j,j < ins.length→ms.getD j f0 p=ms'.getD j f0 q):∀i,i≤ins.length→wy p q (cu ins ms bad i) (cu ins ms' bad i)
 | 0,_=>⟨rfl,fun n=>rfl⟩
 | i+1,hi=>by
   have e1:ms[i]? =some ms[i]:=List.getElem?_eq_getElem (by omega)
   have e2:ms'[i]? =some ms'[i]:=List.getElem?_eq_getElem (by omega)
   have hh:=h i (by omega)
   rw[List.getD_eq_getElem?_getD,e1,List.getD_eq_getElem?_getD,e2] at hh
   unfold cu
   rw[List.getElem?_eq_getElem (by omega:i < ins.length),e1,e2]
   exact wy.row hh _ (wy.LC h1 h2 h i (by omega))
theorem wy.FY{w0 w0':List M}(h:wy p q w0 w0'):∀i,i≤gs.length→wy p q (j7 gs t w0 i) (j7 gs t w0' i)
 | 0,_=>h
 | i+1,hi=>by
   have ih:=wy.FY h i (by omega)
   unfold j7
   rw[List.getElem?_eq_getElem (by omega:i < gs.length)]
   refine ih.app ?_
   show(gF gs[i] (j7 gs t w0 i) p !=t.contains (i:Int))=(gF gs[i] (j7 gs t w0' i) q !=t.contains (i:Int))
   unfold gF
   have:(gs[i].2.1.map fun n=>iC (j7 gs t w0 i) n p)=gs[i].2.1.map fun n=>iC (j7 gs t w0' i) n q:=List.map_congr_left fun n _=>ih.2 n
   rw[this]
theorem Jo(h1:ms.length=ins.length)(h2:ms'.length=ins.length)(h:∀j,j < ins.length→ms.getD j f0 p=ms'.getD j f0 q)(n:Nat):iC (rj ins gs ms t bad) n p=iC (rj ins gs ms' t bad) n q:=
 (wy.FY (wy.LC h1 h2 h _ (Nat.le_refl _)) _ (Nat.le_refl _)).2 n
end
noncomputable def cM(b:Bool):M:=fun _=>b
theorem JN(f:M):mI 1 f=bI (f 0):=by
 unfold mI bI i4 i4
 cases f 0 <;> rfl
theorem K_(b:Bool):mI 1 (cM b)=bI b:=JN _
theorem LS:mI 1 one= .int 1:=rfl
theorem Kk(bits:List Bool):bits.map bI=(bits.map cM).map (mI 1):=by
 rw[List.map_map]
 exact List.map_congr_left fun b _=>(K_ b).symm
section
variable {c:Nat} {ins:List (Str × Nat)} {gs:List Gt} {os:List (Str × List Nat)} {S:aU} {T:List Int}
theorem F_{bits:List Bool}{p n:Nat}(hc:ins.length=c)(hp:(bb c)[p]? =some bits):iC (rj ins gs (bits.map cM) T []) n 0=iC (Wd c ins gs T []) n p:=by
 have hbl:=iT c bits (List.mem_of_getElem? hp)
 refine Jo (by rw[List.length_map,hbl,hc]) (by rw[qV,hc]) (fun j hj=>?_) n
 rw[hc] at hj
 unfold sr
 rw[List.getD_eq_getElem?_getD,List.getElem?_map,List.getElem?_eq_getElem (by omega:j < bits.length),List.getD_eq_getElem?_getD,List.getElem?_map,List.getElem?_range hj]
 show bits[j]=Ir c j p
 unfold Ir
 rw[List.getD_eq_getElem?_getD (l:=bb c),hp]
 show _=bits.getD j false
 rw[List.getD_eq_getElem?_getD,List.getElem?_eq_getElem (by omega:j < bits.length)]
 rfl
noncomputable def tD(r:Bool × Bool):D:=if r.1 then .int 0 else if r.2 then .int 1 else .cI
theorem vy{kd:Nat}{xs:List Bool}(hk:kd≤4)(hx:xs.length=ar kd):eX [.str (kS kd), .lst (xs.map bI)]= .ok (bI (gv kd xs)):=by
 match kd,hk,xs,hx with
 | 0,_,[a],_=>cases a <;> rfl
 | 1,_,[a,b],_=>cases a <;> cases b <;> rfl
 | 2,_,[a,b],_=>cases a <;> cases b <;> rfl
 | 3,_,[a,b],_=>cases a <;> cases b <;> rfl
 | 4,_,[a,b,c],_=>cases a <;> cases b <;> cases c <;> rfl
theorem vA{xs:List Bool}(h:1≤xs.length∧xs.length≤3):ji [.lst (xs.map bI)]= .ok (tD (H_ xs)):=by
 match xs,h with
 | [a],_=>cases a <;> rfl
 | [a,b],_=>cases a <;> cases b <;> rfl
 | [a,b,c],_=>cases a <;> cases b <;> cases c <;> rfl
theorem yJ{ws:List M}{ns:List Nat}{δ:aw}{own:List Str}{kp:List Nat}{it:aw→R (List D)}(hn:∀n∈ns,n < ws.length)(hl:ns.length < 1000)(hit:it δ= .ok (ns.map nI))(hkp:rq own kp δ=[.un, .val (.lst (ws.map (mI 1)))]) :
 gO it (aV 0) rV (e2 cg (ae 1) (ae 0)) own kp δ= .ok ((ns.map fun n=>iC ws n 0).map bI):=by
 have hz:sizeLine=16777216:=sizeLine_eq
 refine fU hit (by rw[List.length_map];omega) ?_
 rw[hkp,List.map_map]
 refine NT.fg nI _ fun n hn'=>⟨[.val (nI n), .val (.lst (ws.map (mI 1)))],rfl,rfl,?_⟩
 refine(ay (a:= .lst (ws.map (mI 1))) (b:=nI n) rfl rfl (Cy (hn n hn'))).trans ?_
 rw[JN];rfl
theorem EZ(b c:Bool):(eG (bI b) (.int (if c then 1 else 0))).bind (fun x=>ie x (.int 2))= .ok (bI (b !=c)):=by cases b <;> cases c <;> rfl
theorem C_(c:Bool):q9 [.bl c]= .ok (.int (if c then 1 else 0)):=rfl
theorem y4{f g:FD}{δ:aw}{b c:Bool}(hf:f δ= .ok (bI b))(hg:g δ= .ok (.int (if c then 1 else 0))):e2 ie (e2 eG f g) (eC (.int 2)) δ= .ok (bI (b !=c)):=by
 rw[←EZ]
 unfold e2
 rw[hf,R.aH,hg,R.aH]
 cases b <;> cases c <;> rfl
noncomputable def ka(nt bitsD tD bD:D)(ws:List M)(a5 a6 a7 a8 a9 a10 a11:Sl):aw:=[.val nt, .val bitsD, .val tD, .val bD, .bld (ws.map (mI 1)),a5,a6,a7,a8,a9,a10,a11]
theorem DU{bits:List Bool}{i:Nat}(h:i < bits.length):cg (.tup (bits.map bI)) (.int i)= .ok (bI bits[i]):=NT.DM (by rw[List.getElem?_map,List.getElem?_eq_getElem h];rfl)
theorem Km{bits:List Bool}{bad:List Int}{nt tD:D}{ws:List M}{i:Nat}{a6 a7 a8 a9 a10 a11:Sl}(hi:i < bits.length)(hl:ws.length < 20000) :
 hV (ka nt (.tup (bits.map bI)) tD (.tup (bad.map .int)) ws (.val (.int i)) a6 a7 a8 a9 a10 a11)= .ok (.nx (ka nt (.tup (bits.map bI)) tD (.tup (bad.map .int)) (ws++[fun p=>cM bits[i] p !=bad.contains (ws.length:Int)]) (.val (.int i)) a6 a7 a8 a9 a10 a11)):=by
 have hz:sizeLine=16777216:=sizeLine_eq
 unfold hV
 refine(uT (i:=4) (d:=bI (bits[i] !=bad.contains (ws.length:Int))) (ds:=ws.map (mI 1)) ?_ rfl (by rw[List.length_map];omega)).trans ?_
 ·refine y4 (ay (a:= .tup (bits.map bI)) (b:= .int i) rfl rfl (DU hi)) ?_
  refine aR (ds:=[.bl (bad.contains (ws.length:Int))]) (aW (vE ?_ rfl) rfl) (C_ _)
  exact ay (a:= .int ws.length) (b:= .tup (bad.map .int)) (aR (ds:=[.lst (ws.map (mI 1))]) rfl (by rw[ma,List.length_map])) rfl (qo _ _)
 ·unfold ka
  rw[List.map_append,List.map_cons,JN]
  rfl
section
variable {bits:List Bool} {bad:List Int}
theorem AU(NO:i9 ins gs os)(hb:bits.length=ins.length)(i:Nat)(hi:i≤ins.length):(cu ins (bits.map cM) bad i).length≤100*i:=by
 rw[jY (by rw[List.length_map,hb]) i hi]
 refine Nat.le_trans (ue fun x hx=>NO.hw x (List.mem_of_mem_take hx)) ?_
 rw[List.length_take]
 exact Nat.mul_le_mul_left _ (by omega)
theorem KJ(NO:i9 ins gs os)(hb:bits.length=ins.length){tD:D}{i:Nat}{a6 a7 a8 a9 a10 a11:Sl}(hi:i < ins.length) :
 ∃b6,g9 (ka (bK ins gs os) (.tup (bits.map bI)) tD (.tup (bad.map .int)) (cu ins (bits.map cM) bad i) (.val (.int i)) a6 a7 a8 a9 a10 a11)= .ok (.nx (ka (bK ins gs os) (.tup (bits.map bI)) tD (.tup (bad.map .int)) (cu ins (bits.map cM) bad (i+1)) (.val (.int i)) b6 a7 a8 a9 a10 a11)):=by
 have hwi:=NO.hw ins[i] (List.getElem_mem _)
 have hN:=NO.hi
 have hb':i < bits.length:=by omega
 have h1:ins[i]? =some ins[i]:=List.getElem?_eq_getElem hi
 have h2:(bits.map cM)[i]? =some (cM bits[i]):=by rw[List.getElem?_map,List.getElem?_eq_getElem hb'];rfl
 unfold g9
 obtain⟨δ',e,b6,hδ⟩:=d6 (t:=aV 6) (body:=hV) (ds:=bQ 0 ins[i].2) (fun j δ=>∃b6,δ=ka (bK ins gs os) (.tup (bits.map bI)) tD (.tup (bad.map .int)) (fK bad (cM bits[i]) j (cu ins (bits.map cM) bad i)) (.val (.int i)) b6 a7 a8 a9 a10 a11)
  (δ:=ka (bK ins gs os) (.tup (bits.map bI)) tD (.tup (bad.map .int)) (cu ins (bits.map cM) bad i) (.val (.int i)) a6 a7 a8 a9 a10 a11) ⟨a6,rfl⟩ (fun j d δ hd ⟨b6,hδ⟩=>by
    subst hδ
    obtain⟨hj,rfl⟩:=jF hd
    have:=AU (bad:=bad) NO hb i (by omega)
    exact⟨_,Km (a6:= .val (.int j)) hb' (by rw[f_];omega),_,rfl⟩)
 refine⟨b6,(fW (ds:=bQ 0 ins[i].2) (eF ?_ (by omega)) e).trans ?_⟩
 ·exact ay (a:=inD ins[i]) (b:= .int 1) (ay (a:= .lst (ins.map inD)) (b:= .int i) (ay (a:=bK ins gs os) (b:= .int 0) rfl rfl rfl) rfl (NT.oh (by rw[List.getElem?_map,h1];rfl))) rfl rfl
 ·rw[hδ]
  have hl:(bQ 0 ins[i].2).length=ins[i].2:=by simp [bQ]
  rw[hl]
  have:cu ins (bits.map cM) bad (i+1)=fK bad (cM bits[i]) ins[i].2 (cu ins (bits.map cM) bad i):=by
   show(match ins[i]?,(bits.map cM)[i]? with | some x,some b=>fK bad b x.2 (cu ins (bits.map cM) bad i) | _,_=>cu ins (bits.map cM) bad i)=_
   rw[h1,h2]
  rw[this]
theorem Ki{bD:D}{bitsD:D}{ws:List M}{i:Nat}{g:Gt}{a5 a6 a8 a9 a10 a11:Sl}(q:gs[i]? =some g)(hg:l_ ws.length g)(hl:ws.length < 200000) :
 ∃b8 b9 b10 b11,hJ (ka (bK ins gs os) bitsD (.tup (T.map .int)) bD ws a5 a6 (.val (.int i)) a8 a9 a10 a11)= .ok (.nx (ka (bK ins gs os) bitsD (.tup (T.map .int)) bD (ws++[fun p=>gF g ws p !=T.contains (i:Int)]) a5 a6 (.val (.int i)) b8 b9 b10 b11)):=by
 have hz:sizeLine=16777216:=sizeLine_eq
 have ha:=vI g.1
 unfold hJ
 refine⟨.val (.str (kS g.1)), .val (.tup (g.2.1.map nI)), .val (.bl g.2.2), .val (bI (gF g ws 0)),?_⟩
 refine aY (δ1:=ka (bK ins gs os) bitsD (.tup (T.map .int)) bD ws a5 a6 (.val (.int i)) (.val (.str (kS g.1))) (.val (.tup (g.2.1.map nI))) (.val (.bl g.2.2)) a11) ?_ ?_
 ·unfold pY
  rw[ay (a:= .lst (gs.map gR)) (b:= .int i) (ay (a:=bK ins gs os) (b:= .int 1) rfl rfl rfl) rfl (NT.oh (x:=gR g) (by rw[List.getElem?_map,q];rfl)),R.aH]
  rfl
 refine aY (eP (d:=bI (gF g ws 0)) (vE ?_ rfl) (by unfold ka;simp only[List.length_cons,List.length_nil];omega)) ?_
 ·refine aR (ds:=[.str (kS g.1), .lst ((g.2.1.map fun n=>iC ws n 0).map bI)]) (aW rfl (aW (eO ?_) rfl)) (vy hg.1 (by rw[List.length_map];exact hg.2.1))
  exact yJ (ws:=ws) (ns:=g.2.1) hg.2.2 (by rw[hg.2.1];omega) (x8 rfl) rfl
 refine(uT (i:=4) (d:=bI (gF g ws 0 !=T.contains (i:Int))) (ds:=ws.map (mI 1)) ?_ rfl (by rw[List.length_map];omega)).trans ?_
 ·exact y4 rfl (aR (ds:=[.bl (T.contains (i:Int))]) (aW (ay (a:= .int i) (b:= .tup (T.map .int)) rfl rfl (qo _ _)) rfl) (C_ _))
 ·unfold ka
  rw[List.map_append,List.map_cons,JN]
  rfl
theorem zY(NO:i9 ins gs os)(hb:bits.length=ins.length):gc [bK ins gs os, .tup (bits.map bI), .tup (T.map .int), .tup (bad.map .int)]= .ok (.lst ((rj ins gs (bits.map cM) T bad).map (mI 1))):=by
 have hz:sizeLine=16777216:=sizeLine_eq
 have hwd:=ue NO.hw
 have hN:=NO.hi
 have hG:=NO.hg
 have hbl:(bits.map cM).length=ins.length:=by rw[List.length_map,hb]
 unfold gc pQ
 refine c7 (aY (δ1:=ka (bK ins gs os) (.tup (bits.map bI)) (.tup (T.map .int)) (.tup (bad.map .int)) [] .un .un .un .un .un .un .un) rfl ?_)
 obtain⟨δ1,e1,a5,a6,h1⟩:=d6 (t:=aV 5) (body:=g9) (ds:=bQ 0 ins.length) (fun i δ=>∃a5 a6,δ=ka (bK ins gs os) (.tup (bits.map bI)) (.tup (T.map .int)) (.tup (bad.map .int)) (cu ins (bits.map cM) bad i) a5 a6 .un .un .un .un .un)
  (δ:=ka (bK ins gs os) (.tup (bits.map bI)) (.tup (T.map .int)) (.tup (bad.map .int)) [] .un .un .un .un .un .un .un) ⟨.un, .un,rfl⟩ (fun i d δ hd ⟨a5,a6,hδ⟩=>by
    subst hδ
    obtain⟨hi,rfl⟩:=jF hd
    obtain⟨b6,e⟩:=KJ (bad:=bad) NO hb (tD:= .tup (T.map .int)) (a6:=a6) (a7:= .un) (a8:= .un) (a9:= .un) (a10:= .un) (a11:= .un) hi
    exact⟨_,e,_,_,rfl⟩)
 refine aY (fW (ds:=bQ 0 ins.length) (eF (aR (ds:=[.lst (ins.map inD)]) (aW (ay (a:=bK ins gs os) (b:= .int 0) rfl rfl rfl) rfl) (by rw[ma,List.length_map])) (by omega)) e1) ?_
 have hl0:(bQ 0 ins.length).length=ins.length:=by simp [bQ]
 rw[hl0] at h1
 subst h1
 obtain⟨δ2,e2',b7,b8,b9,b10,b11,h2⟩:=d6 (t:=aV 7) (body:=hJ) (ds:=bQ 0 gs.length) (fun i δ=>∃b7 b8 b9 b10 b11,δ=ka (bK ins gs os) (.tup (bits.map bI)) (.tup (T.map .int)) (.tup (bad.map .int)) (j7 gs T (cu ins (bits.map cM) bad ins.length) i) a5 a6 b7 b8 b9 b10 b11)
  (δ:=ka (bK ins gs os) (.tup (bits.map bI)) (.tup (T.map .int)) (.tup (bad.map .int)) (cu ins (bits.map cM) bad ins.length) a5 a6 .un .un .un .un .un) ⟨_,_,_,_,_,rfl⟩ (fun i d δ hd ⟨b7,b8,b9,b10,b11,hδ⟩=>by
    subst hδ
    obtain⟨hi,rfl⟩:=jF hd
    have q:gs[i]? =some gs[i]:=List.getElem?_eq_getElem hi
    have hl:(j7 gs T (cu ins (bits.map cM) bad ins.length) i).length=jh ins+i:=by rw[l6 _ (by omega),jY hbl _ (Nat.le_refl _),List.take_length]
    obtain⟨c8,c9,c10,c11,e⟩:=Ki (ins:=ins) (os:=os) (T:=T) (bD:= .tup (bad.map .int)) (bitsD:= .tup (bits.map bI)) (ws:=j7 gs T (cu ins (bits.map cM) bad ins.length) i) (a5:=a5) (a6:=a6) (a8:=b8) (a9:=b9) (a10:=b10) (a11:=b11) q (by rw[hl];exact NO.g i _ q) (by rw[hl];omega)
    refine⟨_,e, .val (.int i),c8,c9,c10,c11,?_⟩
    show ka _ _ _ _ _ _ _ _ _ _ _ _=ka _ _ _ _ (match gs[i]? with | some g=>j7 gs T (cu ins (bits.map cM) bad ins.length) i++[fun p=>gF g (j7 gs T (cu ins (bits.map cM) bad ins.length) i) p !=T.contains (i:Int)] | none=>j7 gs T (cu ins (bits.map cM) bad ins.length) i) _ _ _ _ _ _ _
    rw[q])
 refine aY (fW (ds:=bQ 0 gs.length) (eF (aR (ds:=[.lst (gs.map gR)]) (aW (ay (a:=bK ins gs os) (b:= .int 1) rfl rfl rfl) rfl) (by rw[ma,List.length_map])) (by omega)) e2') ?_
 have hl2:(bQ 0 gs.length).length=gs.length:=by simp [bQ]
 rw[hl2] at h2
 subst h2
 rfl
end
noncomputable def RD(c:Nat)(ins:List (Str × Nat))(gs:List Gt)(os:List (Str × List Nat))(T:List Int)(p:Nat):List D:=os.map fun x=>tD (pt (Wd c ins gs T []) x p)
theorem og{bits:List Bool}{p:Nat}(NO:i9 ins gs os)(hc:ins.length=c)(ho:∀x∈os,1≤x.2.length∧x.2.length≤3)(hp:(bb c)[p]? =some bits) :
 dP [bK ins gs os,bH bits, .tup (T.map .int), .tup []]= .ok (.lst (RD c ins gs os T p)):=by
 have hz:sizeLine=16777216:=sizeLine_eq
 have hO:=NO.ho
 have hbl:=iT c bits (List.mem_of_getElem? hp)
 have hb:bits.length=ins.length:=by rw[hbl,hc]
 unfold dP px
 refine c7 (aY (eP (d:= .lst ((rj ins gs (bits.map cM) T []).map (mI 1))) (aR (ds:=[bK ins gs os, .tup (bits.map bI), .tup (T.map .int), .tup (([]:List Int).map .int)]) rfl (zY NO hb)) (by simp [cV,jl])) ?_)
 refine cG (eO (fU (ds:=os.map xj) (ni (ay (a:=bK ins gs os) (b:= .int 2) rfl rfl rfl)) (by rw[List.length_map];omega) ?_))
 unfold RD
 refine NT.fg xj _ fun x hx=>⟨[.val (.str x.1), .val (.tup (x.2.map nI)), .val (.lst ((rj ins gs (bits.map cM) T []).map (mI 1)))],rfl,rfl,?_⟩
 obtain⟨o1,o2⟩:=NO.o x hx
 refine(aR (ds:=[.lst ((x.2.map fun n=>iC (rj ins gs (bits.map cM) T []) n 0).map bI)]) (aW (eO (yJ (fun n hn=>by rw[vQ (by rw[List.length_map,hb])];exact o2 n hn) o1 (x8 rfl) rfl)) rfl) (vA (by rw[List.length_map];exact ho x hx))).trans ?_
 congr 2
 unfold pt tell
 rw[List.map_map]
 congr 1
 exact List.map_congr_left fun n _=>F_ hc hp
end
end K14
end
section
set_option maxRecDepth 100000
set_option maxHeartbeats 4000000
namespace K14
open PySem PySem.Spec PyProof.Rows L2 L3 MT
theorem HR(xs:List Bool):(H_ xs).1=true→(H_ xs).2=false:=by
 match xs with
 | []=>intro h;rfl
 | [a]=>cases a <;> intro h <;> first | rfl | cases h
 | [a,b]=>cases a <;> cases b <;> intro h <;> first | rfl | cases h
 | [a,b,c]=>cases a <;> cases b <;> cases c <;> intro h <;> first | rfl | cases h
 | a ::b ::c ::d ::r=>intro h;rfl
theorem Jq(a b:Bool × Bool)(ha:a.1=true→a.2=false)(hb:b.1=true→b.2=false):sV (tD a) (tD b)= .ok (.bl ((a.1 !=b.1) || (a.2 !=b.2))):=by
 obtain⟨a0,a1⟩:=a
 obtain⟨b0,b1⟩:=b
 cases a0 <;> cases a1 <;> cases b0 <;> cases b1 <;> first | rfl | (exact absurd (ha rfl) (by decide)) | (exact absurd (hb rfl) (by decide))
theorem GA(a:Bool × Bool):BR (tD a) .cI= .ok (.bl (a.1 || a.2)):=by
 obtain⟨a0,a1⟩:=a
 cases a0 <;> cases a1 <;> rfl
theorem se{α β γ:Type}{f:α→List β}{g:β→Option γ}:∀xs:List α,(xs.flatMap f).findSome? g=xs.findSome? fun x=>(f x).findSome? g
 | []=>rfl
 | x ::xs=>by
   rw[List.flatMap_cons,List.findSome?_append,se xs,List.findSome?_cons]
   cases(f x).findSome? g <;> rfl
theorem tW{α β γ:Type}{f:α→β}{g:β→Option γ}:∀xs:List α,(xs.map f).findSome? g=xs.findSome? fun x=>g (f x)
 | []=>rfl
 | x ::xs=>by rw[List.map_cons,List.findSome?_cons,tW xs,List.findSome?_cons]
theorem rM{α γ:Type}{f g:α→Option γ}:∀{xs:List α},(∀x∈xs,f x=g x)→xs.findSome? f=xs.findSome? g
 | [],_=>rfl
 | x ::xs,h=>by rw[List.findSome?_cons,List.findSome?_cons,h x List.mem_cons_self,rM fun y hy=>h y (List.mem_cons_of_mem _ hy)]
theorem vU{α γ:Type}{f:α→Option γ}{xs:List α}(h:∀x∈xs,f x=none):xs.findSome? f=none:=List.findSome?_eq_none_iff.mpr h
theorem yk(ps:List Nat):(List.range ps.length).map (fun a=>ps.getD a 0)=ps:=by
 refine List.ext_getElem? fun i=>?_
 rw[List.getElem?_map]
 by_cases q:i < ps.length
 ·rw[List.getElem?_range q]
  show some (ps.getD i 0)=_
  rw[List.getD_eq_getElem?_getD,List.getElem?_eq_getElem q];rfl
 ·rw[List.getElem?_eq_none (by simp;omega),List.getElem?_eq_none (by omega)];rfl
theorem vv{α β:Type}(f:α→β):∀xs:List α,(xs.flatMap fun x=>[f x])=xs.map f
 | []=>rfl
 | x ::xs=>by rw[List.flatMap_cons,vv f xs];rfl
theorem zd(ps:List Nat):iq ps 1=ps.map fun x=>[x]:=by
 show((List.range ps.length).flatMap fun a=>(iq (ps.drop (a+1)) 0).map (ps.getD a 0 ::·))=_
 have:(fun a=>(iq (ps.drop (a+1)) 0).map (ps.getD a 0 ::·))=fun a=>[[ps.getD a 0]]:=by funext a;rfl
 rw[this,vv]
 conv=>rhs;rw [←yk ps]
 rw[List.map_map];rfl
theorem J2(ps:List Nat):iq ps 2=(List.range ps.length).flatMap fun a=>(ps.drop (a+1)).map fun o=>[ps.getD a 0,o]:=by
 show((List.range ps.length).flatMap fun a=>(iq (ps.drop (a+1)) 1).map (ps.getD a 0 ::·))=_
 congr 1
 funext a
 rw[zd,List.map_map];rfl
theorem xh(gs:List Gt):(me gs).Pairwise (· < ·):=List.Pairwise.filter _ List.pairwise_lt_range
theorem Kr{gs:List Gt}{x:Nat}(h:x∈me gs):x < gs.length:=List.mem_range.mp (List.mem_filter.mp h).1
theorem EA{f g:aw→R Bool}{δ:aw}{a b:Bool}(h1:f δ= .ok a)(h2:g δ= .ok b):kj f g δ= .ok (a && b):=by
 unfold kj
 rw[h1,R.aH]
 cases a with
 | true=>rw [if_pos rfl,h2];rfl
 | false=>rw [if_neg (by decide)];rfl
theorem HV{f g:aw→R Bool}{δ:aw}{a b:Bool}(h1:f δ= .ok a)(h2:g δ= .ok b):sL f g δ= .ok (a || b):=by
 unfold sL
 rw[h1,R.aH]
 cases a with
 | true=>rw [if_pos rfl];rfl
 | false=>rw [if_neg (by decide),h2];rfl
theorem pB{α β:Type}{b:α→Bool}{v:β}:∀xs:List α,(xs.findSome? fun x=>if b x then some v else none)=if xs.any b then some v else none
 | []=>rfl
 | x ::xs=>by
   rw[List.findSome?_cons,pB xs,List.any_cons]
   cases b x <;> rfl
theorem mv{α β:Type}{b:α→Bool}{g:α→β}:∀xs:List α,(xs.findSome? fun x=>if b x then some (g x) else none)=(xs.filter b).head?.map g
 | []=>rfl
 | x ::xs=>by
   rw[List.findSome?_cons,mv xs,List.filter_cons]
   cases b x <;> rfl
theorem Fm{safe:Bool}{a b:Bool × Bool}(ha:a.1=true→a.2=false)(hb:b.2=!b.1):(((a.1 !=b.1) || (a.2 !=b.2)) && (!safe || (a.1 || a.2)))=brk safe b a:=by
 obtain⟨a0,a1⟩:=a
 obtain⟨b0,b1⟩:=b
 have hb:b1=!b0:=hb
 subst hb
 cases a0 <;> cases a1 <;> cases b0 <;> cases safe <;> first | rfl | (exact absurd (ha rfl) (by decide))
section
variable {c:Nat} {ins:List (Str × Nat)} {gs:List Gt} {os:List (Str × List Nat)} {S:aU} {T:List Int} {safe:Bool}
noncomputable def fE(nt tn inp pl lv:D)(a5 a6 a7 a8:Option V3):DE:=[some (.d nt),some (.d tn),some (.d inp),some (.d pl),some (.d lv),a5,a6,a7,a8]
noncomputable def zI(c:Nat)(ins:List (Str × Nat))(gs:List Gt)(os:List (Str × List Nat)):D:= .lst ((List.range (2 ^ c)).map fun p=> .lst (RD c ins gs os [] p))
theorem A0(c:Nat):dH ((bb c).map bH)=(List.range (2 ^ c)).map fun p=> .tup [.int p,bH ((bb c).getD p [])]:=by
 refine List.ext_getElem? fun i=>?_
 rw[List.getElem?_map,dH,List.getElem?_map,List.getElem?_zipIdx,List.getElem?_map]
 have hl:=cx c
 by_cases q:i < (bb c).length
 ·rw[List.getElem?_eq_getElem q,List.getElem?_range (by omega)]
  show some (D.tup [.int ((0+i:Nat):Int),bH (bb c)[i]])=some (D.tup [.int i,bH ((bb c).getD i [])])
  rw[Nat.zero_add,List.getD_eq_getElem?_getD,List.getElem?_eq_getElem q];rfl
 ·rw[List.getElem?_eq_none (by omega),List.getElem?_eq_none (by simp;omega)];rfl
theorem A1(NO:i9 ins gs os)(hc:ins.length=c)(ho:∀x∈os,1≤x.2.length∧x.2.length≤3)(hsd:∀x∈os,∀p,(pt (Wd c ins gs [] []) x p).2=!(pt (Wd c ins gs [] []) x p).1)(hS:yn S){Q:V3→aU→Prop}
 (h:Q (.d ((((List.range (2 ^ c)).filter (CI safe c ins gs os T)).head?.map nI).getD .cI)) S) :
 W3 (fM [.d (bK ins gs os), .d (.tup (T.map .int)), .d (.lst ((bb c).map bH)), .d (zI c ins gs os), .d (.str (lZ safe))] S) Q:=by
 have hz:sizeLine=16777216:=sizeLine_eq
 unfold fM
 refine mw hS (uB rfl ?_)
 simp only[bS,iO,List.map_cons,List.map_nil,List.length_cons,List.length_nil,List.replicate,List.cons_append,List.nil_append,Nat.reduceAdd,Nat.reduceSub]
 unfold ke
 refine uk <| fR <| k3 (ds:=(List.range (2 ^ c)).map fun p:Nat=>D.tup [.int (p:Int),bH ((bb c).getD p [])]) ?_ ?_
 ·rw[←A0];rfl
 rw[List.map_map]
 refine(fj (S:=S) (V3.d ∘ fun p:Nat=>D.tup [.int p,bH ((bb c).getD p [])]) (fun p=>if CI safe c ins gs os T p then some (V3.d (nI p)) else none) (fun δ=>∃a5 a6 a7 a8,δ=fE (bK ins gs os) (.tup (T.map .int)) (.lst ((bb c).map bH)) (zI c ins gs os) (.str (lZ safe)) a5 a6 a7 a8)
  ⟨_,_,_,_,rfl⟩ ?_).mono fun o S1 ⟨e1,h1⟩=>?_
 ·rintro p hp δ ⟨a5,a6,a7,a8,rfl⟩
  rw[List.mem_range] at hp
  have hpb:(bb c)[p]? =some ((bb c).getD p []):=by
   have:p < (bb c).length:=by rw[cx];exact hp
   rw[List.getD_eq_getElem?_getD,List.getElem?_eq_getElem this];rfl
  generalize hbits:(bb c).getD p []=bits at hpb
  refine⟨fE (bK ins gs os) (.tup (T.map .int)) (.lst ((bb c).map bH)) (zI c ins gs os) (.str (lZ safe)) (some (.d (nI p))) (some (.d (bH bits))) a7 a8,?_,?_⟩
  ·show uW 2 _ (V3.d (D.tup [.int p,bH ((bb c).getD p [])])) _=_
   rw[hbits];rfl
  unfold lB fE
  refine fR <| k3 (ds:=oY (RD c ins gs os T p) (RD c ins gs os [] p)) ?_ ?_
  ·have e1:aG dP (aq (ae 0) (aq (ae 6) (aq (ae 1) (aq (dM aD) aD)))) (down [some (.d (bK ins gs os)),some (.d (.tup (T.map .int))),some (.d (.lst ((bb c).map bH))),some (.d (zI c ins gs os)),some (.d (.str (lZ safe))),some (.d (nI p)),some (.d (bH bits)),a7,a8])= .ok (.lst (RD c ins gs os T p)):=aR (ds:=[bK ins gs os,bH bits, .tup (T.map .int), .tup []]) rfl (og NO hc ho hpb)
   have e2':e2 cg (ae 3) (ae 5) (down [some (.d (bK ins gs os)),some (.d (.tup (T.map .int))),some (.d (.lst ((bb c).map bH))),some (.d (zI c ins gs os)),some (.d (.str (lZ safe))),some (.d (nI p)),some (.d (bH bits)),a7,a8])= .ok (.lst (RD c ins gs os [] p)):=by
    refine ay (a:=zI c ins gs os) (b:=nI p) rfl rfl (NT.oh ?_)
    rw[List.getElem?_map,List.getElem?_range hp];rfl
   unfold A7
   rw[e1,R.aH,e2',R.aH];rfl
  have hzip:oY (RD c ins gs os T p) (RD c ins gs os [] p)=os.map fun x=> .tup [tD (pt (Wd c ins gs T []) x p),tD (pt (Wd c ins gs [] []) x p)]:=by
   unfold oY RD
   rw[List.zip_map',List.map_map];rfl
  rw[hzip,List.map_map]
  refine(fj (S:=S) (V3.d ∘ fun x=>D.tup [tD (pt (Wd c ins gs T []) x p),tD (pt (Wd c ins gs [] []) x p)]) (fun x=>if brk safe (pt (Wd c ins gs [] []) x p) (pt (Wd c ins gs T []) x p) then some (V3.d (nI p)) else none) (fun δ=>∃a7 a8,δ=fE (bK ins gs os) (.tup (T.map .int)) (.lst ((bb c).map bH)) (zI c ins gs os) (.str (lZ safe)) (some (.d (nI p))) (some (.d (bH bits))) a7 a8)
   ⟨_,_,rfl⟩ ?_).mono fun o S1 ⟨e1,h1⟩=>⟨e1,?_⟩
  ·rintro x hx δ ⟨a7,a8,rfl⟩
   generalize hA:pt (Wd c ins gs T []) x p=A
   generalize hB:pt (Wd c ins gs [] []) x p=B
   have hAx:A.1=true→A.2=false:=by rw[←hA];exact HR _
   have hBs:B.2=!B.1:=by rw[←hB];exact hsd x hx p
   refine⟨fE (bK ins gs os) (.tup (T.map .int)) (.lst ((bb c).map bH)) (zI c ins gs os) (.str (lZ safe)) (some (.d (nI p))) (some (.d (bH bits))) (some (.d (tD A))) (some (.d (tD B))),?_,?_⟩
   ·show uW 2 _ (V3.d (D.tup [tD (pt (Wd c ins gs T []) x p),tD (pt (Wd c ins gs [] []) x p)])) _=_
    rw[hA,hB];rfl
   unfold lj fE
   refine rA <| ve (b:=brk safe B A) ?_ ?_
   ·rw[←Fm hAx hBs]
    refine EA (fJ (a:=tD A) (b:=tD B) rfl rfl (Jq A B hAx fun z=>by rw[hBs,z];rfl)) (HV (fJ (a:= .str (lZ safe)) (b:= .str (Str.ofString "right")) rfl rfl ?_) (fJ (a:=tD A) (b:= .cI) rfl rfl (GA A)))
    show R.ok (D.bl (lZ safe==Str.ofString "right"))=_
    congr 2
    cases safe <;> decide+kernel
   ·cases brk safe B A with
    | true=>rw [if_pos rfl];exact eW <| dg (d:=nI p) rfl ⟨rfl,rfl⟩
    | false=>rw [if_neg (by decide)];exact nc ⟨rfl,_,rfl,_,_,rfl⟩
  ·rw[pB] at h1
   show match (if os.any (fun x=>brk safe (pt (Wd c ins gs [] []) x p) (pt (Wd c ins gs T []) x p)) then some (V3.d (nI p)) else none) with | some v=>o= .rt v | none=>_
   generalize (os.any fun x=>brk safe (pt (Wd c ins gs [] []) x p) (pt (Wd c ins gs T []) x p))=t at h1 ⊢
   cases t with
   | true=>exact h1
   | false=>obtain⟨δ2,e2',b7,b8,e3⟩:=h1;exact⟨δ2,e2',_,_,b7,b8,e3⟩
 ·subst e1
  rw[mv] at h1
  cases hh:((List.range (2 ^ c)).filter (CI safe c ins gs os T)).head? with
  | some p=>
    rw[hh] at h1 h
    have h1:o= .rt (.d (nI p)):=h1
    subst h1
    exact⟨_,rfl,by unfold eI;rfl,⟨[],by simp⟩,_,by unfold res;rfl,h⟩
  | none=>
    rw[hh] at h1 h
    obtain⟨δ2,rfl,b5,b6,b7,b8,rfl⟩:=h1
    exact eW <| dg (d:= .cI) rfl ⟨_,rfl,by unfold eI;rfl,⟨[],by simp⟩,_,by unfold res;rfl,h⟩
end
end K14
end
section
set_option maxRecDepth 100000
set_option maxHeartbeats 4000000
namespace K14
open PySem PySem.Spec PyProof.Rows L2 L3 MT
theorem B6{ds es:List D}(h:ds.length+es.length≤sizeLine):iB (.lst ds) (.lst es)= .ok (.lst (ds++es)):=uq h
theorem Ax(l:List (List Bool)):(l.flatMap fun b=>[b++[false],b++[true]]).length=2*l.length:=by
 rw[List.length_flatMap]
 have:l.map (fun b=>[b++[false],b++[true]].length)=l.map fun _=>2:=rfl
 rw[this,List.map_const',List.sum_replicate_nat]
 omega
theorem Ak{c:Nat}(hc:c≤10):fB [nI c]= .ok (.lst ((bb c).map bH)):=by
 have hz:sizeLine=16777216:=sizeLine_eq
 unfold fB nJ
 refine c7 (aY (eP (d:= .lst ((bb 0).map bH)) rfl (by simp [cV,kE])) ?_)
 obtain⟨δ1,e1,a2,a3,a4,hδ1⟩:=d6 (t:=aV 2) (body:=i5) (ds:=bQ 0 c)
  (fun i δ=>∃a2 a3 a4,δ=[.val (nI c), .val (.lst ((bb i).map bH)),a2,a3,a4]) (δ:=[.val (nI c), .val (.lst ((bb 0).map bH)), .un, .un, .un]) ⟨.un, .un, .un,rfl⟩ (by
    rintro i d δ hd ⟨a2,a3,a4,rfl⟩
    have hi:i < c:=by
     have:=(List.getElem?_eq_some_iff.mp hd).1
     simpa [bQ] using this
    have hpow:(bb i).length≤1024:=by
     rw[cx]
     exact Nat.pow_le_pow_right (by omega) (by omega:i≤10)
    generalize hL:D.lst ((bb i).map bH)=Li
    rw[show aV 2 d [.val (nI c), .val Li,a2,a3,a4]= .ok [.val (nI c), .val Li, .val d,a3,a4] from rfl,R.aH]
    unfold i5
    obtain⟨δ2,e2',b4,hδ2⟩:=d6 (t:=aV 4) (body:=iZ) (ds:=(bb i).map bH)
     (fun j δ=>∃b4,δ=[.val (nI c), .val Li, .val d, .val (.lst ((((bb i).take j).flatMap fun b=>[b++[false],b++[true]]).map bH)),b4]) (δ:=[.val (nI c), .val Li, .val d, .val (.lst []),a4]) ⟨a4,by simp⟩ (by
       rintro j x δ hx ⟨b4,rfl⟩
       obtain⟨b,hb,rfl⟩:=NT.ql hx
       have hjl:=(List.getElem?_eq_some_iff.mp hb).1
       have hbl:=iT i b (List.mem_of_getElem? hb)
       have hlen:=Ax ((bb i).take j)
       rw[List.length_take] at hlen
       refine⟨[.val (nI c), .val Li, .val d, .val (.lst ((((bb i).take (j+1)).flatMap fun b=>[b++[false],b++[true]]).map bH)), .val (bH b)],?_,⟨_,rfl⟩⟩
       have hst:(((bb i).take (j+1)).flatMap fun b=>[b++[false],b++[true]]).map bH=(((bb i).take j).flatMap fun b=>[b++[false],b++[true]]).map bH++[bH (b++[false]),bH (b++[true])]:=by
        rw[List.take_add_one,hb,List.flatMap_append,List.map_append]
        simp
       rw[hst]
       generalize hG:(((bb i).take j).flatMap fun b=>[b++[false],b++[true]]).map bH=G
       have hGl:G.length≤2048:=by rw[←hG,List.length_map];omega
       rw[show aV 4 (bH b) [.val (nI c), .val Li, .val d, .val (.lst G),b4]= .ok [.val (nI c), .val Li, .val d, .val (.lst G), .val (bH b)] from rfl,R.aH]
       unfold iZ
       have add:∀(x:Bool),e2 iB (ae 4) (dM (aq (eC (bI x)) aD)) [.val (nI c), .val Li, .val d, .val (.lst G), .val (bH b)]= .ok (bH (b++[x])):=fun x=>by
        refine ay (a:=bH b) (b:= .tup [bI x]) rfl (gH rfl (by simp;omega)) ?_
        show R.cb (decide ((b.map bI).length+[bI x].length≤sizeLine)) _=_
        rw[bR _ (by rw[List.length_map];simp;omega)]
        unfold bH
        rw[List.map_append];rfl
       exact eP (ay (a:= .lst G) (b:= .lst [bH (b++[false]),bH (b++[true])]) rfl (eO (qf (aW (add false) (aW (add true) rfl)) (by simp;omega))) (B6 (by simp;omega))) (by simp))
    rw[List.length_map,List.take_length] at hδ2
    subst hδ2
    refine⟨_,aY (eP (d:= .lst []) rfl (by simp)) (aY (fW (ds:=(bb i).map bH) (ni (by rw[hL];rfl)) e2') (eP (d:= .lst ((bb (i+1)).map bH)) rfl (by simp))),⟨.val d, .val (.lst ((bb (i+1)).map bH)),b4,rfl⟩⟩)
 refine aY (fW (ds:=bQ 0 c) (eF (n:=c) rfl (by omega)) e1) ?_
 have hlen:(bQ 0 c).length=c:=by simp [bQ]
 rw[hlen] at hδ1
 subst hδ1
 exact cG rfl
theorem wD{free:List Nat}(hs:free.Pairwise (· < ·)){a:Nat}(ha:a < free.length):free.filter (fun o=>decide (o > free.getD a 0))=free.drop (a+1):=by
 have hga:free.getD a 0=free[a]:=by rw[List.getD_eq_getElem?_getD,List.getElem?_eq_getElem ha];rfl
 rw[hga]
 generalize hx:free[a]=x
 have e2:free.filter (fun o=>decide (o > x))=(free.take (a+1)++free.drop (a+1)).filter (fun o=>decide (o > x)):=by rw[List.take_append_drop]
 rw[e2,List.filter_append]
 subst hx
 have h1:(free.take (a+1)).filter (fun o=>decide (o > free[a]))=[]:=by
  rw[List.filter_eq_nil_iff]
  intro o ho
  obtain⟨i,hi,rfl⟩:=List.mem_iff_getElem.mp ho
  rw[List.length_take] at hi
  rw[List.getElem_take]
  have hle:free[i]'(by omega)≤free[a]:=by
   rcases Nat.lt_or_ge i a with z | z
   ·exact Nat.le_of_lt (List.pairwise_iff_getElem.mp hs i a (by omega) ha z)
   ·have:i=a:=by omega
    subst this;exact Nat.le_refl _
  rw[decide_eq_true_eq]
  omega
 rw[h1,List.nil_append,List.filter_eq_self]
 intro o ho
 obtain⟨i,hi,rfl⟩:=List.mem_iff_getElem.mp ho
 rw[List.length_drop] at hi
 rw[List.getElem_drop]
 exact decide_eq_true (List.pairwise_iff_getElem.mp hs a (a+1+i) ha (by omega) (by omega))
noncomputable def okN(s:List Nat)(o:Nat):Bool:=match s.getLast? with | none=>true | some l=>decide (o > l)
theorem KW{free:List Nat}(hs:free.Pairwise (· < ·)){a:Nat}(ha:a < free.length){s:List Nat}(h:∀x∈s,x∈free.drop (a+1)):free.filter (okN (free.getD a 0 ::s))=(free.drop (a+1)).filter (okN s):=by
 have hga:free.getD a 0=free[a]:=by rw[List.getD_eq_getElem?_getD,List.getElem?_eq_getElem ha];rfl
 cases s with
 | nil=>
   have e1:okN [free.getD a 0]=fun o=>decide (o > free.getD a 0):=rfl
   have e2:(free.drop (a+1)).filter (okN [])=free.drop (a+1):=by rw[List.filter_eq_self];intro o _;rfl
   rw[e1,wD hs ha,e2]
 | cons y r=>
   have e1:okN (free.getD a 0 ::y ::r)=okN (y ::r):=by unfold okN;rw [List.getLast?_cons_cons]
   rw[e1]
   have hl:∃l,(y ::r).getLast? =some l:=⟨_,List.getLast?_eq_some_getLast (by simp)⟩
   obtain⟨l,hl⟩:=hl
   have hlm:=h l (List.mem_of_getLast? hl)
   have hgt:free[a] < l:=by
    obtain⟨i,hi,rfl⟩:=List.mem_iff_getElem.mp hlm
    rw[List.length_drop] at hi
    rw[List.getElem_drop]
    exact List.pairwise_iff_getElem.mp hs a (a+1+i) ha (by omega) (by omega)
   have e2:okN (y ::r)=fun o=>decide (o > l):=by unfold okN;rw [hl]
   rw[e2]
   have e3:free.filter (fun o=>decide (o > l))=(free.take (a+1)++free.drop (a+1)).filter (fun o=>decide (o > l)):=by rw[List.take_append_drop]
   rw[e3,List.filter_append]
   have h1:(free.take (a+1)).filter (fun o=>decide (o > l))=[]:=by
    rw[List.filter_eq_nil_iff]
    intro o ho
    obtain⟨i,hi,rfl⟩:=List.mem_iff_getElem.mp ho
    rw[List.length_take] at hi
    rw[List.getElem_take]
    have hle:free[i]'(by omega)≤free[a]:=by
     rcases Nat.lt_or_ge i a with z | z
     ·exact Nat.le_of_lt (List.pairwise_iff_getElem.mp hs i a (by omega) ha z)
     ·have:i=a:=by omega
      subst this;exact Nat.le_refl _
    rw[decide_eq_true_eq]
    omega
   rw[h1,List.nil_append]
theorem i_{α β:Type}{f g:α→List β}:∀{xs:List α},(∀x∈xs,f x=g x)→xs.flatMap f=xs.flatMap g
 | [],_=>rfl
 | x ::xs,h=>by rw[List.flatMap_cons,List.flatMap_cons,h x List.mem_cons_self,i_ fun y hy=>h y (List.mem_cons_of_mem _ hy)]
theorem nW{α β γ:Type}(f:α→β)(g:β→List γ):∀xs:List α,(xs.map f).flatMap g=xs.flatMap fun x=>g (f x)
 | []=>rfl
 | x ::xs=>by rw[List.map_cons,List.flatMap_cons,nW f g xs,List.flatMap_cons]
theorem n6{α β γ:Type}(f:β→γ)(g:α→List β):∀xs:List α,(xs.flatMap g).map f=xs.flatMap fun x=>(g x).map f
 | []=>rfl
 | x ::xs=>by rw[List.flatMap_cons,List.map_append,n6 f g xs,List.flatMap_cons]
theorem wJ:∀(k:Nat) (free:List Nat),free.Pairwise (· < ·)→iq free (k+1)=(iq free k).flatMap fun s=>(free.filter (okN s)).map fun o=>s++[o]
 | 0,free,_=>by
   rw[zd]
   show _=([[]]:List (List Nat)).flatMap _
   rw[List.flatMap_cons,List.flatMap_nil,List.append_nil]
   have:free.filter (okN [])=free:=by rw[List.filter_eq_self];intro o _;rfl
   rw[this];rfl
 | k+1,free,hs=>by
   show((List.range free.length).flatMap fun a=>(iq (free.drop (a+1)) (k+1)).map (free.getD a 0 ::·))=((List.range free.length).flatMap fun a=>(iq (free.drop (a+1)) k).map (free.getD a 0 ::·)).flatMap _
   rw[List.flatMap_assoc]
   refine i_ fun a ha=>?_
   rw[List.mem_range] at ha
   have hd:(free.drop (a+1)).Pairwise (· < ·):=hs.sublist (List.drop_sublist _ _)
   rw[wJ k _ hd,nW,n6]
   refine i_ fun s hs'=>?_
   rw[KW hs ha (qA hs').2,List.map_map]
   rfl
theorem Fo{s:List Nat}{l:Nat}(h:s.getLast? =some l)(hl:s.length < 1000):cg (cy s) (.int (-1))= .ok (nI l):=by
 refine ng ?_
 unfold o_ qp
 have hp:0 < s.length:=by
  cases s with
  | nil=>cases h
  | cons _ _=>simp
 rw[List.length_map,if_neg (by omega),if_pos (by omega)]
 show(s.map nI)[(((s.length:Int))+ -1).toNat]? =_
 rw[List.getElem?_map,show((s.length:Int)+ -1).toNat=s.length - 1 by omega,←List.getLast?_eq_getElem?,h]
 rfl
theorem eq_nil(s:List Nat):iV (cy s) (.tup [])= .ok (.bl s.isEmpty):=by
 have f:ky 1 (cy s):=ky.tup fun d hd=>by obtain⟨x,_,rfl⟩:=List.mem_map.mp hd;exact ky.int _
 have f2:ky 1 (.tup []):=ky.tup fun d hd=>by cases hd
 unfold iV
 have:FJ (cy s) (.tup [])= .ok s.isEmpty:=by
  unfold cy at f ⊢
  rw[Hu,f.pl,f.sh (by omega),f2.pl,f2.sh (by omega)]
  cases s with
  | nil=>rfl
  | cons g gs=>rfl
 rw[this];rfl
theorem EU{free:List Nat}{m:Nat}(hso:free.Pairwise (· < ·))(hul:free.length≤100)(hm:m≤3):gW [.lst (free.map nI),nI m]= .ok (.lst ((iq free m).map cy)):=by
 have hz:sizeLine=16777216:=sizeLine_eq
 have hpow:∀m,m≤3→(100:Nat) ^ m≤1000000:=fun m hm=>Nat.pow_le_pow_right (by omega) hm
 unfold gW qZ
 refine c7 (aY (eP (d:= .lst ((iq free 0).map cy)) rfl (by simp [cV,j8])) ?_)
 obtain⟨δ1,e1,a3,a4,a5,hδ1⟩:=d6 (t:=aV 3) (body:=kG) (ds:=bQ 0 m)
  (fun i δ=>∃a3 a4 a5,δ=[.val (.lst (free.map nI)), .val (nI m), .val (.lst ((iq free i).map cy)),a3,a4,a5]) (δ:=[.val (.lst (free.map nI)), .val (nI m), .val (.lst ((iq free 0).map cy)), .un, .un, .un]) ⟨.un, .un, .un,rfl⟩ (by
    rintro i d δ hd ⟨a3,a4,a5,rfl⟩
    obtain⟨hi,rfl⟩:=jF hd
    have hcl:(iq free i).length≤100 ^ i:=l0 hul
    have hcl2:(iq free (i+1)).length≤100 ^ (i+1):=l0 hul
    have hp1:=hpow (i+1) (by omega)
    have hp0:=hpow i (by omega)
    have hin:∀s∈iq free i,s.length=i:=fun s hs=>(qA hs).1
    have hmore:=wJ i free hso
    generalize iq free i=Ci at hcl hin hmore ⊢
    generalize iq free (i+1)=Cj at hcl2 hmore ⊢
    let F:Nat→List (List Nat):=fun j=>(Ci.take j).flatMap fun s=>(free.filter (okN s)).map fun o=>s++[o]
    have hFle:∀j,(F j).length≤Cj.length:=fun j=>by
     rw[hmore]
     show((Ci.take j).flatMap _).length≤_
     conv=>rhs;rw [←List.take_append_drop j Ci]
     rw[List.flatMap_append,List.length_append]
     omega
    rw[show aV 3 (.int i) [.val (.lst (free.map nI)), .val (nI m), .val (.lst (Ci.map cy)),a3,a4,a5]= .ok [.val (.lst (free.map nI)), .val (nI m), .val (.lst (Ci.map cy)), .val (.int i),a4,a5] from rfl,R.aH]
    unfold kG
    obtain⟨δ2,e2',b5,hδ2⟩:=d6 (t:=aV 5) (body:=kC) (ds:=Ci.map cy)
     (fun j δ=>∃b5,δ=[.val (.lst (free.map nI)), .val (nI m), .val (.lst (Ci.map cy)), .val (.int i), .val (.lst ((F j).map cy)),b5]) (δ:=[.val (.lst (free.map nI)), .val (nI m), .val (.lst (Ci.map cy)), .val (.int i), .val (.lst []),a5]) ⟨a5,by simp [F]⟩ (by
       rintro j x δ hx ⟨b5,rfl⟩
       obtain⟨s,hsj,rfl⟩:=NT.ql hx
       have hsl:=hin s (List.mem_of_getElem? hsj)
       have hFs:F (j+1)=F j++(free.filter (okN s)).map fun o=>s++[o]:=by
        show(Ci.take (j+1)).flatMap _=_
        rw[List.take_add_one,hsj,List.flatMap_append]
        simp [F]
       have hFl:=hFle (j+1)
       rw[hFs,List.length_append] at hFl
       refine⟨[.val (.lst (free.map nI)), .val (nI m), .val (.lst (Ci.map cy)), .val (.int i), .val (.lst ((F (j+1)).map cy)), .val (cy s)],?_,⟨_,rfl⟩⟩
       rw[hFs,List.map_append]
       generalize F j=G at hFl ⊢
       rw[show aV 5 (cy s) [.val (.lst (free.map nI)), .val (nI m), .val (.lst (Ci.map cy)), .val (.int i), .val (.lst (G.map cy)),b5]= .ok [.val (.lst (free.map nI)), .val (nI m), .val (.lst (Ci.map cy)), .val (.int i), .val (.lst (G.map cy)), .val (cy s)] from rfl,R.aH]
       unfold kC
       refine eP (ay (a:= .lst (G.map cy)) (b:= .lst (((free.filter (okN s)).map fun o=>s++[o]).map cy)) rfl (eO (fU (ds:=free.map nI) (ni rfl) (by rw[List.length_map];omega) ?_)) (B6 ?_)) (by simp)
       ·rw[List.map_map]
        refine NT.kr (okN s) nI _ fun o ho=>⟨[.val (nI o), .val (cy s)],rfl,?_,fun _=>?_⟩
        ·have e1:b2 iV (ae 1) (dM aD) [.val (nI o), .val (cy s)]= .ok s.isEmpty:=fJ (a:=cy s) (b:= .tup []) rfl (gH rfl (by simp)) (eq_nil s)
         unfold sL
         rw[e1,R.aH]
         cases hl:s.getLast? with
         | none=>
           have:s=[]:=List.getLast?_eq_none_iff.mp hl
           subst this;rfl
         | some l=>
           have hne:s.isEmpty=false:=by
            cases s with
            | nil=>cases hl
            | cons _ _=>rfl
           rw[hne,if_neg (by decide)]
           have:okN s o=decide (o > l):=by unfold okN;rw [hl]
           rw[this]
           refine fJ (a:=nI o) (b:=nI l) rfl (ay (a:=cy s) (b:= .int (-1)) rfl rfl (Fo hl (by omega))) ?_
           show R.ok (D.bl (decide ((o:Int) > (l:Int))))=_
           congr 2
           by_cases q:o > l
           ·rw[decide_eq_true q,decide_eq_true (by omega)]
           ·rw[decide_eq_false q,decide_eq_false (by omega)]
        ·refine ay (a:=cy s) (b:= .tup [nI o]) rfl (gH rfl (by simp;omega)) ?_
         show iB (.tup (s.map nI)) (.tup [nI o])= .ok (.tup ((s++[o]).map nI))
         rw[List.map_append]
         exact C9 (by rw[List.length_map];simp;omega)
       ·rw[List.length_map,List.length_map]
        omega)
    rw[List.length_map] at hδ2
    have hfull:F Ci.length=Cj:=by rw[hmore];show(Ci.take Ci.length).flatMap _=_;rw [List.take_length]
    rw[hfull] at hδ2
    subst hδ2
    refine⟨_,aY (eP (d:= .lst []) rfl (by simp)) (aY (fW (ds:=Ci.map cy) (ni rfl) e2') (eP (d:= .lst (Cj.map cy)) rfl (by simp))),⟨.val (.int i), .val (.lst (Cj.map cy)),b5,rfl⟩⟩)
 refine aY (fW (ds:=bQ 0 m) (eF (n:=m) rfl (by omega)) e1) ?_
 have hlen:(bQ 0 m).length=m:=by simp [bQ]
 rw[hlen] at hδ1
 subst hδ1
 exact cG rfl
section
variable {ins:List (Str × Nat)} {gs:List Gt} {os:List (Str × List Nat)} {m:Nat}
theorem AA{i:Nat}(h:i < gs.length){δ:aw}(h0:ae 0 δ= .ok (nI i))(h1:ae 1 δ= .ok (bK ins gs os)):kL (iW (e2 cg (e2 cg (e2 cg (ae 1) (eC (.int 1))) (ae 0)) (eC (.int 2)))) δ= .ok (match gs[i]? with | some g=>!g.2.2 | none=>false):=by
 have e:e2 cg (e2 cg (e2 cg (ae 1) (eC (.int 1))) (ae 0)) (eC (.int 2)) δ= .ok (.bl gs[i].2.2):=by
  refine ay (a:=gR gs[i]) (b:= .int 2) (ay (a:= .lst (gs.map gR)) (b:=nI i) (ay (a:=bK ins gs os) (b:= .int 1) h1 rfl rfl) h0 (NT.oh ?_)) rfl rfl
  rw[List.getElem?_map,List.getElem?_eq_getElem h]
  rfl
 unfold kL iW
 rw[e,List.getElem?_eq_getElem h]
 rfl
theorem Er(hg:gs.length≤100):gS [bK ins gs os]= .ok (.lst ((me gs).map nI)):=by
 have hz:sizeLine=16777216:=sizeLine_eq
 unfold gS qF
 refine c7 (cG (eO (fU (ds:=(List.range gs.length).map nI) ?_ (by simp;omega) ?_)))
 ·rw[←CH]
  exact eF (n:=gs.length) (aR (ds:=[.lst (gs.map gR)]) rfl (by rw[ma,List.length_map])) (by omega)
 ·unfold me
  refine NT.kr (fun i:Nat=>match gs[i]? with | some g=>!g.2.2 | none=>false) nI nI fun i hi=>?_
  rw[List.mem_range] at hi
  exact⟨[.val (nI i), .val (bK ins gs os)],rfl,AA hi rfl rfl,fun _=>rfl⟩
end
end K14
end
section
set_option maxRecDepth 100000
set_option maxHeartbeats 4000000
namespace K14
open PySem PySem.Spec PyProof.Rows L2 L3 MT
theorem Fg(m:Nat):bQ 1 m=((List.range m).map (·+1)).map nI:=by
 unfold bQ
 rw[List.map_map]
 refine List.map_congr_left fun i _=>?_
 show D.int (1+(i:Int))=D.int ((i+1:Nat):Int)
 congr 1
 omega
theorem jL{α β γ:Type}{f:α→Option β}{g:β→γ}:∀xs:List α,(xs.findSome? fun x=>(f x).map g)=(xs.findSome? f).map g
 | []=>rfl
 | x ::xs=>by
   rw[List.findSome?_cons,jL xs,List.findSome?_cons]
   cases f x <;> rfl
noncomputable def Al(n:Nat)(d:D):Prop:=bZ n [d,d]= .ok (.bl true)
theorem uG(n:Nat)(i:Int):Al (n+1) (.int i):=by
 have:bZ (n+1) [.int i, .int i]= .ok (.bl (decide (i=i))):=rfl
 unfold Al
 rw[this,decide_eq_true rfl]
theorem qJ(n:Nat)(x:Str):Al (n+1) (.str x):=by
 have:bZ (n+1) [.str x, .str x]= .ok (.bl (decide (x=x))):=rfl
 unfold Al
 rw[this,decide_eq_true rfl]
theorem IK(n:Nat)(b:Bool):Al (n+1) (.bl b):=by
 have:bZ (n+1) [.bl b, .bl b]= .ok (.bl (decide (b=b))):=rfl
 unfold Al
 rw[this,decide_eq_true rfl]
theorem Ly(n:Nat)(b:Bool):Al (n+1) (bI b):=uG n _
theorem ze{n:Nat}{d:D}{ds:List D}(hix:∀(i:Nat) (x:D),ds[i]? =some x→cg d (.int i)= .ok x)(h:∀x∈ds,Al n x):∃a,nP (aV 2) (fQ (bZ n)) (bQ 0 ds.length) [.val d, .val d, .un]= .ok (.nx [.val d, .val d,a]):=by
 obtain⟨δ',e,a,hδ⟩:=d6 (t:=aV 2) (body:=fQ (bZ n)) (ds:=bQ 0 ds.length) (fun i δ=>∃a,δ=[.val d, .val d,a]) (δ:=[.val d, .val d, .un]) ⟨.un,rfl⟩ (fun i x δ hx ⟨a,hδ⟩=>by
  subst hδ
  obtain⟨hi,rfl⟩:=jF hx
  have q:ds[i]? =some ds[i]:=List.getElem?_eq_getElem hi
  refine⟨[.val d, .val d, .val (.int i)],?_,_,rfl⟩
  show fQ (bZ n) [.val d, .val d, .val (.int i)]=_
  unfold fQ
  refine dW ?_ rfl
  have e1:aG (bZ n) (aq (e2 cg (ae 0) (ae 2)) (aq (e2 cg (ae 1) (ae 2)) aD)) [.val d, .val d, .val (.int i)]= .ok (.bl true):=
   aR (ds:=[ds[i],ds[i]]) (aW (ay (a:=d) (b:= .int i) rfl rfl (hix i _ q)) (aW (ay (a:=d) (b:= .int i) rfl rfl (hix i _ q)) rfl)) (h _ (List.getElem_mem hi))
  unfold kL iW
  rw[e1];rfl)
 exact⟨a,by rw[e,hδ]⟩
theorem mY{n:Nat}{ds:List D}(hl:ds.length < 100000)(h:∀x∈ds,Al n x):Al (n+1) (.tup ds):=by
 obtain⟨a,e⟩:=ze (d:= .tup ds) (fun i x hx=>ng (oV hx)) h
 unfold Al
 show lL jA (ik (bZ n)) [.tup ds, .tup ds]=_
 unfold ik
 refine c7 (aY (dW rfl rfl) (aY (dW rfl rfl) (aY (dW rfl rfl) (aY (dW rfl rfl) (aY (pk rfl (dW rfl rfl)) (aY (dW ?_ rfl) (aY (fW (eF (n:=ds.length) rfl (by omega)) e) (cG rfl))))))))
 exact fJ (a:= .int ds.length) (b:= .int ds.length) rfl rfl (ne_int _)
theorem yo{n:Nat}{ds:List D}(hl:ds.length < 100000)(h:∀x∈ds,Al n x):Al (n+1) (.lst ds):=by
 obtain⟨a,e⟩:=ze (d:= .lst ds) (fun i x hx=>jg (oV hx)) h
 unfold Al
 show lL jA (ik (bZ n)) [.lst ds, .lst ds]=_
 unfold ik
 refine c7 (aY (dW rfl rfl) (aY (dW rfl rfl) (aY (dW rfl rfl) (aY (dW rfl rfl) (aY (dW rfl (dW rfl rfl)) (aY (dW ?_ rfl) (aY (fW (eF (n:=ds.length) rfl (by omega)) e) (cG rfl))))))))
 exact fJ (a:= .int ds.length) (b:= .int ds.length) rfl rfl (ne_int _)
section
variable {ins:List (Str × Nat)} {gs:List Gt} {os:List (Str × List Nat)}
theorem Bb(n:Nat){ns:List Nat}(h:ns.length < 100000):Al (n+2) (.tup (ns.map nI)):=mY (by rw[List.length_map];exact h) fun x hx=>by obtain⟨m,_,rfl⟩:=List.mem_map.mp hx;exact uG _ _
theorem G9(NO:i9 ins gs os):Al 5 (bK ins gs os):=by
 have hO:=NO.ho
 have hI:=NO.hi
 have hG:=NO.hg
 refine mY (by simp) fun x hx=>?_
 simp only[List.mem_cons,List.not_mem_nil,or_false] at hx
 rcases hx with rfl | rfl | rfl
 ·refine yo (by rw[List.length_map];omega) fun x hx=>?_
  obtain⟨y,hy,rfl⟩:=List.mem_map.mp hx
  refine mY (by simp) fun z hz=>?_
  simp only[List.mem_cons,List.not_mem_nil,or_false] at hz
  rcases hz with rfl | rfl
  ·exact qJ _ _
  ·exact uG _ _
 ·refine yo (by rw[List.length_map];omega) fun x hx=>?_
  obtain⟨y,hy,rfl⟩:=List.mem_map.mp hx
  obtain⟨i,hi⟩:=List.getElem?_of_mem hy
  have g:=NO.g i y hi
  have:=vI y.1
  refine mY (by simp) fun z hz=>?_
  simp only[List.mem_cons,List.not_mem_nil,or_false] at hz
  rcases hz with rfl | rfl | rfl
  ·exact qJ _ _
  ·exact Bb _ (by rw[g.2.1];omega)
  ·exact IK _ _
 ·refine yo (by rw[List.length_map];omega) fun x hx=>?_
  obtain⟨y,hy,rfl⟩:=List.mem_map.mp hx
  have:=(NO.o y hy).1
  refine mY (by simp) fun z hz=>?_
  simp only[List.mem_cons,List.not_mem_nil,or_false] at hz
  rcases hz with rfl | rfl
  ·exact qJ _ _
  ·exact Bb _ (by omega)
theorem zO:iH [bK ins gs os]= .ok (bK ins gs os):=rfl
end
section
variable {c:Nat} {ins:List (Str × Nat)} {gs:List Gt} {os:List (Str × List Nat)} {safe:Bool} {m:Nat}
theorem AW{x:Str × List Nat}{p:Nat}(hl:1≤x.2.length∧x.2.length≤3)(h2:∀a b,x.2=[a,b]→iC (Wd c ins gs [] []) a p=iC (Wd c ins gs [] []) b p):(pt (Wd c ins gs [] []) x p).2=!(pt (Wd c ins gs [] []) x p).1:=by
 unfold pt tell
 rw[List.map_map]
 obtain⟨s,ws⟩:=x
 match ws,hl,h2 with
 | [a],_,_=>show iC _ a p=!(!(iC _ a p));rw [Bool.not_not]
 | [a,b],_,h2=>
   show(iC (Wd c ins gs [] []) a p && iC (Wd c ins gs [] []) b p)=!(!(iC (Wd c ins gs [] []) a p || iC (Wd c ins gs [] []) b p))
   rw[h2 a b rfl]
   cases iC (Wd c ins gs [] []) b p <;> rfl
 | [a,b,d],_,_=>
   show _=!(!_)
   rw[Bool.not_not];rfl
theorem EJ{p:Nat}(hsd:∀x∈os,∀p,(pt (Wd c ins gs [] []) x p).2=!(pt (Wd c ins gs [] []) x p).1):CI safe c ins gs os (nZ []) p=false:=by
 show(os.any fun x=>brk safe (pt (Wd c ins gs [] []) x p) (pt (Wd c ins gs [] []) x p))=false
 rw[List.any_eq_false]
 intro x hx
 have h:=hsd x hx p
 generalize pt (Wd c ins gs [] []) x p=A at h ⊢
 obtain⟨a,b⟩:=A
 have h:b=!a:=h
 subst h
 cases a <;> cases safe <;> decide
theorem DI(hsd:∀x∈os,∀p,(pt (Wd c ins gs [] []) x p).2=!(pt (Wd c ins gs [] []) x p).1):iJ safe c ins gs os []=none:=by
 unfold iJ
 have:CI safe c ins gs os (nZ [])=fun _=>false:=funext fun p=>EJ hsd
 rw[this]
 have:(List.range (2 ^ c)).filter (fun _=>false)=[]:=by rw[List.filter_eq_nil_iff];intro a _;decide
 rw[this];rfl
theorem Bo(hsd:∀x∈os,∀p,(pt (Wd c ins gs [] []) x p).2=!(pt (Wd c ins gs [] []) x p).1):bears safe c ins gs os m=((((List.range m).map (·+1)).findSome? fun s=>(iq (me gs) s).findSome? (iJ safe c ins gs os))).getD tq:=by
 unfold bears
 congr 1
 have t0:(iq (me gs) 0).findSome? (iJ safe c ins gs os)=none:=by
  show([[]]:List (List Nat)).findSome? _=none
  rw[List.findSome?_cons,DI hsd];rfl
 rw[List.range_succ_eq_map,List.findSome?_cons,t0]
theorem GP{T:List Nat}{p:Nat}(h:T.length < 1000):Al 5 (BM T p):=by
 unfold BM
 refine mY (by simp) fun x hx=>?_
 simp only[List.mem_cons,List.not_mem_nil,or_false] at hx
 rcases hx with rfl | rfl | rfl
 ·exact qJ _ _
 ·exact Bb _ (by omega)
 ·exact uG _ _
theorem EY:Al 5 tq:=by
 unfold tq
 refine mY (by simp) fun x hx=>?_
 rw[List.mem_singleton.mp hx]
 exact qJ _ _
theorem By(hm:m≤3):Al 5 (bears safe c ins gs os m):=by
 unfold bears
 cases h:(List.range (m+1)).findSome? (fun s=>(iq (me gs) s).findSome? (iJ safe c ins gs os)) with
 | none=>exact EY
 | some d=>
   obtain⟨s,hs,h2⟩:=List.exists_of_findSome?_eq_some h
   obtain⟨T,hT,h3⟩:=List.exists_of_findSome?_eq_some h2
   rw[List.mem_range] at hs
   unfold iJ at h3
   cases h4:((List.range (2 ^ c)).filter (CI safe c ins gs os (nZ T))).head? with
   | none=>rw [h4] at h3;cases h3
   | some p=>
     rw[h4] at h3;cases h3
     exact GP (by rw[(qA hT).1];omega)
noncomputable def gE(nt:D)(m:Nat)(lv inp pl:D)(a5 a6 a7:Option V3):DE:=[some (.d nt),some (.d (nI m)),some (.d lv),some (.d inp),some (.d pl),a5,a6,a7]
theorem GJ(NO:i9 ins gs os)(hc:ins.length=c)(hc1:c≤6)(ho:∀x∈os,1≤x.2.length∧x.2.length≤3)(hsd:∀x∈os,∀p,(pt (Wd c ins gs [] []) x p).2=!(pt (Wd c ins gs [] []) x p).1)(hg:gs.length≤100)(hm:m≤3){S:aU}(hS:yn S){Q:V3→aU→Prop}(h:Q (.d (bears safe c ins gs os m)) S) :
 W3 (kz [.d (bK ins gs os), .d (nI m), .d (.str (lZ safe))] S) Q:=by
 have hz:sizeLine=16777216:=sizeLine_eq
 have hul:(me gs).length≤100:=Nat.le_trans yz hg
 have hpow:2 ^ c≤64:=Nat.pow_le_pow_right (by omega) (by omega:c≤6)
 rw[Bo hsd] at h
 unfold kz
 refine mw hS (uB rfl ?_)
 simp only[bS,jQ,List.map_cons,List.map_nil,List.length_cons,List.length_nil,List.replicate,List.cons_append,List.nil_append,Nat.reduceAdd,Nat.reduceSub]
 unfold oP
 refine bc <| bL (by simp only[List.length_cons,List.length_nil,List.length_set];omega) <| dg (d:= .lst ((bb c).map bH)) (aR (ds:=[nI c]) (aW (aR (ds:=[.lst (ins.map MT.inD)]) (aW (ay (a:=bK ins gs os) (b:= .int 0) rfl rfl rfl) rfl) (by rw[ma,List.length_map,hc];rfl)) rfl) (Ak (by omega))) ⟨_,rfl,?_⟩
 simp only[List.set_cons_succ,List.set_cons_zero]
 refine bc <| bL (by simp only[List.length_cons,List.length_nil,List.length_set];omega) <| nD (fun j ds S8=>S8=S∧ds=((List.range (2 ^ c)).map fun p=>D.lst (RD c ins gs os [] p)).take j) (k3 (ds:=(bb c).map bH) rfl ⟨by rw[List.length_map,List.length_map,cx];omega,⟨rfl,by simp⟩,?_,?_⟩)
 ·rintro p v ds8 S8 hv ⟨rfl,rfl⟩
  obtain⟨bits,hb,rfl⟩:=NT.qw hv
  have hpl:p < 2 ^ c:=by have:=(List.getElem?_eq_some_iff.mp hb).1;rwa [cx] at this
  refine⟨[some (.d (bH bits)),some (.d (bK ins gs os))],rfl,B_ ?_⟩
  rw[if_pos rfl]
  refine dg (d:= .lst (RD c ins gs os [] p)) (aR (ds:=[bK ins gs os,bH bits, .tup (([]:List Int).map .int), .tup []]) rfl (og NO hc ho hb)) ⟨_,rfl,rfl,?_⟩
  rw[List.take_add_one,List.getElem?_map,List.getElem?_range hpl]
  rfl
 ·rintro ds8 S8 ⟨rfl,rfl⟩
  rw[List.length_map,List.length_map,cx,List.take_of_length_le (by simp)]
  refine⟨_,rfl,?_⟩
  simp only[List.set_cons_succ,List.set_cons_zero]
  refine uk <| fR <| k3 (ds:=((List.range m).map (·+1)).map nI) ?_ ?_
  ·have e:e2 eG (ae 1) (eC (.int 1)) (down [some (.d (bK ins gs os)),some (.d (nI m)),some (.d (.str (lZ safe))),some (.d (.lst ((bb c).map bH))),some (.d (.lst ((List.range (2 ^ c)).map fun p=>D.lst (RD c ins gs os [] p)))),none,none,none])= .ok (.int ((m:Int)+1)):=ay (a:=nI m) (b:= .int 1) rfl rfl rfl
   unfold tZ
   rw[show eC (.int 1) (down _)= .ok (.int 1) from rfl,R.aH,e,R.aH]
   show R.cb (decide (-(2 ^ 62)≤(1:Int)∧(1:Int) < 2 ^ 62∧ -(2 ^ 62)≤(m:Int)+1∧(m:Int)+1 < 2 ^ 62)) (.ok (bQ 1 ((m:Int)+1 - 1).toNat))=_
   rw[bR _ ⟨by omega,by omega,by omega,by omega⟩,show((m:Int)+1 - 1).toNat=m by omega]
   rw[Fg]
  rw[List.map_map]
  refine(fj (S:=S8) (V3.d ∘ nI) (fun s=>((iq (me gs) s).findSome? (iJ safe c ins gs os)).map V3.d) (fun δ=>∃a5 a6 a7,δ=gE (bK ins gs os) m (.str (lZ safe)) (.lst ((bb c).map bH)) (zI c ins gs os) a5 a6 a7) ⟨_,_,_,rfl⟩ ?_).mono fun o S1 ⟨e1,h1⟩=>?_
  ·rintro s hs δ ⟨a5,a6,a7,rfl⟩
   obtain⟨s',hs',rfl⟩:=List.mem_map.mp hs
   rw[List.mem_range] at hs'
   generalize hss:s'+1=s
   refine⟨gE (bK ins gs os) m (.str (lZ safe)) (.lst ((bb c).map bH)) (zI c ins gs os) (some (.d (nI s))) a6 a7,rfl,?_⟩
   unfold pG gE
   refine fR <| k3 (ds:=(iq (me gs) s).map cy) (ni (aR (ds:=[.lst ((me gs).map nI),nI s]) (aW (aR (ds:=[bK ins gs os]) rfl (Er hg)) rfl) (EU (xh gs) hul (by omega)))) ?_
   rw[List.map_map]
   refine(fj (S:=S8) (V3.d ∘ cy) (fun T=>(iJ safe c ins gs os T).map V3.d) (fun δ=>∃a6 a7,δ=gE (bK ins gs os) m (.str (lZ safe)) (.lst ((bb c).map bH)) (zI c ins gs os) (some (.d (nI s))) a6 a7) ⟨_,_,rfl⟩ ?_).mono fun o S1 ⟨e1,h1⟩=>⟨e1,?_⟩
   ·rintro T hT δ ⟨a6,a7,rfl⟩
    refine⟨gE (bK ins gs os) m (.str (lZ safe)) (.lst ((bb c).map bH)) (zI c ins gs os) (some (.d (nI s))) (some (.d (cy T))) a7,rfl,?_⟩
    unfold pJ gE
    refine bc <| bL (by simp only[List.length_cons,List.length_nil,List.length_set];omega) <| eK <| aJ <| dg (d:=bK ins gs os) rfl <| aJ <| dg (d:= .tup ((nZ T).map .int)) (by rw[IA];rfl) <| aJ <| dg (d:= .lst ((bb c).map bH)) rfl <| aJ <| dg (d:=zI c ins gs os) rfl <| aJ <| dg (d:= .str (lZ safe)) rfl <| cX <| A1 NO hc ho hsd hS ⟨_,rfl,?_⟩
    simp only[List.set_cons_succ,List.set_cons_zero]
    unfold iJ
    cases hh:((List.range (2 ^ c)).filter (CI safe c ins gs os (nZ T))).head? with
    | some p=>
      refine rA <| ve (b:=true) rfl ?_
      rw[if_pos rfl]
      exact eW <| dg (d:=BM T p) (gH rfl (by simp;omega)) ⟨rfl,rfl⟩
    | none=>
      refine rA <| ve (b:=false) rfl ?_
      rw[if_neg (by decide)]
      exact nc ⟨rfl,_,rfl,_,_,rfl⟩
   ·rw[jL] at h1
    generalize (iq (me gs) s).findSome? (iJ safe c ins gs os)=r at h1 ⊢
    cases r with
    | some d=>exact h1
    | none=>obtain⟨δ2,e2',b6,b7,e3⟩:=h1;exact⟨δ2,e2',_,b6,b7,e3⟩
  ·subst e1
   rw[jL] at h1
   generalize ((List.range m).map (·+1)).findSome? (fun s=>(iq (me gs) s).findSome? (iJ safe c ins gs os))=r at h1 h
   cases r with
   | some d=>
     have h1:o= .rt (.d d):=h1
     subst h1
     exact⟨_,rfl,by unfold eI;rfl,⟨[],by simp⟩,_,by unfold res;rfl,h⟩
   | none=>
     obtain⟨δ2,rfl,b5,b6,b7,rfl⟩:=h1
     exact eW <| dg (d:=tq) rfl ⟨_,rfl,by unfold eI;rfl,⟨[],by simp⟩,_,by unfold res;rfl,h⟩
end
end K14
end
section
set_option maxRecDepth 100000
set_option maxHeartbeats 4000000
namespace K14
open PySem PySem.Spec PyProof.Rows L2 L3 MT
theorem yN(ns:List Int)(k:Nat):∃c:Int,dR [.lst (ns.map .int), .int k]= .ok (.int c):=by
 by_cases h:k < ns.length
 ·refine⟨ns[k],?_⟩
  unfold dR jH
  refine c7 ?_
  have e:k4 (b2 AH (ae 1) (aG cP (aq (ae 0) aD))) (cQ (e2 cg (ae 0) (ae 1))) fO (cV jK [.lst (ns.map .int), .int k])= .ok (.rt (.int ns[k])):=by
   refine pk ?_ (cG (ay (a:= .lst (ns.map .int)) (b:= .int k) rfl rfl (jg (oV (by rw[List.getElem?_map,List.getElem?_eq_getElem h];rfl)))))
   refine fJ (a:= .int k) (b:= .int ns.length) rfl (aR (ds:=[.lst (ns.map .int)]) rfl (by rw[ma,List.length_map])) ?_
   show R.ok (D.bl (decide ((k:Int) < (ns.length:Int))))=_
   rw[decide_eq_true (by omega)]
  unfold cK
  rw[e];rfl
 ·refine⟨0,?_⟩
  unfold dR jH
  refine c7 (aY (dW ?_ rfl) rfl)
  refine fJ (a:= .int k) (b:= .int ns.length) rfl (aR (ds:=[.lst (ns.map .int)]) rfl (by rw[ma,List.length_map])) ?_
  show R.ok (D.bl (decide ((k:Int) < (ns.length:Int))))=_
  rw[decide_eq_false (by omega)]
theorem EO(ns:List Int)(lo hi:Option Int):L2.cutD (ns.map D.int) lo hi=(L2.cutD ns lo hi).map D.int:=by
 unfold L2.cutD
 rw[List.length_map,List.map_take,List.map_drop]
theorem JV{α:Type}(ns:List α)(lo hi:Option Int):(L2.cutD ns lo hi).length≤ns.length:=by
 unfold L2.cutD
 rw[List.length_take,List.length_drop];omega
theorem Dz:(10000000000000000000000000000000000000000:Int).natAbs.log2 < 9000:=by decide+kernel
noncomputable def lE(sc cs nt:D)(k m:Nat)(a3 a7 a8:Option V3):DE:=[some (.d sc),some (.loc k),some (.d cs),a3,some (.d nt),some (.d nt),some (.d (nI m)),a7,a8]
theorem CS(ns:List Int)(hns:ns.length≤63):zg [.lst (ns.map D.int)]= .ok (.bl true):=by
 have hz:sizeLine=16777216:=sizeLine_eq
 have key:W3 (nF qH tQ [.d (.lst (ns.map .int))] []) fun v S1=>v= .d (.bl true)∧S1=[]:=by
  refine qY (uB rfl ?_)
  simp only[bS,qH,List.map_cons,List.map_nil,List.length_cons,List.length_nil,List.replicate,List.cons_append,List.nil_append,Nat.reduceAdd,Nat.reduceSub]
  unfold tQ
  obtain⟨c0,ec0⟩:=yN ns 0
  obtain⟨c1,ec1⟩:=yN ns 1
  refine bc <| bL (by simp only[List.length_cons,List.length_nil,List.length_set];omega) <| eK <| aJ <| dg (d:= .int c0) (aR (ds:=[.lst (ns.map .int), .int 0]) rfl ec0) <| cX <| uS c0 Flat.nil fun S1 p1 l1 _=>⟨_,rfl,?_⟩
  simp only[List.set_cons_succ,List.set_cons_zero]
  simp only[List.length_nil] at p1 l1 ⊢
  refine bc <| bL (by simp only[List.length_cons,List.length_nil,List.length_set];omega) <| dg (d:= .lst ((L2.cutD ns (some 2) (some 10)).map .int)) ?_ ⟨_,rfl,?_⟩
  ·refine xN (d:= .lst (ns.map .int)) (lo:=some 2) (hi:=some 10) rfl rfl rfl ?_
   show R.ok (D.lst (L2.cutD (ns.map D.int) (some 2) (some 10)))=_
   rw[EO]
  simp only[List.set_cons_succ,List.set_cons_zero]
  have hcl:(L2.cutD ns (some 2) (some 10)).length≤8:=by
   unfold L2.cutD
   rw[show(some (2:Int))=some ((2:Nat):Int) from rfl,show(some (10:Int))=some ((10:Nat):Int) from rfl,HT.uM,HT.uM,List.length_take]
   omega
  generalize L2.cutD ns (some 2) (some 10)=cs at hcl
  refine bc <| fR <| k3 (ds:=bQ 0 (2 - (cs.length:Int)).toNat) ?_ ?_
  ·have e:e2 jG (eC (.int 2)) (aG cP (aq (ae 2) aD)) (down [some (.d (.lst (ns.map .int))),some (.loc 0),some (.d (.lst (cs.map .int))),none,none,none,none,none,none])= .ok (.int (2 - (cs.length:Int))):=
    ay (a:= .int 2) (b:= .int cs.length) rfl (aR (ds:=[.lst (cs.map .int)]) rfl (by rw[ma,List.length_map])) rfl
   unfold d5
   rw[e,R.aH]
   show R.cb (decide (-(2 ^ 62)≤2 - (cs.length:Int)∧2 - (cs.length:Int) < 2 ^ 62)) _=_
   rw[bR _ ⟨by omega,by omega⟩]
  refine(cT (fun i δ S2=>ph 0 S2∧∃(ds:List Int) (a3:Option V3),ds.length=cs.length+i∧δ=[some (.d (.lst (ns.map .int))),some (.loc 0),some (.d (.lst (ds.map .int))),a3,none,none,none,none,none])
   ⟨p1,cs,none,rfl,rfl⟩ ?_).mono fun o S2 ⟨δ2,e2',p2,ds,a3,hds,hδ⟩=>⟨δ2,e2',?_⟩
  ·rintro i v δ S2 hv ⟨p2,ds,a3,hds,rfl⟩
   have hi:i < 4:=by
    have:=(List.getElem?_eq_some_iff.mp hv).1
    rw[List.length_map,bQ,List.length_map,List.length_range] at this
    omega
   refine⟨_,rfl,?_⟩
   unfold yT
   refine bL (by simp only[List.length_cons,List.length_nil,List.length_set];omega) <| EM <| dg (d:= .lst (ds.map .int)) rfl <| IQ <| aJ <| eK <| aJ <| w_var (v:= .loc 0) rfl <| aJ <| dg (d:= .int 10000000000000000000000000000000000000000) ?_ <| cX <| uv p2 (by omega) Dz fun r S3 h1 h2 v3=>cX ⟨by simp;omega,_,_, .lst ((ds++[r]).map .int),rfl,rfl,?_,_,rfl,v3.p,ds++[r],some v,by simp [hds];omega,rfl⟩
   ·exact rfl
   ·rw[List.map_append]
    exact uq (by rw[List.length_map];simp;omega)
  have hdl:ds.length≤10∧2≤ds.length:=by
   rw[List.length_map,bQ,List.length_map,List.length_range] at hds
   omega
  subst hδ
  refine bc <| bL (by simp only[List.length_cons,List.length_nil,List.length_set];omega) <| eK <| aJ <| w_var (v:= .loc 0) rfl <| aJ <| dg (d:= .lst (ds.map .int)) rfl <| aJ <| dg (d:= .int 4) rfl <| aJ <| xi <| dg (d:= .lst [.int 1, .int 1, .int 0, .int 4]) rfl <| draw (k:=0) rfl p2 rfl (by omega) (by omega) fun r S3 h1 h2 v3=>?_
  have hms:∃ms:Int,cg (.lst [.int 1, .int 1, .int 0, .int 4]) (.int r)= .ok (.int ms):=by
   obtain q | q | q | q:r=0∨r=1∨r=2∨r=3:=by omega
   all_goals rw[q];exact⟨_,rfl⟩
  obtain⟨ms,ems⟩:=hms
  refine⟨_,_,_,rfl,rfl,ems,?_⟩
  refine cX <| BH v3.p (by omega) ⟨by omega,by omega⟩ fun l gs os S4 hlw hl1 hl6 hgl hgs hol1 hol hos v4=>⟨_,rfl,?_⟩
  simp only[List.set_cons_succ,List.set_cons_zero]
  have NO:i9 l gs os:=⟨by omega,fun x hx=>by have:=hlw x hx;omega,by omega,hgs,by omega,fun x hx=>⟨by have:=(hos x hx).1;omega,(hos x hx).2.1⟩⟩
  have ho:∀x∈os,1≤x.2.length∧x.2.length≤3:=fun x hx=>(hos x hx).1
  have hsd:∀x∈os,∀p,(pt (Wd l.length l gs [] []) x p).2=!(pt (Wd l.length l gs [] []) x p).1:=fun x hx p=>AW (ho x hx) fun a b hab=>(hos x hx).2.2 a b hab (sr l.length) qV p
  refine bc <| bL (by simp only[List.length_cons,List.length_nil,List.length_set];omega) <| dg (d:=bK l gs os) (aR (ds:=[bK l gs os]) rfl zO) ⟨_,rfl,?_⟩
  simp only[List.set_cons_succ,List.set_cons_zero]
  refine bc <| bL (by simp only[List.length_cons,List.length_nil,List.length_set];omega) <| eK <| aJ <| dg (d:= .int c1) (aR (ds:=[.lst (ns.map .int), .int 1]) rfl ec1) <| cX <| uS c1 v4.p.1 fun S5 p5 l5 _=>⟨_,rfl,?_⟩
  simp only[List.set_cons_succ,List.set_cons_zero]
  generalize S4.length=kk at p5 l5
  refine bc <| bL (by simp only[List.length_cons,List.length_nil,List.length_set];omega) <| draw (k:=kk) rfl p5 rfl (by omega) (by omega) fun m0 S6 hm1 hm2 v6=>⟨_,rfl,?_⟩
  simp only[List.set_cons_succ,List.set_cons_zero]
  obtain⟨m,rfl⟩:∃m:Nat,m0=(m:Int):=⟨m0.toNat,by omega⟩
  have hF6:Flat S6:=v6.p.1
  refine uk <| fR <| k3 (ds:=[(m,false),(m,true),(1,false),(0,false)].map fun x:Nat × Bool=>D.tup [nI x.1, .str (lZ x.2)]) rfl ?_
  rw[List.map_map]
  refine(fj (S:=S6) (V3.d ∘ fun x:Nat × Bool=>D.tup [nI x.1, .str (lZ x.2)]) (fun _=>none) (fun δ=>∃a7 a8,δ=lE (.lst (ns.map .int)) (.lst (ds.map .int)) (bK l gs os) kk m a3 a7 a8) ⟨_,_,rfl⟩ ?_).mono fun o S7 ⟨e7,h7⟩=>?_
  ·rintro⟨m1,safe⟩ hx δ ⟨a7,a8,rfl⟩
   have hm:m1≤3:=by
    simp only[List.mem_cons,List.not_mem_nil,or_false,Prod.mk.injEq] at hx
    omega
   refine⟨lE (.lst (ns.map .int)) (.lst (ds.map .int)) (bK l gs os) kk m a3 (some (.d (nI m1))) (some (.d (.str (lZ safe)))),rfl,?_⟩
   unfold yA lE
   refine rA <| w_not <| Jk <| uj <| aJ <| eK <| aJ <| dg (d:=bK l gs os) rfl <| aJ <| dg (d:=nI m1) rfl <| aJ <| dg (d:= .str (lZ safe)) rfl <| cX <| Dk (c:=l.length) NO rfl (by omega) ho (by omega) hm hF6 <| aJ <| eK <| aJ <| dg (d:=bK l gs os) rfl <| aJ <| dg (d:=nI m1) rfl <| aJ <| dg (d:= .str (lZ safe)) rfl <| cX <| GJ (c:=l.length) NO rfl (by omega) ho hsd (by omega) hm hF6.Lf <| cX ⟨[bears safe l.length l gs os m1,bears safe l.length l gs os m1], .bl true,rfl,By hm, .bl true,true,rfl,rfl,?_⟩
   rw[if_neg (by decide)]
   exact nc ⟨rfl,_,rfl,_,_,rfl⟩
  ·subst e7
   rw[vU fun _ _=>rfl] at h7
   obtain⟨δ2,rfl,a7,a8,rfl⟩:=h7
   unfold lE
   exact eW (dg (d:= .bl true) (aR (ds:=[bK l gs os,bK l gs os]) rfl (G9 NO)) ⟨_,rfl,hF6,by unfold eI;rfl, .bl true,by unfold res;rfl,rfl,rfl⟩)
 obtain⟨v,S1,e,rfl,rfl⟩:=key
 unfold zg J1
 simp only[List.map_cons,List.map_nil]
 rw[e]
 rfl
end K14
end
open PySem PySem.W PyProof.Rows
set_option maxRecDepth 100000 in
set_option maxHeartbeats 0 in
theorem PySem.Challenge.cw_bearfaults_k14_faults_by_trial_holds : PySem.Challenge.rw_bearfaults_k14_faults_by_trial.Holds := by
 w_on;o_law;k_head;(case hw=>w_witness2)
 k_fill
 refine L2.II (l:=PySem.Challenge.rw_bearfaults_k14_faults_by_trial) (n:=63) (k:=9) (x:=Str.ofString "script") (g:=K14.zg) rfl (by decide) rfl ⟨rfl,by decide,by decide⟩ (fun w h Y=>PySem.W.kIn_of Y) ?F K14.CS
 case F=>
  intro w mg fa h KX G hmg
  have D_vote_of:L2.Def (L2.ft KX) mg (Str.ofString "vote_of") K14.fF:=by
   dsimp only[L2.ft]
   refine' L2.cf KX G ?a ?l ?c ?k
   (case a=>k_is);(case l=>k_is);(case c=>k_is);(case k=>k_is)
  have D_gate_mask:L2.Def (L2.ft KX) mg (Str.ofString "gate_mask") K14.dI:=by
   dsimp only[L2.ft]
   refine' L2.cf KX G ?a ?l ?c ?k
   (case a=>k_is);(case l=>k_is);(case c=>k_is);(case k=>k_is)
  have D_in_wire_masks:L2.Def (L2.ft KX) mg (Str.ofString "in_wire_masks") K14.cq:=by
   dsimp only[L2.ft]
   refine' L2.cf KX G ?a ?l ?c ?k
   (case a=>k_is);(case l=>k_is);(case c=>k_is);(case k=>k_is)
  have D_masks_at:L2.Def (L2.ft KX) mg (Str.ofString "masks_at") K14.el:=by
   dsimp only[L2.ft]
   refine' L2.cf KX G ?a ?l ?c ?k
   (case a=>k_is);(case l=>k_is);(case c=>k_is);(case k=>k_is)
  have D_wire_masks:L2.Def (L2.ft KX) mg (Str.ofString "wire_masks") K14.dc:=by
   dsimp only[L2.ft]
   refine' L2.cf KX G ?a ?l ?c ?k
   (case a=>k_is);(case l=>k_is);(case c=>k_is);(case k=>k_is)
  have D_out_masks:L2.Def (L2.ft KX) mg (Str.ofString "out_masks") K14.dF:=by
   dsimp only[L2.ft]
   refine' L2.cf KX G ?a ?l ?c ?k
   (case a=>k_is);(case l=>k_is);(case c=>k_is);(case k=>k_is)
  have D_reading:L2.Def (L2.ft KX) mg (Str.ofString "reading") K14.fH:=by
   dsimp only[L2.ft]
   refine' L2.cf KX G ?a ?l ?c ?k
   (case a=>k_is);(case l=>k_is);(case c=>k_is);(case k=>k_is)
  have D_bit_at:L2.Def (L2.ft KX) mg (Str.ofString "bit_at") K14.gy:=by
   dsimp only[L2.ft]
   refine' L2.cf KX G ?a ?l ?c ?k
   (case a=>k_is);(case l=>k_is);(case c=>k_is);(case k=>k_is)
  have D_all_inputs:L2.Def (L2.ft KX) mg (Str.ofString "all_inputs") K14.de:=by
   dsimp only[L2.ft]
   refine' L2.cf KX G ?a ?l ?c ?k
   (case a=>k_is);(case l=>k_is);(case c=>k_is);(case k=>k_is)
  have D_mask_of:L2.Def (L2.ft KX) mg (Str.ofString "mask_of") K14.fA:=by
   dsimp only[L2.ft]
   refine' L2.cf KX G ?a ?l ?c ?k
   (case a=>k_is);(case l=>k_is);(case c=>k_is);(case k=>k_is)
  have D_in_mask:L2.Def (L2.ft KX) mg (Str.ofString "in_mask") K14.fw:=by
   dsimp only[L2.ft]
   refine' L2.cf KX G ?a ?l ?c ?k
   (case a=>k_is);(case l=>k_is);(case c=>k_is);(case k=>k_is)
  have D_choices:L2.Def (L2.ft KX) mg (Str.ofString "choices") K14.fI:=by
   dsimp only[L2.ft]
   refine' L2.cf KX G ?a ?l ?c ?k
   (case a=>k_is);(case l=>k_is);(case c=>k_is);(case k=>k_is)
  have D_bears:L2.Def (L2.ft KX) mg (Str.ofString "bears") K14.iL:=by
   dsimp only[L2.ft]
   refine' L2.cf KX G ?a ?l ?c ?k
   (case a=>k_is);(case l=>k_is);(case c=>k_is);(case k=>k_is)
  have D_law_cell_at:L2.Def (L2.ft KX) mg (Str.ofString "_law_cell_at") K14.cL:=by
   dsimp only[L2.ft]
   refine' L2.cf KX G ?a ?l ?c ?k
   (case a=>k_is);(case l=>k_is);(case c=>k_is);(case k=>k_is)
  have D_law_reel:L2.Def (L2.ft KX) mg (Str.ofString "_law_reel") K14.ei:=by
   dsimp only[L2.ft]
   refine' L2.cf KX G ?a ?l ?c ?k
   (case a=>k_is);(case l=>k_is);(case c=>k_is);(case k=>k_is)
  have D_law_take:L2.Def (L2.ft KX) mg (Str.ofString "_law_take") K14.eE:=by
   dsimp only[L2.ft]
   refine' L2.cf KX G ?a ?l ?c ?k
   (case a=>k_is);(case l=>k_is);(case c=>k_is);(case k=>k_is)
  have D_law_names:L2.Def (L2.ft KX) mg (Str.ofString "_law_names") K14.dy:=by
   dsimp only[L2.ft]
   refine' L2.cf KX G ?a ?l ?c ?k
   (case a=>k_is);(case l=>k_is);(case c=>k_is);(case k=>k_is)
  have D_law_gate:L2.Def (L2.ft KX) mg (Str.ofString "_law_gate") K14.eB:=by
   dsimp only[L2.ft]
   refine' L2.cf KX G ?a ?l ?c ?k
   (case a=>k_is);(case l=>k_is);(case c=>k_is);(case k=>k_is)
  have D_law_again:L2.Def (L2.ft KX) mg (Str.ofString "_law_again") K14.dD:=by
   dsimp only[L2.ft]
   refine' L2.cf KX G ?a ?l ?c ?k
   (case a=>k_is);(case l=>k_is);(case c=>k_is);(case k=>k_is)
  have D_law_outs:L2.Def (L2.ft KX) mg (Str.ofString "_law_outs") K14.eH:=by
   dsimp only[L2.ft]
   refine' L2.cf KX G ?a ?l ?c ?k
   (case a=>k_is);(case l=>k_is);(case c=>k_is);(case k=>k_is)
  have D_law_net:L2.Def (L2.ft KX) mg (Str.ofString "_law_net") K14.fG:=by
   dsimp only[L2.ft]
   refine' L2.cf KX G ?a ?l ?c ?k
   (case a=>k_is);(case l=>k_is);(case c=>k_is);(case k=>k_is)
  have D_law_gate_bit:L2.Def (L2.ft KX) mg (Str.ofString "_law_gate_bit") K14.cz:=by
   dsimp only[L2.ft]
   refine' L2.cf KX G ?a ?l ?c ?k
   (case a=>k_is);(case l=>k_is);(case c=>k_is);(case k=>k_is)
  have D_law_wires:L2.Def (L2.ft KX) mg (Str.ofString "_law_wires") K14.dE:=by
   dsimp only[L2.ft]
   refine' L2.cf KX G ?a ?l ?c ?k
   (case a=>k_is);(case l=>k_is);(case c=>k_is);(case k=>k_is)
  have D_law_read:L2.Def (L2.ft KX) mg (Str.ofString "_law_read") K14.et:=by
   dsimp only[L2.ft]
   refine' L2.cf KX G ?a ?l ?c ?k
   (case a=>k_is);(case l=>k_is);(case c=>k_is);(case k=>k_is)
  have D_law_reads:L2.Def (L2.ft KX) mg (Str.ofString "_law_reads") K14.dN:=by
   dsimp only[L2.ft]
   refine' L2.cf KX G ?a ?l ?c ?k
   (case a=>k_is);(case l=>k_is);(case c=>k_is);(case k=>k_is)
  have D_law_inputs:L2.Def (L2.ft KX) mg (Str.ofString "_law_inputs") K14.c6:=by
   dsimp only[L2.ft]
   refine' L2.cf KX G ?a ?l ?c ?k
   (case a=>k_is);(case l=>k_is);(case c=>k_is);(case k=>k_is)
  have D_law_breaks:L2.Def (L2.ft KX) mg (Str.ofString "_law_breaks") K14.cY:=by
   dsimp only[L2.ft]
   refine' L2.cf KX G ?a ?l ?c ?k
   (case a=>k_is);(case l=>k_is);(case c=>k_is);(case k=>k_is)
  have D_law_sets:L2.Def (L2.ft KX) mg (Str.ofString "_law_sets") K14.eu:=by
   dsimp only[L2.ft]
   refine' L2.cf KX G ?a ?l ?c ?k
   (case a=>k_is);(case l=>k_is);(case c=>k_is);(case k=>k_is)
  have D_law_free:L2.Def (L2.ft KX) mg (Str.ofString "_law_free") K14.eD:=by
   dsimp only[L2.ft]
   refine' L2.cf KX G ?a ?l ?c ?k
   (case a=>k_is);(case l=>k_is);(case c=>k_is);(case k=>k_is)
  have D_law_due:L2.Def (L2.ft KX) mg (Str.ofString "_law_due") K14.fD:=by
   dsimp only[L2.ft]
   refine' L2.cf KX G ?a ?l ?c ?k
   (case a=>k_is);(case l=>k_is);(case c=>k_is);(case k=>k_is)
  have D_law_alike:L2.Def (L2.ft KX) mg (Str.ofString "_law_alike") K14.dA:=by
   dsimp only[L2.ft]
   refine' L2.cf KX G ?a ?l ?c ?k
   (case a=>k_is);(case l=>k_is);(case c=>k_is);(case k=>k_is)
  have D_law_copied:L2.Def (L2.ft KX) mg (Str.ofString "_law_copied") K14.cZ:=by
   dsimp only[L2.ft]
   refine' L2.cf KX G ?a ?l ?c ?k
   (case a=>k_is);(case l=>k_is);(case c=>k_is);(case k=>k_is)
  have D_law:L2.Def (L2.ft KX) mg (Str.ofString "law") K14.pR:=by
   dsimp only[L2.ft]
   refine' L2.cf KX G ?a ?l ?c ?k
   (case a=>k_is);(case l=>k_is);(case c=>k_is);(case k=>k_is)
  obtain⟨cl,CF⟩:∃cl,K14.Cf (L2.ft KX) mg cl:=by
   dsimp only[L2.ft]
   refine' K14.Ih KX G ?aC0 ?pg0 ?hd0 ?po0 ?sa0 ?mk0 ?kc0 ?n0_net ?n0_many_inputs ?n0_full ?n0_in_masks ?aC1 ?pg1 ?hd1 ?po1 ?sa1 ?mk1 ?kc1 ?n1_bench ?n1_plain ?n1_unsure ?a_Bench___init__ ?i_Bench___init__ ?l_Bench___init__ ?d_ ?k_Bench___init__ ?a_Bench_tells ?i_Bench_tells ?l_Bench_tells ?fP ?k_Bench_tells ?a_Bench_readings ?i_Bench_readings ?l_Bench_readings ?d4 ?k_Bench_readings ?a_Trial___init__ ?i_Trial___init__ ?l_Trial___init__ ?d7 ?k_Trial___init__ ?a_Trial_breaks_at ?i_Trial_breaks_at ?l_Trial_breaks_at ?dG ?k_Trial_breaks_at ?a_Bench_inputs_in ?i_Bench_inputs_in ?l_Bench_inputs_in ?dw ?k_Bench_inputs_in
   (case aC0=>k_is)
   (case pg0=>k_is)
   (case hd0=>k_is)
   (case po0=>k_is)
   (case sa0=>k_is)
   (case mk0=>k_is)
   (case kc0=>k_is)
   (case n0_net=>k_is)
   (case n0_many_inputs=>k_is)
   (case n0_full=>k_is)
   (case n0_in_masks=>k_is)
   (case aC1=>k_is)
   (case pg1=>k_is)
   (case hd1=>k_is)
   (case po1=>k_is)
   (case sa1=>k_is)
   (case mk1=>k_is)
   (case kc1=>k_is)
   (case n1_bench=>k_is)
   (case n1_plain=>k_is)
   (case n1_unsure=>k_is)
   (case a_Bench___init__=>k_is)
   (case i_Bench___init__=>k_is)
   (case l_Bench___init__=>k_is)
   (case d_=>k_is)
   (case k_Bench___init__=>k_is)
   (case a_Bench_tells=>k_is)
   (case i_Bench_tells=>k_is)
   (case l_Bench_tells=>k_is)
   (case fP=>k_is)
   (case k_Bench_tells=>k_is)
   (case a_Bench_readings=>k_is)
   (case i_Bench_readings=>k_is)
   (case l_Bench_readings=>k_is)
   (case d4=>k_is)
   (case k_Bench_readings=>k_is)
   (case a_Trial___init__=>k_is)
   (case i_Trial___init__=>k_is)
   (case l_Trial___init__=>k_is)
   (case d7=>k_is)
   (case k_Trial___init__=>k_is)
   (case a_Trial_breaks_at=>k_is)
   (case i_Trial_breaks_at=>k_is)
   (case l_Trial_breaks_at=>k_is)
   (case dG=>k_is)
   (case k_Trial_breaks_at=>k_is)
   (case a_Bench_inputs_in=>k_is)
   (case i_Bench_inputs_in=>k_is)
   (case l_Bench_inputs_in=>k_is)
   (case dw=>k_is)
   (case k_Bench_inputs_in=>k_is)
  have D_Bench___init__:=CF.D_Bench___init__
  have D_Bench_tells:=CF.D_Bench_tells
  have D_Bench_readings:=CF.D_Bench_readings
  have D_Trial___init__:=CF.D_Trial___init__
  have D_Trial_breaks_at:=CF.D_Trial_breaks_at
  have D_Bench_inputs_in:=CF.D_Bench_inputs_in
  have T:K14.Tp (L2.ft KX) mg cl:=by
   dsimp only[L2.ft]
   refine' ⟨PySem.W.mg_none_of KX G ?z_enumerate,PySem.W.mg_none_of KX G ?z_range,PySem.W.mg_none_of KX G ?z_len,PySem.W.mg_none_of KX G ?z_tuple,PySem.W.mg_none_of KX G ?z_reversed,PySem.W.mg_none_of KX G ?z_zip,PySem.W.mg_none_of KX G ?z_abs,PySem.W.mg_none_of KX G ?z_min,PySem.W.mg_none_of KX G ?z_max,PySem.W.mg_none_of KX G ?z_sum,PySem.W.mg_none_of KX G ?z_int,PySem.W.mg_none_of KX G ?z_isinstance,PySem.W.mg_none_of KX G ?z_bool,PySem.W.mg_none_of KX G ?z_str,PySem.W.mg_none_of KX G ?z_list,CF.C_Bench,CF.N_Bench_net,CF.N_Bench_many_inputs,CF.N_Bench_full,CF.N_Bench_in_masks,CF.M_Bench,CF.C_Trial,CF.N_Trial_bench,CF.N_Trial_plain,CF.N_Trial_unsure,CF.M_Trial⟩
   (case z_enumerate=>k_is);(case z_range=>k_is);(case z_len=>k_is);(case z_tuple=>k_is);(case z_reversed=>k_is);(case z_zip=>k_is);(case z_abs=>k_is);(case z_min=>k_is);(case z_max=>k_is);(case z_sum=>k_is);(case z_int=>k_is);(case z_isinstance=>k_is);(case z_bool=>k_is);(case z_str=>k_is);(case z_list=>k_is)
  obtain⟨fl,fd,Fl,hl⟩:=D_law
  have e0:=hmg.symm.trans hl
  cases e0
  refine' ⟨fd,?b,fun base kb nb=>K14.Gh T D_vote_of D_gate_mask D_in_wire_masks D_masks_at D_wire_masks D_out_masks D_reading D_bit_at D_all_inputs D_mask_of D_in_mask D_choices D_Bench___init__ D_Bench_tells D_Bench_readings D_Trial___init__ D_Trial_breaks_at D_Bench_inputs_in D_bears D_law_cell_at D_law_reel D_law_take D_law_names D_law_gate D_law_again D_law_outs D_law_net D_law_gate_bit D_law_wires D_law_read D_law_reads D_law_inputs D_law_breaks D_law_sets D_law_free D_law_due D_law_alike D_law_copied Fl⟩
  obtain⟨_,_,_,_,_,_,_,_,_,e,_,_⟩:=Fl.ex
  subst e
  exact fun s u=> .of_eq rfl
